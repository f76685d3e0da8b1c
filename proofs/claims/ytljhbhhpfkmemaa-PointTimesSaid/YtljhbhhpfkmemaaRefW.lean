/-
  The reference: digit, Of.
-/
import Derived.Test.YtljhbhhpfkmemaaNum
import Derived.Test.YtljhbhhpfkmemaaUlib
import Derived.Test.YtljhbhhpfkmemaaRefM
namespace Go.Proofs.Ytljhbhhpfkmemaa
open Go Go.RowKit
set_option linter.unusedVariables false
set_option maxRecDepth 100000 in
set_option maxHeartbeats 2000000 in
theorem digit_fn (x : List Nat) (ba nx ca : Nat) (curA : Array Value) (hnx : nx = List.length x) (hA : Rw 1 curA ca nx (cellsD x)) (lx : List.length x ≤ 100000) (i : Nat) (hi : i ≤ 100000) : FnP Try.prog 63 #[.slice (some ⟨ba, 0, none⟩) nx ca, .int .i64 ((i : Nat) : Int)] (fun w => w.heap[ba]? = some (.cells curA 3 (0, 0))) (.int .i64 ((List.getD x i 0 : Nat) : Int)) := by
  subst hnx
  refine FnP.intro (c := codeOf Try.f63) [.tmp 4] 13 Try.func63 kr kr kr fun w hpre => ?_
  have H0 := St.start w
  refine g_sreg [0] kr kr ?_
  refine s_val (some 4) (.int .i64 0) (fun w => kr) kr ?_
  refine s_nil ?_
  refine g_seq kr ?_
  refine g_sreg [0, 1, 2, 3] kr kr ?_
  refine s_val (some 5) (.int .i64 ((i : Nat) : Int)) (fun w => kr) kr ?_
  refine s_val (some 6) (.slice (some ⟨ba, 0, none⟩) (List.length x) ca) (fun w => kr) kr ?_
  refine s_val (some 7) (.int .i64 ((List.length x : Nat) : Int)) (fun w => kr) kr ?_
  by_cases hc1 : (i : Nat) < List.length x
  · skip
    refine s_valE (some 8) (.bool (decide (((i : Nat) : Int) < ((List.length x : Nat) : Int)))) (.bool true) (fun w => kr) (bool_eq (decide_eq_true (by omega))) kr ?_
    refine s_nil ?_
    refine g_cond_t kr kr ?_
    refine g_sreg [0, 1, 2, 3, 4] kr kr ?_
    refine s_val (some 9) (.slice (some ⟨ba, 0, none⟩) (List.length x) ca) (fun w => kr) kr ?_
    refine s_val (some 10) (.int .i64 ((i : Nat) : Int)) (fun w => kr) kr ?_
    refine s_op (some 11) _ (.pointer (some ⟨ba, 0 + i * 1, none⟩)) kr kr (fun o w ho => idxS_run (kd := .i64) (t := 68) (e := 3) (size := 1) (bytes := 8) kr (x := (.tmp 9)) (y := (.tmp 10)) ba 0 (List.length x) ca i ho kr kr (by omega) w) ?_
    refine s_load1F H0 (some 12) 3 (.tmp 11) ba (0 + i * 1) curA 3 (0, 0) (.int .i64 ((List.getD x i 0 : Nat) : Int)) kr kr kr hpre (lt_of_heap hpre) kr (hA.atD (by omega) rfl) ?_
    refine s_val (some 4) (.int .i64 ((List.getD x i 0 : Nat) : Int)) (fun w => kr) kr ?_
    refine s_nil ?_
    refine g_ret kr ?_
    show ∃ vs, Res _ _ _ _ vs ∧ _
    refine ⟨[.int .i64 ((List.getD x i 0 : Nat) : Int)], (.tmp (.int .i64 ((List.getD x i 0 : Nat) : Int)) kr .nil), ?_, H0.below⟩
    first | rfl | (rw [show List.getD x i 0 = 0 by simp [List.getD, List.getElem?_eq_none (show x.length ≤ i by omega)]]; rfl)
  · skip
    refine s_valE (some 8) (.bool (decide (((i : Nat) : Int) < ((List.length x : Nat) : Int)))) (.bool false) (fun w => kr) (bool_eq (decide_eq_false (by omega))) kr ?_
    refine s_nil ?_
    refine g_cond_f kr kr ?_
    refine g_skip kr ?_
    show WP _ _ _ _ _ _
    refine g_sreg [0] kr kr ?_
    refine s_val (some 4) (.int .i64 0) (fun w => kr) kr ?_
    refine s_nil ?_
    refine g_ret kr ?_
    show ∃ vs, Res _ _ _ _ vs ∧ _
    refine ⟨[.int .i64 0], (.tmp (.int .i64 0) kr .nil), ?_, H0.below⟩
    first | rfl | (rw [show List.getD x i 0 = 0 by simp [List.getD, List.getElem?_eq_none (show x.length ≤ i by omega)]]; rfl)

theorem vl_dgs16 {A : Nat} (h : A < big) : vl (dgs A 16) = A := by rw [vl_dgs, ← big_pow, Nat.mod_eq_of_lt h]
theorem of_cast (X n : Nat) : IntKind.i64.wrap ((X / 2 ^ n % 65536 : Nat) : Int) = ((X : Nat) : Int) / 2 ^ n % 65536 := by
  have h := Nat.mod_lt (X / 2 ^ n) (show 0 < 65536 by omega)
  rw [wrapN_i64 (by omega), Int.natCast_emod, Int.natCast_ediv, Int.natCast_pow]; rfl
theorem of_word0 (A k : Nat) (h : k / 4 = 0) : IntKind.i64.wrap (((A % 18446744073709551616 / 2 ^ (16 * (k % 4)) % 65536 : Nat)) : Int) = ((dg A k : Nat) : Int) := (of_cast _ _).trans (dg_word0 A k h)
theorem of_word1 (A k : Nat) (h : k / 4 = 1) : IntKind.i64.wrap (((A / 18446744073709551616 % 18446744073709551616 / 2 ^ (16 * (k % 4)) % 65536 : Nat)) : Int) = ((dg A k : Nat) : Int) := (of_cast _ _).trans (dg_word1 A k h)
theorem of_word2 (A k : Nat) (h : k / 4 = 2) : IntKind.i64.wrap (((A / 340282366920938463463374607431768211456 % 18446744073709551616 / 2 ^ (16 * (k % 4)) % 65536 : Nat)) : Int) = ((dg A k : Nat) : Int) := (of_cast _ _).trans (dg_word2 A k h)
theorem of_word3 (A k : Nat) (h : k / 4 = 3) : IntKind.i64.wrap (((A / 6277101735386680763835789423207666416102355444464034512896 % 18446744073709551616 / 2 ^ (16 * (k % 4)) % 65536 : Nat)) : Int) = ((dg A k : Nat) : Int) := (of_cast _ _).trans (dg_word3 A k h)
set_option maxRecDepth 100000 in
set_option maxHeartbeats 2000000 in
theorem of_fn (A : Nat) (hA : A < big) : FnR Try.prog 47 #[uv A] (fun _ => True) (RetS 3 1 (fun cur cap n l => (n = List.length l ∧ Rw 1 cur cap n (cellsD l) ∧ Ok l ∧ (l = dgs A 16 ∧ vl l = A ∧ List.length l = 16)))) := by
  refine FnR.intro (c := codeOf Try.f47) [.tmp 2] 25 Try.func47 kr kr kr fun w hpre => ?_
  have H0 := St.start w
  refine g_sreg [0, 1] kr kr ?_
  refine s_box H0 (some 1) 24 (.tmp 0) (uv A) kr kr kr ?_
  intro b1 w1 H1; clear H0
  refine s_val (some 2) (.slice none 0 0) (fun w => kr) kr ?_
  refine s_nil ?_
  refine g_sreg [0, 1] kr kr ?_
  refine s_new H1 (some 5) (fun b => .slice (some ⟨b, 0, none⟩) 0 0) #[] 3 (fun w => kr) kr ?_
  intro b2 w2 H2; clear H1
  refine s_val (some 3) (.slice (some ⟨b2, 0, none⟩) 0 0) (fun w => kr) kr ?_
  refine s_nil ?_
  refine g_seq kr ?_
  refine g_sreg [0] kr kr ?_
  refine s_val (some 4) (.int .i64 0) (fun w => kr) kr ?_
  refine s_nil ?_
  refine g_block 0 kr ?_
  refine g_first kr ?_
  refine g_seq kr ?_
  refine g_sreg [0, 1] kr kr ?_
  refine s_val (some 6) (.int .i64 0) (fun w => kr) kr ?_
  refine s_val (some 7) (.bool true) (fun w => kr) kr ?_
  refine s_nil ?_
  refine g_cond_t kr kr ?_
  refine g_skip kr ?_
  show WP _ _ _ _ _ _
  refine g_seq kr ?_
  refine g_block 1 kr ?_
  refine g_reg0 [0, 1, 2, 3, 4, 5, 6, 7, 8, 9, 10, 11, 12, 13, 14] kr ?_
  refine s_val (some 10) (.slice (some ⟨b2, 0, none⟩) 0 0) (fun w => kr) kr ?_
  refine s_val (some 11) (.int .i64 0) (fun w => kr) kr ?_
  refine s_val (some 12) (.int .i64 0) (fun w => kr) kr ?_
  refine s_val (some 13) (.pointer (some ⟨b1, 0, none⟩)) (fun w => kr) kr ?_
  refine s_load1 H2 (some 14) 22 (.tmp 13) 1 b1 0 (Value.cells (uv A)) 24 (0, 0) (.int .u64 ((A % 18446744073709551616 : Nat) : Int)) kr kr kr kr kr kr ?_
  refine s_val (some 15) (.int .i64 0) (fun w => kr) kr ?_
  refine s_val (some 16) (.int .i64 0) (fun w => kr) kr ?_
  refine s_val (some 17) (.int .i64 0) (fun w => kr) kr ?_
  refine s_val (some 18) (.int .u64 0) (fun w => kr) kr ?_
  refine s_valE (some 19) (.int .u64 (Int.fdiv ((A % 18446744073709551616 : Nat) : Int) (2 ^ 0))) (.int .u64 (((A % 18446744073709551616) / 1 : Nat) : Int)) (fun w => kr) (int_eq (shrN (k := 0) (A % 18446744073709551616) 1 rfl)) kr ?_
  refine s_valE (some 20) (.int .u64 (Int.tmod (((A % 18446744073709551616) / 1 : Nat) : Int) 65536)) (.int .u64 ((((A % 18446744073709551616) / 1) % 65536 : Nat) : Int)) (fun w => kr) (int_eq (remN ((A % 18446744073709551616) / 1) 65536)) kr ?_
  refine s_valE (some 21) (.int .i64 (IntKind.i64.wrap (((((A % 18446744073709551616) / 1) % 65536 : Nat) : Int)))) (.int .i64 ((dg A 0 : Nat) : Int)) (fun w => kr) (int_eq (of_word0 A 0 rfl)) kr ?_
  refine s_new H2 (some 22) (fun b => .slice (some ⟨b, 0, none⟩) 1 1) #[.int .i64 ((dg A 0 : Nat) : Int)] 3 (fun w => kr) kr ?_
  intro b3 w3 H3; clear H2
  refine s_append H3 (some 23) 68 3 1 8 (.tmp 10) (.tmp 22) 1 0 b2 b3 0 1 0 1 #[] #[.int .i64 ((dg A 0 : Nat) : Int)] 3 (0, 0) ([]) ([.int .i64 ((dg A 0 : Nat) : Int)]) (fun b_1 cur_3 => [(b3, Obj.cells #[.int .i64 ((dg A 0 : Nat) : Int)] 3 (0, 0)), (b_1, Od cur_3 3), (b1, Oc (uv A) 24)]) kr kr kr kr kr (Rw.lit #[] 0 (by rfl) (by unfold maxLen; omega)) kr kr (by rfl) (by rfl) (by intro u hu; simp at hu; first | exact hu.elim | (rcases hu with rfl | rfl | rfl | rfl <;> rfl) | (rcases hu with rfl | rfl <;> rfl) | (subst hu; rfl)) (by omega) (by unfold maxLen; omega) (fun _ _ => kr) ?_
  intro b_1 cap_2 cur_3 w4 H4 hr_4; clear H3
  have hr_4' : Rw 1 cur_3 cap_2 1 (cellsD (dgs A 1)) := by rw [dgs_succ, cellsD_append]; exact hr_4
  refine s_val (some 3) (.slice (some ⟨b_1, 0, none⟩) 1 cap_2) (fun w => kr) kr ?_
  refine s_nil ?_
  show WP _ _ _ _ _ _
  refine g_reg0 [0, 1, 2] kr ?_
  refine s_val (some 8) (.int .i64 0) (fun w => kr) kr ?_
  refine s_val (some 9) (.int .i64 1) (fun w => kr) kr ?_
  refine s_val (some 4) (.int .i64 1) (fun w => kr) kr ?_
  refine s_nil ?_
  show WPL _ _ _ _ _ _
  refine g_next ?_
  refine g_seq kr ?_
  refine g_sreg [0, 1] kr kr ?_
  refine s_val (some 6) (.int .i64 1) (fun w => kr) kr ?_
  refine s_val (some 7) (.bool true) (fun w => kr) kr ?_
  refine s_nil ?_
  refine g_cond_t kr kr ?_
  refine g_skip kr ?_
  show WP _ _ _ _ _ _
  refine g_seq kr ?_
  refine g_block 1 kr ?_
  refine g_reg0 [0, 1, 2, 3, 4, 5, 6, 7, 8, 9, 10, 11, 12, 13, 14] kr ?_
  refine s_val (some 10) (.slice (some ⟨b_1, 0, none⟩) 1 cap_2) (fun w => kr) kr ?_
  refine s_val (some 11) (.int .i64 1) (fun w => kr) kr ?_
  refine s_val (some 12) (.int .i64 0) (fun w => kr) kr ?_
  refine s_val (some 13) (.pointer (some ⟨b1, 0, none⟩)) (fun w => kr) kr ?_
  refine s_load1 H4 (some 14) 22 (.tmp 13) 2 b1 0 (Value.cells (uv A)) 24 (0, 0) (.int .u64 ((A % 18446744073709551616 : Nat) : Int)) kr kr kr kr kr kr ?_
  refine s_val (some 15) (.int .i64 1) (fun w => kr) kr ?_
  refine s_val (some 16) (.int .i64 1) (fun w => kr) kr ?_
  refine s_val (some 17) (.int .i64 16) (fun w => kr) kr ?_
  refine s_val (some 18) (.int .u64 16) (fun w => kr) kr ?_
  refine s_valE (some 19) (.int .u64 (Int.fdiv ((A % 18446744073709551616 : Nat) : Int) (2 ^ 16))) (.int .u64 (((A % 18446744073709551616) / 65536 : Nat) : Int)) (fun w => kr) (int_eq (shrN (k := 16) (A % 18446744073709551616) 65536 rfl)) kr ?_
  refine s_valE (some 20) (.int .u64 (Int.tmod (((A % 18446744073709551616) / 65536 : Nat) : Int) 65536)) (.int .u64 ((((A % 18446744073709551616) / 65536) % 65536 : Nat) : Int)) (fun w => kr) (int_eq (remN ((A % 18446744073709551616) / 65536) 65536)) kr ?_
  refine s_valE (some 21) (.int .i64 (IntKind.i64.wrap (((((A % 18446744073709551616) / 65536) % 65536 : Nat) : Int)))) (.int .i64 ((dg A 1 : Nat) : Int)) (fun w => kr) (int_eq (of_word0 A 1 rfl)) kr ?_
  refine s_new H4 (some 22) (fun b => .slice (some ⟨b, 0, none⟩) 1 1) #[.int .i64 ((dg A 1 : Nat) : Int)] 3 (fun w => kr) kr ?_
  intro b4 w5 H5; clear H4
  refine s_append H5 (some 23) 68 3 1 8 (.tmp 10) (.tmp 22) 2 0 b_1 b4 1 1 cap_2 1 cur_3 #[.int .i64 ((dg A 1 : Nat) : Int)] 3 (0, 0) (cellsD (dgs A 1)) ([.int .i64 ((dg A 1 : Nat) : Int)]) (fun b_5 cur_7 => [(b4, Obj.cells #[.int .i64 ((dg A 1 : Nat) : Int)] 3 (0, 0)), (b3, Obj.cells #[.int .i64 ((dg A 0 : Nat) : Int)] 3 (0, 0)), (b_5, Od cur_7 3), (b1, Oc (uv A) 24)]) kr kr kr kr kr hr_4' kr kr (by rfl) (by rfl) (by intro u hu; simp at hu; first | exact hu.elim | (rcases hu with rfl | rfl | rfl | rfl <;> rfl) | (rcases hu with rfl | rfl <;> rfl) | (subst hu; rfl)) (by omega) (by unfold maxLen; omega) (fun _ _ => kr) ?_
  intro b_5 cap_6 cur_7 w6 H6 hr_8; clear H5
  have hr_8' : Rw 1 cur_7 cap_6 2 (cellsD (dgs A 2)) := by rw [dgs_succ, cellsD_append]; exact hr_8
  refine s_val (some 3) (.slice (some ⟨b_5, 0, none⟩) 2 cap_6) (fun w => kr) kr ?_
  refine s_nil ?_
  show WP _ _ _ _ _ _
  refine g_reg0 [0, 1, 2] kr ?_
  refine s_val (some 8) (.int .i64 1) (fun w => kr) kr ?_
  refine s_val (some 9) (.int .i64 2) (fun w => kr) kr ?_
  refine s_val (some 4) (.int .i64 2) (fun w => kr) kr ?_
  refine s_nil ?_
  show WPL _ _ _ _ _ _
  refine g_next ?_
  refine g_seq kr ?_
  refine g_sreg [0, 1] kr kr ?_
  refine s_val (some 6) (.int .i64 2) (fun w => kr) kr ?_
  refine s_val (some 7) (.bool true) (fun w => kr) kr ?_
  refine s_nil ?_
  refine g_cond_t kr kr ?_
  refine g_skip kr ?_
  show WP _ _ _ _ _ _
  refine g_seq kr ?_
  refine g_block 1 kr ?_
  refine g_reg0 [0, 1, 2, 3, 4, 5, 6, 7, 8, 9, 10, 11, 12, 13, 14] kr ?_
  refine s_val (some 10) (.slice (some ⟨b_5, 0, none⟩) 2 cap_6) (fun w => kr) kr ?_
  refine s_val (some 11) (.int .i64 2) (fun w => kr) kr ?_
  refine s_val (some 12) (.int .i64 0) (fun w => kr) kr ?_
  refine s_val (some 13) (.pointer (some ⟨b1, 0, none⟩)) (fun w => kr) kr ?_
  refine s_load1 H6 (some 14) 22 (.tmp 13) 3 b1 0 (Value.cells (uv A)) 24 (0, 0) (.int .u64 ((A % 18446744073709551616 : Nat) : Int)) kr kr kr kr kr kr ?_
  refine s_val (some 15) (.int .i64 2) (fun w => kr) kr ?_
  refine s_val (some 16) (.int .i64 2) (fun w => kr) kr ?_
  refine s_val (some 17) (.int .i64 32) (fun w => kr) kr ?_
  refine s_val (some 18) (.int .u64 32) (fun w => kr) kr ?_
  refine s_valE (some 19) (.int .u64 (Int.fdiv ((A % 18446744073709551616 : Nat) : Int) (2 ^ 32))) (.int .u64 (((A % 18446744073709551616) / 4294967296 : Nat) : Int)) (fun w => kr) (int_eq (shrN (k := 32) (A % 18446744073709551616) 4294967296 rfl)) kr ?_
  refine s_valE (some 20) (.int .u64 (Int.tmod (((A % 18446744073709551616) / 4294967296 : Nat) : Int) 65536)) (.int .u64 ((((A % 18446744073709551616) / 4294967296) % 65536 : Nat) : Int)) (fun w => kr) (int_eq (remN ((A % 18446744073709551616) / 4294967296) 65536)) kr ?_
  refine s_valE (some 21) (.int .i64 (IntKind.i64.wrap (((((A % 18446744073709551616) / 4294967296) % 65536 : Nat) : Int)))) (.int .i64 ((dg A 2 : Nat) : Int)) (fun w => kr) (int_eq (of_word0 A 2 rfl)) kr ?_
  refine s_new H6 (some 22) (fun b => .slice (some ⟨b, 0, none⟩) 1 1) #[.int .i64 ((dg A 2 : Nat) : Int)] 3 (fun w => kr) kr ?_
  intro b5 w7 H7; clear H6
  refine s_append H7 (some 23) 68 3 1 8 (.tmp 10) (.tmp 22) 3 0 b_5 b5 2 1 cap_6 1 cur_7 #[.int .i64 ((dg A 2 : Nat) : Int)] 3 (0, 0) (cellsD (dgs A 2)) ([.int .i64 ((dg A 2 : Nat) : Int)]) (fun b_9 cur_11 => [(b5, Obj.cells #[.int .i64 ((dg A 2 : Nat) : Int)] 3 (0, 0)), (b4, Obj.cells #[.int .i64 ((dg A 1 : Nat) : Int)] 3 (0, 0)), (b3, Obj.cells #[.int .i64 ((dg A 0 : Nat) : Int)] 3 (0, 0)), (b_9, Od cur_11 3), (b1, Oc (uv A) 24)]) kr kr kr kr kr hr_8' kr kr (by rfl) (by rfl) (by intro u hu; simp at hu; first | exact hu.elim | (rcases hu with rfl | rfl | rfl | rfl <;> rfl) | (rcases hu with rfl | rfl <;> rfl) | (subst hu; rfl)) (by omega) (by unfold maxLen; omega) (fun _ _ => kr) ?_
  intro b_9 cap_10 cur_11 w8 H8 hr_12; clear H7
  have hr_12' : Rw 1 cur_11 cap_10 3 (cellsD (dgs A 3)) := by rw [dgs_succ, cellsD_append]; exact hr_12
  refine s_val (some 3) (.slice (some ⟨b_9, 0, none⟩) 3 cap_10) (fun w => kr) kr ?_
  refine s_nil ?_
  show WP _ _ _ _ _ _
  refine g_reg0 [0, 1, 2] kr ?_
  refine s_val (some 8) (.int .i64 2) (fun w => kr) kr ?_
  refine s_val (some 9) (.int .i64 3) (fun w => kr) kr ?_
  refine s_val (some 4) (.int .i64 3) (fun w => kr) kr ?_
  refine s_nil ?_
  show WPL _ _ _ _ _ _
  refine g_next ?_
  refine g_seq kr ?_
  refine g_sreg [0, 1] kr kr ?_
  refine s_val (some 6) (.int .i64 3) (fun w => kr) kr ?_
  refine s_val (some 7) (.bool true) (fun w => kr) kr ?_
  refine s_nil ?_
  refine g_cond_t kr kr ?_
  refine g_skip kr ?_
  show WP _ _ _ _ _ _
  refine g_seq kr ?_
  refine g_block 1 kr ?_
  refine g_reg0 [0, 1, 2, 3, 4, 5, 6, 7, 8, 9, 10, 11, 12, 13, 14] kr ?_
  refine s_val (some 10) (.slice (some ⟨b_9, 0, none⟩) 3 cap_10) (fun w => kr) kr ?_
  refine s_val (some 11) (.int .i64 3) (fun w => kr) kr ?_
  refine s_val (some 12) (.int .i64 0) (fun w => kr) kr ?_
  refine s_val (some 13) (.pointer (some ⟨b1, 0, none⟩)) (fun w => kr) kr ?_
  refine s_load1 H8 (some 14) 22 (.tmp 13) 4 b1 0 (Value.cells (uv A)) 24 (0, 0) (.int .u64 ((A % 18446744073709551616 : Nat) : Int)) kr kr kr kr kr kr ?_
  refine s_val (some 15) (.int .i64 3) (fun w => kr) kr ?_
  refine s_val (some 16) (.int .i64 3) (fun w => kr) kr ?_
  refine s_val (some 17) (.int .i64 48) (fun w => kr) kr ?_
  refine s_val (some 18) (.int .u64 48) (fun w => kr) kr ?_
  refine s_valE (some 19) (.int .u64 (Int.fdiv ((A % 18446744073709551616 : Nat) : Int) (2 ^ 48))) (.int .u64 (((A % 18446744073709551616) / 281474976710656 : Nat) : Int)) (fun w => kr) (int_eq (shrN (k := 48) (A % 18446744073709551616) 281474976710656 rfl)) kr ?_
  refine s_valE (some 20) (.int .u64 (Int.tmod (((A % 18446744073709551616) / 281474976710656 : Nat) : Int) 65536)) (.int .u64 ((((A % 18446744073709551616) / 281474976710656) % 65536 : Nat) : Int)) (fun w => kr) (int_eq (remN ((A % 18446744073709551616) / 281474976710656) 65536)) kr ?_
  refine s_valE (some 21) (.int .i64 (IntKind.i64.wrap (((((A % 18446744073709551616) / 281474976710656) % 65536 : Nat) : Int)))) (.int .i64 ((dg A 3 : Nat) : Int)) (fun w => kr) (int_eq (of_word0 A 3 rfl)) kr ?_
  refine s_new H8 (some 22) (fun b => .slice (some ⟨b, 0, none⟩) 1 1) #[.int .i64 ((dg A 3 : Nat) : Int)] 3 (fun w => kr) kr ?_
  intro b6 w9 H9; clear H8
  refine s_append H9 (some 23) 68 3 1 8 (.tmp 10) (.tmp 22) 4 0 b_9 b6 3 1 cap_10 1 cur_11 #[.int .i64 ((dg A 3 : Nat) : Int)] 3 (0, 0) (cellsD (dgs A 3)) ([.int .i64 ((dg A 3 : Nat) : Int)]) (fun b_13 cur_15 => [(b6, Obj.cells #[.int .i64 ((dg A 3 : Nat) : Int)] 3 (0, 0)), (b5, Obj.cells #[.int .i64 ((dg A 2 : Nat) : Int)] 3 (0, 0)), (b4, Obj.cells #[.int .i64 ((dg A 1 : Nat) : Int)] 3 (0, 0)), (b3, Obj.cells #[.int .i64 ((dg A 0 : Nat) : Int)] 3 (0, 0)), (b_13, Od cur_15 3), (b1, Oc (uv A) 24)]) kr kr kr kr kr hr_12' kr kr (by rfl) (by rfl) (by intro u hu; simp at hu; first | exact hu.elim | (rcases hu with rfl | rfl | rfl | rfl <;> rfl) | (rcases hu with rfl | rfl <;> rfl) | (subst hu; rfl)) (by omega) (by unfold maxLen; omega) (fun _ _ => kr) ?_
  intro b_13 cap_14 cur_15 w10 H10 hr_16; clear H9
  have hr_16' : Rw 1 cur_15 cap_14 4 (cellsD (dgs A 4)) := by rw [dgs_succ, cellsD_append]; exact hr_16
  refine s_val (some 3) (.slice (some ⟨b_13, 0, none⟩) 4 cap_14) (fun w => kr) kr ?_
  refine s_nil ?_
  show WP _ _ _ _ _ _
  refine g_reg0 [0, 1, 2] kr ?_
  refine s_val (some 8) (.int .i64 3) (fun w => kr) kr ?_
  refine s_val (some 9) (.int .i64 4) (fun w => kr) kr ?_
  refine s_val (some 4) (.int .i64 4) (fun w => kr) kr ?_
  refine s_nil ?_
  show WPL _ _ _ _ _ _
  refine g_next ?_
  refine g_seq kr ?_
  refine g_sreg [0, 1] kr kr ?_
  refine s_val (some 6) (.int .i64 4) (fun w => kr) kr ?_
  refine s_val (some 7) (.bool true) (fun w => kr) kr ?_
  refine s_nil ?_
  refine g_cond_t kr kr ?_
  refine g_skip kr ?_
  show WP _ _ _ _ _ _
  refine g_seq kr ?_
  refine g_block 1 kr ?_
  refine g_reg0 [0, 1, 2, 3, 4, 5, 6, 7, 8, 9, 10, 11, 12, 13, 14] kr ?_
  refine s_val (some 10) (.slice (some ⟨b_13, 0, none⟩) 4 cap_14) (fun w => kr) kr ?_
  refine s_val (some 11) (.int .i64 4) (fun w => kr) kr ?_
  refine s_val (some 12) (.int .i64 1) (fun w => kr) kr ?_
  refine s_val (some 13) (.pointer (some ⟨b1, 1, none⟩)) (fun w => kr) kr ?_
  refine s_load1 H10 (some 14) 22 (.tmp 13) 5 b1 1 (Value.cells (uv A)) 24 (0, 0) (.int .u64 ((A / 18446744073709551616 % 18446744073709551616 : Nat) : Int)) kr kr kr kr kr kr ?_
  refine s_val (some 15) (.int .i64 4) (fun w => kr) kr ?_
  refine s_val (some 16) (.int .i64 0) (fun w => kr) kr ?_
  refine s_val (some 17) (.int .i64 0) (fun w => kr) kr ?_
  refine s_val (some 18) (.int .u64 0) (fun w => kr) kr ?_
  refine s_valE (some 19) (.int .u64 (Int.fdiv ((A / 18446744073709551616 % 18446744073709551616 : Nat) : Int) (2 ^ 0))) (.int .u64 (((A / 18446744073709551616 % 18446744073709551616) / 1 : Nat) : Int)) (fun w => kr) (int_eq (shrN (k := 0) (A / 18446744073709551616 % 18446744073709551616) 1 rfl)) kr ?_
  refine s_valE (some 20) (.int .u64 (Int.tmod (((A / 18446744073709551616 % 18446744073709551616) / 1 : Nat) : Int) 65536)) (.int .u64 ((((A / 18446744073709551616 % 18446744073709551616) / 1) % 65536 : Nat) : Int)) (fun w => kr) (int_eq (remN ((A / 18446744073709551616 % 18446744073709551616) / 1) 65536)) kr ?_
  refine s_valE (some 21) (.int .i64 (IntKind.i64.wrap (((((A / 18446744073709551616 % 18446744073709551616) / 1) % 65536 : Nat) : Int)))) (.int .i64 ((dg A 4 : Nat) : Int)) (fun w => kr) (int_eq (of_word1 A 4 rfl)) kr ?_
  refine s_new H10 (some 22) (fun b => .slice (some ⟨b, 0, none⟩) 1 1) #[.int .i64 ((dg A 4 : Nat) : Int)] 3 (fun w => kr) kr ?_
  intro b7 w11 H11; clear H10
  refine s_append H11 (some 23) 68 3 1 8 (.tmp 10) (.tmp 22) 5 0 b_13 b7 4 1 cap_14 1 cur_15 #[.int .i64 ((dg A 4 : Nat) : Int)] 3 (0, 0) (cellsD (dgs A 4)) ([.int .i64 ((dg A 4 : Nat) : Int)]) (fun b_17 cur_19 => [(b7, Obj.cells #[.int .i64 ((dg A 4 : Nat) : Int)] 3 (0, 0)), (b6, Obj.cells #[.int .i64 ((dg A 3 : Nat) : Int)] 3 (0, 0)), (b5, Obj.cells #[.int .i64 ((dg A 2 : Nat) : Int)] 3 (0, 0)), (b4, Obj.cells #[.int .i64 ((dg A 1 : Nat) : Int)] 3 (0, 0)), (b3, Obj.cells #[.int .i64 ((dg A 0 : Nat) : Int)] 3 (0, 0)), (b_17, Od cur_19 3), (b1, Oc (uv A) 24)]) kr kr kr kr kr hr_16' kr kr (by rfl) (by rfl) (by intro u hu; simp at hu; first | exact hu.elim | (rcases hu with rfl | rfl | rfl | rfl <;> rfl) | (rcases hu with rfl | rfl <;> rfl) | (subst hu; rfl)) (by omega) (by unfold maxLen; omega) (fun _ _ => kr) ?_
  intro b_17 cap_18 cur_19 w12 H12 hr_20; clear H11
  have hr_20' : Rw 1 cur_19 cap_18 5 (cellsD (dgs A 5)) := by rw [dgs_succ, cellsD_append]; exact hr_20
  refine s_val (some 3) (.slice (some ⟨b_17, 0, none⟩) 5 cap_18) (fun w => kr) kr ?_
  refine s_nil ?_
  show WP _ _ _ _ _ _
  refine g_reg0 [0, 1, 2] kr ?_
  refine s_val (some 8) (.int .i64 4) (fun w => kr) kr ?_
  refine s_val (some 9) (.int .i64 5) (fun w => kr) kr ?_
  refine s_val (some 4) (.int .i64 5) (fun w => kr) kr ?_
  refine s_nil ?_
  show WPL _ _ _ _ _ _
  refine g_next ?_
  refine g_seq kr ?_
  refine g_sreg [0, 1] kr kr ?_
  refine s_val (some 6) (.int .i64 5) (fun w => kr) kr ?_
  refine s_val (some 7) (.bool true) (fun w => kr) kr ?_
  refine s_nil ?_
  refine g_cond_t kr kr ?_
  refine g_skip kr ?_
  show WP _ _ _ _ _ _
  refine g_seq kr ?_
  refine g_block 1 kr ?_
  refine g_reg0 [0, 1, 2, 3, 4, 5, 6, 7, 8, 9, 10, 11, 12, 13, 14] kr ?_
  refine s_val (some 10) (.slice (some ⟨b_17, 0, none⟩) 5 cap_18) (fun w => kr) kr ?_
  refine s_val (some 11) (.int .i64 5) (fun w => kr) kr ?_
  refine s_val (some 12) (.int .i64 1) (fun w => kr) kr ?_
  refine s_val (some 13) (.pointer (some ⟨b1, 1, none⟩)) (fun w => kr) kr ?_
  refine s_load1 H12 (some 14) 22 (.tmp 13) 6 b1 1 (Value.cells (uv A)) 24 (0, 0) (.int .u64 ((A / 18446744073709551616 % 18446744073709551616 : Nat) : Int)) kr kr kr kr kr kr ?_
  refine s_val (some 15) (.int .i64 5) (fun w => kr) kr ?_
  refine s_val (some 16) (.int .i64 1) (fun w => kr) kr ?_
  refine s_val (some 17) (.int .i64 16) (fun w => kr) kr ?_
  refine s_val (some 18) (.int .u64 16) (fun w => kr) kr ?_
  refine s_valE (some 19) (.int .u64 (Int.fdiv ((A / 18446744073709551616 % 18446744073709551616 : Nat) : Int) (2 ^ 16))) (.int .u64 (((A / 18446744073709551616 % 18446744073709551616) / 65536 : Nat) : Int)) (fun w => kr) (int_eq (shrN (k := 16) (A / 18446744073709551616 % 18446744073709551616) 65536 rfl)) kr ?_
  refine s_valE (some 20) (.int .u64 (Int.tmod (((A / 18446744073709551616 % 18446744073709551616) / 65536 : Nat) : Int) 65536)) (.int .u64 ((((A / 18446744073709551616 % 18446744073709551616) / 65536) % 65536 : Nat) : Int)) (fun w => kr) (int_eq (remN ((A / 18446744073709551616 % 18446744073709551616) / 65536) 65536)) kr ?_
  refine s_valE (some 21) (.int .i64 (IntKind.i64.wrap (((((A / 18446744073709551616 % 18446744073709551616) / 65536) % 65536 : Nat) : Int)))) (.int .i64 ((dg A 5 : Nat) : Int)) (fun w => kr) (int_eq (of_word1 A 5 rfl)) kr ?_
  refine s_new H12 (some 22) (fun b => .slice (some ⟨b, 0, none⟩) 1 1) #[.int .i64 ((dg A 5 : Nat) : Int)] 3 (fun w => kr) kr ?_
  intro b8 w13 H13; clear H12
  refine s_append H13 (some 23) 68 3 1 8 (.tmp 10) (.tmp 22) 6 0 b_17 b8 5 1 cap_18 1 cur_19 #[.int .i64 ((dg A 5 : Nat) : Int)] 3 (0, 0) (cellsD (dgs A 5)) ([.int .i64 ((dg A 5 : Nat) : Int)]) (fun b_21 cur_23 => [(b8, Obj.cells #[.int .i64 ((dg A 5 : Nat) : Int)] 3 (0, 0)), (b7, Obj.cells #[.int .i64 ((dg A 4 : Nat) : Int)] 3 (0, 0)), (b6, Obj.cells #[.int .i64 ((dg A 3 : Nat) : Int)] 3 (0, 0)), (b5, Obj.cells #[.int .i64 ((dg A 2 : Nat) : Int)] 3 (0, 0)), (b4, Obj.cells #[.int .i64 ((dg A 1 : Nat) : Int)] 3 (0, 0)), (b3, Obj.cells #[.int .i64 ((dg A 0 : Nat) : Int)] 3 (0, 0)), (b_21, Od cur_23 3), (b1, Oc (uv A) 24)]) kr kr kr kr kr hr_20' kr kr (by rfl) (by rfl) (by intro u hu; simp at hu; first | exact hu.elim | (rcases hu with rfl | rfl | rfl | rfl <;> rfl) | (rcases hu with rfl | rfl <;> rfl) | (subst hu; rfl)) (by omega) (by unfold maxLen; omega) (fun _ _ => kr) ?_
  intro b_21 cap_22 cur_23 w14 H14 hr_24; clear H13
  have hr_24' : Rw 1 cur_23 cap_22 6 (cellsD (dgs A 6)) := by rw [dgs_succ, cellsD_append]; exact hr_24
  refine s_val (some 3) (.slice (some ⟨b_21, 0, none⟩) 6 cap_22) (fun w => kr) kr ?_
  refine s_nil ?_
  show WP _ _ _ _ _ _
  refine g_reg0 [0, 1, 2] kr ?_
  refine s_val (some 8) (.int .i64 5) (fun w => kr) kr ?_
  refine s_val (some 9) (.int .i64 6) (fun w => kr) kr ?_
  refine s_val (some 4) (.int .i64 6) (fun w => kr) kr ?_
  refine s_nil ?_
  show WPL _ _ _ _ _ _
  refine g_next ?_
  refine g_seq kr ?_
  refine g_sreg [0, 1] kr kr ?_
  refine s_val (some 6) (.int .i64 6) (fun w => kr) kr ?_
  refine s_val (some 7) (.bool true) (fun w => kr) kr ?_
  refine s_nil ?_
  refine g_cond_t kr kr ?_
  refine g_skip kr ?_
  show WP _ _ _ _ _ _
  refine g_seq kr ?_
  refine g_block 1 kr ?_
  refine g_reg0 [0, 1, 2, 3, 4, 5, 6, 7, 8, 9, 10, 11, 12, 13, 14] kr ?_
  refine s_val (some 10) (.slice (some ⟨b_21, 0, none⟩) 6 cap_22) (fun w => kr) kr ?_
  refine s_val (some 11) (.int .i64 6) (fun w => kr) kr ?_
  refine s_val (some 12) (.int .i64 1) (fun w => kr) kr ?_
  refine s_val (some 13) (.pointer (some ⟨b1, 1, none⟩)) (fun w => kr) kr ?_
  refine s_load1 H14 (some 14) 22 (.tmp 13) 7 b1 1 (Value.cells (uv A)) 24 (0, 0) (.int .u64 ((A / 18446744073709551616 % 18446744073709551616 : Nat) : Int)) kr kr kr kr kr kr ?_
  refine s_val (some 15) (.int .i64 6) (fun w => kr) kr ?_
  refine s_val (some 16) (.int .i64 2) (fun w => kr) kr ?_
  refine s_val (some 17) (.int .i64 32) (fun w => kr) kr ?_
  refine s_val (some 18) (.int .u64 32) (fun w => kr) kr ?_
  refine s_valE (some 19) (.int .u64 (Int.fdiv ((A / 18446744073709551616 % 18446744073709551616 : Nat) : Int) (2 ^ 32))) (.int .u64 (((A / 18446744073709551616 % 18446744073709551616) / 4294967296 : Nat) : Int)) (fun w => kr) (int_eq (shrN (k := 32) (A / 18446744073709551616 % 18446744073709551616) 4294967296 rfl)) kr ?_
  refine s_valE (some 20) (.int .u64 (Int.tmod (((A / 18446744073709551616 % 18446744073709551616) / 4294967296 : Nat) : Int) 65536)) (.int .u64 ((((A / 18446744073709551616 % 18446744073709551616) / 4294967296) % 65536 : Nat) : Int)) (fun w => kr) (int_eq (remN ((A / 18446744073709551616 % 18446744073709551616) / 4294967296) 65536)) kr ?_
  refine s_valE (some 21) (.int .i64 (IntKind.i64.wrap (((((A / 18446744073709551616 % 18446744073709551616) / 4294967296) % 65536 : Nat) : Int)))) (.int .i64 ((dg A 6 : Nat) : Int)) (fun w => kr) (int_eq (of_word1 A 6 rfl)) kr ?_
  refine s_new H14 (some 22) (fun b => .slice (some ⟨b, 0, none⟩) 1 1) #[.int .i64 ((dg A 6 : Nat) : Int)] 3 (fun w => kr) kr ?_
  intro b9 w15 H15; clear H14
  refine s_append H15 (some 23) 68 3 1 8 (.tmp 10) (.tmp 22) 7 0 b_21 b9 6 1 cap_22 1 cur_23 #[.int .i64 ((dg A 6 : Nat) : Int)] 3 (0, 0) (cellsD (dgs A 6)) ([.int .i64 ((dg A 6 : Nat) : Int)]) (fun b_25 cur_27 => [(b9, Obj.cells #[.int .i64 ((dg A 6 : Nat) : Int)] 3 (0, 0)), (b8, Obj.cells #[.int .i64 ((dg A 5 : Nat) : Int)] 3 (0, 0)), (b7, Obj.cells #[.int .i64 ((dg A 4 : Nat) : Int)] 3 (0, 0)), (b6, Obj.cells #[.int .i64 ((dg A 3 : Nat) : Int)] 3 (0, 0)), (b5, Obj.cells #[.int .i64 ((dg A 2 : Nat) : Int)] 3 (0, 0)), (b4, Obj.cells #[.int .i64 ((dg A 1 : Nat) : Int)] 3 (0, 0)), (b3, Obj.cells #[.int .i64 ((dg A 0 : Nat) : Int)] 3 (0, 0)), (b_25, Od cur_27 3), (b1, Oc (uv A) 24)]) kr kr kr kr kr hr_24' kr kr (by rfl) (by rfl) (by intro u hu; simp at hu; first | exact hu.elim | (rcases hu with rfl | rfl | rfl | rfl <;> rfl) | (rcases hu with rfl | rfl <;> rfl) | (subst hu; rfl)) (by omega) (by unfold maxLen; omega) (fun _ _ => kr) ?_
  intro b_25 cap_26 cur_27 w16 H16 hr_28; clear H15
  have hr_28' : Rw 1 cur_27 cap_26 7 (cellsD (dgs A 7)) := by rw [dgs_succ, cellsD_append]; exact hr_28
  refine s_val (some 3) (.slice (some ⟨b_25, 0, none⟩) 7 cap_26) (fun w => kr) kr ?_
  refine s_nil ?_
  show WP _ _ _ _ _ _
  refine g_reg0 [0, 1, 2] kr ?_
  refine s_val (some 8) (.int .i64 6) (fun w => kr) kr ?_
  refine s_val (some 9) (.int .i64 7) (fun w => kr) kr ?_
  refine s_val (some 4) (.int .i64 7) (fun w => kr) kr ?_
  refine s_nil ?_
  show WPL _ _ _ _ _ _
  refine g_next ?_
  refine g_seq kr ?_
  refine g_sreg [0, 1] kr kr ?_
  refine s_val (some 6) (.int .i64 7) (fun w => kr) kr ?_
  refine s_val (some 7) (.bool true) (fun w => kr) kr ?_
  refine s_nil ?_
  refine g_cond_t kr kr ?_
  refine g_skip kr ?_
  show WP _ _ _ _ _ _
  refine g_seq kr ?_
  refine g_block 1 kr ?_
  refine g_reg0 [0, 1, 2, 3, 4, 5, 6, 7, 8, 9, 10, 11, 12, 13, 14] kr ?_
  refine s_val (some 10) (.slice (some ⟨b_25, 0, none⟩) 7 cap_26) (fun w => kr) kr ?_
  refine s_val (some 11) (.int .i64 7) (fun w => kr) kr ?_
  refine s_val (some 12) (.int .i64 1) (fun w => kr) kr ?_
  refine s_val (some 13) (.pointer (some ⟨b1, 1, none⟩)) (fun w => kr) kr ?_
  refine s_load1 H16 (some 14) 22 (.tmp 13) 8 b1 1 (Value.cells (uv A)) 24 (0, 0) (.int .u64 ((A / 18446744073709551616 % 18446744073709551616 : Nat) : Int)) kr kr kr kr kr kr ?_
  refine s_val (some 15) (.int .i64 7) (fun w => kr) kr ?_
  refine s_val (some 16) (.int .i64 3) (fun w => kr) kr ?_
  refine s_val (some 17) (.int .i64 48) (fun w => kr) kr ?_
  refine s_val (some 18) (.int .u64 48) (fun w => kr) kr ?_
  refine s_valE (some 19) (.int .u64 (Int.fdiv ((A / 18446744073709551616 % 18446744073709551616 : Nat) : Int) (2 ^ 48))) (.int .u64 (((A / 18446744073709551616 % 18446744073709551616) / 281474976710656 : Nat) : Int)) (fun w => kr) (int_eq (shrN (k := 48) (A / 18446744073709551616 % 18446744073709551616) 281474976710656 rfl)) kr ?_
  refine s_valE (some 20) (.int .u64 (Int.tmod (((A / 18446744073709551616 % 18446744073709551616) / 281474976710656 : Nat) : Int) 65536)) (.int .u64 ((((A / 18446744073709551616 % 18446744073709551616) / 281474976710656) % 65536 : Nat) : Int)) (fun w => kr) (int_eq (remN ((A / 18446744073709551616 % 18446744073709551616) / 281474976710656) 65536)) kr ?_
  refine s_valE (some 21) (.int .i64 (IntKind.i64.wrap (((((A / 18446744073709551616 % 18446744073709551616) / 281474976710656) % 65536 : Nat) : Int)))) (.int .i64 ((dg A 7 : Nat) : Int)) (fun w => kr) (int_eq (of_word1 A 7 rfl)) kr ?_
  refine s_new H16 (some 22) (fun b => .slice (some ⟨b, 0, none⟩) 1 1) #[.int .i64 ((dg A 7 : Nat) : Int)] 3 (fun w => kr) kr ?_
  intro b10 w17 H17; clear H16
  refine s_append H17 (some 23) 68 3 1 8 (.tmp 10) (.tmp 22) 8 0 b_25 b10 7 1 cap_26 1 cur_27 #[.int .i64 ((dg A 7 : Nat) : Int)] 3 (0, 0) (cellsD (dgs A 7)) ([.int .i64 ((dg A 7 : Nat) : Int)]) (fun b_29 cur_31 => [(b10, Obj.cells #[.int .i64 ((dg A 7 : Nat) : Int)] 3 (0, 0)), (b9, Obj.cells #[.int .i64 ((dg A 6 : Nat) : Int)] 3 (0, 0)), (b8, Obj.cells #[.int .i64 ((dg A 5 : Nat) : Int)] 3 (0, 0)), (b7, Obj.cells #[.int .i64 ((dg A 4 : Nat) : Int)] 3 (0, 0)), (b6, Obj.cells #[.int .i64 ((dg A 3 : Nat) : Int)] 3 (0, 0)), (b5, Obj.cells #[.int .i64 ((dg A 2 : Nat) : Int)] 3 (0, 0)), (b4, Obj.cells #[.int .i64 ((dg A 1 : Nat) : Int)] 3 (0, 0)), (b3, Obj.cells #[.int .i64 ((dg A 0 : Nat) : Int)] 3 (0, 0)), (b_29, Od cur_31 3), (b1, Oc (uv A) 24)]) kr kr kr kr kr hr_28' kr kr (by rfl) (by rfl) (by intro u hu; simp at hu; first | exact hu.elim | (rcases hu with rfl | rfl | rfl | rfl <;> rfl) | (rcases hu with rfl | rfl <;> rfl) | (subst hu; rfl)) (by omega) (by unfold maxLen; omega) (fun _ _ => kr) ?_
  intro b_29 cap_30 cur_31 w18 H18 hr_32; clear H17
  have hr_32' : Rw 1 cur_31 cap_30 8 (cellsD (dgs A 8)) := by rw [dgs_succ, cellsD_append]; exact hr_32
  refine s_val (some 3) (.slice (some ⟨b_29, 0, none⟩) 8 cap_30) (fun w => kr) kr ?_
  refine s_nil ?_
  show WP _ _ _ _ _ _
  refine g_reg0 [0, 1, 2] kr ?_
  refine s_val (some 8) (.int .i64 7) (fun w => kr) kr ?_
  refine s_val (some 9) (.int .i64 8) (fun w => kr) kr ?_
  refine s_val (some 4) (.int .i64 8) (fun w => kr) kr ?_
  refine s_nil ?_
  show WPL _ _ _ _ _ _
  refine g_next ?_
  refine g_seq kr ?_
  refine g_sreg [0, 1] kr kr ?_
  refine s_val (some 6) (.int .i64 8) (fun w => kr) kr ?_
  refine s_val (some 7) (.bool true) (fun w => kr) kr ?_
  refine s_nil ?_
  refine g_cond_t kr kr ?_
  refine g_skip kr ?_
  show WP _ _ _ _ _ _
  refine g_seq kr ?_
  refine g_block 1 kr ?_
  refine g_reg0 [0, 1, 2, 3, 4, 5, 6, 7, 8, 9, 10, 11, 12, 13, 14] kr ?_
  refine s_val (some 10) (.slice (some ⟨b_29, 0, none⟩) 8 cap_30) (fun w => kr) kr ?_
  refine s_val (some 11) (.int .i64 8) (fun w => kr) kr ?_
  refine s_val (some 12) (.int .i64 2) (fun w => kr) kr ?_
  refine s_val (some 13) (.pointer (some ⟨b1, 2, none⟩)) (fun w => kr) kr ?_
  refine s_load1 H18 (some 14) 22 (.tmp 13) 9 b1 2 (Value.cells (uv A)) 24 (0, 0) (.int .u64 ((A / 340282366920938463463374607431768211456 % 18446744073709551616 : Nat) : Int)) kr kr kr kr kr kr ?_
  refine s_val (some 15) (.int .i64 8) (fun w => kr) kr ?_
  refine s_val (some 16) (.int .i64 0) (fun w => kr) kr ?_
  refine s_val (some 17) (.int .i64 0) (fun w => kr) kr ?_
  refine s_val (some 18) (.int .u64 0) (fun w => kr) kr ?_
  refine s_valE (some 19) (.int .u64 (Int.fdiv ((A / 340282366920938463463374607431768211456 % 18446744073709551616 : Nat) : Int) (2 ^ 0))) (.int .u64 (((A / 340282366920938463463374607431768211456 % 18446744073709551616) / 1 : Nat) : Int)) (fun w => kr) (int_eq (shrN (k := 0) (A / 340282366920938463463374607431768211456 % 18446744073709551616) 1 rfl)) kr ?_
  refine s_valE (some 20) (.int .u64 (Int.tmod (((A / 340282366920938463463374607431768211456 % 18446744073709551616) / 1 : Nat) : Int) 65536)) (.int .u64 ((((A / 340282366920938463463374607431768211456 % 18446744073709551616) / 1) % 65536 : Nat) : Int)) (fun w => kr) (int_eq (remN ((A / 340282366920938463463374607431768211456 % 18446744073709551616) / 1) 65536)) kr ?_
  refine s_valE (some 21) (.int .i64 (IntKind.i64.wrap (((((A / 340282366920938463463374607431768211456 % 18446744073709551616) / 1) % 65536 : Nat) : Int)))) (.int .i64 ((dg A 8 : Nat) : Int)) (fun w => kr) (int_eq (of_word2 A 8 rfl)) kr ?_
  refine s_new H18 (some 22) (fun b => .slice (some ⟨b, 0, none⟩) 1 1) #[.int .i64 ((dg A 8 : Nat) : Int)] 3 (fun w => kr) kr ?_
  intro b11 w19 H19; clear H18
  refine s_append H19 (some 23) 68 3 1 8 (.tmp 10) (.tmp 22) 9 0 b_29 b11 8 1 cap_30 1 cur_31 #[.int .i64 ((dg A 8 : Nat) : Int)] 3 (0, 0) (cellsD (dgs A 8)) ([.int .i64 ((dg A 8 : Nat) : Int)]) (fun b_33 cur_35 => [(b11, Obj.cells #[.int .i64 ((dg A 8 : Nat) : Int)] 3 (0, 0)), (b10, Obj.cells #[.int .i64 ((dg A 7 : Nat) : Int)] 3 (0, 0)), (b9, Obj.cells #[.int .i64 ((dg A 6 : Nat) : Int)] 3 (0, 0)), (b8, Obj.cells #[.int .i64 ((dg A 5 : Nat) : Int)] 3 (0, 0)), (b7, Obj.cells #[.int .i64 ((dg A 4 : Nat) : Int)] 3 (0, 0)), (b6, Obj.cells #[.int .i64 ((dg A 3 : Nat) : Int)] 3 (0, 0)), (b5, Obj.cells #[.int .i64 ((dg A 2 : Nat) : Int)] 3 (0, 0)), (b4, Obj.cells #[.int .i64 ((dg A 1 : Nat) : Int)] 3 (0, 0)), (b3, Obj.cells #[.int .i64 ((dg A 0 : Nat) : Int)] 3 (0, 0)), (b_33, Od cur_35 3), (b1, Oc (uv A) 24)]) kr kr kr kr kr hr_32' kr kr (by rfl) (by rfl) (by intro u hu; simp at hu; first | exact hu.elim | (rcases hu with rfl | rfl | rfl | rfl <;> rfl) | (rcases hu with rfl | rfl <;> rfl) | (subst hu; rfl)) (by omega) (by unfold maxLen; omega) (fun _ _ => kr) ?_
  intro b_33 cap_34 cur_35 w20 H20 hr_36; clear H19
  have hr_36' : Rw 1 cur_35 cap_34 9 (cellsD (dgs A 9)) := by rw [dgs_succ, cellsD_append]; exact hr_36
  refine s_val (some 3) (.slice (some ⟨b_33, 0, none⟩) 9 cap_34) (fun w => kr) kr ?_
  refine s_nil ?_
  show WP _ _ _ _ _ _
  refine g_reg0 [0, 1, 2] kr ?_
  refine s_val (some 8) (.int .i64 8) (fun w => kr) kr ?_
  refine s_val (some 9) (.int .i64 9) (fun w => kr) kr ?_
  refine s_val (some 4) (.int .i64 9) (fun w => kr) kr ?_
  refine s_nil ?_
  show WPL _ _ _ _ _ _
  refine g_next ?_
  refine g_seq kr ?_
  refine g_sreg [0, 1] kr kr ?_
  refine s_val (some 6) (.int .i64 9) (fun w => kr) kr ?_
  refine s_val (some 7) (.bool true) (fun w => kr) kr ?_
  refine s_nil ?_
  refine g_cond_t kr kr ?_
  refine g_skip kr ?_
  show WP _ _ _ _ _ _
  refine g_seq kr ?_
  refine g_block 1 kr ?_
  refine g_reg0 [0, 1, 2, 3, 4, 5, 6, 7, 8, 9, 10, 11, 12, 13, 14] kr ?_
  refine s_val (some 10) (.slice (some ⟨b_33, 0, none⟩) 9 cap_34) (fun w => kr) kr ?_
  refine s_val (some 11) (.int .i64 9) (fun w => kr) kr ?_
  refine s_val (some 12) (.int .i64 2) (fun w => kr) kr ?_
  refine s_val (some 13) (.pointer (some ⟨b1, 2, none⟩)) (fun w => kr) kr ?_
  refine s_load1 H20 (some 14) 22 (.tmp 13) 10 b1 2 (Value.cells (uv A)) 24 (0, 0) (.int .u64 ((A / 340282366920938463463374607431768211456 % 18446744073709551616 : Nat) : Int)) kr kr kr kr kr kr ?_
  refine s_val (some 15) (.int .i64 9) (fun w => kr) kr ?_
  refine s_val (some 16) (.int .i64 1) (fun w => kr) kr ?_
  refine s_val (some 17) (.int .i64 16) (fun w => kr) kr ?_
  refine s_val (some 18) (.int .u64 16) (fun w => kr) kr ?_
  refine s_valE (some 19) (.int .u64 (Int.fdiv ((A / 340282366920938463463374607431768211456 % 18446744073709551616 : Nat) : Int) (2 ^ 16))) (.int .u64 (((A / 340282366920938463463374607431768211456 % 18446744073709551616) / 65536 : Nat) : Int)) (fun w => kr) (int_eq (shrN (k := 16) (A / 340282366920938463463374607431768211456 % 18446744073709551616) 65536 rfl)) kr ?_
  refine s_valE (some 20) (.int .u64 (Int.tmod (((A / 340282366920938463463374607431768211456 % 18446744073709551616) / 65536 : Nat) : Int) 65536)) (.int .u64 ((((A / 340282366920938463463374607431768211456 % 18446744073709551616) / 65536) % 65536 : Nat) : Int)) (fun w => kr) (int_eq (remN ((A / 340282366920938463463374607431768211456 % 18446744073709551616) / 65536) 65536)) kr ?_
  refine s_valE (some 21) (.int .i64 (IntKind.i64.wrap (((((A / 340282366920938463463374607431768211456 % 18446744073709551616) / 65536) % 65536 : Nat) : Int)))) (.int .i64 ((dg A 9 : Nat) : Int)) (fun w => kr) (int_eq (of_word2 A 9 rfl)) kr ?_
  refine s_new H20 (some 22) (fun b => .slice (some ⟨b, 0, none⟩) 1 1) #[.int .i64 ((dg A 9 : Nat) : Int)] 3 (fun w => kr) kr ?_
  intro b12 w21 H21; clear H20
  refine s_append H21 (some 23) 68 3 1 8 (.tmp 10) (.tmp 22) 10 0 b_33 b12 9 1 cap_34 1 cur_35 #[.int .i64 ((dg A 9 : Nat) : Int)] 3 (0, 0) (cellsD (dgs A 9)) ([.int .i64 ((dg A 9 : Nat) : Int)]) (fun b_37 cur_39 => [(b12, Obj.cells #[.int .i64 ((dg A 9 : Nat) : Int)] 3 (0, 0)), (b11, Obj.cells #[.int .i64 ((dg A 8 : Nat) : Int)] 3 (0, 0)), (b10, Obj.cells #[.int .i64 ((dg A 7 : Nat) : Int)] 3 (0, 0)), (b9, Obj.cells #[.int .i64 ((dg A 6 : Nat) : Int)] 3 (0, 0)), (b8, Obj.cells #[.int .i64 ((dg A 5 : Nat) : Int)] 3 (0, 0)), (b7, Obj.cells #[.int .i64 ((dg A 4 : Nat) : Int)] 3 (0, 0)), (b6, Obj.cells #[.int .i64 ((dg A 3 : Nat) : Int)] 3 (0, 0)), (b5, Obj.cells #[.int .i64 ((dg A 2 : Nat) : Int)] 3 (0, 0)), (b4, Obj.cells #[.int .i64 ((dg A 1 : Nat) : Int)] 3 (0, 0)), (b3, Obj.cells #[.int .i64 ((dg A 0 : Nat) : Int)] 3 (0, 0)), (b_37, Od cur_39 3), (b1, Oc (uv A) 24)]) kr kr kr kr kr hr_36' kr kr (by rfl) (by rfl) (by intro u hu; simp at hu; first | exact hu.elim | (rcases hu with rfl | rfl | rfl | rfl <;> rfl) | (rcases hu with rfl | rfl <;> rfl) | (subst hu; rfl)) (by omega) (by unfold maxLen; omega) (fun _ _ => kr) ?_
  intro b_37 cap_38 cur_39 w22 H22 hr_40; clear H21
  have hr_40' : Rw 1 cur_39 cap_38 10 (cellsD (dgs A 10)) := by rw [dgs_succ, cellsD_append]; exact hr_40
  refine s_val (some 3) (.slice (some ⟨b_37, 0, none⟩) 10 cap_38) (fun w => kr) kr ?_
  refine s_nil ?_
  show WP _ _ _ _ _ _
  refine g_reg0 [0, 1, 2] kr ?_
  refine s_val (some 8) (.int .i64 9) (fun w => kr) kr ?_
  refine s_val (some 9) (.int .i64 10) (fun w => kr) kr ?_
  refine s_val (some 4) (.int .i64 10) (fun w => kr) kr ?_
  refine s_nil ?_
  show WPL _ _ _ _ _ _
  refine g_next ?_
  refine g_seq kr ?_
  refine g_sreg [0, 1] kr kr ?_
  refine s_val (some 6) (.int .i64 10) (fun w => kr) kr ?_
  refine s_val (some 7) (.bool true) (fun w => kr) kr ?_
  refine s_nil ?_
  refine g_cond_t kr kr ?_
  refine g_skip kr ?_
  show WP _ _ _ _ _ _
  refine g_seq kr ?_
  refine g_block 1 kr ?_
  refine g_reg0 [0, 1, 2, 3, 4, 5, 6, 7, 8, 9, 10, 11, 12, 13, 14] kr ?_
  refine s_val (some 10) (.slice (some ⟨b_37, 0, none⟩) 10 cap_38) (fun w => kr) kr ?_
  refine s_val (some 11) (.int .i64 10) (fun w => kr) kr ?_
  refine s_val (some 12) (.int .i64 2) (fun w => kr) kr ?_
  refine s_val (some 13) (.pointer (some ⟨b1, 2, none⟩)) (fun w => kr) kr ?_
  refine s_load1 H22 (some 14) 22 (.tmp 13) 11 b1 2 (Value.cells (uv A)) 24 (0, 0) (.int .u64 ((A / 340282366920938463463374607431768211456 % 18446744073709551616 : Nat) : Int)) kr kr kr kr kr kr ?_
  refine s_val (some 15) (.int .i64 10) (fun w => kr) kr ?_
  refine s_val (some 16) (.int .i64 2) (fun w => kr) kr ?_
  refine s_val (some 17) (.int .i64 32) (fun w => kr) kr ?_
  refine s_val (some 18) (.int .u64 32) (fun w => kr) kr ?_
  refine s_valE (some 19) (.int .u64 (Int.fdiv ((A / 340282366920938463463374607431768211456 % 18446744073709551616 : Nat) : Int) (2 ^ 32))) (.int .u64 (((A / 340282366920938463463374607431768211456 % 18446744073709551616) / 4294967296 : Nat) : Int)) (fun w => kr) (int_eq (shrN (k := 32) (A / 340282366920938463463374607431768211456 % 18446744073709551616) 4294967296 rfl)) kr ?_
  refine s_valE (some 20) (.int .u64 (Int.tmod (((A / 340282366920938463463374607431768211456 % 18446744073709551616) / 4294967296 : Nat) : Int) 65536)) (.int .u64 ((((A / 340282366920938463463374607431768211456 % 18446744073709551616) / 4294967296) % 65536 : Nat) : Int)) (fun w => kr) (int_eq (remN ((A / 340282366920938463463374607431768211456 % 18446744073709551616) / 4294967296) 65536)) kr ?_
  refine s_valE (some 21) (.int .i64 (IntKind.i64.wrap (((((A / 340282366920938463463374607431768211456 % 18446744073709551616) / 4294967296) % 65536 : Nat) : Int)))) (.int .i64 ((dg A 10 : Nat) : Int)) (fun w => kr) (int_eq (of_word2 A 10 rfl)) kr ?_
  refine s_new H22 (some 22) (fun b => .slice (some ⟨b, 0, none⟩) 1 1) #[.int .i64 ((dg A 10 : Nat) : Int)] 3 (fun w => kr) kr ?_
  intro b13 w23 H23; clear H22
  refine s_append H23 (some 23) 68 3 1 8 (.tmp 10) (.tmp 22) 11 0 b_37 b13 10 1 cap_38 1 cur_39 #[.int .i64 ((dg A 10 : Nat) : Int)] 3 (0, 0) (cellsD (dgs A 10)) ([.int .i64 ((dg A 10 : Nat) : Int)]) (fun b_41 cur_43 => [(b13, Obj.cells #[.int .i64 ((dg A 10 : Nat) : Int)] 3 (0, 0)), (b12, Obj.cells #[.int .i64 ((dg A 9 : Nat) : Int)] 3 (0, 0)), (b11, Obj.cells #[.int .i64 ((dg A 8 : Nat) : Int)] 3 (0, 0)), (b10, Obj.cells #[.int .i64 ((dg A 7 : Nat) : Int)] 3 (0, 0)), (b9, Obj.cells #[.int .i64 ((dg A 6 : Nat) : Int)] 3 (0, 0)), (b8, Obj.cells #[.int .i64 ((dg A 5 : Nat) : Int)] 3 (0, 0)), (b7, Obj.cells #[.int .i64 ((dg A 4 : Nat) : Int)] 3 (0, 0)), (b6, Obj.cells #[.int .i64 ((dg A 3 : Nat) : Int)] 3 (0, 0)), (b5, Obj.cells #[.int .i64 ((dg A 2 : Nat) : Int)] 3 (0, 0)), (b4, Obj.cells #[.int .i64 ((dg A 1 : Nat) : Int)] 3 (0, 0)), (b3, Obj.cells #[.int .i64 ((dg A 0 : Nat) : Int)] 3 (0, 0)), (b_41, Od cur_43 3), (b1, Oc (uv A) 24)]) kr kr kr kr kr hr_40' kr kr (by rfl) (by rfl) (by intro u hu; simp at hu; first | exact hu.elim | (rcases hu with rfl | rfl | rfl | rfl <;> rfl) | (rcases hu with rfl | rfl <;> rfl) | (subst hu; rfl)) (by omega) (by unfold maxLen; omega) (fun _ _ => kr) ?_
  intro b_41 cap_42 cur_43 w24 H24 hr_44; clear H23
  have hr_44' : Rw 1 cur_43 cap_42 11 (cellsD (dgs A 11)) := by rw [dgs_succ, cellsD_append]; exact hr_44
  refine s_val (some 3) (.slice (some ⟨b_41, 0, none⟩) 11 cap_42) (fun w => kr) kr ?_
  refine s_nil ?_
  show WP _ _ _ _ _ _
  refine g_reg0 [0, 1, 2] kr ?_
  refine s_val (some 8) (.int .i64 10) (fun w => kr) kr ?_
  refine s_val (some 9) (.int .i64 11) (fun w => kr) kr ?_
  refine s_val (some 4) (.int .i64 11) (fun w => kr) kr ?_
  refine s_nil ?_
  show WPL _ _ _ _ _ _
  refine g_next ?_
  refine g_seq kr ?_
  refine g_sreg [0, 1] kr kr ?_
  refine s_val (some 6) (.int .i64 11) (fun w => kr) kr ?_
  refine s_val (some 7) (.bool true) (fun w => kr) kr ?_
  refine s_nil ?_
  refine g_cond_t kr kr ?_
  refine g_skip kr ?_
  show WP _ _ _ _ _ _
  refine g_seq kr ?_
  refine g_block 1 kr ?_
  refine g_reg0 [0, 1, 2, 3, 4, 5, 6, 7, 8, 9, 10, 11, 12, 13, 14] kr ?_
  refine s_val (some 10) (.slice (some ⟨b_41, 0, none⟩) 11 cap_42) (fun w => kr) kr ?_
  refine s_val (some 11) (.int .i64 11) (fun w => kr) kr ?_
  refine s_val (some 12) (.int .i64 2) (fun w => kr) kr ?_
  refine s_val (some 13) (.pointer (some ⟨b1, 2, none⟩)) (fun w => kr) kr ?_
  refine s_load1 H24 (some 14) 22 (.tmp 13) 12 b1 2 (Value.cells (uv A)) 24 (0, 0) (.int .u64 ((A / 340282366920938463463374607431768211456 % 18446744073709551616 : Nat) : Int)) kr kr kr kr kr kr ?_
  refine s_val (some 15) (.int .i64 11) (fun w => kr) kr ?_
  refine s_val (some 16) (.int .i64 3) (fun w => kr) kr ?_
  refine s_val (some 17) (.int .i64 48) (fun w => kr) kr ?_
  refine s_val (some 18) (.int .u64 48) (fun w => kr) kr ?_
  refine s_valE (some 19) (.int .u64 (Int.fdiv ((A / 340282366920938463463374607431768211456 % 18446744073709551616 : Nat) : Int) (2 ^ 48))) (.int .u64 (((A / 340282366920938463463374607431768211456 % 18446744073709551616) / 281474976710656 : Nat) : Int)) (fun w => kr) (int_eq (shrN (k := 48) (A / 340282366920938463463374607431768211456 % 18446744073709551616) 281474976710656 rfl)) kr ?_
  refine s_valE (some 20) (.int .u64 (Int.tmod (((A / 340282366920938463463374607431768211456 % 18446744073709551616) / 281474976710656 : Nat) : Int) 65536)) (.int .u64 ((((A / 340282366920938463463374607431768211456 % 18446744073709551616) / 281474976710656) % 65536 : Nat) : Int)) (fun w => kr) (int_eq (remN ((A / 340282366920938463463374607431768211456 % 18446744073709551616) / 281474976710656) 65536)) kr ?_
  refine s_valE (some 21) (.int .i64 (IntKind.i64.wrap (((((A / 340282366920938463463374607431768211456 % 18446744073709551616) / 281474976710656) % 65536 : Nat) : Int)))) (.int .i64 ((dg A 11 : Nat) : Int)) (fun w => kr) (int_eq (of_word2 A 11 rfl)) kr ?_
  refine s_new H24 (some 22) (fun b => .slice (some ⟨b, 0, none⟩) 1 1) #[.int .i64 ((dg A 11 : Nat) : Int)] 3 (fun w => kr) kr ?_
  intro b14 w25 H25; clear H24
  refine s_append H25 (some 23) 68 3 1 8 (.tmp 10) (.tmp 22) 12 0 b_41 b14 11 1 cap_42 1 cur_43 #[.int .i64 ((dg A 11 : Nat) : Int)] 3 (0, 0) (cellsD (dgs A 11)) ([.int .i64 ((dg A 11 : Nat) : Int)]) (fun b_45 cur_47 => [(b14, Obj.cells #[.int .i64 ((dg A 11 : Nat) : Int)] 3 (0, 0)), (b13, Obj.cells #[.int .i64 ((dg A 10 : Nat) : Int)] 3 (0, 0)), (b12, Obj.cells #[.int .i64 ((dg A 9 : Nat) : Int)] 3 (0, 0)), (b11, Obj.cells #[.int .i64 ((dg A 8 : Nat) : Int)] 3 (0, 0)), (b10, Obj.cells #[.int .i64 ((dg A 7 : Nat) : Int)] 3 (0, 0)), (b9, Obj.cells #[.int .i64 ((dg A 6 : Nat) : Int)] 3 (0, 0)), (b8, Obj.cells #[.int .i64 ((dg A 5 : Nat) : Int)] 3 (0, 0)), (b7, Obj.cells #[.int .i64 ((dg A 4 : Nat) : Int)] 3 (0, 0)), (b6, Obj.cells #[.int .i64 ((dg A 3 : Nat) : Int)] 3 (0, 0)), (b5, Obj.cells #[.int .i64 ((dg A 2 : Nat) : Int)] 3 (0, 0)), (b4, Obj.cells #[.int .i64 ((dg A 1 : Nat) : Int)] 3 (0, 0)), (b3, Obj.cells #[.int .i64 ((dg A 0 : Nat) : Int)] 3 (0, 0)), (b_45, Od cur_47 3), (b1, Oc (uv A) 24)]) kr kr kr kr kr hr_44' kr kr (by rfl) (by rfl) (by intro u hu; simp at hu; first | exact hu.elim | (rcases hu with rfl | rfl | rfl | rfl <;> rfl) | (rcases hu with rfl | rfl <;> rfl) | (subst hu; rfl)) (by omega) (by unfold maxLen; omega) (fun _ _ => kr) ?_
  intro b_45 cap_46 cur_47 w26 H26 hr_48; clear H25
  have hr_48' : Rw 1 cur_47 cap_46 12 (cellsD (dgs A 12)) := by rw [dgs_succ, cellsD_append]; exact hr_48
  refine s_val (some 3) (.slice (some ⟨b_45, 0, none⟩) 12 cap_46) (fun w => kr) kr ?_
  refine s_nil ?_
  show WP _ _ _ _ _ _
  refine g_reg0 [0, 1, 2] kr ?_
  refine s_val (some 8) (.int .i64 11) (fun w => kr) kr ?_
  refine s_val (some 9) (.int .i64 12) (fun w => kr) kr ?_
  refine s_val (some 4) (.int .i64 12) (fun w => kr) kr ?_
  refine s_nil ?_
  show WPL _ _ _ _ _ _
  refine g_next ?_
  refine g_seq kr ?_
  refine g_sreg [0, 1] kr kr ?_
  refine s_val (some 6) (.int .i64 12) (fun w => kr) kr ?_
  refine s_val (some 7) (.bool true) (fun w => kr) kr ?_
  refine s_nil ?_
  refine g_cond_t kr kr ?_
  refine g_skip kr ?_
  show WP _ _ _ _ _ _
  refine g_seq kr ?_
  refine g_block 1 kr ?_
  refine g_reg0 [0, 1, 2, 3, 4, 5, 6, 7, 8, 9, 10, 11, 12, 13, 14] kr ?_
  refine s_val (some 10) (.slice (some ⟨b_45, 0, none⟩) 12 cap_46) (fun w => kr) kr ?_
  refine s_val (some 11) (.int .i64 12) (fun w => kr) kr ?_
  refine s_val (some 12) (.int .i64 3) (fun w => kr) kr ?_
  refine s_val (some 13) (.pointer (some ⟨b1, 3, none⟩)) (fun w => kr) kr ?_
  refine s_load1 H26 (some 14) 22 (.tmp 13) 13 b1 3 (Value.cells (uv A)) 24 (0, 0) (.int .u64 ((A / 6277101735386680763835789423207666416102355444464034512896 % 18446744073709551616 : Nat) : Int)) kr kr kr kr kr kr ?_
  refine s_val (some 15) (.int .i64 12) (fun w => kr) kr ?_
  refine s_val (some 16) (.int .i64 0) (fun w => kr) kr ?_
  refine s_val (some 17) (.int .i64 0) (fun w => kr) kr ?_
  refine s_val (some 18) (.int .u64 0) (fun w => kr) kr ?_
  refine s_valE (some 19) (.int .u64 (Int.fdiv ((A / 6277101735386680763835789423207666416102355444464034512896 % 18446744073709551616 : Nat) : Int) (2 ^ 0))) (.int .u64 (((A / 6277101735386680763835789423207666416102355444464034512896 % 18446744073709551616) / 1 : Nat) : Int)) (fun w => kr) (int_eq (shrN (k := 0) (A / 6277101735386680763835789423207666416102355444464034512896 % 18446744073709551616) 1 rfl)) kr ?_
  refine s_valE (some 20) (.int .u64 (Int.tmod (((A / 6277101735386680763835789423207666416102355444464034512896 % 18446744073709551616) / 1 : Nat) : Int) 65536)) (.int .u64 ((((A / 6277101735386680763835789423207666416102355444464034512896 % 18446744073709551616) / 1) % 65536 : Nat) : Int)) (fun w => kr) (int_eq (remN ((A / 6277101735386680763835789423207666416102355444464034512896 % 18446744073709551616) / 1) 65536)) kr ?_
  refine s_valE (some 21) (.int .i64 (IntKind.i64.wrap (((((A / 6277101735386680763835789423207666416102355444464034512896 % 18446744073709551616) / 1) % 65536 : Nat) : Int)))) (.int .i64 ((dg A 12 : Nat) : Int)) (fun w => kr) (int_eq (of_word3 A 12 rfl)) kr ?_
  refine s_new H26 (some 22) (fun b => .slice (some ⟨b, 0, none⟩) 1 1) #[.int .i64 ((dg A 12 : Nat) : Int)] 3 (fun w => kr) kr ?_
  intro b15 w27 H27; clear H26
  refine s_append H27 (some 23) 68 3 1 8 (.tmp 10) (.tmp 22) 13 0 b_45 b15 12 1 cap_46 1 cur_47 #[.int .i64 ((dg A 12 : Nat) : Int)] 3 (0, 0) (cellsD (dgs A 12)) ([.int .i64 ((dg A 12 : Nat) : Int)]) (fun b_49 cur_51 => [(b15, Obj.cells #[.int .i64 ((dg A 12 : Nat) : Int)] 3 (0, 0)), (b14, Obj.cells #[.int .i64 ((dg A 11 : Nat) : Int)] 3 (0, 0)), (b13, Obj.cells #[.int .i64 ((dg A 10 : Nat) : Int)] 3 (0, 0)), (b12, Obj.cells #[.int .i64 ((dg A 9 : Nat) : Int)] 3 (0, 0)), (b11, Obj.cells #[.int .i64 ((dg A 8 : Nat) : Int)] 3 (0, 0)), (b10, Obj.cells #[.int .i64 ((dg A 7 : Nat) : Int)] 3 (0, 0)), (b9, Obj.cells #[.int .i64 ((dg A 6 : Nat) : Int)] 3 (0, 0)), (b8, Obj.cells #[.int .i64 ((dg A 5 : Nat) : Int)] 3 (0, 0)), (b7, Obj.cells #[.int .i64 ((dg A 4 : Nat) : Int)] 3 (0, 0)), (b6, Obj.cells #[.int .i64 ((dg A 3 : Nat) : Int)] 3 (0, 0)), (b5, Obj.cells #[.int .i64 ((dg A 2 : Nat) : Int)] 3 (0, 0)), (b4, Obj.cells #[.int .i64 ((dg A 1 : Nat) : Int)] 3 (0, 0)), (b3, Obj.cells #[.int .i64 ((dg A 0 : Nat) : Int)] 3 (0, 0)), (b_49, Od cur_51 3), (b1, Oc (uv A) 24)]) kr kr kr kr kr hr_48' kr kr (by rfl) (by rfl) (by intro u hu; simp at hu; first | exact hu.elim | (rcases hu with rfl | rfl | rfl | rfl <;> rfl) | (rcases hu with rfl | rfl <;> rfl) | (subst hu; rfl)) (by omega) (by unfold maxLen; omega) (fun _ _ => kr) ?_
  intro b_49 cap_50 cur_51 w28 H28 hr_52; clear H27
  have hr_52' : Rw 1 cur_51 cap_50 13 (cellsD (dgs A 13)) := by rw [dgs_succ, cellsD_append]; exact hr_52
  refine s_val (some 3) (.slice (some ⟨b_49, 0, none⟩) 13 cap_50) (fun w => kr) kr ?_
  refine s_nil ?_
  show WP _ _ _ _ _ _
  refine g_reg0 [0, 1, 2] kr ?_
  refine s_val (some 8) (.int .i64 12) (fun w => kr) kr ?_
  refine s_val (some 9) (.int .i64 13) (fun w => kr) kr ?_
  refine s_val (some 4) (.int .i64 13) (fun w => kr) kr ?_
  refine s_nil ?_
  show WPL _ _ _ _ _ _
  refine g_next ?_
  refine g_seq kr ?_
  refine g_sreg [0, 1] kr kr ?_
  refine s_val (some 6) (.int .i64 13) (fun w => kr) kr ?_
  refine s_val (some 7) (.bool true) (fun w => kr) kr ?_
  refine s_nil ?_
  refine g_cond_t kr kr ?_
  refine g_skip kr ?_
  show WP _ _ _ _ _ _
  refine g_seq kr ?_
  refine g_block 1 kr ?_
  refine g_reg0 [0, 1, 2, 3, 4, 5, 6, 7, 8, 9, 10, 11, 12, 13, 14] kr ?_
  refine s_val (some 10) (.slice (some ⟨b_49, 0, none⟩) 13 cap_50) (fun w => kr) kr ?_
  refine s_val (some 11) (.int .i64 13) (fun w => kr) kr ?_
  refine s_val (some 12) (.int .i64 3) (fun w => kr) kr ?_
  refine s_val (some 13) (.pointer (some ⟨b1, 3, none⟩)) (fun w => kr) kr ?_
  refine s_load1 H28 (some 14) 22 (.tmp 13) 14 b1 3 (Value.cells (uv A)) 24 (0, 0) (.int .u64 ((A / 6277101735386680763835789423207666416102355444464034512896 % 18446744073709551616 : Nat) : Int)) kr kr kr kr kr kr ?_
  refine s_val (some 15) (.int .i64 13) (fun w => kr) kr ?_
  refine s_val (some 16) (.int .i64 1) (fun w => kr) kr ?_
  refine s_val (some 17) (.int .i64 16) (fun w => kr) kr ?_
  refine s_val (some 18) (.int .u64 16) (fun w => kr) kr ?_
  refine s_valE (some 19) (.int .u64 (Int.fdiv ((A / 6277101735386680763835789423207666416102355444464034512896 % 18446744073709551616 : Nat) : Int) (2 ^ 16))) (.int .u64 (((A / 6277101735386680763835789423207666416102355444464034512896 % 18446744073709551616) / 65536 : Nat) : Int)) (fun w => kr) (int_eq (shrN (k := 16) (A / 6277101735386680763835789423207666416102355444464034512896 % 18446744073709551616) 65536 rfl)) kr ?_
  refine s_valE (some 20) (.int .u64 (Int.tmod (((A / 6277101735386680763835789423207666416102355444464034512896 % 18446744073709551616) / 65536 : Nat) : Int) 65536)) (.int .u64 ((((A / 6277101735386680763835789423207666416102355444464034512896 % 18446744073709551616) / 65536) % 65536 : Nat) : Int)) (fun w => kr) (int_eq (remN ((A / 6277101735386680763835789423207666416102355444464034512896 % 18446744073709551616) / 65536) 65536)) kr ?_
  refine s_valE (some 21) (.int .i64 (IntKind.i64.wrap (((((A / 6277101735386680763835789423207666416102355444464034512896 % 18446744073709551616) / 65536) % 65536 : Nat) : Int)))) (.int .i64 ((dg A 13 : Nat) : Int)) (fun w => kr) (int_eq (of_word3 A 13 rfl)) kr ?_
  refine s_new H28 (some 22) (fun b => .slice (some ⟨b, 0, none⟩) 1 1) #[.int .i64 ((dg A 13 : Nat) : Int)] 3 (fun w => kr) kr ?_
  intro b16 w29 H29; clear H28
  refine s_append H29 (some 23) 68 3 1 8 (.tmp 10) (.tmp 22) 14 0 b_49 b16 13 1 cap_50 1 cur_51 #[.int .i64 ((dg A 13 : Nat) : Int)] 3 (0, 0) (cellsD (dgs A 13)) ([.int .i64 ((dg A 13 : Nat) : Int)]) (fun b_53 cur_55 => [(b16, Obj.cells #[.int .i64 ((dg A 13 : Nat) : Int)] 3 (0, 0)), (b15, Obj.cells #[.int .i64 ((dg A 12 : Nat) : Int)] 3 (0, 0)), (b14, Obj.cells #[.int .i64 ((dg A 11 : Nat) : Int)] 3 (0, 0)), (b13, Obj.cells #[.int .i64 ((dg A 10 : Nat) : Int)] 3 (0, 0)), (b12, Obj.cells #[.int .i64 ((dg A 9 : Nat) : Int)] 3 (0, 0)), (b11, Obj.cells #[.int .i64 ((dg A 8 : Nat) : Int)] 3 (0, 0)), (b10, Obj.cells #[.int .i64 ((dg A 7 : Nat) : Int)] 3 (0, 0)), (b9, Obj.cells #[.int .i64 ((dg A 6 : Nat) : Int)] 3 (0, 0)), (b8, Obj.cells #[.int .i64 ((dg A 5 : Nat) : Int)] 3 (0, 0)), (b7, Obj.cells #[.int .i64 ((dg A 4 : Nat) : Int)] 3 (0, 0)), (b6, Obj.cells #[.int .i64 ((dg A 3 : Nat) : Int)] 3 (0, 0)), (b5, Obj.cells #[.int .i64 ((dg A 2 : Nat) : Int)] 3 (0, 0)), (b4, Obj.cells #[.int .i64 ((dg A 1 : Nat) : Int)] 3 (0, 0)), (b3, Obj.cells #[.int .i64 ((dg A 0 : Nat) : Int)] 3 (0, 0)), (b_53, Od cur_55 3), (b1, Oc (uv A) 24)]) kr kr kr kr kr hr_52' kr kr (by rfl) (by rfl) (by intro u hu; simp at hu; first | exact hu.elim | (rcases hu with rfl | rfl | rfl | rfl <;> rfl) | (rcases hu with rfl | rfl <;> rfl) | (subst hu; rfl)) (by omega) (by unfold maxLen; omega) (fun _ _ => kr) ?_
  intro b_53 cap_54 cur_55 w30 H30 hr_56; clear H29
  have hr_56' : Rw 1 cur_55 cap_54 14 (cellsD (dgs A 14)) := by rw [dgs_succ, cellsD_append]; exact hr_56
  refine s_val (some 3) (.slice (some ⟨b_53, 0, none⟩) 14 cap_54) (fun w => kr) kr ?_
  refine s_nil ?_
  show WP _ _ _ _ _ _
  refine g_reg0 [0, 1, 2] kr ?_
  refine s_val (some 8) (.int .i64 13) (fun w => kr) kr ?_
  refine s_val (some 9) (.int .i64 14) (fun w => kr) kr ?_
  refine s_val (some 4) (.int .i64 14) (fun w => kr) kr ?_
  refine s_nil ?_
  show WPL _ _ _ _ _ _
  refine g_next ?_
  refine g_seq kr ?_
  refine g_sreg [0, 1] kr kr ?_
  refine s_val (some 6) (.int .i64 14) (fun w => kr) kr ?_
  refine s_val (some 7) (.bool true) (fun w => kr) kr ?_
  refine s_nil ?_
  refine g_cond_t kr kr ?_
  refine g_skip kr ?_
  show WP _ _ _ _ _ _
  refine g_seq kr ?_
  refine g_block 1 kr ?_
  refine g_reg0 [0, 1, 2, 3, 4, 5, 6, 7, 8, 9, 10, 11, 12, 13, 14] kr ?_
  refine s_val (some 10) (.slice (some ⟨b_53, 0, none⟩) 14 cap_54) (fun w => kr) kr ?_
  refine s_val (some 11) (.int .i64 14) (fun w => kr) kr ?_
  refine s_val (some 12) (.int .i64 3) (fun w => kr) kr ?_
  refine s_val (some 13) (.pointer (some ⟨b1, 3, none⟩)) (fun w => kr) kr ?_
  refine s_load1 H30 (some 14) 22 (.tmp 13) 15 b1 3 (Value.cells (uv A)) 24 (0, 0) (.int .u64 ((A / 6277101735386680763835789423207666416102355444464034512896 % 18446744073709551616 : Nat) : Int)) kr kr kr kr kr kr ?_
  refine s_val (some 15) (.int .i64 14) (fun w => kr) kr ?_
  refine s_val (some 16) (.int .i64 2) (fun w => kr) kr ?_
  refine s_val (some 17) (.int .i64 32) (fun w => kr) kr ?_
  refine s_val (some 18) (.int .u64 32) (fun w => kr) kr ?_
  refine s_valE (some 19) (.int .u64 (Int.fdiv ((A / 6277101735386680763835789423207666416102355444464034512896 % 18446744073709551616 : Nat) : Int) (2 ^ 32))) (.int .u64 (((A / 6277101735386680763835789423207666416102355444464034512896 % 18446744073709551616) / 4294967296 : Nat) : Int)) (fun w => kr) (int_eq (shrN (k := 32) (A / 6277101735386680763835789423207666416102355444464034512896 % 18446744073709551616) 4294967296 rfl)) kr ?_
  refine s_valE (some 20) (.int .u64 (Int.tmod (((A / 6277101735386680763835789423207666416102355444464034512896 % 18446744073709551616) / 4294967296 : Nat) : Int) 65536)) (.int .u64 ((((A / 6277101735386680763835789423207666416102355444464034512896 % 18446744073709551616) / 4294967296) % 65536 : Nat) : Int)) (fun w => kr) (int_eq (remN ((A / 6277101735386680763835789423207666416102355444464034512896 % 18446744073709551616) / 4294967296) 65536)) kr ?_
  refine s_valE (some 21) (.int .i64 (IntKind.i64.wrap (((((A / 6277101735386680763835789423207666416102355444464034512896 % 18446744073709551616) / 4294967296) % 65536 : Nat) : Int)))) (.int .i64 ((dg A 14 : Nat) : Int)) (fun w => kr) (int_eq (of_word3 A 14 rfl)) kr ?_
  refine s_new H30 (some 22) (fun b => .slice (some ⟨b, 0, none⟩) 1 1) #[.int .i64 ((dg A 14 : Nat) : Int)] 3 (fun w => kr) kr ?_
  intro b17 w31 H31; clear H30
  refine s_append H31 (some 23) 68 3 1 8 (.tmp 10) (.tmp 22) 15 0 b_53 b17 14 1 cap_54 1 cur_55 #[.int .i64 ((dg A 14 : Nat) : Int)] 3 (0, 0) (cellsD (dgs A 14)) ([.int .i64 ((dg A 14 : Nat) : Int)]) (fun b_57 cur_59 => [(b17, Obj.cells #[.int .i64 ((dg A 14 : Nat) : Int)] 3 (0, 0)), (b16, Obj.cells #[.int .i64 ((dg A 13 : Nat) : Int)] 3 (0, 0)), (b15, Obj.cells #[.int .i64 ((dg A 12 : Nat) : Int)] 3 (0, 0)), (b14, Obj.cells #[.int .i64 ((dg A 11 : Nat) : Int)] 3 (0, 0)), (b13, Obj.cells #[.int .i64 ((dg A 10 : Nat) : Int)] 3 (0, 0)), (b12, Obj.cells #[.int .i64 ((dg A 9 : Nat) : Int)] 3 (0, 0)), (b11, Obj.cells #[.int .i64 ((dg A 8 : Nat) : Int)] 3 (0, 0)), (b10, Obj.cells #[.int .i64 ((dg A 7 : Nat) : Int)] 3 (0, 0)), (b9, Obj.cells #[.int .i64 ((dg A 6 : Nat) : Int)] 3 (0, 0)), (b8, Obj.cells #[.int .i64 ((dg A 5 : Nat) : Int)] 3 (0, 0)), (b7, Obj.cells #[.int .i64 ((dg A 4 : Nat) : Int)] 3 (0, 0)), (b6, Obj.cells #[.int .i64 ((dg A 3 : Nat) : Int)] 3 (0, 0)), (b5, Obj.cells #[.int .i64 ((dg A 2 : Nat) : Int)] 3 (0, 0)), (b4, Obj.cells #[.int .i64 ((dg A 1 : Nat) : Int)] 3 (0, 0)), (b3, Obj.cells #[.int .i64 ((dg A 0 : Nat) : Int)] 3 (0, 0)), (b_57, Od cur_59 3), (b1, Oc (uv A) 24)]) kr kr kr kr kr hr_56' kr kr (by rfl) (by rfl) (by intro u hu; simp at hu; first | exact hu.elim | (rcases hu with rfl | rfl | rfl | rfl <;> rfl) | (rcases hu with rfl | rfl <;> rfl) | (subst hu; rfl)) (by omega) (by unfold maxLen; omega) (fun _ _ => kr) ?_
  intro b_57 cap_58 cur_59 w32 H32 hr_60; clear H31
  have hr_60' : Rw 1 cur_59 cap_58 15 (cellsD (dgs A 15)) := by rw [dgs_succ, cellsD_append]; exact hr_60
  refine s_val (some 3) (.slice (some ⟨b_57, 0, none⟩) 15 cap_58) (fun w => kr) kr ?_
  refine s_nil ?_
  show WP _ _ _ _ _ _
  refine g_reg0 [0, 1, 2] kr ?_
  refine s_val (some 8) (.int .i64 14) (fun w => kr) kr ?_
  refine s_val (some 9) (.int .i64 15) (fun w => kr) kr ?_
  refine s_val (some 4) (.int .i64 15) (fun w => kr) kr ?_
  refine s_nil ?_
  show WPL _ _ _ _ _ _
  refine g_next ?_
  refine g_seq kr ?_
  refine g_sreg [0, 1] kr kr ?_
  refine s_val (some 6) (.int .i64 15) (fun w => kr) kr ?_
  refine s_val (some 7) (.bool true) (fun w => kr) kr ?_
  refine s_nil ?_
  refine g_cond_t kr kr ?_
  refine g_skip kr ?_
  show WP _ _ _ _ _ _
  refine g_seq kr ?_
  refine g_block 1 kr ?_
  refine g_reg0 [0, 1, 2, 3, 4, 5, 6, 7, 8, 9, 10, 11, 12, 13, 14] kr ?_
  refine s_val (some 10) (.slice (some ⟨b_57, 0, none⟩) 15 cap_58) (fun w => kr) kr ?_
  refine s_val (some 11) (.int .i64 15) (fun w => kr) kr ?_
  refine s_val (some 12) (.int .i64 3) (fun w => kr) kr ?_
  refine s_val (some 13) (.pointer (some ⟨b1, 3, none⟩)) (fun w => kr) kr ?_
  refine s_load1 H32 (some 14) 22 (.tmp 13) 16 b1 3 (Value.cells (uv A)) 24 (0, 0) (.int .u64 ((A / 6277101735386680763835789423207666416102355444464034512896 % 18446744073709551616 : Nat) : Int)) kr kr kr kr kr kr ?_
  refine s_val (some 15) (.int .i64 15) (fun w => kr) kr ?_
  refine s_val (some 16) (.int .i64 3) (fun w => kr) kr ?_
  refine s_val (some 17) (.int .i64 48) (fun w => kr) kr ?_
  refine s_val (some 18) (.int .u64 48) (fun w => kr) kr ?_
  refine s_valE (some 19) (.int .u64 (Int.fdiv ((A / 6277101735386680763835789423207666416102355444464034512896 % 18446744073709551616 : Nat) : Int) (2 ^ 48))) (.int .u64 (((A / 6277101735386680763835789423207666416102355444464034512896 % 18446744073709551616) / 281474976710656 : Nat) : Int)) (fun w => kr) (int_eq (shrN (k := 48) (A / 6277101735386680763835789423207666416102355444464034512896 % 18446744073709551616) 281474976710656 rfl)) kr ?_
  refine s_valE (some 20) (.int .u64 (Int.tmod (((A / 6277101735386680763835789423207666416102355444464034512896 % 18446744073709551616) / 281474976710656 : Nat) : Int) 65536)) (.int .u64 ((((A / 6277101735386680763835789423207666416102355444464034512896 % 18446744073709551616) / 281474976710656) % 65536 : Nat) : Int)) (fun w => kr) (int_eq (remN ((A / 6277101735386680763835789423207666416102355444464034512896 % 18446744073709551616) / 281474976710656) 65536)) kr ?_
  refine s_valE (some 21) (.int .i64 (IntKind.i64.wrap (((((A / 6277101735386680763835789423207666416102355444464034512896 % 18446744073709551616) / 281474976710656) % 65536 : Nat) : Int)))) (.int .i64 ((dg A 15 : Nat) : Int)) (fun w => kr) (int_eq (of_word3 A 15 rfl)) kr ?_
  refine s_new H32 (some 22) (fun b => .slice (some ⟨b, 0, none⟩) 1 1) #[.int .i64 ((dg A 15 : Nat) : Int)] 3 (fun w => kr) kr ?_
  intro b18 w33 H33; clear H32
  refine s_append H33 (some 23) 68 3 1 8 (.tmp 10) (.tmp 22) 16 0 b_57 b18 15 1 cap_58 1 cur_59 #[.int .i64 ((dg A 15 : Nat) : Int)] 3 (0, 0) (cellsD (dgs A 15)) ([.int .i64 ((dg A 15 : Nat) : Int)]) (fun b_61 cur_63 => [(b18, Obj.cells #[.int .i64 ((dg A 15 : Nat) : Int)] 3 (0, 0)), (b17, Obj.cells #[.int .i64 ((dg A 14 : Nat) : Int)] 3 (0, 0)), (b16, Obj.cells #[.int .i64 ((dg A 13 : Nat) : Int)] 3 (0, 0)), (b15, Obj.cells #[.int .i64 ((dg A 12 : Nat) : Int)] 3 (0, 0)), (b14, Obj.cells #[.int .i64 ((dg A 11 : Nat) : Int)] 3 (0, 0)), (b13, Obj.cells #[.int .i64 ((dg A 10 : Nat) : Int)] 3 (0, 0)), (b12, Obj.cells #[.int .i64 ((dg A 9 : Nat) : Int)] 3 (0, 0)), (b11, Obj.cells #[.int .i64 ((dg A 8 : Nat) : Int)] 3 (0, 0)), (b10, Obj.cells #[.int .i64 ((dg A 7 : Nat) : Int)] 3 (0, 0)), (b9, Obj.cells #[.int .i64 ((dg A 6 : Nat) : Int)] 3 (0, 0)), (b8, Obj.cells #[.int .i64 ((dg A 5 : Nat) : Int)] 3 (0, 0)), (b7, Obj.cells #[.int .i64 ((dg A 4 : Nat) : Int)] 3 (0, 0)), (b6, Obj.cells #[.int .i64 ((dg A 3 : Nat) : Int)] 3 (0, 0)), (b5, Obj.cells #[.int .i64 ((dg A 2 : Nat) : Int)] 3 (0, 0)), (b4, Obj.cells #[.int .i64 ((dg A 1 : Nat) : Int)] 3 (0, 0)), (b3, Obj.cells #[.int .i64 ((dg A 0 : Nat) : Int)] 3 (0, 0)), (b_61, Od cur_63 3), (b1, Oc (uv A) 24)]) kr kr kr kr kr hr_60' kr kr (by rfl) (by rfl) (by intro u hu; simp at hu; first | exact hu.elim | (rcases hu with rfl | rfl | rfl | rfl <;> rfl) | (rcases hu with rfl | rfl <;> rfl) | (subst hu; rfl)) (by omega) (by unfold maxLen; omega) (fun _ _ => kr) ?_
  intro b_61 cap_62 cur_63 w34 H34 hr_64; clear H33
  have hr_64' : Rw 1 cur_63 cap_62 16 (cellsD (dgs A 16)) := by rw [dgs_succ, cellsD_append]; exact hr_64
  refine s_val (some 3) (.slice (some ⟨b_61, 0, none⟩) 16 cap_62) (fun w => kr) kr ?_
  refine s_nil ?_
  show WP _ _ _ _ _ _
  refine g_reg0 [0, 1, 2] kr ?_
  refine s_val (some 8) (.int .i64 15) (fun w => kr) kr ?_
  refine s_val (some 9) (.int .i64 16) (fun w => kr) kr ?_
  refine s_val (some 4) (.int .i64 16) (fun w => kr) kr ?_
  refine s_nil ?_
  show WPL _ _ _ _ _ _
  refine g_next ?_
  refine g_seq kr ?_
  refine g_sreg [0, 1] kr kr ?_
  refine s_val (some 6) (.int .i64 16) (fun w => kr) kr ?_
  refine s_val (some 7) (.bool false) (fun w => kr) kr ?_
  refine s_nil ?_
  refine g_cond_f kr kr ?_
  refine g_exit 0 kr ?_
  show WP _ _ _ _ _ _
  refine g_sreg [0, 1] kr kr ?_
  refine s_val (some 24) (.slice (some ⟨b_61, 0, none⟩) 16 cap_62) (fun w => kr) kr ?_
  refine s_val (some 2) (.slice (some ⟨b_61, 0, none⟩) 16 cap_62) (fun w => kr) kr ?_
  refine s_nil ?_
  refine g_ret kr ?_
  show ∃ vs, Res _ _ _ _ vs ∧ _
  refine ⟨[.slice (some ⟨b_61, 0, none⟩) 16 cap_62], (.tmp (.slice (some ⟨b_61, 0, none⟩) 16 cap_62) kr .nil), H34.below, ?_⟩
  exact ⟨b_61, cap_62, _, _, dgs A 16, rfl, H34.ge 16 (o := .cells cur_63 3 (0, 0)) kr, H34.get 16 kr, by rw [dgs_length], hr_64', dgs_ok A 16, rfl, vl_dgs16 hA, dgs_length A 16⟩
end Go.Proofs.Ytljhbhhpfkmemaa
