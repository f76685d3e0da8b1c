/-
  ShaKeys.
-/
import Derived.Test.YtjhldipeicpoeaaDoorProg
import Derived.Test.YtjhldipeicpoeaaDoorShaM
import Derived.Test.YtjhldipeicpoeaaDoorShaL
namespace Go.Proofs.YtjhldipeicpoeaaDoor
open Go Go.RowKit Go.Proofs.Sha
set_option linter.unusedVariables false
theorem max0 (a : Int) : (if (0 : Int) > a then (0 : Int) else a) = ((Int.toNat a : Nat) : Int) := by split <;> omega

set_option maxRecDepth 100000 in
set_option maxHeartbeats 2000000 in
theorem shaKeys_fn (key s : ByteArray) (z : Int) : FnP Tryd.prog 6 #[.string key, .string s, .int .i64 z] (Roots) (.bool true) := by
  refine FnP.intro (c := codeOf Tryd.f6) [.tmp 6] 54 Tryd.func6 (by kernel_rfl) (by kernel_rfl) (by kernel_rfl) fun w hpre => ?_
  have H0 := St.start w
  refine g_sreg [0] (by kernel_rfl) (by kernel_rfl) ?_
  refine s_val (some 6) (.bool false) (fun w => by kernel_rfl) (by kernel_rfl) ?_
  refine s_nil ?_
  refine D2.g_sdraw [0, 1, 2, 3, 4, 5, 6, 7, 8, 9, 10, 11] [((some 8), fun _ => .string key), ((some 9), fun _ => .string key), ((some 10), fun _ => .int .i64 ((ByteArray.size key : Nat) : Int)), ((some 11), fun _ => .int .i64 ((min (ByteArray.size key) 200 : Nat) : Int)), ((some 12), fun _ => .string (ByteArray.extract key 0 (min (ByteArray.size key) 200))), ((some 13), fun _ => .string s), ((some 14), fun _ => .string s), ((some 15), fun _ => .int .i64 ((ByteArray.size s : Nat) : Int)), ((some 16), fun _ => .int .i64 ((min (ByteArray.size s) 500 : Nat) : Int)), ((some 17), fun _ => .string (ByteArray.extract s 0 (min (ByteArray.size s) 500))), ((some 0), fun _ => .string (ByteArray.extract key 0 (min (ByteArray.size key) 200))), ((some 1), fun _ => .string (ByteArray.extract s 0 (min (ByteArray.size s) 500)))] (D2.Pre w.heap.size w (fun L g => []) (fun L g => True)) (by kernel_rfl) (by kernel_rfl) (by kernel_rfl) (by kernel_rfl) ⟨D2.StE.of H0.drew _ (by kernel_rfl), trivial⟩ ⟨?_, ?_, ?_, ?_, ?_, ?_, ?_, ?_, ?_, ?_, ?_, ?_, trivial⟩ ?_
  · exact D2.gv_val (fun _ _ _ h => h) (fun g w => by kernel_rfl)
  · exact D2.gv_val (fun _ _ _ h => h) (fun g w => by kernel_rfl)
  · exact D2.gv_val (fun _ _ _ h => h) (fun g w => by kernel_rfl)
  · exact D2.gv_valE (fun _ _ _ h => h) (V' := .int .i64 (if (200 : Int) < (((ByteArray.size key : Nat) : Int) : Int) then (200 : Int) else (((ByteArray.size key : Nat) : Int) : Int))) (fun g w => by kernel_rfl) (int_eq (minN (ByteArray.size key) 200))
  · exact D2.gv_op (fun _ _ _ h => h) _ (fun g => by kernel_rfl) (fun g => (fun o w ho => scut_run (t := 9) (kd := .i64) (by kernel_rfl) (x := (.tmp 8)) (y := (.tmp 11)) key (min (ByteArray.size key) 200) ho (by kernel_rfl) (by kernel_rfl) (by omega) w))
  · exact D2.gv_val (fun _ _ _ h => h) (fun g w => by kernel_rfl)
  · exact D2.gv_val (fun _ _ _ h => h) (fun g w => by kernel_rfl)
  · exact D2.gv_val (fun _ _ _ h => h) (fun g w => by kernel_rfl)
  · exact D2.gv_valE (fun _ _ _ h => h) (V' := .int .i64 (if (500 : Int) < (((ByteArray.size s : Nat) : Int) : Int) then (500 : Int) else (((ByteArray.size s : Nat) : Int) : Int))) (fun g w => by kernel_rfl) (int_eq (minN (ByteArray.size s) 500))
  · exact D2.gv_op (fun _ _ _ h => h) _ (fun g => by kernel_rfl) (fun g => (fun o w ho => scut_run (t := 9) (kd := .i64) (by kernel_rfl) (x := (.tmp 13)) (y := (.tmp 16)) s (min (ByteArray.size s) 500) ho (by kernel_rfl) (by kernel_rfl) (by omega) w))
  · exact D2.gv_val (fun _ _ _ h => h) (fun g w => by kernel_rfl)
  · exact D2.gv_val (fun _ _ _ h => h) (fun g w => by kernel_rfl)
  intro L0 G1 w1 hall HL; clear H0
  have H1 : St w.heap.size w w1 [] := D2.StE.st HL.1
  clear HL hall
  refine g_sreg [0, 1, 2, 3, 4] (by kernel_rfl) (by kernel_rfl) ?_
  have hS : ByteArray.size (ByteArray.extract s 0 (min (ByteArray.size s) 500)) ≤ 500 := by rw [ext_size _ _ _ (Nat.min_le_left _ _)]; omega
  have hK : ByteArray.size (ByteArray.extract key 0 (min (ByteArray.size key) 200)) ≤ 200 := by rw [ext_size _ _ _ (Nat.min_le_left _ _)]; omega
  refine s_val (some 18) (.string (ByteArray.extract key 0 (min (ByteArray.size key) 200))) (fun w => by kernel_rfl) (by kernel_rfl) ?_
  refine s_val (some 19) (.string (ByteArray.extract s 0 (min (ByteArray.size s) 500))) (fun w => by kernel_rfl) (by kernel_rfl) ?_
  refine s_new H1 (some 20) (fun b => .slice (some ⟨b, 0, none⟩) 1 1) #[.string (ByteArray.extract s 0 (min (ByteArray.size s) 500))] 9 (fun w => by kernel_rfl) (by kernel_rfl) ?_
  intro b1 w2 H2; clear H1
  refine s_callP H2 (some 21) 11 #[.string (ByteArray.extract key 0 (min (ByteArray.size key) 200)), .slice (some ⟨b1, 0, none⟩) 1 1] (fun w => Roots w ∧ w.heap[b1]? = some (.cells #[.string (ByteArray.extract s 0 (min (ByteArray.size s) 500))] 9 (0, 0))) (.string (strB (macB (tl (ByteArray.extract key 0 (min (ByteArray.size key) 200))) (tl (ByteArray.extract s 0 (min (ByteArray.size s) 500)))))) (mac_fn1 (ByteArray.extract key 0 (min (ByteArray.size key) 200)) (by first | assumption | omega) b1 (ByteArray.extract s 0 (min (ByteArray.size s) 500)) (by first | assumption | omega)) (⟨(Roots.old H2 rfl hpre), (H2.get 0 (by kernel_rfl))⟩) (fun w => by kernel_rfl) (by kernel_rfl) ?_
  intro w3 H3; clear H2
  refine s_val (some 7) (.string (strB (macB (tl (ByteArray.extract key 0 (min (ByteArray.size key) 200))) (tl (ByteArray.extract s 0 (min (ByteArray.size s) 500)))))) (fun w => by kernel_rfl) (by kernel_rfl) ?_
  refine s_nil ?_
  refine g_seq (by kernel_rfl) ?_
  refine g_sreg [0, 1, 2] (by kernel_rfl) (by kernel_rfl) ?_
  refine s_val (some 22) (.string (ByteArray.extract key 0 (min (ByteArray.size key) 200))) (fun w => by kernel_rfl) (by kernel_rfl) ?_
  refine s_val (some 23) (.int .i64 ((ByteArray.size (ByteArray.extract key 0 (min (ByteArray.size key) 200)) : Nat) : Int)) (fun w => by kernel_rfl) (by kernel_rfl) ?_
  by_cases hc1 : (ByteArray.size (ByteArray.extract key 0 (min (ByteArray.size key) 200)) : Nat) > 64
  · skip
    refine s_valE (some 24) (.bool (decide (64 < ((ByteArray.size (ByteArray.extract key 0 (min (ByteArray.size key) 200)) : Nat) : Int)))) (.bool true) (fun w => by kernel_rfl) (bool_eq (decide_eq_true (by omega))) (by kernel_rfl) ?_
    refine s_nil ?_
    refine g_cond_t (by kernel_rfl) (by kernel_rfl) ?_
    refine g_sreg [0, 1, 2, 3, 4, 5, 6, 7, 8, 9, 10] (by kernel_rfl) (by kernel_rfl) ?_
    have hks : ByteArray.size (strB (sumB (tl (ByteArray.extract key 0 (min (ByteArray.size key) 200))))) ≤ 100000000000000000 := by rw [sumB_size]; omega
    refine s_callP H3 (some 25) 8 #[] (Roots) (.bool true) alive_fn (Roots.old H3 rfl hpre) (fun w => by kernel_rfl) (by kernel_rfl) ?_
    intro w4 H4; clear H3
    refine s_val (some 26) (.bool true) (fun w => by kernel_rfl) (by kernel_rfl) ?_
    refine s_val (some 27) (.string (strB (macB (tl (ByteArray.extract key 0 (min (ByteArray.size key) 200))) (tl (ByteArray.extract s 0 (min (ByteArray.size s) 500)))))) (fun w => by kernel_rfl) (by kernel_rfl) ?_
    refine s_val (some 28) (.string (ByteArray.extract key 0 (min (ByteArray.size key) 200))) (fun w => by kernel_rfl) (by kernel_rfl) ?_
    refine s_callP H4 (some 29) 9 #[.string (ByteArray.extract key 0 (min (ByteArray.size key) 200))] (Roots) (.string (strB (sumB (tl (ByteArray.extract key 0 (min (ByteArray.size key) 200)))))) (sum_fn (ByteArray.extract key 0 (min (ByteArray.size key) 200)) (by first | assumption | omega)) (Roots.old H4 rfl hpre) (fun w => by kernel_rfl) (by kernel_rfl) ?_
    intro w5 H5; clear H4
    refine s_val (some 30) (.string (ByteArray.extract s 0 (min (ByteArray.size s) 500))) (fun w => by kernel_rfl) (by kernel_rfl) ?_
    refine s_new H5 (some 31) (fun b => .slice (some ⟨b, 0, none⟩) 1 1) #[.string (ByteArray.extract s 0 (min (ByteArray.size s) 500))] 9 (fun w => by kernel_rfl) (by kernel_rfl) ?_
    intro b2 w6 H6; clear H5
    refine s_callP H6 (some 32) 11 #[.string (strB (sumB (tl (ByteArray.extract key 0 (min (ByteArray.size key) 200))))), .slice (some ⟨b2, 0, none⟩) 1 1] (fun w => Roots w ∧ w.heap[b2]? = some (.cells #[.string (ByteArray.extract s 0 (min (ByteArray.size s) 500))] 9 (0, 0))) (.string (strB (macB (tl (ByteArray.extract key 0 (min (ByteArray.size key) 200))) (tl (ByteArray.extract s 0 (min (ByteArray.size s) 500)))))) (by rw [show macB (tl (ByteArray.extract key 0 (min (ByteArray.size key) 200))) (tl (ByteArray.extract s 0 (min (ByteArray.size s) 500))) = macB (sumB (tl (ByteArray.extract key 0 (min (ByteArray.size key) 200)))) (tl (ByteArray.extract s 0 (min (ByteArray.size s) 500))) from (macB_long (tl (ByteArray.extract key 0 (min (ByteArray.size key) 200))) (tl (ByteArray.extract s 0 (min (ByteArray.size s) 500))) (show List.length (tl (ByteArray.extract key 0 (min (ByteArray.size key) 200))) > 64 by rw [tl_len]; omega)).symm]; exact (mac_fn1 (strB (sumB (tl (ByteArray.extract key 0 (min (ByteArray.size key) 200))))) (by first | assumption | omega) b2 (ByteArray.extract s 0 (min (ByteArray.size s) 500)) (by first | assumption | omega))) (⟨(Roots.old H6 rfl hpre), (H6.get 0 (by kernel_rfl))⟩) (fun w => by kernel_rfl) (by kernel_rfl) ?_
    intro w7 H7; clear H6
    refine s_valE (some 33) (.bool (ByteArray.toList (strB (macB (tl (ByteArray.extract key 0 (min (ByteArray.size key) 200))) (tl (ByteArray.extract s 0 (min (ByteArray.size s) 500))))) == ByteArray.toList (strB (macB (tl (ByteArray.extract key 0 (min (ByteArray.size key) 200))) (tl (ByteArray.extract s 0 (min (ByteArray.size s) 500))))))) (.bool true) (fun w => by kernel_rfl) (bool_eq (str_self (strB (macB (tl (ByteArray.extract key 0 (min (ByteArray.size key) 200))) (tl (ByteArray.extract s 0 (min (ByteArray.size s) 500))))))) (by kernel_rfl) ?_
    refine s_val (some 34) (.bool true) (fun w => by kernel_rfl) (by kernel_rfl) ?_
    refine s_val (some 6) (.bool true) (fun w => by kernel_rfl) (by kernel_rfl) ?_
    refine s_nil ?_
    refine g_ret (by kernel_rfl) ?_
    show ∃ vs, Res _ _ _ _ vs ∧ _
    refine ⟨[.bool true], (.tmp (.bool true) (by kernel_rfl) .nil), ?_, H7.below⟩
    rfl
  · skip
    refine s_valE (some 24) (.bool (decide (64 < ((ByteArray.size (ByteArray.extract key 0 (min (ByteArray.size key) 200)) : Nat) : Int)))) (.bool false) (fun w => by kernel_rfl) (bool_eq (decide_eq_false (by omega))) (by kernel_rfl) ?_
    refine s_nil ?_
    refine g_cond_f (by kernel_rfl) (by kernel_rfl) ?_
    refine g_skip (by kernel_rfl) ?_
    show WP _ _ _ _ _ _
    refine g_sreg [0, 1, 2, 3, 4, 5, 6] (by kernel_rfl) (by kernel_rfl) ?_
    refine s_val (some 35) (.int .i64 z) (fun w => by kernel_rfl) (by kernel_rfl) ?_
    refine s_valE (some 36) (.int .i64 (if (0 : Int) > (z : Int) then (0 : Int) else (z : Int))) (.int .i64 ((Int.toNat z : Nat) : Int)) (fun w => by kernel_rfl) (int_eq (max0 z)) (by kernel_rfl) ?_
    refine s_val (some 37) (.string (ByteArray.extract key 0 (min (ByteArray.size key) 200))) (fun w => by kernel_rfl) (by kernel_rfl) ?_
    refine s_val (some 38) (.int .i64 ((ByteArray.size (ByteArray.extract key 0 (min (ByteArray.size key) 200)) : Nat) : Int)) (fun w => by kernel_rfl) (by kernel_rfl) ?_
    refine s_valE (some 39) (.int .i64 (IntKind.i64.wrap (64 - ((ByteArray.size (ByteArray.extract key 0 (min (ByteArray.size key) 200)) : Nat) : Int)))) (.int .i64 ((64 - (ByteArray.size (ByteArray.extract key 0 (min (ByteArray.size key) 200))) : Nat) : Int)) (fun w => by kernel_rfl) (int_eq (wrapSub_i64 (a := 64) (b := ByteArray.size (ByteArray.extract key 0 (min (ByteArray.size key) 200))) (by omega))) (by kernel_rfl) ?_
    refine s_valE (some 40) (.int .i64 (if (((64 - (ByteArray.size (ByteArray.extract key 0 (min (ByteArray.size key) 200))) : Nat) : Int) : Int) < (((Int.toNat z : Nat) : Int) : Int) then (((64 - (ByteArray.size (ByteArray.extract key 0 (min (ByteArray.size key) 200))) : Nat) : Int) : Int) else (((Int.toNat z : Nat) : Int) : Int))) (.int .i64 ((min (Int.toNat z) (64 - (ByteArray.size (ByteArray.extract key 0 (min (ByteArray.size key) 200)))) : Nat) : Int)) (fun w => by kernel_rfl) (int_eq (minN (Int.toNat z) (64 - (ByteArray.size (ByteArray.extract key 0 (min (ByteArray.size key) 200)))))) (by kernel_rfl) ?_
    refine s_val (some 2) (.int .i64 ((min (Int.toNat z) (64 - (ByteArray.size (ByteArray.extract key 0 (min (ByteArray.size key) 200)))) : Nat) : Int)) (fun w => by kernel_rfl) (by kernel_rfl) ?_
    refine s_nil ?_
    refine g_sreg [0, 1, 2, 3, 4, 5, 6, 7, 8, 9, 10, 11, 12, 13] (by kernel_rfl) (by kernel_rfl) ?_
    refine s_callP H3 (some 41) 8 #[] (Roots) (.bool true) alive_fn (Roots.old H3 rfl hpre) (fun w => by kernel_rfl) (by kernel_rfl) ?_
    intro w8 H8; clear H3
    refine s_val (some 42) (.bool true) (fun w => by kernel_rfl) (by kernel_rfl) ?_
    refine s_val (some 43) (.string (strB (macB (tl (ByteArray.extract key 0 (min (ByteArray.size key) 200))) (tl (ByteArray.extract s 0 (min (ByteArray.size s) 500)))))) (fun w => by kernel_rfl) (by kernel_rfl) ?_
    refine s_val (some 44) (.string (ByteArray.extract key 0 (min (ByteArray.size key) 200))) (fun w => by kernel_rfl) (by kernel_rfl) ?_
    refine s_val (some 45) (.int .i64 ((min (Int.toNat z) (64 - (ByteArray.size (ByteArray.extract key 0 (min (ByteArray.size key) 200)))) : Nat) : Int)) (fun w => by kernel_rfl) (by kernel_rfl) ?_
    refine s_make H8 (some 46) 38 5 1 (.int .u8 0) (.tmp 45) (.tmp 45) .i64 .i64 (min (Int.toNat z) (64 - (ByteArray.size (ByteArray.extract key 0 (min (ByteArray.size key) 200))))) (by kernel_rfl) (by kernel_rfl) (by kernel_rfl) (by kernel_rfl) rfl (by kernel_rfl) (by kernel_rfl) (by omega) (by unfold maxLen; omega) ?_
    intro b_1 cur_2 w9 H9 hr_3; clear H8
    have hr_3z : Rw 1 cur_2 (min (Int.toNat z) (64 - (ByteArray.size (ByteArray.extract key 0 (min (ByteArray.size key) 200))))) (min (Int.toNat z) (64 - (ByteArray.size (ByteArray.extract key 0 (min (ByteArray.size key) 200))))) (cellsB (List.replicate (min (Int.toNat z) (64 - (ByteArray.size (ByteArray.extract key 0 (min (ByteArray.size key) 200))))) 0)) := by rw [cellsB_zeros]; exact hr_3
    refine s_bytesStrB H9 (some 47) 38 9 5 (.tmp 46) 0 b_1 (min (Int.toNat z) (64 - (ByteArray.size (ByteArray.extract key 0 (min (ByteArray.size key) 200))))) (min (Int.toNat z) (64 - (ByteArray.size (ByteArray.extract key 0 (min (ByteArray.size key) 200))))) cur_2 5 (0, 0) (List.replicate (min (Int.toNat z) (64 - (ByteArray.size (ByteArray.extract key 0 (min (ByteArray.size key) 200))))) 0) (by kernel_rfl) (by kernel_rfl) (by kernel_rfl) (by kernel_rfl) (by kernel_rfl) (by kernel_rfl) (by kernel_rfl) hr_3z ?_
    have hz1 : ByteArray.size (ByteArray.extract key 0 (min (ByteArray.size key) 200)) + (min (Int.toNat z) (64 - (ByteArray.size (ByteArray.extract key 0 (min (ByteArray.size key) 200))))) ≤ 64 := by have := Nat.min_le_right (Int.toNat z) (64 - ByteArray.size (ByteArray.extract key 0 (min (ByteArray.size key) 200))); omega
    have hzs : ByteArray.size (strB (List.replicate (min (Int.toNat z) (64 - (ByteArray.size (ByteArray.extract key 0 (min (ByteArray.size key) 200))))) 0)) = (min (Int.toNat z) (64 - (ByteArray.size (ByteArray.extract key 0 (min (ByteArray.size key) 200))))) := by rw [strB_size, List.length_replicate]
    have hkz : ByteArray.size ((ByteArray.extract key 0 (min (ByteArray.size key) 200)) ++ (strB (List.replicate (min (Int.toNat z) (64 - (ByteArray.size (ByteArray.extract key 0 (min (ByteArray.size key) 200))))) 0))) ≤ 100000000000000000 := by rw [show ByteArray.size ((ByteArray.extract key 0 (min (ByteArray.size key) 200)) ++ (strB (List.replicate (min (Int.toNat z) (64 - (ByteArray.size (ByteArray.extract key 0 (min (ByteArray.size key) 200))))) 0))) = ByteArray.size (ByteArray.extract key 0 (min (ByteArray.size key) 200)) + (min (Int.toNat z) (64 - (ByteArray.size (ByteArray.extract key 0 (min (ByteArray.size key) 200))))) by rw [← tl_len, tl_add, List.length_append, tl_len, tl_strB, List.length_replicate]]; omega
    refine s_op (some 48) _ (.string ((ByteArray.extract key 0 (min (ByteArray.size key) 200)) ++ (strB (List.replicate (min (Int.toNat z) (64 - (ByteArray.size (ByteArray.extract key 0 (min (ByteArray.size key) 200))))) 0)))) (by kernel_rfl) (by kernel_rfl) (fun o w ho => sadd_run (t := 9) (t' := 9) (x := (.tmp 44)) (y := (.tmp 47)) (ByteArray.extract key 0 (min (ByteArray.size key) 200)) (strB (List.replicate (min (Int.toNat z) (64 - (ByteArray.size (ByteArray.extract key 0 (min (ByteArray.size key) 200))))) 0)) w ho (by kernel_rfl) (by kernel_rfl) (by omega)) ?_
    refine s_val (some 49) (.string (ByteArray.extract s 0 (min (ByteArray.size s) 500))) (fun w => by kernel_rfl) (by kernel_rfl) ?_
    refine s_new H9 (some 50) (fun b => .slice (some ⟨b, 0, none⟩) 1 1) #[.string (ByteArray.extract s 0 (min (ByteArray.size s) 500))] 9 (fun w => by kernel_rfl) (by kernel_rfl) ?_
    intro b3 w10 H10; clear H9
    refine s_callP H10 (some 51) 11 #[.string ((ByteArray.extract key 0 (min (ByteArray.size key) 200)) ++ (strB (List.replicate (min (Int.toNat z) (64 - (ByteArray.size (ByteArray.extract key 0 (min (ByteArray.size key) 200))))) 0))), .slice (some ⟨b3, 0, none⟩) 1 1] (fun w => Roots w ∧ w.heap[b3]? = some (.cells #[.string (ByteArray.extract s 0 (min (ByteArray.size s) 500))] 9 (0, 0))) (.string (strB (macB (tl (ByteArray.extract key 0 (min (ByteArray.size key) 200))) (tl (ByteArray.extract s 0 (min (ByteArray.size s) 500)))))) (by rw [show macB (tl (ByteArray.extract key 0 (min (ByteArray.size key) 200))) (tl (ByteArray.extract s 0 (min (ByteArray.size s) 500))) = macB (tl ((ByteArray.extract key 0 (min (ByteArray.size key) 200)) ++ (strB (List.replicate (min (Int.toNat z) (64 - (ByteArray.size (ByteArray.extract key 0 (min (ByteArray.size key) 200))))) 0)))) (tl (ByteArray.extract s 0 (min (ByteArray.size s) 500))) from (by rw [tl_add, tl_strB]; exact (macB_zeros (tl (ByteArray.extract key 0 (min (ByteArray.size key) 200))) (tl (ByteArray.extract s 0 (min (ByteArray.size s) 500))) (min (Int.toNat z) (64 - (ByteArray.size (ByteArray.extract key 0 (min (ByteArray.size key) 200))))) hz1).symm)]; exact (mac_fn1 ((ByteArray.extract key 0 (min (ByteArray.size key) 200)) ++ (strB (List.replicate (min (Int.toNat z) (64 - (ByteArray.size (ByteArray.extract key 0 (min (ByteArray.size key) 200))))) 0))) (by first | assumption | omega) b3 (ByteArray.extract s 0 (min (ByteArray.size s) 500)) (by first | assumption | omega))) (⟨(Roots.old H10 rfl hpre), (H10.get 0 (by kernel_rfl))⟩) (fun w => by kernel_rfl) (by kernel_rfl) ?_
    intro w11 H11; clear H10
    refine s_valE (some 52) (.bool (ByteArray.toList (strB (macB (tl (ByteArray.extract key 0 (min (ByteArray.size key) 200))) (tl (ByteArray.extract s 0 (min (ByteArray.size s) 500))))) == ByteArray.toList (strB (macB (tl (ByteArray.extract key 0 (min (ByteArray.size key) 200))) (tl (ByteArray.extract s 0 (min (ByteArray.size s) 500))))))) (.bool true) (fun w => by kernel_rfl) (bool_eq (str_self (strB (macB (tl (ByteArray.extract key 0 (min (ByteArray.size key) 200))) (tl (ByteArray.extract s 0 (min (ByteArray.size s) 500))))))) (by kernel_rfl) ?_
    refine s_val (some 53) (.bool true) (fun w => by kernel_rfl) (by kernel_rfl) ?_
    refine s_val (some 6) (.bool true) (fun w => by kernel_rfl) (by kernel_rfl) ?_
    refine s_nil ?_
    refine g_ret (by kernel_rfl) ?_
    show ∃ vs, Res _ _ _ _ vs ∧ _
    refine ⟨[.bool true], (.tmp (.bool true) (by kernel_rfl) .nil), ?_, H11.below⟩
    rfl
end Go.Proofs.YtjhldipeicpoeaaDoor
