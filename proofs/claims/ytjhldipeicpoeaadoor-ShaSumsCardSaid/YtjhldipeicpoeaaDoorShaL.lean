/-
  Sums, with a key and without; what the law asks first.
-/
import Derived.Test.YtjhldipeicpoeaaDoorProg
import Derived.Test.YtjhldipeicpoeaaDoorShaM
import Derived.Test.YtjhldipeicpoeaaDoorShaE
namespace Go.Proofs.YtjhldipeicpoeaaDoor
open Go Go.RowKit Go.Proofs.Sha
set_option linter.unusedVariables false
set_option maxRecDepth 100000 in
set_option maxHeartbeats 2000000 in
theorem begin_fn  : Fn Tryd.prog 17 #[] (pdV beg) := by
  refine Fn.intro (c := codeOf Tryd.f17) [.cell 0 45] 3 Tryd.func17 (by kernel_rfl) (by kernel_rfl) (by kernel_rfl) fun w => ?_
  have H0 := St.start w
  refine g_sreg [0] (by kernel_rfl) (by kernel_rfl) ?_
  refine s_alloc H0 (some 0) 45 (.agg #[.int .u32 0, .int .u32 0, .int .u32 0, .int .u32 0, .int .u32 0, .int .u32 0, .int .u32 0, .int .u32 0, .int .u32 0, .int .u32 0, .int .u32 0, .int .u32 0, .int .u32 0, .int .u32 0, .int .u32 0, .int .u32 0, .int .u32 0, .int .u32 0, .int .u32 0, .int .u32 0, .int .u32 0, .int .u32 0, .int .u32 0, .int .u32 0, .int .u64 0]) (by kernel_rfl) (by kernel_rfl) (by kernel_rfl) ?_
  intro b1 w1 H1; clear H0
  refine s_nil ?_
  refine g_sreg [0, 1, 2] (by kernel_rfl) (by kernel_rfl) ?_
  refine s_val (some 1) (.agg #[.int .u32 1779033703, .int .u32 3144134277, .int .u32 1013904242, .int .u32 2773480762, .int .u32 1359893119, .int .u32 2600822924, .int .u32 528734635, .int .u32 1541459225]) (fun w => by kernel_rfl) (by kernel_rfl) ?_
  refine s_val (some 2) (.agg #[.int .u32 1779033703, .int .u32 3144134277, .int .u32 1013904242, .int .u32 2773480762, .int .u32 1359893119, .int .u32 2600822924, .int .u32 528734635, .int .u32 1541459225, .int .u32 0, .int .u32 0, .int .u32 0, .int .u32 0, .int .u32 0, .int .u32 0, .int .u32 0, .int .u32 0, .int .u32 0, .int .u32 0, .int .u32 0, .int .u32 0, .int .u32 0, .int .u32 0, .int .u32 0, .int .u32 0, .int .u64 0]) (fun w => by kernel_rfl) (by kernel_rfl) ?_
  refine s_store H1 0 [(b1, Obj.cells #[.int .u32 1779033703, .int .u32 3144134277, .int .u32 1013904242, .int .u32 2773480762, .int .u32 1359893119, .int .u32 2600822924, .int .u32 528734635, .int .u32 1541459225, .int .u32 0, .int .u32 0, .int .u32 0, .int .u32 0, .int .u32 0, .int .u32 0, .int .u32 0, .int .u32 0, .int .u32 0, .int .u32 0, .int .u32 0, .int .u32 0, .int .u32 0, .int .u32 0, .int .u32 0, .int .u32 0, .int .u64 0] 45 (0, 0))] 45 (.tmp 0) (.tmp 2) b1 (0) #[.int .u32 0, .int .u32 0, .int .u32 0, .int .u32 0, .int .u32 0, .int .u32 0, .int .u32 0, .int .u32 0, .int .u32 0, .int .u32 0, .int .u32 0, .int .u32 0, .int .u32 0, .int .u32 0, .int .u32 0, .int .u32 0, .int .u32 0, .int .u32 0, .int .u32 0, .int .u32 0, .int .u32 0, .int .u32 0, .int .u32 0, .int .u32 0, .int .u64 0] #[.int .u32 1779033703, .int .u32 3144134277, .int .u32 1013904242, .int .u32 2773480762, .int .u32 1359893119, .int .u32 2600822924, .int .u32 528734635, .int .u32 1541459225, .int .u32 0, .int .u32 0, .int .u32 0, .int .u32 0, .int .u32 0, .int .u32 0, .int .u32 0, .int .u32 0, .int .u32 0, .int .u32 0, .int .u32 0, .int .u32 0, .int .u32 0, .int .u32 0, .int .u32 0, .int .u32 0, .int .u64 0] 45 (.agg #[.int .u32 1779033703, .int .u32 3144134277, .int .u32 1013904242, .int .u32 2773480762, .int .u32 1359893119, .int .u32 2600822924, .int .u32 528734635, .int .u32 1541459225, .int .u32 0, .int .u32 0, .int .u32 0, .int .u32 0, .int .u32 0, .int .u32 0, .int .u32 0, .int .u32 0, .int .u32 0, .int .u32 0, .int .u32 0, .int .u32 0, .int .u32 0, .int .u32 0, .int .u32 0, .int .u32 0, .int .u64 0]) (by kernel_rfl) (by kernel_rfl) (by kernel_rfl) (by kernel_rfl) (by kernel_rfl) (by kernel_rfl) (of_decide_eq_true (by kernel_rfl)) (by kernel_rfl) (by kernel_rfl) ?_
  intro w2 H2; clear H1
  refine s_nil ?_
  refine g_ret (by kernel_rfl) ?_
  show ∃ vs, Res _ _ _ _ vs ∧ _
  refine ⟨[.agg #[.int .u32 1779033703, .int .u32 3144134277, .int .u32 1013904242, .int .u32 2773480762, .int .u32 1359893119, .int .u32 2600822924, .int .u32 528734635, .int .u32 1541459225, .int .u32 0, .int .u32 0, .int .u32 0, .int .u32 0, .int .u32 0, .int .u32 0, .int .u32 0, .int .u32 0, .int .u32 0, .int .u32 0, .int .u32 0, .int .u32 0, .int .u32 0, .int .u32 0, .int .u32 0, .int .u32 0, .int .u64 0]], (.agg (b := b1) #[.int .u32 1779033703, .int .u32 3144134277, .int .u32 1013904242, .int .u32 2773480762, .int .u32 1359893119, .int .u32 2600822924, .int .u32 528734635, .int .u32 1541459225, .int .u32 0, .int .u32 0, .int .u32 0, .int .u32 0, .int .u32 0, .int .u32 0, .int .u32 0, .int .u32 0, .int .u32 0, .int .u32 0, .int .u32 0, .int .u32 0, .int .u32 0, .int .u32 0, .int .u32 0, .int .u32 0, .int .u64 0] 45 (0, 0) (by kernel_rfl) (H2.get 0 (by kernel_rfl)) (by kernel_rfl) .nil), ?_, H2.below⟩
  kernel_rfl

set_option maxRecDepth 100000 in
set_option maxHeartbeats 2000000 in
theorem sum_fn (s : ByteArray) (hs : ByteArray.size s ≤ 100000000000000000) : FnP Tryd.prog 9 #[.string s] (Roots) (.string (strB (sumB (tl s)))) := by
  refine FnP.intro (c := codeOf Tryd.f9) [.tmp 2] 7 Tryd.func9 (by kernel_rfl) (by kernel_rfl) (by kernel_rfl) fun w hpre => ?_
  have H0 := St.start w
  refine g_sreg [0] (by kernel_rfl) (by kernel_rfl) ?_
  refine s_val (some 2) (.string (⟨#[]⟩)) (fun w => by kernel_rfl) (by kernel_rfl) ?_
  refine s_nil ?_
  refine g_sreg [0, 1, 2, 3, 4] (by kernel_rfl) (by kernel_rfl) ?_
  refine s_call H0 (some 3) 17 #[] (pdV beg) begin_fn (fun w => by kernel_rfl) (by kernel_rfl) ?_
  intro w1 H1; clear H0
  refine s_val (some 4) (.string s) (fun w => by kernel_rfl) (by kernel_rfl) ?_
  refine s_callP H1 (some 5) 18 #[pdV beg, .string s] (Roots) (pdV (takeB beg (tl s))) (take_fn beg s (Nat.le_trans (show Pd.n beg ≤ 0 from Nat.le_refl _) (by decide)) (Nat.le_trans (show List.length (tl s) ≤ 100000000000000000 from hs) (by decide))) (Roots.old H1 rfl hpre) (fun w => by kernel_rfl) (by kernel_rfl) ?_
  intro w2 H2; clear H1
  refine s_callP H2 (some 6) 19 #[pdV (takeB beg (tl s))] (Roots) (.string (strB (endB (takeB beg (tl s))))) (end_fn (takeB beg (tl s)) (Nat.le_trans (takeB_bd (show Pd.n beg ≤ 0 from Nat.le_refl _) (show List.length (tl s) ≤ 100000000000000000 from hs)) (by decide))) (Roots.old H2 rfl hpre) (fun w => by kernel_rfl) (by kernel_rfl) ?_
  intro w3 H3; clear H2
  refine s_val (some 2) (.string (strB (endB (takeB beg (tl s))))) (fun w => by kernel_rfl) (by kernel_rfl) ?_
  refine s_nil ?_
  refine g_ret (by kernel_rfl) ?_
  show ∃ vs, Res _ _ _ _ vs ∧ _
  refine ⟨[.string (strB (endB (takeB beg (tl s))))], (.tmp (.string (strB (endB (takeB beg (tl s))))) (by kernel_rfl) .nil), ?_, H3.below⟩
  rfl

theorem takeB_nil (p : Pd) : takeB p [] = p := rfl
theorem mac_big0 (K : List UInt8)  (h : K.length > 64) : macB K ([]) = endB (takeB (takeB beg (maskB (sumB K) 92)) (endB (takeB beg (maskB (sumB K) 54)))) := by
  unfold macB keyB mac64; rw [if_pos h, takeB_nil]
theorem mac_small0 (K : List UInt8)  (h : ¬ K.length > 64) : macB K ([]) = endB (takeB (takeB beg (maskB K 92)) (endB (takeB beg (maskB K 54)))) := by
  unfold macB keyB mac64; rw [if_neg h, takeB_nil]
theorem mac_big1 (K : List UInt8) (l1 : List UInt8) (h : K.length > 64) : macB K (l1) = endB (takeB (takeB beg (maskB (sumB K) 92)) (endB (takeB (takeB beg (maskB (sumB K) 54)) l1))) := by
  unfold macB keyB mac64; rw [if_pos h]
theorem mac_small1 (K : List UInt8) (l1 : List UInt8) (h : ¬ K.length > 64) : macB K (l1) = endB (takeB (takeB beg (maskB K 92)) (endB (takeB (takeB beg (maskB K 54)) l1))) := by
  unfold macB keyB mac64; rw [if_neg h]
theorem mac_big2 (K : List UInt8) (l1 : List UInt8) (l2 : List UInt8) (h : K.length > 64) : macB K (l1 ++ l2) = endB (takeB (takeB beg (maskB (sumB K) 92)) (endB (takeB (takeB (takeB beg (maskB (sumB K) 54)) l1) l2))) := by
  unfold macB keyB mac64; rw [if_pos h, takeB_append]
theorem mac_small2 (K : List UInt8) (l1 : List UInt8) (l2 : List UInt8) (h : ¬ K.length > 64) : macB K (l1 ++ l2) = endB (takeB (takeB beg (maskB K 92)) (endB (takeB (takeB (takeB beg (maskB K 54)) l1) l2))) := by
  unfold macB keyB mac64; rw [if_neg h, takeB_append]

set_option maxRecDepth 100000 in
set_option maxHeartbeats 2000000 in
theorem mac_fn0 (key : ByteArray) (hkey : ByteArray.size key ≤ 100000000000000000) : FnP Tryd.prog 11 #[.string key, .slice none 0 0] (Roots) (.string (strB (macB (tl key) []))) := by
  refine FnP.intro (c := codeOf Tryd.f11) [.tmp 4] 35 Tryd.func11 (by kernel_rfl) (by kernel_rfl) (by kernel_rfl) fun w hpre => ?_
  have H0 := St.start w
  refine g_sreg [0] (by kernel_rfl) (by kernel_rfl) ?_
  refine s_val (some 4) (.string (⟨#[]⟩)) (fun w => by kernel_rfl) (by kernel_rfl) ?_
  refine s_nil ?_
  refine g_seq (by kernel_rfl) ?_
  refine g_sreg [0, 1, 2] (by kernel_rfl) (by kernel_rfl) ?_
  refine s_val (some 8) (.string key) (fun w => by kernel_rfl) (by kernel_rfl) ?_
  refine s_val (some 9) (.int .i64 ((ByteArray.size key : Nat) : Int)) (fun w => by kernel_rfl) (by kernel_rfl) ?_
  by_cases hc1 : (ByteArray.size key : Nat) > 64
  · skip
    refine s_valE (some 10) (.bool (decide (64 < ((ByteArray.size key : Nat) : Int)))) (.bool true) (fun w => by kernel_rfl) (bool_eq (decide_eq_true (by omega))) (by kernel_rfl) ?_
    refine s_nil ?_
    refine g_cond_t (by kernel_rfl) (by kernel_rfl) ?_
    refine g_reg0 [0, 1, 2] (by kernel_rfl) ?_
    refine s_val (some 11) (.string key) (fun w => by kernel_rfl) (by kernel_rfl) ?_
    refine s_callP H0 (some 12) 9 #[.string key] (Roots) (.string (strB (sumB (tl key)))) (sum_fn key (by first | assumption | omega)) (Roots.old H0 rfl hpre) (fun w => by kernel_rfl) (by kernel_rfl) ?_
    intro w1 H1; clear H0
    refine s_val (some 0) (.string (strB (sumB (tl key)))) (fun w => by kernel_rfl) (by kernel_rfl) ?_
    refine s_nil ?_
    show WP _ _ _ _ _ _
    refine g_sreg [0, 1, 2, 3, 4, 5] (by kernel_rfl) (by kernel_rfl) ?_
    refine s_call H1 (some 13) 17 #[] (pdV beg) begin_fn (fun w => by kernel_rfl) (by kernel_rfl) ?_
    intro w2 H2; clear H1
    refine s_val (some 14) (.string (strB (sumB (tl key)))) (fun w => by kernel_rfl) (by kernel_rfl) ?_
    refine s_call H2 (some 15) 21 #[.string (strB (sumB (tl key))), .int .u8 54] (.string (strB (maskB (sumB (tl key)) 54))) (masked_fn (strB (sumB (tl key))) (by rw [strB_size, sumB_len]; omega) 54) (fun w => by kernel_rfl) (by kernel_rfl) ?_
    intro w3 H3; clear H2
    refine s_callP H3 (some 16) 18 #[pdV beg, .string (strB (maskB (sumB (tl key)) 54))] (Roots) (pdV (takeB beg (maskB (sumB (tl key)) 54))) (take_fn beg (strB (maskB (sumB (tl key)) 54)) (Nat.le_trans (show Pd.n beg ≤ 0 from Nat.le_refl _) (by decide)) (Nat.le_trans (Nat.le_of_eq (maskB_len _ _)) (by decide))) (Roots.old H3 rfl hpre) (fun w => by kernel_rfl) (by kernel_rfl) ?_
    intro w4 H4; clear H3
    refine s_alloc H4 (some 5) 45 (.agg #[.int .u32 0, .int .u32 0, .int .u32 0, .int .u32 0, .int .u32 0, .int .u32 0, .int .u32 0, .int .u32 0, .int .u32 0, .int .u32 0, .int .u32 0, .int .u32 0, .int .u32 0, .int .u32 0, .int .u32 0, .int .u32 0, .int .u32 0, .int .u32 0, .int .u32 0, .int .u32 0, .int .u32 0, .int .u32 0, .int .u32 0, .int .u32 0, .int .u64 0]) (by kernel_rfl) (by kernel_rfl) (by kernel_rfl) ?_
    intro b1 w5 H5; clear H4
    refine s_store H5 0 [(b1, Obj.cells (Value.cells (pdV (takeB beg (maskB (sumB (tl key)) 54)))) 45 (0, 0))] 45 (.tmp 5) (.tmp 16) b1 (0) #[.int .u32 0, .int .u32 0, .int .u32 0, .int .u32 0, .int .u32 0, .int .u32 0, .int .u32 0, .int .u32 0, .int .u32 0, .int .u32 0, .int .u32 0, .int .u32 0, .int .u32 0, .int .u32 0, .int .u32 0, .int .u32 0, .int .u32 0, .int .u32 0, .int .u32 0, .int .u32 0, .int .u32 0, .int .u32 0, .int .u32 0, .int .u32 0, .int .u64 0] (Value.cells (pdV (takeB beg (maskB (sumB (tl key)) 54)))) 45 (pdV (takeB beg (maskB (sumB (tl key)) 54))) (by kernel_rfl) (by kernel_rfl) (by kernel_rfl) (by kernel_rfl) (by kernel_rfl) (by kernel_rfl) (of_decide_eq_true (by kernel_rfl)) (by kernel_rfl) (by kernel_rfl) ?_
    intro w6 H6; clear H5
    refine s_nil ?_
    refine g_seq (by kernel_rfl) ?_
    refine g_sreg [0, 1, 2] (by kernel_rfl) (by kernel_rfl) ?_
    refine s_val (some 17) (.slice none 0 0) (fun w => by kernel_rfl) (by kernel_rfl) ?_
    refine s_val (some 18) (.int .i64 0) (fun w => by kernel_rfl) (by kernel_rfl) ?_
    refine s_val (some 19) (.int .i64 0) (fun w => by kernel_rfl) (by kernel_rfl) ?_
    refine s_nil ?_
    refine g_block 0 (by kernel_rfl) ?_
    refine g_first (by kernel_rfl) ?_
    refine g_sreg [0] (by kernel_rfl) (by kernel_rfl) ?_
    refine s_val (some 20) (.bool false) (fun w => by kernel_rfl) (by kernel_rfl) ?_
    refine s_nil ?_
    refine g_seq (by kernel_rfl) ?_
    refine g_cond_f (by kernel_rfl) (by kernel_rfl) ?_
    refine g_exit 0 (by kernel_rfl) ?_
    show WP _ _ _ _ _ _
    refine D2.g_sdraw [0, 1, 2, 3, 4, 5, 6, 7, 8] [((some 27), fun _ => pdV beg), ((some 28), fun _ => .string (strB (sumB (tl key)))), ((some 29), fun _ => .string (strB (maskB (sumB (tl key)) 92))), ((some 30), fun _ => pdV (takeB beg (maskB (sumB (tl key)) 92))), ((some 31), fun _ => pdV (takeB beg (maskB (sumB (tl key)) 54))), ((some 32), fun _ => .string (strB (endB (takeB beg (maskB (sumB (tl key)) 54))))), ((some 33), fun _ => pdV (takeB (takeB beg (maskB (sumB (tl key)) 92)) (endB (takeB beg (maskB (sumB (tl key)) 54))))), ((some 34), fun _ => .string (strB (endB (takeB (takeB beg (maskB (sumB (tl key)) 92)) (endB (takeB beg (maskB (sumB (tl key)) 54))))))), ((some 4), fun _ => .string (strB (endB (takeB (takeB beg (maskB (sumB (tl key)) 92)) (endB (takeB beg (maskB (sumB (tl key)) 54)))))))] (D2.Pre w.heap.size w (fun L g => [(true, (b1, Obj.cells (Value.cells (pdV (takeB beg (maskB (sumB (tl key)) 54)))) 45 (0, 0)))]) (fun L g => True)) (by kernel_rfl) (by kernel_rfl) (by kernel_rfl) (by kernel_rfl) ⟨D2.StE.of H6.drew _ (by kernel_rfl), trivial⟩ ⟨?_, ?_, ?_, ?_, ?_, ?_, ?_, ?_, ?_, trivial⟩ ?_
    · exact D2.gv_call 17 #[] (fun _ _ _ h => h) begin_fn (fun g w => by kernel_rfl)
    · exact D2.gv_val (fun _ _ _ h => h) (fun g w => by kernel_rfl)
    · exact D2.gv_call 21 #[.string (strB (sumB (tl key))), .int .u8 92] (fun _ _ _ h => h) (masked_fn (strB (sumB (tl key))) (by rw [strB_size, sumB_len]; omega) 92) (fun g w => by kernel_rfl)
    · exact D2.gv_callP 18 (fun g => #[pdV beg, .string (strB (maskB (sumB (tl key)) 92))]) (fun g => Roots) (fun _ _ _ h => h) (fun L g hN hF => by exact (take_fn beg (strB (maskB (sumB (tl key)) 92)) (Nat.le_trans (show Pd.n beg ≤ 0 from Nat.le_refl _) (by decide)) (Nat.le_trans (Nat.le_of_eq (maskB_len _ _)) (by decide)))) (fun L g w hN hE hF => by exact (Roots.oldE hE rfl hpre)) (fun g w => by kernel_rfl)
    · exact D2.gv_load 45 (.tmp 5) 0 (fun g => b1) (Value.cells (pdV (takeB beg (maskB (sumB (tl key)) 54)))) 45 (0, 0) (fun _ _ _ h => h) (fun g => by kernel_rfl) (fun g => by kernel_rfl) (fun L g hN => (by kernel_rfl)) (by kernel_rfl)
    · exact D2.gv_callP 19 (fun g => #[pdV (takeB beg (maskB (sumB (tl key)) 54))]) (fun g => Roots) (fun _ _ _ h => h) (fun L g hN hF => by exact (end_fn (takeB beg (maskB (sumB (tl key)) 54)) (Nat.le_trans (takeB_bd (show Pd.n beg ≤ 0 from Nat.le_refl _) (Nat.le_of_eq (maskB_len _ _))) (by decide)))) (fun L g w hN hE hF => by exact (Roots.oldE hE rfl hpre)) (fun g w => by kernel_rfl)
    · exact D2.gv_callP 18 (fun g => #[pdV (takeB beg (maskB (sumB (tl key)) 92)), .string (strB (endB (takeB beg (maskB (sumB (tl key)) 54))))]) (fun g => Roots) (fun _ _ _ h => h) (fun L g hN hF => by exact (take_fn (takeB beg (maskB (sumB (tl key)) 92)) (strB (endB (takeB beg (maskB (sumB (tl key)) 54)))) (Nat.le_trans (takeB_bd (show Pd.n beg ≤ 0 from Nat.le_refl _) (Nat.le_of_eq (maskB_len _ _))) (by decide)) (Nat.le_trans (Nat.le_of_eq (endB_len _)) (by decide)))) (fun L g w hN hE hF => by exact (Roots.oldE hE rfl hpre)) (fun g w => by kernel_rfl)
    · exact D2.gv_callP 19 (fun g => #[pdV (takeB (takeB beg (maskB (sumB (tl key)) 92)) (endB (takeB beg (maskB (sumB (tl key)) 54))))]) (fun g => Roots) (fun _ _ _ h => h) (fun L g hN hF => by exact (end_fn (takeB (takeB beg (maskB (sumB (tl key)) 92)) (endB (takeB beg (maskB (sumB (tl key)) 54)))) (Nat.le_trans (takeB_bd (takeB_bd (show Pd.n beg ≤ 0 from Nat.le_refl _) (Nat.le_of_eq (maskB_len _ _))) (Nat.le_of_eq (endB_len _))) (by decide)))) (fun L g w hN hE hF => by exact (Roots.oldE hE rfl hpre)) (fun g w => by kernel_rfl)
    · exact D2.gv_val (fun _ _ _ h => h) (fun g w => by kernel_rfl)
    intro L0 G7 w7 hall HL; clear H6
    have H7 : St w.heap.size w w7 [(b1, Obj.cells (Value.cells (pdV (takeB beg (maskB (sumB (tl key)) 54)))) 45 (0, 0))] := D2.StE.st HL.1
    clear HL hall
    refine g_ret (by kernel_rfl) ?_
    show ∃ vs, Res _ _ _ _ vs ∧ _
    refine ⟨[.string (strB (endB (takeB (takeB beg (maskB (sumB (tl key)) 92)) (endB (takeB beg (maskB (sumB (tl key)) 54))))))], (.tmp (.string (strB (endB (takeB (takeB beg (maskB (sumB (tl key)) 92)) (endB (takeB beg (maskB (sumB (tl key)) 54))))))) (by kernel_rfl) .nil), ?_, H7.below⟩
    have hkl : List.length (tl key) = ByteArray.size key := rfl
    exact congrArg (fun x => Value.string (strB x)) (mac_big0 (tl key)  (by rw [hkl]; omega)).symm
  · skip
    refine s_valE (some 10) (.bool (decide (64 < ((ByteArray.size key : Nat) : Int)))) (.bool false) (fun w => by kernel_rfl) (bool_eq (decide_eq_false (by omega))) (by kernel_rfl) ?_
    refine s_nil ?_
    refine g_cond_f (by kernel_rfl) (by kernel_rfl) ?_
    refine g_skip (by kernel_rfl) ?_
    show WP _ _ _ _ _ _
    refine g_sreg [0, 1, 2, 3, 4, 5] (by kernel_rfl) (by kernel_rfl) ?_
    refine s_call H0 (some 13) 17 #[] (pdV beg) begin_fn (fun w => by kernel_rfl) (by kernel_rfl) ?_
    intro w8 H8; clear H0
    refine s_val (some 14) (.string key) (fun w => by kernel_rfl) (by kernel_rfl) ?_
    refine s_call H8 (some 15) 21 #[.string key, .int .u8 54] (.string (strB (maskB (tl key) 54))) (masked_fn key (by omega) 54) (fun w => by kernel_rfl) (by kernel_rfl) ?_
    intro w9 H9; clear H8
    refine s_callP H9 (some 16) 18 #[pdV beg, .string (strB (maskB (tl key) 54))] (Roots) (pdV (takeB beg (maskB (tl key) 54))) (take_fn beg (strB (maskB (tl key) 54)) (Nat.le_trans (show Pd.n beg ≤ 0 from Nat.le_refl _) (by decide)) (Nat.le_trans (Nat.le_of_eq (maskB_len _ _)) (by decide))) (Roots.old H9 rfl hpre) (fun w => by kernel_rfl) (by kernel_rfl) ?_
    intro w10 H10; clear H9
    refine s_alloc H10 (some 5) 45 (.agg #[.int .u32 0, .int .u32 0, .int .u32 0, .int .u32 0, .int .u32 0, .int .u32 0, .int .u32 0, .int .u32 0, .int .u32 0, .int .u32 0, .int .u32 0, .int .u32 0, .int .u32 0, .int .u32 0, .int .u32 0, .int .u32 0, .int .u32 0, .int .u32 0, .int .u32 0, .int .u32 0, .int .u32 0, .int .u32 0, .int .u32 0, .int .u32 0, .int .u64 0]) (by kernel_rfl) (by kernel_rfl) (by kernel_rfl) ?_
    intro b2 w11 H11; clear H10
    refine s_store H11 0 [(b2, Obj.cells (Value.cells (pdV (takeB beg (maskB (tl key) 54)))) 45 (0, 0))] 45 (.tmp 5) (.tmp 16) b2 (0) #[.int .u32 0, .int .u32 0, .int .u32 0, .int .u32 0, .int .u32 0, .int .u32 0, .int .u32 0, .int .u32 0, .int .u32 0, .int .u32 0, .int .u32 0, .int .u32 0, .int .u32 0, .int .u32 0, .int .u32 0, .int .u32 0, .int .u32 0, .int .u32 0, .int .u32 0, .int .u32 0, .int .u32 0, .int .u32 0, .int .u32 0, .int .u32 0, .int .u64 0] (Value.cells (pdV (takeB beg (maskB (tl key) 54)))) 45 (pdV (takeB beg (maskB (tl key) 54))) (by kernel_rfl) (by kernel_rfl) (by kernel_rfl) (by kernel_rfl) (by kernel_rfl) (by kernel_rfl) (of_decide_eq_true (by kernel_rfl)) (by kernel_rfl) (by kernel_rfl) ?_
    intro w12 H12; clear H11
    refine s_nil ?_
    refine g_seq (by kernel_rfl) ?_
    refine g_sreg [0, 1, 2] (by kernel_rfl) (by kernel_rfl) ?_
    refine s_val (some 17) (.slice none 0 0) (fun w => by kernel_rfl) (by kernel_rfl) ?_
    refine s_val (some 18) (.int .i64 0) (fun w => by kernel_rfl) (by kernel_rfl) ?_
    refine s_val (some 19) (.int .i64 0) (fun w => by kernel_rfl) (by kernel_rfl) ?_
    refine s_nil ?_
    refine g_block 0 (by kernel_rfl) ?_
    refine g_first (by kernel_rfl) ?_
    refine g_sreg [0] (by kernel_rfl) (by kernel_rfl) ?_
    refine s_val (some 20) (.bool false) (fun w => by kernel_rfl) (by kernel_rfl) ?_
    refine s_nil ?_
    refine g_seq (by kernel_rfl) ?_
    refine g_cond_f (by kernel_rfl) (by kernel_rfl) ?_
    refine g_exit 0 (by kernel_rfl) ?_
    show WP _ _ _ _ _ _
    refine D2.g_sdraw [0, 1, 2, 3, 4, 5, 6, 7, 8] [((some 27), fun _ => pdV beg), ((some 28), fun _ => .string key), ((some 29), fun _ => .string (strB (maskB (tl key) 92))), ((some 30), fun _ => pdV (takeB beg (maskB (tl key) 92))), ((some 31), fun _ => pdV (takeB beg (maskB (tl key) 54))), ((some 32), fun _ => .string (strB (endB (takeB beg (maskB (tl key) 54))))), ((some 33), fun _ => pdV (takeB (takeB beg (maskB (tl key) 92)) (endB (takeB beg (maskB (tl key) 54))))), ((some 34), fun _ => .string (strB (endB (takeB (takeB beg (maskB (tl key) 92)) (endB (takeB beg (maskB (tl key) 54))))))), ((some 4), fun _ => .string (strB (endB (takeB (takeB beg (maskB (tl key) 92)) (endB (takeB beg (maskB (tl key) 54)))))))] (D2.Pre w.heap.size w (fun L g => [(true, (b2, Obj.cells (Value.cells (pdV (takeB beg (maskB (tl key) 54)))) 45 (0, 0)))]) (fun L g => True)) (by kernel_rfl) (by kernel_rfl) (by kernel_rfl) (by kernel_rfl) ⟨D2.StE.of H12.drew _ (by kernel_rfl), trivial⟩ ⟨?_, ?_, ?_, ?_, ?_, ?_, ?_, ?_, ?_, trivial⟩ ?_
    · exact D2.gv_call 17 #[] (fun _ _ _ h => h) begin_fn (fun g w => by kernel_rfl)
    · exact D2.gv_val (fun _ _ _ h => h) (fun g w => by kernel_rfl)
    · exact D2.gv_call 21 #[.string key, .int .u8 92] (fun _ _ _ h => h) (masked_fn key (by omega) 92) (fun g w => by kernel_rfl)
    · exact D2.gv_callP 18 (fun g => #[pdV beg, .string (strB (maskB (tl key) 92))]) (fun g => Roots) (fun _ _ _ h => h) (fun L g hN hF => by exact (take_fn beg (strB (maskB (tl key) 92)) (Nat.le_trans (show Pd.n beg ≤ 0 from Nat.le_refl _) (by decide)) (Nat.le_trans (Nat.le_of_eq (maskB_len _ _)) (by decide)))) (fun L g w hN hE hF => by exact (Roots.oldE hE rfl hpre)) (fun g w => by kernel_rfl)
    · exact D2.gv_load 45 (.tmp 5) 0 (fun g => b2) (Value.cells (pdV (takeB beg (maskB (tl key) 54)))) 45 (0, 0) (fun _ _ _ h => h) (fun g => by kernel_rfl) (fun g => by kernel_rfl) (fun L g hN => (by kernel_rfl)) (by kernel_rfl)
    · exact D2.gv_callP 19 (fun g => #[pdV (takeB beg (maskB (tl key) 54))]) (fun g => Roots) (fun _ _ _ h => h) (fun L g hN hF => by exact (end_fn (takeB beg (maskB (tl key) 54)) (Nat.le_trans (takeB_bd (show Pd.n beg ≤ 0 from Nat.le_refl _) (Nat.le_of_eq (maskB_len _ _))) (by decide)))) (fun L g w hN hE hF => by exact (Roots.oldE hE rfl hpre)) (fun g w => by kernel_rfl)
    · exact D2.gv_callP 18 (fun g => #[pdV (takeB beg (maskB (tl key) 92)), .string (strB (endB (takeB beg (maskB (tl key) 54))))]) (fun g => Roots) (fun _ _ _ h => h) (fun L g hN hF => by exact (take_fn (takeB beg (maskB (tl key) 92)) (strB (endB (takeB beg (maskB (tl key) 54)))) (Nat.le_trans (takeB_bd (show Pd.n beg ≤ 0 from Nat.le_refl _) (Nat.le_of_eq (maskB_len _ _))) (by decide)) (Nat.le_trans (Nat.le_of_eq (endB_len _)) (by decide)))) (fun L g w hN hE hF => by exact (Roots.oldE hE rfl hpre)) (fun g w => by kernel_rfl)
    · exact D2.gv_callP 19 (fun g => #[pdV (takeB (takeB beg (maskB (tl key) 92)) (endB (takeB beg (maskB (tl key) 54))))]) (fun g => Roots) (fun _ _ _ h => h) (fun L g hN hF => by exact (end_fn (takeB (takeB beg (maskB (tl key) 92)) (endB (takeB beg (maskB (tl key) 54)))) (Nat.le_trans (takeB_bd (takeB_bd (show Pd.n beg ≤ 0 from Nat.le_refl _) (Nat.le_of_eq (maskB_len _ _))) (Nat.le_of_eq (endB_len _))) (by decide)))) (fun L g w hN hE hF => by exact (Roots.oldE hE rfl hpre)) (fun g w => by kernel_rfl)
    · exact D2.gv_val (fun _ _ _ h => h) (fun g w => by kernel_rfl)
    intro L0 G13 w13 hall HL; clear H12
    have H13 : St w.heap.size w w13 [(b2, Obj.cells (Value.cells (pdV (takeB beg (maskB (tl key) 54)))) 45 (0, 0))] := D2.StE.st HL.1
    clear HL hall
    refine g_ret (by kernel_rfl) ?_
    show ∃ vs, Res _ _ _ _ vs ∧ _
    refine ⟨[.string (strB (endB (takeB (takeB beg (maskB (tl key) 92)) (endB (takeB beg (maskB (tl key) 54))))))], (.tmp (.string (strB (endB (takeB (takeB beg (maskB (tl key) 92)) (endB (takeB beg (maskB (tl key) 54))))))) (by kernel_rfl) .nil), ?_, H13.below⟩
    have hkl : List.length (tl key) = ByteArray.size key := rfl
    exact congrArg (fun x => Value.string (strB x)) (mac_small0 (tl key)  (by rw [hkl]; omega)).symm

set_option maxRecDepth 100000 in
set_option maxHeartbeats 2000000 in
theorem mac_fn1 (key : ByteArray) (hkey : ByteArray.size key ≤ 100000000000000000) (b : Nat) (s1 : ByteArray) (h1 : ByteArray.size s1 ≤ 100000000000000000) : FnP Tryd.prog 11 #[.string key, .slice (some ⟨b, 0, none⟩) 1 1] (fun w => Roots w ∧ w.heap[b]? = some (.cells #[.string s1] 9 (0, 0))) (.string (strB (macB (tl key) (tl s1)))) := by
  refine FnP.intro (c := codeOf Tryd.f11) [.tmp 4] 35 Tryd.func11 (by kernel_rfl) (by kernel_rfl) (by kernel_rfl) fun w hpre => ?_
  have H0 := St.start w
  refine g_sreg [0] (by kernel_rfl) (by kernel_rfl) ?_
  refine s_val (some 4) (.string (⟨#[]⟩)) (fun w => by kernel_rfl) (by kernel_rfl) ?_
  refine s_nil ?_
  refine g_seq (by kernel_rfl) ?_
  refine g_sreg [0, 1, 2] (by kernel_rfl) (by kernel_rfl) ?_
  refine s_val (some 8) (.string key) (fun w => by kernel_rfl) (by kernel_rfl) ?_
  refine s_val (some 9) (.int .i64 ((ByteArray.size key : Nat) : Int)) (fun w => by kernel_rfl) (by kernel_rfl) ?_
  by_cases hc1 : (ByteArray.size key : Nat) > 64
  · skip
    refine s_valE (some 10) (.bool (decide (64 < ((ByteArray.size key : Nat) : Int)))) (.bool true) (fun w => by kernel_rfl) (bool_eq (decide_eq_true (by omega))) (by kernel_rfl) ?_
    refine s_nil ?_
    refine g_cond_t (by kernel_rfl) (by kernel_rfl) ?_
    refine g_reg0 [0, 1, 2] (by kernel_rfl) ?_
    refine s_val (some 11) (.string key) (fun w => by kernel_rfl) (by kernel_rfl) ?_
    refine s_callP H0 (some 12) 9 #[.string key] (Roots) (.string (strB (sumB (tl key)))) (sum_fn key (by first | assumption | omega)) (Roots.old H0 rfl hpre.1) (fun w => by kernel_rfl) (by kernel_rfl) ?_
    intro w1 H1; clear H0
    refine s_val (some 0) (.string (strB (sumB (tl key)))) (fun w => by kernel_rfl) (by kernel_rfl) ?_
    refine s_nil ?_
    show WP _ _ _ _ _ _
    refine g_sreg [0, 1, 2, 3, 4, 5] (by kernel_rfl) (by kernel_rfl) ?_
    refine s_call H1 (some 13) 17 #[] (pdV beg) begin_fn (fun w => by kernel_rfl) (by kernel_rfl) ?_
    intro w2 H2; clear H1
    refine s_val (some 14) (.string (strB (sumB (tl key)))) (fun w => by kernel_rfl) (by kernel_rfl) ?_
    refine s_call H2 (some 15) 21 #[.string (strB (sumB (tl key))), .int .u8 54] (.string (strB (maskB (sumB (tl key)) 54))) (masked_fn (strB (sumB (tl key))) (by rw [strB_size, sumB_len]; omega) 54) (fun w => by kernel_rfl) (by kernel_rfl) ?_
    intro w3 H3; clear H2
    refine s_callP H3 (some 16) 18 #[pdV beg, .string (strB (maskB (sumB (tl key)) 54))] (Roots) (pdV (takeB beg (maskB (sumB (tl key)) 54))) (take_fn beg (strB (maskB (sumB (tl key)) 54)) (Nat.le_trans (show Pd.n beg ≤ 0 from Nat.le_refl _) (by decide)) (Nat.le_trans (Nat.le_of_eq (maskB_len _ _)) (by decide))) (Roots.old H3 rfl hpre.1) (fun w => by kernel_rfl) (by kernel_rfl) ?_
    intro w4 H4; clear H3
    refine s_alloc H4 (some 5) 45 (.agg #[.int .u32 0, .int .u32 0, .int .u32 0, .int .u32 0, .int .u32 0, .int .u32 0, .int .u32 0, .int .u32 0, .int .u32 0, .int .u32 0, .int .u32 0, .int .u32 0, .int .u32 0, .int .u32 0, .int .u32 0, .int .u32 0, .int .u32 0, .int .u32 0, .int .u32 0, .int .u32 0, .int .u32 0, .int .u32 0, .int .u32 0, .int .u32 0, .int .u64 0]) (by kernel_rfl) (by kernel_rfl) (by kernel_rfl) ?_
    intro b1 w5 H5; clear H4
    refine s_store H5 0 [(b1, Obj.cells (Value.cells (pdV (takeB beg (maskB (sumB (tl key)) 54)))) 45 (0, 0))] 45 (.tmp 5) (.tmp 16) b1 (0) #[.int .u32 0, .int .u32 0, .int .u32 0, .int .u32 0, .int .u32 0, .int .u32 0, .int .u32 0, .int .u32 0, .int .u32 0, .int .u32 0, .int .u32 0, .int .u32 0, .int .u32 0, .int .u32 0, .int .u32 0, .int .u32 0, .int .u32 0, .int .u32 0, .int .u32 0, .int .u32 0, .int .u32 0, .int .u32 0, .int .u32 0, .int .u32 0, .int .u64 0] (Value.cells (pdV (takeB beg (maskB (sumB (tl key)) 54)))) 45 (pdV (takeB beg (maskB (sumB (tl key)) 54))) (by kernel_rfl) (by kernel_rfl) (by kernel_rfl) (by kernel_rfl) (by kernel_rfl) (by kernel_rfl) (of_decide_eq_true (by kernel_rfl)) (by kernel_rfl) (by kernel_rfl) ?_
    intro w6 H6; clear H5
    refine s_nil ?_
    refine g_seq (by kernel_rfl) ?_
    refine g_sreg [0, 1, 2] (by kernel_rfl) (by kernel_rfl) ?_
    refine s_val (some 17) (.slice (some ⟨b, 0, none⟩) 1 1) (fun w => by kernel_rfl) (by kernel_rfl) ?_
    refine s_val (some 18) (.int .i64 1) (fun w => by kernel_rfl) (by kernel_rfl) ?_
    refine s_val (some 19) (.int .i64 0) (fun w => by kernel_rfl) (by kernel_rfl) ?_
    refine s_nil ?_
    refine g_block 0 (by kernel_rfl) ?_
    refine g_first (by kernel_rfl) ?_
    refine g_sreg [0] (by kernel_rfl) (by kernel_rfl) ?_
    refine s_val (some 20) (.bool true) (fun w => by kernel_rfl) (by kernel_rfl) ?_
    refine s_nil ?_
    refine g_seq (by kernel_rfl) ?_
    refine g_cond_t (by kernel_rfl) (by kernel_rfl) ?_
    refine g_skip (by kernel_rfl) ?_
    show WP _ _ _ _ _ _
    refine g_seq (by kernel_rfl) ?_
    refine g_block 1 (by kernel_rfl) ?_
    refine g_sreg [0, 1, 2] (by kernel_rfl) (by kernel_rfl) ?_
    refine s_op (some 21) _ (.pointer (some ⟨b, 0 + 0 * 1, none⟩)) (by kernel_rfl) (by kernel_rfl) (fun o w ho => idxS_run (kd := .i64) (t := 51) (e := 9) (size := 1) (bytes := 16) (by kernel_rfl) (x := (.tmp 17)) (y := (.tmp 19)) b 0 1 1 0 ho (by kernel_rfl) (by kernel_rfl) (by omega) w) ?_
    refine s_load1F H6 (some 22) 9 (.tmp 21) b (0 + 0 * 1) #[.string s1] 9 (0, 0) (.string s1) (by kernel_rfl) (by kernel_rfl) (by kernel_rfl) hpre.2 (lt_of_heap hpre.2) (by kernel_rfl) (by rfl) ?_
    refine s_val (some 7) (.string s1) (fun w => by kernel_rfl) (by kernel_rfl) ?_
    refine s_nil ?_
    refine g_reg0 [0, 1, 2, 3] (by kernel_rfl) ?_
    refine s_load H6 (some 23) 45 (.tmp 5) 0 b1 (Value.cells (pdV (takeB beg (maskB (sumB (tl key)) 54)))) 45 (0, 0) (by kernel_rfl) (by kernel_rfl) (by kernel_rfl) (by kernel_rfl) (by kernel_rfl) ?_
    refine s_val (some 24) (.string s1) (fun w => by kernel_rfl) (by kernel_rfl) ?_
    refine s_callP H6 (some 25) 18 #[pdV (takeB beg (maskB (sumB (tl key)) 54)), .string s1] (Roots) (pdV (takeB (takeB beg (maskB (sumB (tl key)) 54)) (tl s1))) (take_fn (takeB beg (maskB (sumB (tl key)) 54)) s1 (Nat.le_trans (takeB_bd (show Pd.n beg ≤ 0 from Nat.le_refl _) (Nat.le_of_eq (maskB_len _ _))) (by decide)) (Nat.le_trans (show List.length (tl s1) ≤ 100000000000000000 from h1) (by decide))) (Roots.old H6 rfl hpre.1) (fun w => by kernel_rfl) (by kernel_rfl) ?_
    intro w7 H7; clear H6
    refine s_store H7 0 [(b1, Obj.cells (Value.cells (pdV (takeB (takeB beg (maskB (sumB (tl key)) 54)) (tl s1)))) 45 (0, 0))] 45 (.tmp 5) (.tmp 25) b1 (0) (Value.cells (pdV (takeB beg (maskB (sumB (tl key)) 54)))) (Value.cells (pdV (takeB (takeB beg (maskB (sumB (tl key)) 54)) (tl s1)))) 45 (pdV (takeB (takeB beg (maskB (sumB (tl key)) 54)) (tl s1))) (by kernel_rfl) (by kernel_rfl) (by kernel_rfl) (by kernel_rfl) (by kernel_rfl) (by kernel_rfl) (of_decide_eq_true (by kernel_rfl)) (by kernel_rfl) (by kernel_rfl) ?_
    intro w8 H8; clear H7
    refine s_nil ?_
    show WP _ _ _ _ _ _
    refine g_reg0 [0, 1] (by kernel_rfl) ?_
    refine s_val (some 26) (.int .i64 1) (fun w => by kernel_rfl) (by kernel_rfl) ?_
    refine s_val (some 19) (.int .i64 1) (fun w => by kernel_rfl) (by kernel_rfl) ?_
    refine s_nil ?_
    show WPL _ _ _ _ _ _
    refine g_next ?_
    refine g_sreg [0] (by kernel_rfl) (by kernel_rfl) ?_
    refine s_val (some 20) (.bool false) (fun w => by kernel_rfl) (by kernel_rfl) ?_
    refine s_nil ?_
    refine g_seq (by kernel_rfl) ?_
    refine g_cond_f (by kernel_rfl) (by kernel_rfl) ?_
    refine g_exit 0 (by kernel_rfl) ?_
    show WP _ _ _ _ _ _
    refine D2.g_sdraw [0, 1, 2, 3, 4, 5, 6, 7, 8] [((some 27), fun _ => pdV beg), ((some 28), fun _ => .string (strB (sumB (tl key)))), ((some 29), fun _ => .string (strB (maskB (sumB (tl key)) 92))), ((some 30), fun _ => pdV (takeB beg (maskB (sumB (tl key)) 92))), ((some 31), fun _ => pdV (takeB (takeB beg (maskB (sumB (tl key)) 54)) (tl s1))), ((some 32), fun _ => .string (strB (endB (takeB (takeB beg (maskB (sumB (tl key)) 54)) (tl s1))))), ((some 33), fun _ => pdV (takeB (takeB beg (maskB (sumB (tl key)) 92)) (endB (takeB (takeB beg (maskB (sumB (tl key)) 54)) (tl s1))))), ((some 34), fun _ => .string (strB (endB (takeB (takeB beg (maskB (sumB (tl key)) 92)) (endB (takeB (takeB beg (maskB (sumB (tl key)) 54)) (tl s1))))))), ((some 4), fun _ => .string (strB (endB (takeB (takeB beg (maskB (sumB (tl key)) 92)) (endB (takeB (takeB beg (maskB (sumB (tl key)) 54)) (tl s1)))))))] (D2.Pre w.heap.size w (fun L g => [(true, (b1, Obj.cells (Value.cells (pdV (takeB (takeB beg (maskB (sumB (tl key)) 54)) (tl s1)))) 45 (0, 0)))]) (fun L g => True)) (by kernel_rfl) (by kernel_rfl) (by kernel_rfl) (by kernel_rfl) ⟨D2.StE.of H8.drew _ (by kernel_rfl), trivial⟩ ⟨?_, ?_, ?_, ?_, ?_, ?_, ?_, ?_, ?_, trivial⟩ ?_
    · exact D2.gv_call 17 #[] (fun _ _ _ h => h) begin_fn (fun g w => by kernel_rfl)
    · exact D2.gv_val (fun _ _ _ h => h) (fun g w => by kernel_rfl)
    · exact D2.gv_call 21 #[.string (strB (sumB (tl key))), .int .u8 92] (fun _ _ _ h => h) (masked_fn (strB (sumB (tl key))) (by rw [strB_size, sumB_len]; omega) 92) (fun g w => by kernel_rfl)
    · exact D2.gv_callP 18 (fun g => #[pdV beg, .string (strB (maskB (sumB (tl key)) 92))]) (fun g => Roots) (fun _ _ _ h => h) (fun L g hN hF => by exact (take_fn beg (strB (maskB (sumB (tl key)) 92)) (Nat.le_trans (show Pd.n beg ≤ 0 from Nat.le_refl _) (by decide)) (Nat.le_trans (Nat.le_of_eq (maskB_len _ _)) (by decide)))) (fun L g w hN hE hF => by exact (Roots.oldE hE rfl hpre.1)) (fun g w => by kernel_rfl)
    · exact D2.gv_load 45 (.tmp 5) 0 (fun g => b1) (Value.cells (pdV (takeB (takeB beg (maskB (sumB (tl key)) 54)) (tl s1)))) 45 (0, 0) (fun _ _ _ h => h) (fun g => by kernel_rfl) (fun g => by kernel_rfl) (fun L g hN => (by kernel_rfl)) (by kernel_rfl)
    · exact D2.gv_callP 19 (fun g => #[pdV (takeB (takeB beg (maskB (sumB (tl key)) 54)) (tl s1))]) (fun g => Roots) (fun _ _ _ h => h) (fun L g hN hF => by exact (end_fn (takeB (takeB beg (maskB (sumB (tl key)) 54)) (tl s1)) (Nat.le_trans (takeB_bd (takeB_bd (show Pd.n beg ≤ 0 from Nat.le_refl _) (Nat.le_of_eq (maskB_len _ _))) (show List.length (tl s1) ≤ 100000000000000000 from h1)) (by decide)))) (fun L g w hN hE hF => by exact (Roots.oldE hE rfl hpre.1)) (fun g w => by kernel_rfl)
    · exact D2.gv_callP 18 (fun g => #[pdV (takeB beg (maskB (sumB (tl key)) 92)), .string (strB (endB (takeB (takeB beg (maskB (sumB (tl key)) 54)) (tl s1))))]) (fun g => Roots) (fun _ _ _ h => h) (fun L g hN hF => by exact (take_fn (takeB beg (maskB (sumB (tl key)) 92)) (strB (endB (takeB (takeB beg (maskB (sumB (tl key)) 54)) (tl s1)))) (Nat.le_trans (takeB_bd (show Pd.n beg ≤ 0 from Nat.le_refl _) (Nat.le_of_eq (maskB_len _ _))) (by decide)) (Nat.le_trans (Nat.le_of_eq (endB_len _)) (by decide)))) (fun L g w hN hE hF => by exact (Roots.oldE hE rfl hpre.1)) (fun g w => by kernel_rfl)
    · exact D2.gv_callP 19 (fun g => #[pdV (takeB (takeB beg (maskB (sumB (tl key)) 92)) (endB (takeB (takeB beg (maskB (sumB (tl key)) 54)) (tl s1))))]) (fun g => Roots) (fun _ _ _ h => h) (fun L g hN hF => by exact (end_fn (takeB (takeB beg (maskB (sumB (tl key)) 92)) (endB (takeB (takeB beg (maskB (sumB (tl key)) 54)) (tl s1)))) (Nat.le_trans (takeB_bd (takeB_bd (show Pd.n beg ≤ 0 from Nat.le_refl _) (Nat.le_of_eq (maskB_len _ _))) (Nat.le_of_eq (endB_len _))) (by decide)))) (fun L g w hN hE hF => by exact (Roots.oldE hE rfl hpre.1)) (fun g w => by kernel_rfl)
    · exact D2.gv_val (fun _ _ _ h => h) (fun g w => by kernel_rfl)
    intro L0 G9 w9 hall HL; clear H8
    have H9 : St w.heap.size w w9 [(b1, Obj.cells (Value.cells (pdV (takeB (takeB beg (maskB (sumB (tl key)) 54)) (tl s1)))) 45 (0, 0))] := D2.StE.st HL.1
    clear HL hall
    refine g_ret (by kernel_rfl) ?_
    show ∃ vs, Res _ _ _ _ vs ∧ _
    refine ⟨[.string (strB (endB (takeB (takeB beg (maskB (sumB (tl key)) 92)) (endB (takeB (takeB beg (maskB (sumB (tl key)) 54)) (tl s1))))))], (.tmp (.string (strB (endB (takeB (takeB beg (maskB (sumB (tl key)) 92)) (endB (takeB (takeB beg (maskB (sumB (tl key)) 54)) (tl s1))))))) (by kernel_rfl) .nil), ?_, H9.below⟩
    have hkl : List.length (tl key) = ByteArray.size key := rfl
    exact congrArg (fun x => Value.string (strB x)) (mac_big1 (tl key) (tl s1) (by rw [hkl]; omega)).symm
  · skip
    refine s_valE (some 10) (.bool (decide (64 < ((ByteArray.size key : Nat) : Int)))) (.bool false) (fun w => by kernel_rfl) (bool_eq (decide_eq_false (by omega))) (by kernel_rfl) ?_
    refine s_nil ?_
    refine g_cond_f (by kernel_rfl) (by kernel_rfl) ?_
    refine g_skip (by kernel_rfl) ?_
    show WP _ _ _ _ _ _
    refine g_sreg [0, 1, 2, 3, 4, 5] (by kernel_rfl) (by kernel_rfl) ?_
    refine s_call H0 (some 13) 17 #[] (pdV beg) begin_fn (fun w => by kernel_rfl) (by kernel_rfl) ?_
    intro w10 H10; clear H0
    refine s_val (some 14) (.string key) (fun w => by kernel_rfl) (by kernel_rfl) ?_
    refine s_call H10 (some 15) 21 #[.string key, .int .u8 54] (.string (strB (maskB (tl key) 54))) (masked_fn key (by omega) 54) (fun w => by kernel_rfl) (by kernel_rfl) ?_
    intro w11 H11; clear H10
    refine s_callP H11 (some 16) 18 #[pdV beg, .string (strB (maskB (tl key) 54))] (Roots) (pdV (takeB beg (maskB (tl key) 54))) (take_fn beg (strB (maskB (tl key) 54)) (Nat.le_trans (show Pd.n beg ≤ 0 from Nat.le_refl _) (by decide)) (Nat.le_trans (Nat.le_of_eq (maskB_len _ _)) (by decide))) (Roots.old H11 rfl hpre.1) (fun w => by kernel_rfl) (by kernel_rfl) ?_
    intro w12 H12; clear H11
    refine s_alloc H12 (some 5) 45 (.agg #[.int .u32 0, .int .u32 0, .int .u32 0, .int .u32 0, .int .u32 0, .int .u32 0, .int .u32 0, .int .u32 0, .int .u32 0, .int .u32 0, .int .u32 0, .int .u32 0, .int .u32 0, .int .u32 0, .int .u32 0, .int .u32 0, .int .u32 0, .int .u32 0, .int .u32 0, .int .u32 0, .int .u32 0, .int .u32 0, .int .u32 0, .int .u32 0, .int .u64 0]) (by kernel_rfl) (by kernel_rfl) (by kernel_rfl) ?_
    intro b2 w13 H13; clear H12
    refine s_store H13 0 [(b2, Obj.cells (Value.cells (pdV (takeB beg (maskB (tl key) 54)))) 45 (0, 0))] 45 (.tmp 5) (.tmp 16) b2 (0) #[.int .u32 0, .int .u32 0, .int .u32 0, .int .u32 0, .int .u32 0, .int .u32 0, .int .u32 0, .int .u32 0, .int .u32 0, .int .u32 0, .int .u32 0, .int .u32 0, .int .u32 0, .int .u32 0, .int .u32 0, .int .u32 0, .int .u32 0, .int .u32 0, .int .u32 0, .int .u32 0, .int .u32 0, .int .u32 0, .int .u32 0, .int .u32 0, .int .u64 0] (Value.cells (pdV (takeB beg (maskB (tl key) 54)))) 45 (pdV (takeB beg (maskB (tl key) 54))) (by kernel_rfl) (by kernel_rfl) (by kernel_rfl) (by kernel_rfl) (by kernel_rfl) (by kernel_rfl) (of_decide_eq_true (by kernel_rfl)) (by kernel_rfl) (by kernel_rfl) ?_
    intro w14 H14; clear H13
    refine s_nil ?_
    refine g_seq (by kernel_rfl) ?_
    refine g_sreg [0, 1, 2] (by kernel_rfl) (by kernel_rfl) ?_
    refine s_val (some 17) (.slice (some ⟨b, 0, none⟩) 1 1) (fun w => by kernel_rfl) (by kernel_rfl) ?_
    refine s_val (some 18) (.int .i64 1) (fun w => by kernel_rfl) (by kernel_rfl) ?_
    refine s_val (some 19) (.int .i64 0) (fun w => by kernel_rfl) (by kernel_rfl) ?_
    refine s_nil ?_
    refine g_block 0 (by kernel_rfl) ?_
    refine g_first (by kernel_rfl) ?_
    refine g_sreg [0] (by kernel_rfl) (by kernel_rfl) ?_
    refine s_val (some 20) (.bool true) (fun w => by kernel_rfl) (by kernel_rfl) ?_
    refine s_nil ?_
    refine g_seq (by kernel_rfl) ?_
    refine g_cond_t (by kernel_rfl) (by kernel_rfl) ?_
    refine g_skip (by kernel_rfl) ?_
    show WP _ _ _ _ _ _
    refine g_seq (by kernel_rfl) ?_
    refine g_block 1 (by kernel_rfl) ?_
    refine g_sreg [0, 1, 2] (by kernel_rfl) (by kernel_rfl) ?_
    refine s_op (some 21) _ (.pointer (some ⟨b, 0 + 0 * 1, none⟩)) (by kernel_rfl) (by kernel_rfl) (fun o w ho => idxS_run (kd := .i64) (t := 51) (e := 9) (size := 1) (bytes := 16) (by kernel_rfl) (x := (.tmp 17)) (y := (.tmp 19)) b 0 1 1 0 ho (by kernel_rfl) (by kernel_rfl) (by omega) w) ?_
    refine s_load1F H14 (some 22) 9 (.tmp 21) b (0 + 0 * 1) #[.string s1] 9 (0, 0) (.string s1) (by kernel_rfl) (by kernel_rfl) (by kernel_rfl) hpre.2 (lt_of_heap hpre.2) (by kernel_rfl) (by rfl) ?_
    refine s_val (some 7) (.string s1) (fun w => by kernel_rfl) (by kernel_rfl) ?_
    refine s_nil ?_
    refine g_reg0 [0, 1, 2, 3] (by kernel_rfl) ?_
    refine s_load H14 (some 23) 45 (.tmp 5) 0 b2 (Value.cells (pdV (takeB beg (maskB (tl key) 54)))) 45 (0, 0) (by kernel_rfl) (by kernel_rfl) (by kernel_rfl) (by kernel_rfl) (by kernel_rfl) ?_
    refine s_val (some 24) (.string s1) (fun w => by kernel_rfl) (by kernel_rfl) ?_
    refine s_callP H14 (some 25) 18 #[pdV (takeB beg (maskB (tl key) 54)), .string s1] (Roots) (pdV (takeB (takeB beg (maskB (tl key) 54)) (tl s1))) (take_fn (takeB beg (maskB (tl key) 54)) s1 (Nat.le_trans (takeB_bd (show Pd.n beg ≤ 0 from Nat.le_refl _) (Nat.le_of_eq (maskB_len _ _))) (by decide)) (Nat.le_trans (show List.length (tl s1) ≤ 100000000000000000 from h1) (by decide))) (Roots.old H14 rfl hpre.1) (fun w => by kernel_rfl) (by kernel_rfl) ?_
    intro w15 H15; clear H14
    refine s_store H15 0 [(b2, Obj.cells (Value.cells (pdV (takeB (takeB beg (maskB (tl key) 54)) (tl s1)))) 45 (0, 0))] 45 (.tmp 5) (.tmp 25) b2 (0) (Value.cells (pdV (takeB beg (maskB (tl key) 54)))) (Value.cells (pdV (takeB (takeB beg (maskB (tl key) 54)) (tl s1)))) 45 (pdV (takeB (takeB beg (maskB (tl key) 54)) (tl s1))) (by kernel_rfl) (by kernel_rfl) (by kernel_rfl) (by kernel_rfl) (by kernel_rfl) (by kernel_rfl) (of_decide_eq_true (by kernel_rfl)) (by kernel_rfl) (by kernel_rfl) ?_
    intro w16 H16; clear H15
    refine s_nil ?_
    show WP _ _ _ _ _ _
    refine g_reg0 [0, 1] (by kernel_rfl) ?_
    refine s_val (some 26) (.int .i64 1) (fun w => by kernel_rfl) (by kernel_rfl) ?_
    refine s_val (some 19) (.int .i64 1) (fun w => by kernel_rfl) (by kernel_rfl) ?_
    refine s_nil ?_
    show WPL _ _ _ _ _ _
    refine g_next ?_
    refine g_sreg [0] (by kernel_rfl) (by kernel_rfl) ?_
    refine s_val (some 20) (.bool false) (fun w => by kernel_rfl) (by kernel_rfl) ?_
    refine s_nil ?_
    refine g_seq (by kernel_rfl) ?_
    refine g_cond_f (by kernel_rfl) (by kernel_rfl) ?_
    refine g_exit 0 (by kernel_rfl) ?_
    show WP _ _ _ _ _ _
    refine D2.g_sdraw [0, 1, 2, 3, 4, 5, 6, 7, 8] [((some 27), fun _ => pdV beg), ((some 28), fun _ => .string key), ((some 29), fun _ => .string (strB (maskB (tl key) 92))), ((some 30), fun _ => pdV (takeB beg (maskB (tl key) 92))), ((some 31), fun _ => pdV (takeB (takeB beg (maskB (tl key) 54)) (tl s1))), ((some 32), fun _ => .string (strB (endB (takeB (takeB beg (maskB (tl key) 54)) (tl s1))))), ((some 33), fun _ => pdV (takeB (takeB beg (maskB (tl key) 92)) (endB (takeB (takeB beg (maskB (tl key) 54)) (tl s1))))), ((some 34), fun _ => .string (strB (endB (takeB (takeB beg (maskB (tl key) 92)) (endB (takeB (takeB beg (maskB (tl key) 54)) (tl s1))))))), ((some 4), fun _ => .string (strB (endB (takeB (takeB beg (maskB (tl key) 92)) (endB (takeB (takeB beg (maskB (tl key) 54)) (tl s1)))))))] (D2.Pre w.heap.size w (fun L g => [(true, (b2, Obj.cells (Value.cells (pdV (takeB (takeB beg (maskB (tl key) 54)) (tl s1)))) 45 (0, 0)))]) (fun L g => True)) (by kernel_rfl) (by kernel_rfl) (by kernel_rfl) (by kernel_rfl) ⟨D2.StE.of H16.drew _ (by kernel_rfl), trivial⟩ ⟨?_, ?_, ?_, ?_, ?_, ?_, ?_, ?_, ?_, trivial⟩ ?_
    · exact D2.gv_call 17 #[] (fun _ _ _ h => h) begin_fn (fun g w => by kernel_rfl)
    · exact D2.gv_val (fun _ _ _ h => h) (fun g w => by kernel_rfl)
    · exact D2.gv_call 21 #[.string key, .int .u8 92] (fun _ _ _ h => h) (masked_fn key (by omega) 92) (fun g w => by kernel_rfl)
    · exact D2.gv_callP 18 (fun g => #[pdV beg, .string (strB (maskB (tl key) 92))]) (fun g => Roots) (fun _ _ _ h => h) (fun L g hN hF => by exact (take_fn beg (strB (maskB (tl key) 92)) (Nat.le_trans (show Pd.n beg ≤ 0 from Nat.le_refl _) (by decide)) (Nat.le_trans (Nat.le_of_eq (maskB_len _ _)) (by decide)))) (fun L g w hN hE hF => by exact (Roots.oldE hE rfl hpre.1)) (fun g w => by kernel_rfl)
    · exact D2.gv_load 45 (.tmp 5) 0 (fun g => b2) (Value.cells (pdV (takeB (takeB beg (maskB (tl key) 54)) (tl s1)))) 45 (0, 0) (fun _ _ _ h => h) (fun g => by kernel_rfl) (fun g => by kernel_rfl) (fun L g hN => (by kernel_rfl)) (by kernel_rfl)
    · exact D2.gv_callP 19 (fun g => #[pdV (takeB (takeB beg (maskB (tl key) 54)) (tl s1))]) (fun g => Roots) (fun _ _ _ h => h) (fun L g hN hF => by exact (end_fn (takeB (takeB beg (maskB (tl key) 54)) (tl s1)) (Nat.le_trans (takeB_bd (takeB_bd (show Pd.n beg ≤ 0 from Nat.le_refl _) (Nat.le_of_eq (maskB_len _ _))) (show List.length (tl s1) ≤ 100000000000000000 from h1)) (by decide)))) (fun L g w hN hE hF => by exact (Roots.oldE hE rfl hpre.1)) (fun g w => by kernel_rfl)
    · exact D2.gv_callP 18 (fun g => #[pdV (takeB beg (maskB (tl key) 92)), .string (strB (endB (takeB (takeB beg (maskB (tl key) 54)) (tl s1))))]) (fun g => Roots) (fun _ _ _ h => h) (fun L g hN hF => by exact (take_fn (takeB beg (maskB (tl key) 92)) (strB (endB (takeB (takeB beg (maskB (tl key) 54)) (tl s1)))) (Nat.le_trans (takeB_bd (show Pd.n beg ≤ 0 from Nat.le_refl _) (Nat.le_of_eq (maskB_len _ _))) (by decide)) (Nat.le_trans (Nat.le_of_eq (endB_len _)) (by decide)))) (fun L g w hN hE hF => by exact (Roots.oldE hE rfl hpre.1)) (fun g w => by kernel_rfl)
    · exact D2.gv_callP 19 (fun g => #[pdV (takeB (takeB beg (maskB (tl key) 92)) (endB (takeB (takeB beg (maskB (tl key) 54)) (tl s1))))]) (fun g => Roots) (fun _ _ _ h => h) (fun L g hN hF => by exact (end_fn (takeB (takeB beg (maskB (tl key) 92)) (endB (takeB (takeB beg (maskB (tl key) 54)) (tl s1)))) (Nat.le_trans (takeB_bd (takeB_bd (show Pd.n beg ≤ 0 from Nat.le_refl _) (Nat.le_of_eq (maskB_len _ _))) (Nat.le_of_eq (endB_len _))) (by decide)))) (fun L g w hN hE hF => by exact (Roots.oldE hE rfl hpre.1)) (fun g w => by kernel_rfl)
    · exact D2.gv_val (fun _ _ _ h => h) (fun g w => by kernel_rfl)
    intro L0 G17 w17 hall HL; clear H16
    have H17 : St w.heap.size w w17 [(b2, Obj.cells (Value.cells (pdV (takeB (takeB beg (maskB (tl key) 54)) (tl s1)))) 45 (0, 0))] := D2.StE.st HL.1
    clear HL hall
    refine g_ret (by kernel_rfl) ?_
    show ∃ vs, Res _ _ _ _ vs ∧ _
    refine ⟨[.string (strB (endB (takeB (takeB beg (maskB (tl key) 92)) (endB (takeB (takeB beg (maskB (tl key) 54)) (tl s1))))))], (.tmp (.string (strB (endB (takeB (takeB beg (maskB (tl key) 92)) (endB (takeB (takeB beg (maskB (tl key) 54)) (tl s1))))))) (by kernel_rfl) .nil), ?_, H17.below⟩
    have hkl : List.length (tl key) = ByteArray.size key := rfl
    exact congrArg (fun x => Value.string (strB x)) (mac_small1 (tl key) (tl s1) (by rw [hkl]; omega)).symm

set_option maxRecDepth 100000 in
set_option maxHeartbeats 2000000 in
theorem mac_fn2 (key : ByteArray) (hkey : ByteArray.size key ≤ 100000000000000000) (b : Nat) (s1 s2 : ByteArray) (h1 : ByteArray.size s1 ≤ 100000000000000000) (h2 : ByteArray.size s2 ≤ 100000000000000000) : FnP Tryd.prog 11 #[.string key, .slice (some ⟨b, 0, none⟩) 2 2] (fun w => Roots w ∧ w.heap[b]? = some (.cells #[.string s1, .string s2] 9 (0, 0))) (.string (strB (macB (tl key) (tl s1 ++ tl s2)))) := by
  refine FnP.intro (c := codeOf Tryd.f11) [.tmp 4] 35 Tryd.func11 (by kernel_rfl) (by kernel_rfl) (by kernel_rfl) fun w hpre => ?_
  have H0 := St.start w
  refine g_sreg [0] (by kernel_rfl) (by kernel_rfl) ?_
  refine s_val (some 4) (.string (⟨#[]⟩)) (fun w => by kernel_rfl) (by kernel_rfl) ?_
  refine s_nil ?_
  refine g_seq (by kernel_rfl) ?_
  refine g_sreg [0, 1, 2] (by kernel_rfl) (by kernel_rfl) ?_
  refine s_val (some 8) (.string key) (fun w => by kernel_rfl) (by kernel_rfl) ?_
  refine s_val (some 9) (.int .i64 ((ByteArray.size key : Nat) : Int)) (fun w => by kernel_rfl) (by kernel_rfl) ?_
  by_cases hc1 : (ByteArray.size key : Nat) > 64
  · skip
    refine s_valE (some 10) (.bool (decide (64 < ((ByteArray.size key : Nat) : Int)))) (.bool true) (fun w => by kernel_rfl) (bool_eq (decide_eq_true (by omega))) (by kernel_rfl) ?_
    refine s_nil ?_
    refine g_cond_t (by kernel_rfl) (by kernel_rfl) ?_
    refine g_reg0 [0, 1, 2] (by kernel_rfl) ?_
    refine s_val (some 11) (.string key) (fun w => by kernel_rfl) (by kernel_rfl) ?_
    refine s_callP H0 (some 12) 9 #[.string key] (Roots) (.string (strB (sumB (tl key)))) (sum_fn key (by first | assumption | omega)) (Roots.old H0 rfl hpre.1) (fun w => by kernel_rfl) (by kernel_rfl) ?_
    intro w1 H1; clear H0
    refine s_val (some 0) (.string (strB (sumB (tl key)))) (fun w => by kernel_rfl) (by kernel_rfl) ?_
    refine s_nil ?_
    show WP _ _ _ _ _ _
    refine g_sreg [0, 1, 2, 3, 4, 5] (by kernel_rfl) (by kernel_rfl) ?_
    refine s_call H1 (some 13) 17 #[] (pdV beg) begin_fn (fun w => by kernel_rfl) (by kernel_rfl) ?_
    intro w2 H2; clear H1
    refine s_val (some 14) (.string (strB (sumB (tl key)))) (fun w => by kernel_rfl) (by kernel_rfl) ?_
    refine s_call H2 (some 15) 21 #[.string (strB (sumB (tl key))), .int .u8 54] (.string (strB (maskB (sumB (tl key)) 54))) (masked_fn (strB (sumB (tl key))) (by rw [strB_size, sumB_len]; omega) 54) (fun w => by kernel_rfl) (by kernel_rfl) ?_
    intro w3 H3; clear H2
    refine s_callP H3 (some 16) 18 #[pdV beg, .string (strB (maskB (sumB (tl key)) 54))] (Roots) (pdV (takeB beg (maskB (sumB (tl key)) 54))) (take_fn beg (strB (maskB (sumB (tl key)) 54)) (Nat.le_trans (show Pd.n beg ≤ 0 from Nat.le_refl _) (by decide)) (Nat.le_trans (Nat.le_of_eq (maskB_len _ _)) (by decide))) (Roots.old H3 rfl hpre.1) (fun w => by kernel_rfl) (by kernel_rfl) ?_
    intro w4 H4; clear H3
    refine s_alloc H4 (some 5) 45 (.agg #[.int .u32 0, .int .u32 0, .int .u32 0, .int .u32 0, .int .u32 0, .int .u32 0, .int .u32 0, .int .u32 0, .int .u32 0, .int .u32 0, .int .u32 0, .int .u32 0, .int .u32 0, .int .u32 0, .int .u32 0, .int .u32 0, .int .u32 0, .int .u32 0, .int .u32 0, .int .u32 0, .int .u32 0, .int .u32 0, .int .u32 0, .int .u32 0, .int .u64 0]) (by kernel_rfl) (by kernel_rfl) (by kernel_rfl) ?_
    intro b1 w5 H5; clear H4
    refine s_store H5 0 [(b1, Obj.cells (Value.cells (pdV (takeB beg (maskB (sumB (tl key)) 54)))) 45 (0, 0))] 45 (.tmp 5) (.tmp 16) b1 (0) #[.int .u32 0, .int .u32 0, .int .u32 0, .int .u32 0, .int .u32 0, .int .u32 0, .int .u32 0, .int .u32 0, .int .u32 0, .int .u32 0, .int .u32 0, .int .u32 0, .int .u32 0, .int .u32 0, .int .u32 0, .int .u32 0, .int .u32 0, .int .u32 0, .int .u32 0, .int .u32 0, .int .u32 0, .int .u32 0, .int .u32 0, .int .u32 0, .int .u64 0] (Value.cells (pdV (takeB beg (maskB (sumB (tl key)) 54)))) 45 (pdV (takeB beg (maskB (sumB (tl key)) 54))) (by kernel_rfl) (by kernel_rfl) (by kernel_rfl) (by kernel_rfl) (by kernel_rfl) (by kernel_rfl) (of_decide_eq_true (by kernel_rfl)) (by kernel_rfl) (by kernel_rfl) ?_
    intro w6 H6; clear H5
    refine s_nil ?_
    refine g_seq (by kernel_rfl) ?_
    refine g_sreg [0, 1, 2] (by kernel_rfl) (by kernel_rfl) ?_
    refine s_val (some 17) (.slice (some ⟨b, 0, none⟩) 2 2) (fun w => by kernel_rfl) (by kernel_rfl) ?_
    refine s_val (some 18) (.int .i64 2) (fun w => by kernel_rfl) (by kernel_rfl) ?_
    refine s_val (some 19) (.int .i64 0) (fun w => by kernel_rfl) (by kernel_rfl) ?_
    refine s_nil ?_
    refine g_block 0 (by kernel_rfl) ?_
    refine g_first (by kernel_rfl) ?_
    refine g_sreg [0] (by kernel_rfl) (by kernel_rfl) ?_
    refine s_val (some 20) (.bool true) (fun w => by kernel_rfl) (by kernel_rfl) ?_
    refine s_nil ?_
    refine g_seq (by kernel_rfl) ?_
    refine g_cond_t (by kernel_rfl) (by kernel_rfl) ?_
    refine g_skip (by kernel_rfl) ?_
    show WP _ _ _ _ _ _
    refine g_seq (by kernel_rfl) ?_
    refine g_block 1 (by kernel_rfl) ?_
    refine g_sreg [0, 1, 2] (by kernel_rfl) (by kernel_rfl) ?_
    refine s_op (some 21) _ (.pointer (some ⟨b, 0 + 0 * 1, none⟩)) (by kernel_rfl) (by kernel_rfl) (fun o w ho => idxS_run (kd := .i64) (t := 51) (e := 9) (size := 1) (bytes := 16) (by kernel_rfl) (x := (.tmp 17)) (y := (.tmp 19)) b 0 2 2 0 ho (by kernel_rfl) (by kernel_rfl) (by omega) w) ?_
    refine s_load1F H6 (some 22) 9 (.tmp 21) b (0 + 0 * 1) #[.string s1, .string s2] 9 (0, 0) (.string s1) (by kernel_rfl) (by kernel_rfl) (by kernel_rfl) hpre.2 (lt_of_heap hpre.2) (by kernel_rfl) (by rfl) ?_
    refine s_val (some 7) (.string s1) (fun w => by kernel_rfl) (by kernel_rfl) ?_
    refine s_nil ?_
    refine g_reg0 [0, 1, 2, 3] (by kernel_rfl) ?_
    refine s_load H6 (some 23) 45 (.tmp 5) 0 b1 (Value.cells (pdV (takeB beg (maskB (sumB (tl key)) 54)))) 45 (0, 0) (by kernel_rfl) (by kernel_rfl) (by kernel_rfl) (by kernel_rfl) (by kernel_rfl) ?_
    refine s_val (some 24) (.string s1) (fun w => by kernel_rfl) (by kernel_rfl) ?_
    refine s_callP H6 (some 25) 18 #[pdV (takeB beg (maskB (sumB (tl key)) 54)), .string s1] (Roots) (pdV (takeB (takeB beg (maskB (sumB (tl key)) 54)) (tl s1))) (take_fn (takeB beg (maskB (sumB (tl key)) 54)) s1 (Nat.le_trans (takeB_bd (show Pd.n beg ≤ 0 from Nat.le_refl _) (Nat.le_of_eq (maskB_len _ _))) (by decide)) (Nat.le_trans (show List.length (tl s1) ≤ 100000000000000000 from h1) (by decide))) (Roots.old H6 rfl hpre.1) (fun w => by kernel_rfl) (by kernel_rfl) ?_
    intro w7 H7; clear H6
    refine s_store H7 0 [(b1, Obj.cells (Value.cells (pdV (takeB (takeB beg (maskB (sumB (tl key)) 54)) (tl s1)))) 45 (0, 0))] 45 (.tmp 5) (.tmp 25) b1 (0) (Value.cells (pdV (takeB beg (maskB (sumB (tl key)) 54)))) (Value.cells (pdV (takeB (takeB beg (maskB (sumB (tl key)) 54)) (tl s1)))) 45 (pdV (takeB (takeB beg (maskB (sumB (tl key)) 54)) (tl s1))) (by kernel_rfl) (by kernel_rfl) (by kernel_rfl) (by kernel_rfl) (by kernel_rfl) (by kernel_rfl) (of_decide_eq_true (by kernel_rfl)) (by kernel_rfl) (by kernel_rfl) ?_
    intro w8 H8; clear H7
    refine s_nil ?_
    show WP _ _ _ _ _ _
    refine g_reg0 [0, 1] (by kernel_rfl) ?_
    refine s_val (some 26) (.int .i64 1) (fun w => by kernel_rfl) (by kernel_rfl) ?_
    refine s_val (some 19) (.int .i64 1) (fun w => by kernel_rfl) (by kernel_rfl) ?_
    refine s_nil ?_
    show WPL _ _ _ _ _ _
    refine g_next ?_
    refine g_sreg [0] (by kernel_rfl) (by kernel_rfl) ?_
    refine s_val (some 20) (.bool true) (fun w => by kernel_rfl) (by kernel_rfl) ?_
    refine s_nil ?_
    refine g_seq (by kernel_rfl) ?_
    refine g_cond_t (by kernel_rfl) (by kernel_rfl) ?_
    refine g_skip (by kernel_rfl) ?_
    show WP _ _ _ _ _ _
    refine g_seq (by kernel_rfl) ?_
    refine g_block 1 (by kernel_rfl) ?_
    refine g_sreg [0, 1, 2] (by kernel_rfl) (by kernel_rfl) ?_
    refine s_op (some 21) _ (.pointer (some ⟨b, 0 + 1 * 1, none⟩)) (by kernel_rfl) (by kernel_rfl) (fun o w ho => idxS_run (kd := .i64) (t := 51) (e := 9) (size := 1) (bytes := 16) (by kernel_rfl) (x := (.tmp 17)) (y := (.tmp 19)) b 0 2 2 1 ho (by kernel_rfl) (by kernel_rfl) (by omega) w) ?_
    refine s_load1F H8 (some 22) 9 (.tmp 21) b (0 + 1 * 1) #[.string s1, .string s2] 9 (0, 0) (.string s2) (by kernel_rfl) (by kernel_rfl) (by kernel_rfl) hpre.2 (lt_of_heap hpre.2) (by kernel_rfl) (by rfl) ?_
    refine s_val (some 7) (.string s2) (fun w => by kernel_rfl) (by kernel_rfl) ?_
    refine s_nil ?_
    refine g_reg0 [0, 1, 2, 3] (by kernel_rfl) ?_
    refine s_load H8 (some 23) 45 (.tmp 5) 0 b1 (Value.cells (pdV (takeB (takeB beg (maskB (sumB (tl key)) 54)) (tl s1)))) 45 (0, 0) (by kernel_rfl) (by kernel_rfl) (by kernel_rfl) (by kernel_rfl) (by kernel_rfl) ?_
    refine s_val (some 24) (.string s2) (fun w => by kernel_rfl) (by kernel_rfl) ?_
    refine s_callP H8 (some 25) 18 #[pdV (takeB (takeB beg (maskB (sumB (tl key)) 54)) (tl s1)), .string s2] (Roots) (pdV (takeB (takeB (takeB beg (maskB (sumB (tl key)) 54)) (tl s1)) (tl s2))) (take_fn (takeB (takeB beg (maskB (sumB (tl key)) 54)) (tl s1)) s2 (Nat.le_trans (takeB_bd (takeB_bd (show Pd.n beg ≤ 0 from Nat.le_refl _) (Nat.le_of_eq (maskB_len _ _))) (show List.length (tl s1) ≤ 100000000000000000 from h1)) (by decide)) (Nat.le_trans (show List.length (tl s2) ≤ 100000000000000000 from h2) (by decide))) (Roots.old H8 rfl hpre.1) (fun w => by kernel_rfl) (by kernel_rfl) ?_
    intro w9 H9; clear H8
    refine s_store H9 0 [(b1, Obj.cells (Value.cells (pdV (takeB (takeB (takeB beg (maskB (sumB (tl key)) 54)) (tl s1)) (tl s2)))) 45 (0, 0))] 45 (.tmp 5) (.tmp 25) b1 (0) (Value.cells (pdV (takeB (takeB beg (maskB (sumB (tl key)) 54)) (tl s1)))) (Value.cells (pdV (takeB (takeB (takeB beg (maskB (sumB (tl key)) 54)) (tl s1)) (tl s2)))) 45 (pdV (takeB (takeB (takeB beg (maskB (sumB (tl key)) 54)) (tl s1)) (tl s2))) (by kernel_rfl) (by kernel_rfl) (by kernel_rfl) (by kernel_rfl) (by kernel_rfl) (by kernel_rfl) (of_decide_eq_true (by kernel_rfl)) (by kernel_rfl) (by kernel_rfl) ?_
    intro w10 H10; clear H9
    refine s_nil ?_
    show WP _ _ _ _ _ _
    refine g_reg0 [0, 1] (by kernel_rfl) ?_
    refine s_val (some 26) (.int .i64 2) (fun w => by kernel_rfl) (by kernel_rfl) ?_
    refine s_val (some 19) (.int .i64 2) (fun w => by kernel_rfl) (by kernel_rfl) ?_
    refine s_nil ?_
    show WPL _ _ _ _ _ _
    refine g_next ?_
    refine g_sreg [0] (by kernel_rfl) (by kernel_rfl) ?_
    refine s_val (some 20) (.bool false) (fun w => by kernel_rfl) (by kernel_rfl) ?_
    refine s_nil ?_
    refine g_seq (by kernel_rfl) ?_
    refine g_cond_f (by kernel_rfl) (by kernel_rfl) ?_
    refine g_exit 0 (by kernel_rfl) ?_
    show WP _ _ _ _ _ _
    refine D2.g_sdraw [0, 1, 2, 3, 4, 5, 6, 7, 8] [((some 27), fun _ => pdV beg), ((some 28), fun _ => .string (strB (sumB (tl key)))), ((some 29), fun _ => .string (strB (maskB (sumB (tl key)) 92))), ((some 30), fun _ => pdV (takeB beg (maskB (sumB (tl key)) 92))), ((some 31), fun _ => pdV (takeB (takeB (takeB beg (maskB (sumB (tl key)) 54)) (tl s1)) (tl s2))), ((some 32), fun _ => .string (strB (endB (takeB (takeB (takeB beg (maskB (sumB (tl key)) 54)) (tl s1)) (tl s2))))), ((some 33), fun _ => pdV (takeB (takeB beg (maskB (sumB (tl key)) 92)) (endB (takeB (takeB (takeB beg (maskB (sumB (tl key)) 54)) (tl s1)) (tl s2))))), ((some 34), fun _ => .string (strB (endB (takeB (takeB beg (maskB (sumB (tl key)) 92)) (endB (takeB (takeB (takeB beg (maskB (sumB (tl key)) 54)) (tl s1)) (tl s2))))))), ((some 4), fun _ => .string (strB (endB (takeB (takeB beg (maskB (sumB (tl key)) 92)) (endB (takeB (takeB (takeB beg (maskB (sumB (tl key)) 54)) (tl s1)) (tl s2)))))))] (D2.Pre w.heap.size w (fun L g => [(true, (b1, Obj.cells (Value.cells (pdV (takeB (takeB (takeB beg (maskB (sumB (tl key)) 54)) (tl s1)) (tl s2)))) 45 (0, 0)))]) (fun L g => True)) (by kernel_rfl) (by kernel_rfl) (by kernel_rfl) (by kernel_rfl) ⟨D2.StE.of H10.drew _ (by kernel_rfl), trivial⟩ ⟨?_, ?_, ?_, ?_, ?_, ?_, ?_, ?_, ?_, trivial⟩ ?_
    · exact D2.gv_call 17 #[] (fun _ _ _ h => h) begin_fn (fun g w => by kernel_rfl)
    · exact D2.gv_val (fun _ _ _ h => h) (fun g w => by kernel_rfl)
    · exact D2.gv_call 21 #[.string (strB (sumB (tl key))), .int .u8 92] (fun _ _ _ h => h) (masked_fn (strB (sumB (tl key))) (by rw [strB_size, sumB_len]; omega) 92) (fun g w => by kernel_rfl)
    · exact D2.gv_callP 18 (fun g => #[pdV beg, .string (strB (maskB (sumB (tl key)) 92))]) (fun g => Roots) (fun _ _ _ h => h) (fun L g hN hF => by exact (take_fn beg (strB (maskB (sumB (tl key)) 92)) (Nat.le_trans (show Pd.n beg ≤ 0 from Nat.le_refl _) (by decide)) (Nat.le_trans (Nat.le_of_eq (maskB_len _ _)) (by decide)))) (fun L g w hN hE hF => by exact (Roots.oldE hE rfl hpre.1)) (fun g w => by kernel_rfl)
    · exact D2.gv_load 45 (.tmp 5) 0 (fun g => b1) (Value.cells (pdV (takeB (takeB (takeB beg (maskB (sumB (tl key)) 54)) (tl s1)) (tl s2)))) 45 (0, 0) (fun _ _ _ h => h) (fun g => by kernel_rfl) (fun g => by kernel_rfl) (fun L g hN => (by kernel_rfl)) (by kernel_rfl)
    · exact D2.gv_callP 19 (fun g => #[pdV (takeB (takeB (takeB beg (maskB (sumB (tl key)) 54)) (tl s1)) (tl s2))]) (fun g => Roots) (fun _ _ _ h => h) (fun L g hN hF => by exact (end_fn (takeB (takeB (takeB beg (maskB (sumB (tl key)) 54)) (tl s1)) (tl s2)) (Nat.le_trans (takeB_bd (takeB_bd (takeB_bd (show Pd.n beg ≤ 0 from Nat.le_refl _) (Nat.le_of_eq (maskB_len _ _))) (show List.length (tl s1) ≤ 100000000000000000 from h1)) (show List.length (tl s2) ≤ 100000000000000000 from h2)) (by decide)))) (fun L g w hN hE hF => by exact (Roots.oldE hE rfl hpre.1)) (fun g w => by kernel_rfl)
    · exact D2.gv_callP 18 (fun g => #[pdV (takeB beg (maskB (sumB (tl key)) 92)), .string (strB (endB (takeB (takeB (takeB beg (maskB (sumB (tl key)) 54)) (tl s1)) (tl s2))))]) (fun g => Roots) (fun _ _ _ h => h) (fun L g hN hF => by exact (take_fn (takeB beg (maskB (sumB (tl key)) 92)) (strB (endB (takeB (takeB (takeB beg (maskB (sumB (tl key)) 54)) (tl s1)) (tl s2)))) (Nat.le_trans (takeB_bd (show Pd.n beg ≤ 0 from Nat.le_refl _) (Nat.le_of_eq (maskB_len _ _))) (by decide)) (Nat.le_trans (Nat.le_of_eq (endB_len _)) (by decide)))) (fun L g w hN hE hF => by exact (Roots.oldE hE rfl hpre.1)) (fun g w => by kernel_rfl)
    · exact D2.gv_callP 19 (fun g => #[pdV (takeB (takeB beg (maskB (sumB (tl key)) 92)) (endB (takeB (takeB (takeB beg (maskB (sumB (tl key)) 54)) (tl s1)) (tl s2))))]) (fun g => Roots) (fun _ _ _ h => h) (fun L g hN hF => by exact (end_fn (takeB (takeB beg (maskB (sumB (tl key)) 92)) (endB (takeB (takeB (takeB beg (maskB (sumB (tl key)) 54)) (tl s1)) (tl s2)))) (Nat.le_trans (takeB_bd (takeB_bd (show Pd.n beg ≤ 0 from Nat.le_refl _) (Nat.le_of_eq (maskB_len _ _))) (Nat.le_of_eq (endB_len _))) (by decide)))) (fun L g w hN hE hF => by exact (Roots.oldE hE rfl hpre.1)) (fun g w => by kernel_rfl)
    · exact D2.gv_val (fun _ _ _ h => h) (fun g w => by kernel_rfl)
    intro L0 G11 w11 hall HL; clear H10
    have H11 : St w.heap.size w w11 [(b1, Obj.cells (Value.cells (pdV (takeB (takeB (takeB beg (maskB (sumB (tl key)) 54)) (tl s1)) (tl s2)))) 45 (0, 0))] := D2.StE.st HL.1
    clear HL hall
    refine g_ret (by kernel_rfl) ?_
    show ∃ vs, Res _ _ _ _ vs ∧ _
    refine ⟨[.string (strB (endB (takeB (takeB beg (maskB (sumB (tl key)) 92)) (endB (takeB (takeB (takeB beg (maskB (sumB (tl key)) 54)) (tl s1)) (tl s2))))))], (.tmp (.string (strB (endB (takeB (takeB beg (maskB (sumB (tl key)) 92)) (endB (takeB (takeB (takeB beg (maskB (sumB (tl key)) 54)) (tl s1)) (tl s2))))))) (by kernel_rfl) .nil), ?_, H11.below⟩
    have hkl : List.length (tl key) = ByteArray.size key := rfl
    exact congrArg (fun x => Value.string (strB x)) (mac_big2 (tl key) (tl s1) (tl s2) (by rw [hkl]; omega)).symm
  · skip
    refine s_valE (some 10) (.bool (decide (64 < ((ByteArray.size key : Nat) : Int)))) (.bool false) (fun w => by kernel_rfl) (bool_eq (decide_eq_false (by omega))) (by kernel_rfl) ?_
    refine s_nil ?_
    refine g_cond_f (by kernel_rfl) (by kernel_rfl) ?_
    refine g_skip (by kernel_rfl) ?_
    show WP _ _ _ _ _ _
    refine g_sreg [0, 1, 2, 3, 4, 5] (by kernel_rfl) (by kernel_rfl) ?_
    refine s_call H0 (some 13) 17 #[] (pdV beg) begin_fn (fun w => by kernel_rfl) (by kernel_rfl) ?_
    intro w12 H12; clear H0
    refine s_val (some 14) (.string key) (fun w => by kernel_rfl) (by kernel_rfl) ?_
    refine s_call H12 (some 15) 21 #[.string key, .int .u8 54] (.string (strB (maskB (tl key) 54))) (masked_fn key (by omega) 54) (fun w => by kernel_rfl) (by kernel_rfl) ?_
    intro w13 H13; clear H12
    refine s_callP H13 (some 16) 18 #[pdV beg, .string (strB (maskB (tl key) 54))] (Roots) (pdV (takeB beg (maskB (tl key) 54))) (take_fn beg (strB (maskB (tl key) 54)) (Nat.le_trans (show Pd.n beg ≤ 0 from Nat.le_refl _) (by decide)) (Nat.le_trans (Nat.le_of_eq (maskB_len _ _)) (by decide))) (Roots.old H13 rfl hpre.1) (fun w => by kernel_rfl) (by kernel_rfl) ?_
    intro w14 H14; clear H13
    refine s_alloc H14 (some 5) 45 (.agg #[.int .u32 0, .int .u32 0, .int .u32 0, .int .u32 0, .int .u32 0, .int .u32 0, .int .u32 0, .int .u32 0, .int .u32 0, .int .u32 0, .int .u32 0, .int .u32 0, .int .u32 0, .int .u32 0, .int .u32 0, .int .u32 0, .int .u32 0, .int .u32 0, .int .u32 0, .int .u32 0, .int .u32 0, .int .u32 0, .int .u32 0, .int .u32 0, .int .u64 0]) (by kernel_rfl) (by kernel_rfl) (by kernel_rfl) ?_
    intro b2 w15 H15; clear H14
    refine s_store H15 0 [(b2, Obj.cells (Value.cells (pdV (takeB beg (maskB (tl key) 54)))) 45 (0, 0))] 45 (.tmp 5) (.tmp 16) b2 (0) #[.int .u32 0, .int .u32 0, .int .u32 0, .int .u32 0, .int .u32 0, .int .u32 0, .int .u32 0, .int .u32 0, .int .u32 0, .int .u32 0, .int .u32 0, .int .u32 0, .int .u32 0, .int .u32 0, .int .u32 0, .int .u32 0, .int .u32 0, .int .u32 0, .int .u32 0, .int .u32 0, .int .u32 0, .int .u32 0, .int .u32 0, .int .u32 0, .int .u64 0] (Value.cells (pdV (takeB beg (maskB (tl key) 54)))) 45 (pdV (takeB beg (maskB (tl key) 54))) (by kernel_rfl) (by kernel_rfl) (by kernel_rfl) (by kernel_rfl) (by kernel_rfl) (by kernel_rfl) (of_decide_eq_true (by kernel_rfl)) (by kernel_rfl) (by kernel_rfl) ?_
    intro w16 H16; clear H15
    refine s_nil ?_
    refine g_seq (by kernel_rfl) ?_
    refine g_sreg [0, 1, 2] (by kernel_rfl) (by kernel_rfl) ?_
    refine s_val (some 17) (.slice (some ⟨b, 0, none⟩) 2 2) (fun w => by kernel_rfl) (by kernel_rfl) ?_
    refine s_val (some 18) (.int .i64 2) (fun w => by kernel_rfl) (by kernel_rfl) ?_
    refine s_val (some 19) (.int .i64 0) (fun w => by kernel_rfl) (by kernel_rfl) ?_
    refine s_nil ?_
    refine g_block 0 (by kernel_rfl) ?_
    refine g_first (by kernel_rfl) ?_
    refine g_sreg [0] (by kernel_rfl) (by kernel_rfl) ?_
    refine s_val (some 20) (.bool true) (fun w => by kernel_rfl) (by kernel_rfl) ?_
    refine s_nil ?_
    refine g_seq (by kernel_rfl) ?_
    refine g_cond_t (by kernel_rfl) (by kernel_rfl) ?_
    refine g_skip (by kernel_rfl) ?_
    show WP _ _ _ _ _ _
    refine g_seq (by kernel_rfl) ?_
    refine g_block 1 (by kernel_rfl) ?_
    refine g_sreg [0, 1, 2] (by kernel_rfl) (by kernel_rfl) ?_
    refine s_op (some 21) _ (.pointer (some ⟨b, 0 + 0 * 1, none⟩)) (by kernel_rfl) (by kernel_rfl) (fun o w ho => idxS_run (kd := .i64) (t := 51) (e := 9) (size := 1) (bytes := 16) (by kernel_rfl) (x := (.tmp 17)) (y := (.tmp 19)) b 0 2 2 0 ho (by kernel_rfl) (by kernel_rfl) (by omega) w) ?_
    refine s_load1F H16 (some 22) 9 (.tmp 21) b (0 + 0 * 1) #[.string s1, .string s2] 9 (0, 0) (.string s1) (by kernel_rfl) (by kernel_rfl) (by kernel_rfl) hpre.2 (lt_of_heap hpre.2) (by kernel_rfl) (by rfl) ?_
    refine s_val (some 7) (.string s1) (fun w => by kernel_rfl) (by kernel_rfl) ?_
    refine s_nil ?_
    refine g_reg0 [0, 1, 2, 3] (by kernel_rfl) ?_
    refine s_load H16 (some 23) 45 (.tmp 5) 0 b2 (Value.cells (pdV (takeB beg (maskB (tl key) 54)))) 45 (0, 0) (by kernel_rfl) (by kernel_rfl) (by kernel_rfl) (by kernel_rfl) (by kernel_rfl) ?_
    refine s_val (some 24) (.string s1) (fun w => by kernel_rfl) (by kernel_rfl) ?_
    refine s_callP H16 (some 25) 18 #[pdV (takeB beg (maskB (tl key) 54)), .string s1] (Roots) (pdV (takeB (takeB beg (maskB (tl key) 54)) (tl s1))) (take_fn (takeB beg (maskB (tl key) 54)) s1 (Nat.le_trans (takeB_bd (show Pd.n beg ≤ 0 from Nat.le_refl _) (Nat.le_of_eq (maskB_len _ _))) (by decide)) (Nat.le_trans (show List.length (tl s1) ≤ 100000000000000000 from h1) (by decide))) (Roots.old H16 rfl hpre.1) (fun w => by kernel_rfl) (by kernel_rfl) ?_
    intro w17 H17; clear H16
    refine s_store H17 0 [(b2, Obj.cells (Value.cells (pdV (takeB (takeB beg (maskB (tl key) 54)) (tl s1)))) 45 (0, 0))] 45 (.tmp 5) (.tmp 25) b2 (0) (Value.cells (pdV (takeB beg (maskB (tl key) 54)))) (Value.cells (pdV (takeB (takeB beg (maskB (tl key) 54)) (tl s1)))) 45 (pdV (takeB (takeB beg (maskB (tl key) 54)) (tl s1))) (by kernel_rfl) (by kernel_rfl) (by kernel_rfl) (by kernel_rfl) (by kernel_rfl) (by kernel_rfl) (of_decide_eq_true (by kernel_rfl)) (by kernel_rfl) (by kernel_rfl) ?_
    intro w18 H18; clear H17
    refine s_nil ?_
    show WP _ _ _ _ _ _
    refine g_reg0 [0, 1] (by kernel_rfl) ?_
    refine s_val (some 26) (.int .i64 1) (fun w => by kernel_rfl) (by kernel_rfl) ?_
    refine s_val (some 19) (.int .i64 1) (fun w => by kernel_rfl) (by kernel_rfl) ?_
    refine s_nil ?_
    show WPL _ _ _ _ _ _
    refine g_next ?_
    refine g_sreg [0] (by kernel_rfl) (by kernel_rfl) ?_
    refine s_val (some 20) (.bool true) (fun w => by kernel_rfl) (by kernel_rfl) ?_
    refine s_nil ?_
    refine g_seq (by kernel_rfl) ?_
    refine g_cond_t (by kernel_rfl) (by kernel_rfl) ?_
    refine g_skip (by kernel_rfl) ?_
    show WP _ _ _ _ _ _
    refine g_seq (by kernel_rfl) ?_
    refine g_block 1 (by kernel_rfl) ?_
    refine g_sreg [0, 1, 2] (by kernel_rfl) (by kernel_rfl) ?_
    refine s_op (some 21) _ (.pointer (some ⟨b, 0 + 1 * 1, none⟩)) (by kernel_rfl) (by kernel_rfl) (fun o w ho => idxS_run (kd := .i64) (t := 51) (e := 9) (size := 1) (bytes := 16) (by kernel_rfl) (x := (.tmp 17)) (y := (.tmp 19)) b 0 2 2 1 ho (by kernel_rfl) (by kernel_rfl) (by omega) w) ?_
    refine s_load1F H18 (some 22) 9 (.tmp 21) b (0 + 1 * 1) #[.string s1, .string s2] 9 (0, 0) (.string s2) (by kernel_rfl) (by kernel_rfl) (by kernel_rfl) hpre.2 (lt_of_heap hpre.2) (by kernel_rfl) (by rfl) ?_
    refine s_val (some 7) (.string s2) (fun w => by kernel_rfl) (by kernel_rfl) ?_
    refine s_nil ?_
    refine g_reg0 [0, 1, 2, 3] (by kernel_rfl) ?_
    refine s_load H18 (some 23) 45 (.tmp 5) 0 b2 (Value.cells (pdV (takeB (takeB beg (maskB (tl key) 54)) (tl s1)))) 45 (0, 0) (by kernel_rfl) (by kernel_rfl) (by kernel_rfl) (by kernel_rfl) (by kernel_rfl) ?_
    refine s_val (some 24) (.string s2) (fun w => by kernel_rfl) (by kernel_rfl) ?_
    refine s_callP H18 (some 25) 18 #[pdV (takeB (takeB beg (maskB (tl key) 54)) (tl s1)), .string s2] (Roots) (pdV (takeB (takeB (takeB beg (maskB (tl key) 54)) (tl s1)) (tl s2))) (take_fn (takeB (takeB beg (maskB (tl key) 54)) (tl s1)) s2 (Nat.le_trans (takeB_bd (takeB_bd (show Pd.n beg ≤ 0 from Nat.le_refl _) (Nat.le_of_eq (maskB_len _ _))) (show List.length (tl s1) ≤ 100000000000000000 from h1)) (by decide)) (Nat.le_trans (show List.length (tl s2) ≤ 100000000000000000 from h2) (by decide))) (Roots.old H18 rfl hpre.1) (fun w => by kernel_rfl) (by kernel_rfl) ?_
    intro w19 H19; clear H18
    refine s_store H19 0 [(b2, Obj.cells (Value.cells (pdV (takeB (takeB (takeB beg (maskB (tl key) 54)) (tl s1)) (tl s2)))) 45 (0, 0))] 45 (.tmp 5) (.tmp 25) b2 (0) (Value.cells (pdV (takeB (takeB beg (maskB (tl key) 54)) (tl s1)))) (Value.cells (pdV (takeB (takeB (takeB beg (maskB (tl key) 54)) (tl s1)) (tl s2)))) 45 (pdV (takeB (takeB (takeB beg (maskB (tl key) 54)) (tl s1)) (tl s2))) (by kernel_rfl) (by kernel_rfl) (by kernel_rfl) (by kernel_rfl) (by kernel_rfl) (by kernel_rfl) (of_decide_eq_true (by kernel_rfl)) (by kernel_rfl) (by kernel_rfl) ?_
    intro w20 H20; clear H19
    refine s_nil ?_
    show WP _ _ _ _ _ _
    refine g_reg0 [0, 1] (by kernel_rfl) ?_
    refine s_val (some 26) (.int .i64 2) (fun w => by kernel_rfl) (by kernel_rfl) ?_
    refine s_val (some 19) (.int .i64 2) (fun w => by kernel_rfl) (by kernel_rfl) ?_
    refine s_nil ?_
    show WPL _ _ _ _ _ _
    refine g_next ?_
    refine g_sreg [0] (by kernel_rfl) (by kernel_rfl) ?_
    refine s_val (some 20) (.bool false) (fun w => by kernel_rfl) (by kernel_rfl) ?_
    refine s_nil ?_
    refine g_seq (by kernel_rfl) ?_
    refine g_cond_f (by kernel_rfl) (by kernel_rfl) ?_
    refine g_exit 0 (by kernel_rfl) ?_
    show WP _ _ _ _ _ _
    refine D2.g_sdraw [0, 1, 2, 3, 4, 5, 6, 7, 8] [((some 27), fun _ => pdV beg), ((some 28), fun _ => .string key), ((some 29), fun _ => .string (strB (maskB (tl key) 92))), ((some 30), fun _ => pdV (takeB beg (maskB (tl key) 92))), ((some 31), fun _ => pdV (takeB (takeB (takeB beg (maskB (tl key) 54)) (tl s1)) (tl s2))), ((some 32), fun _ => .string (strB (endB (takeB (takeB (takeB beg (maskB (tl key) 54)) (tl s1)) (tl s2))))), ((some 33), fun _ => pdV (takeB (takeB beg (maskB (tl key) 92)) (endB (takeB (takeB (takeB beg (maskB (tl key) 54)) (tl s1)) (tl s2))))), ((some 34), fun _ => .string (strB (endB (takeB (takeB beg (maskB (tl key) 92)) (endB (takeB (takeB (takeB beg (maskB (tl key) 54)) (tl s1)) (tl s2))))))), ((some 4), fun _ => .string (strB (endB (takeB (takeB beg (maskB (tl key) 92)) (endB (takeB (takeB (takeB beg (maskB (tl key) 54)) (tl s1)) (tl s2)))))))] (D2.Pre w.heap.size w (fun L g => [(true, (b2, Obj.cells (Value.cells (pdV (takeB (takeB (takeB beg (maskB (tl key) 54)) (tl s1)) (tl s2)))) 45 (0, 0)))]) (fun L g => True)) (by kernel_rfl) (by kernel_rfl) (by kernel_rfl) (by kernel_rfl) ⟨D2.StE.of H20.drew _ (by kernel_rfl), trivial⟩ ⟨?_, ?_, ?_, ?_, ?_, ?_, ?_, ?_, ?_, trivial⟩ ?_
    · exact D2.gv_call 17 #[] (fun _ _ _ h => h) begin_fn (fun g w => by kernel_rfl)
    · exact D2.gv_val (fun _ _ _ h => h) (fun g w => by kernel_rfl)
    · exact D2.gv_call 21 #[.string key, .int .u8 92] (fun _ _ _ h => h) (masked_fn key (by omega) 92) (fun g w => by kernel_rfl)
    · exact D2.gv_callP 18 (fun g => #[pdV beg, .string (strB (maskB (tl key) 92))]) (fun g => Roots) (fun _ _ _ h => h) (fun L g hN hF => by exact (take_fn beg (strB (maskB (tl key) 92)) (Nat.le_trans (show Pd.n beg ≤ 0 from Nat.le_refl _) (by decide)) (Nat.le_trans (Nat.le_of_eq (maskB_len _ _)) (by decide)))) (fun L g w hN hE hF => by exact (Roots.oldE hE rfl hpre.1)) (fun g w => by kernel_rfl)
    · exact D2.gv_load 45 (.tmp 5) 0 (fun g => b2) (Value.cells (pdV (takeB (takeB (takeB beg (maskB (tl key) 54)) (tl s1)) (tl s2)))) 45 (0, 0) (fun _ _ _ h => h) (fun g => by kernel_rfl) (fun g => by kernel_rfl) (fun L g hN => (by kernel_rfl)) (by kernel_rfl)
    · exact D2.gv_callP 19 (fun g => #[pdV (takeB (takeB (takeB beg (maskB (tl key) 54)) (tl s1)) (tl s2))]) (fun g => Roots) (fun _ _ _ h => h) (fun L g hN hF => by exact (end_fn (takeB (takeB (takeB beg (maskB (tl key) 54)) (tl s1)) (tl s2)) (Nat.le_trans (takeB_bd (takeB_bd (takeB_bd (show Pd.n beg ≤ 0 from Nat.le_refl _) (Nat.le_of_eq (maskB_len _ _))) (show List.length (tl s1) ≤ 100000000000000000 from h1)) (show List.length (tl s2) ≤ 100000000000000000 from h2)) (by decide)))) (fun L g w hN hE hF => by exact (Roots.oldE hE rfl hpre.1)) (fun g w => by kernel_rfl)
    · exact D2.gv_callP 18 (fun g => #[pdV (takeB beg (maskB (tl key) 92)), .string (strB (endB (takeB (takeB (takeB beg (maskB (tl key) 54)) (tl s1)) (tl s2))))]) (fun g => Roots) (fun _ _ _ h => h) (fun L g hN hF => by exact (take_fn (takeB beg (maskB (tl key) 92)) (strB (endB (takeB (takeB (takeB beg (maskB (tl key) 54)) (tl s1)) (tl s2)))) (Nat.le_trans (takeB_bd (show Pd.n beg ≤ 0 from Nat.le_refl _) (Nat.le_of_eq (maskB_len _ _))) (by decide)) (Nat.le_trans (Nat.le_of_eq (endB_len _)) (by decide)))) (fun L g w hN hE hF => by exact (Roots.oldE hE rfl hpre.1)) (fun g w => by kernel_rfl)
    · exact D2.gv_callP 19 (fun g => #[pdV (takeB (takeB beg (maskB (tl key) 92)) (endB (takeB (takeB (takeB beg (maskB (tl key) 54)) (tl s1)) (tl s2))))]) (fun g => Roots) (fun _ _ _ h => h) (fun L g hN hF => by exact (end_fn (takeB (takeB beg (maskB (tl key) 92)) (endB (takeB (takeB (takeB beg (maskB (tl key) 54)) (tl s1)) (tl s2)))) (Nat.le_trans (takeB_bd (takeB_bd (show Pd.n beg ≤ 0 from Nat.le_refl _) (Nat.le_of_eq (maskB_len _ _))) (Nat.le_of_eq (endB_len _))) (by decide)))) (fun L g w hN hE hF => by exact (Roots.oldE hE rfl hpre.1)) (fun g w => by kernel_rfl)
    · exact D2.gv_val (fun _ _ _ h => h) (fun g w => by kernel_rfl)
    intro L0 G21 w21 hall HL; clear H20
    have H21 : St w.heap.size w w21 [(b2, Obj.cells (Value.cells (pdV (takeB (takeB (takeB beg (maskB (tl key) 54)) (tl s1)) (tl s2)))) 45 (0, 0))] := D2.StE.st HL.1
    clear HL hall
    refine g_ret (by kernel_rfl) ?_
    show ∃ vs, Res _ _ _ _ vs ∧ _
    refine ⟨[.string (strB (endB (takeB (takeB beg (maskB (tl key) 92)) (endB (takeB (takeB (takeB beg (maskB (tl key) 54)) (tl s1)) (tl s2))))))], (.tmp (.string (strB (endB (takeB (takeB beg (maskB (tl key) 92)) (endB (takeB (takeB (takeB beg (maskB (tl key) 54)) (tl s1)) (tl s2))))))) (by kernel_rfl) .nil), ?_, H21.below⟩
    have hkl : List.length (tl key) = ByteArray.size key := rfl
    exact congrArg (fun x => Value.string (strB x)) (mac_small2 (tl key) (tl s1) (tl s2) (by rw [hkl]; omega)).symm

theorem abc_sum : (sumB [97, 98, 99]).take 4 = [186, 120, 22, 191] := by decide +kernel
theorem sumB_size (l : List UInt8) : ByteArray.size (strB (sumB l)) = 32 := sumB_len l
theorem macB_size (k l : List UInt8) : ByteArray.size (strB (macB k l)) = 32 := macB_len k l
theorem ext_size (s : ByteArray) (a b : Nat) (h : b ≤ ByteArray.size s) : ByteArray.size (ByteArray.extract s a b) = b - a := by
  rw [← tl_len, tl_extract, List.length_drop, List.length_take, tl_len, Nat.min_eq_left h]
theorem alive_eq : (ByteArray.toList (ByteArray.extract (strB (sumB (tl ⟨#[97, 98, 99]⟩))) 0 4) == ByteArray.toList ⟨#[186, 120, 22, 191]⟩) = true := by
  have h : ByteArray.extract (strB (sumB (tl ⟨#[97, 98, 99]⟩))) 0 4 = ⟨#[186, 120, 22, 191]⟩ := by
    rw [← strB_tl (ByteArray.extract _ _ _), tl_extract, tl_strB, List.drop_zero]
    rw [show tl ⟨#[97, 98, 99]⟩ = [97, 98, 99] from rfl, abc_sum]; rfl
  rw [h]; exact str_self _

set_option maxRecDepth 100000 in
set_option maxHeartbeats 2000000 in
theorem alive_fn  : FnP Tryd.prog 8 #[] (Roots) (.bool true) := by
  refine FnP.intro (c := codeOf Tryd.f8) [.tmp 0] 11 Tryd.func8 (by kernel_rfl) (by kernel_rfl) (by kernel_rfl) fun w hpre => ?_
  have H0 := St.start w
  refine g_sreg [0] (by kernel_rfl) (by kernel_rfl) ?_
  refine s_val (some 0) (.bool false) (fun w => by kernel_rfl) (by kernel_rfl) ?_
  refine s_nil ?_
  refine g_sreg [0, 1] (by kernel_rfl) (by kernel_rfl) ?_
  refine s_callP H0 (some 2) 9 #[.string (⟨#[97, 98, 99]⟩)] (Roots) (.string (strB (sumB (tl (⟨#[97, 98, 99]⟩))))) (sum_fn (⟨#[97, 98, 99]⟩) (by decide)) (Roots.old H0 rfl hpre) (fun w => by kernel_rfl) (by kernel_rfl) ?_
  intro w1 H1; clear H0
  refine s_val (some 1) (.string (strB (sumB (tl (⟨#[97, 98, 99]⟩))))) (fun w => by kernel_rfl) (by kernel_rfl) ?_
  refine s_nil ?_
  refine g_sreg [0, 1, 2, 3, 4, 5, 6, 7, 8] (by kernel_rfl) (by kernel_rfl) ?_
  have hz := sumB_size (tl ⟨#[97, 98, 99]⟩)
  refine s_val (some 3) (.string (strB (sumB (tl (⟨#[97, 98, 99]⟩))))) (fun w => by kernel_rfl) (by kernel_rfl) ?_
  refine s_val (some 4) (.int .i64 ((ByteArray.size (strB (sumB (tl (⟨#[97, 98, 99]⟩)))) : Nat) : Int)) (fun w => by kernel_rfl) (by kernel_rfl) ?_
  refine s_valE (some 5) (.bool (((ByteArray.size (strB (sumB (tl (⟨#[97, 98, 99]⟩)))) : Nat) : Int) == 32)) (.bool true) (fun w => by kernel_rfl) (bool_eq (beq_iff_eq.2 (by rw [sumB_size]; rfl))) (by kernel_rfl) ?_
  refine s_val (some 6) (.bool true) (fun w => by kernel_rfl) (by kernel_rfl) ?_
  refine s_val (some 7) (.string (strB (sumB (tl (⟨#[97, 98, 99]⟩))))) (fun w => by kernel_rfl) (by kernel_rfl) ?_
  refine s_op (some 8) _ (.string (ByteArray.extract (strB (sumB (tl (⟨#[97, 98, 99]⟩)))) 0 4)) (by kernel_rfl) (by kernel_rfl) (fun o w ho => scut_run (t := 9) (kd := .i64) (by kernel_rfl) (x := (.tmp 7)) (y := (.const (.int .i64 4))) (strB (sumB (tl (⟨#[97, 98, 99]⟩)))) 4 ho (by kernel_rfl) (by kernel_rfl) (by omega) w) ?_
  refine s_valE (some 9) (.bool (ByteArray.toList (ByteArray.extract (strB (sumB (tl (⟨#[97, 98, 99]⟩)))) 0 4) == ByteArray.toList (⟨#[186, 120, 22, 191]⟩))) (.bool true) (fun w => by kernel_rfl) (bool_eq alive_eq) (by kernel_rfl) ?_
  refine s_val (some 10) (.bool true) (fun w => by kernel_rfl) (by kernel_rfl) ?_
  refine s_val (some 0) (.bool true) (fun w => by kernel_rfl) (by kernel_rfl) ?_
  refine s_nil ?_
  refine g_ret (by kernel_rfl) ?_
  show ∃ vs, Res _ _ _ _ vs ∧ _
  refine ⟨[.bool true], (.tmp (.bool true) (by kernel_rfl) .nil), ?_, H1.below⟩
  rfl
end Go.Proofs.YtjhldipeicpoeaaDoor
