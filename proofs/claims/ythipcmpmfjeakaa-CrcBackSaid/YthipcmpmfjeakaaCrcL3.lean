/-
  What the laws ask: frames one behind the other.
-/
import Derived.Test.YthipcmpmfjeakaaProg
import Derived.Test.YthipcmpmfjeakaaCrcF
import Derived.Test.YthipcmpmfjeakaaTxt
import Derived.Test.YthipcmpmfjeakaaCrcL2
namespace Go.Proofs.Ythipcmpmfjeakaa
open Go Go.RowKit Go.Proofs.Crc
set_option linter.unusedVariables false
theorem flat_step (l : List ByteArray) (S : ByteArray) : strB (flat l) ++ strB (frB (tl S)) = strB (flat (l ++ [S])) := by
  apply tl_inj
  rw [tl_add, tl_strB, tl_strB, tl_strB, flat_snoc]
theorem flat_len_step (l : List ByteArray) (S : ByteArray) : (flat (l ++ [S])).length = (flat l).length + (S.size + 6) := by rw [flat_snoc, List.length_append, frB_len, tl_len]
theorem isR_snoc {l : List ByteArray} {S : ByteArray} (h : ∀ s ∈ l, IsR (tl s)) (hS : IsR (tl S)) : ∀ s ∈ l ++ [S], IsR (tl s) := by
  intro x hx
  rcases List.mem_append.1 hx with q | q
  · exact h x q
  · obtain rfl := List.mem_singleton.1 q; exact hS
theorem isR_nil : ∀ s ∈ ([] : List ByteArray), IsR (tl s) := fun s h => by cases h
theorem flat_size (l : List ByteArray) : ByteArray.size (strB (flat l)) = (flat l).length := strB_size _

set_option maxRecDepth 100000 in
set_option maxHeartbeats 2000000 in
theorem crcBack_fn (ad : Addr) (m cp : Nat) (ss : List ByteArray) (more : ByteArray) (ct : Int) (hmc : m ≤ cp) : FnP Try.prog 5 #[.slice (some ad) m cp, .string more, .int .i64 ct] (fun w => ∀ i, i < m → w.cell? (Addr.add ad i) = some (.string (List.getD ss i ByteArray.empty))) (.bool true) := by
  refine FnP.intro (c := codeOf Try.f5) [.tmp 6] 110 Try.func5 (by kernel_rfl) (by kernel_rfl) (by kernel_rfl) fun w hpre => ?_
  have H0 := St.start w
  refine g_sreg [0] (by kernel_rfl) (by kernel_rfl) ?_
  refine s_val (some 6) (.bool false) (fun w => by kernel_rfl) (by kernel_rfl) ?_
  refine s_nil ?_
  refine g_sreg [0, 1, 2, 3, 4, 5] (by kernel_rfl) (by kernel_rfl) ?_
  refine s_val (some 19) (.slice (some ad) m cp) (fun w => by kernel_rfl) (by kernel_rfl) ?_
  refine s_val (some 20) (.slice (some ad) m cp) (fun w => by kernel_rfl) (by kernel_rfl) ?_
  refine s_val (some 21) (.int .i64 ((m : Nat) : Int)) (fun w => by kernel_rfl) (by kernel_rfl) ?_
  refine s_valE (some 22) (.int .i64 (if (12 : Int) < (((m : Nat) : Int) : Int) then (12 : Int) else (((m : Nat) : Int) : Int))) (.int .i64 ((min m 12 : Nat) : Int)) (fun w => by kernel_rfl) (int_eq (minN m 12)) (by kernel_rfl) ?_
  refine s_op (some 23) _ (.slice (some ad) (min m 12) cp) (by kernel_rfl) (by kernel_rfl) (fun o w ho => cutG_run (kd := .i64) (t := 30) (e := 9) (size := 1) (bytes := 16) (by kernel_rfl) (x := (.tmp 19)) (y := (.tmp 22)) ad m cp (min m 12) ho (by kernel_rfl) (by kernel_rfl) (by omega) w) ?_
  refine s_val (some 0) (.slice (some ad) (min m 12) cp) (fun w => by kernel_rfl) (by kernel_rfl) ?_
  refine s_nil ?_
  refine g_sreg [0] (by kernel_rfl) (by kernel_rfl) ?_
  refine s_val (some 7) (.string (⟨#[]⟩)) (fun w => by kernel_rfl) (by kernel_rfl) ?_
  refine s_nil ?_
  refine g_sreg [0] (by kernel_rfl) (by kernel_rfl) ?_
  refine s_val (some 8) (.slice none 0 0) (fun w => by kernel_rfl) (by kernel_rfl) ?_
  refine s_nil ?_
  refine g_seq (by kernel_rfl) ?_
  refine g_sreg [0, 1, 2] (by kernel_rfl) (by kernel_rfl) ?_
  refine s_val (some 24) (.slice (some ad) (min m 12) cp) (fun w => by kernel_rfl) (by kernel_rfl) ?_
  refine s_val (some 25) (.int .i64 ((min m 12 : Nat) : Int)) (fun w => by kernel_rfl) (by kernel_rfl) ?_
  refine s_val (some 26) (.int .i64 0) (fun w => by kernel_rfl) (by kernel_rfl) ?_
  refine s_nil ?_
  refine g_block 0 (by kernel_rfl) ?_
  refine g_loop (by kernel_rfl) (fun mz ρ ww => (∃ (k : Nat), min m 12 - k = mz ∧ (k ≤ min m 12) ∧ St w.heap.size w ww [] ∧ Is [(0, .slice (some ad) (min m 12) cp), (1, .string more), (2, .int .i64 ct), (7, .string (strB (flat []))), (8, .slice none 0 0), (24, .slice (some ad) (min m 12) cp), (25, .int .i64 ((min m 12 : Nat) : Int)), (26, .int .i64 ((k : Nat) : Int))] ρ) ∨ (∃ (b : Nat) (cap : Nat) (n : Nat) (cur : Array Value) (l : List ByteArray) (k : Nat), min m 12 - k = mz ∧ (n = List.length l) ∧ (Rw 1 cur cap n (cellsS l)) ∧ (∀ s ∈ l, IsR (tl s)) ∧ ((flat l).length ≤ 306 * k) ∧ (n ≤ k) ∧ (k ≤ min m 12) ∧ St w.heap.size w ww [(b, Obj.cells cur 9 (0, 0))] ∧ Is [(0, .slice (some ad) (min m 12) cp), (1, .string more), (2, .int .i64 ct), (7, .string (strB (flat l))), (8, .slice (some ⟨b, 0, none⟩) n cap), (24, .slice (some ad) (min m 12) cp), (25, .int .i64 ((min m 12 : Nat) : Int)), (26, .int .i64 ((k : Nat) : Int))] ρ)) (min m 12 - 0) (Or.inl ⟨0, rfl, (by omega), H0, (Is.of ⟨(by kernel_rfl), (by kernel_rfl), (by kernel_rfl), (by kernel_rfl), (by kernel_rfl), (by kernel_rfl), (by kernel_rfl), (by kernel_rfl), trivial⟩)⟩) ?_
  clear H0
  rintro _ _ w1 (⟨k, rfl, hk, H1, _, rfl⟩ | ⟨b, cap, n, cur, l, k, rfl, hn, hr, hrs, hfl, hnk, hk, H1, _, rfl⟩)
  · skip
    refine g_sreg [0] (by kernel_rfl) (by kernel_rfl) ?_
    by_cases hc1 : (k : Nat) < min m 12
    · skip
      refine s_valE (some 27) (.bool (decide (((k : Nat) : Int) < ((min m 12 : Nat) : Int)))) (.bool true) (fun w => by kernel_rfl) (bool_eq (decide_eq_true (by omega))) (by kernel_rfl) ?_
      refine s_nil ?_
      refine g_seq (by kernel_rfl) ?_
      refine g_cond_t (by kernel_rfl) (by kernel_rfl) ?_
      refine g_skip (by kernel_rfl) ?_
      show WP _ _ _ _ _ _
      refine g_seq (by kernel_rfl) ?_
      refine g_block 1 (by kernel_rfl) ?_
      refine g_sreg [0, 1, 2] (by kernel_rfl) (by kernel_rfl) ?_
      refine s_op (some 28) _ (.pointer (some (Addr.add ad k))) (by kernel_rfl) (by kernel_rfl) (fun o w ho => idxG_run (kd := .i64) (t := 30) (e := 9) (bytes := 16) (by kernel_rfl) (x := (.tmp 24)) (y := (.tmp 26)) ad (min m 12) cp k ho (by kernel_rfl) (by kernel_rfl) (by omega) w) ?_
      refine s_loadG H1 rfl (some 29) 9 (.tmp 28) (Addr.add ad k) (.string (List.getD ss k ByteArray.empty)) (by kernel_rfl) (by kernel_rfl) (by kernel_rfl) (by kernel_rfl) (hpre k (by omega)) ?_
      refine s_val (some 10) (.string (List.getD ss k ByteArray.empty)) (fun w => by kernel_rfl) (by kernel_rfl) ?_
      refine s_nil ?_
      refine g_sreg [0, 1, 2, 3, 4, 5] (by kernel_rfl) (by kernel_rfl) ?_
      refine s_val (some 30) (.string (List.getD ss k ByteArray.empty)) (fun w => by kernel_rfl) (by kernel_rfl) ?_
      refine s_val (some 31) (.string (List.getD ss k ByteArray.empty)) (fun w => by kernel_rfl) (by kernel_rfl) ?_
      refine s_val (some 32) (.int .i64 ((ByteArray.size (List.getD ss k ByteArray.empty) : Nat) : Int)) (fun w => by kernel_rfl) (by kernel_rfl) ?_
      refine s_valE (some 33) (.int .i64 (if (300 : Int) < (((ByteArray.size (List.getD ss k ByteArray.empty) : Nat) : Int) : Int) then (300 : Int) else (((ByteArray.size (List.getD ss k ByteArray.empty) : Nat) : Int) : Int))) (.int .i64 ((min (ByteArray.size (List.getD ss k ByteArray.empty)) 300 : Nat) : Int)) (fun w => by kernel_rfl) (int_eq (minN (ByteArray.size (List.getD ss k ByteArray.empty)) 300)) (by kernel_rfl) ?_
      refine s_op (some 34) _ (.string (ByteArray.extract (List.getD ss k ByteArray.empty) 0 (min (ByteArray.size (List.getD ss k ByteArray.empty)) 300))) (by kernel_rfl) (by kernel_rfl) (fun o w ho => scut_run (t := 9) (kd := .i64) (by kernel_rfl) (x := (.tmp 30)) (y := (.tmp 33)) (List.getD ss k ByteArray.empty) (min (ByteArray.size (List.getD ss k ByteArray.empty)) 300) ho (by kernel_rfl) (by kernel_rfl) (by omega) w) ?_
      refine s_val (some 10) (.string (ByteArray.extract (List.getD ss k ByteArray.empty) 0 (min (ByteArray.size (List.getD ss k ByteArray.empty)) 300))) (fun w => by kernel_rfl) (by kernel_rfl) ?_
      refine s_nil ?_
      refine g_sreg [0, 1, 2, 3, 4, 5, 6] (by kernel_rfl) (by kernel_rfl) ?_
      have hS300 : ByteArray.size (ByteArray.extract (List.getD ss k ByteArray.empty) 0 (min (ByteArray.size (List.getD ss k ByteArray.empty)) 300)) ≤ 300 := by rw [ext_size _ _ _ (Nat.min_le_left _ _)]; omega
      by_cases hx2 : 1 ≤ ByteArray.size (ByteArray.extract (List.getD ss k ByteArray.empty) 0 (min (ByteArray.size (List.getD ss k ByteArray.empty)) 300)) ∧ ByteArray.size (ByteArray.extract (List.getD ss k ByteArray.empty) 0 (min (ByteArray.size (List.getD ss k ByteArray.empty)) 300)) ≤ 4000
      · skip
        refine s_val (some 36) (.string (ByteArray.extract (List.getD ss k ByteArray.empty) 0 (min (ByteArray.size (List.getD ss k ByteArray.empty)) 300))) (fun w => by kernel_rfl) (by kernel_rfl) ?_
        refine s_call H1 (some 37) 8 #[.string (ByteArray.extract (List.getD ss k ByteArray.empty) 0 (min (ByteArray.size (List.getD ss k ByteArray.empty)) 300))] (.tuple #[.string (strB (frB (tl (ByteArray.extract (List.getD ss k ByteArray.empty) 0 (min (ByteArray.size (List.getD ss k ByteArray.empty)) 300))))), .int .i64 0]) (frame_fn (ByteArray.extract (List.getD ss k ByteArray.empty) 0 (min (ByteArray.size (List.getD ss k ByteArray.empty)) 300)) (by omega)) (fun w => by kernel_rfl) (by kernel_rfl) ?_
        intro w2 H2; clear H1
        refine s_val (some 35) (.tuple #[.string (strB (frB (tl (ByteArray.extract (List.getD ss k ByteArray.empty) 0 (min (ByteArray.size (List.getD ss k ByteArray.empty)) 300))))), .int .i64 0]) (fun w => by kernel_rfl) (by kernel_rfl) ?_
        refine s_val (some 38) (.string (strB (frB (tl (ByteArray.extract (List.getD ss k ByteArray.empty) 0 (min (ByteArray.size (List.getD ss k ByteArray.empty)) 300)))))) (fun w => by kernel_rfl) (by kernel_rfl) ?_
        refine s_val (some 39) (.int .i64 0) (fun w => by kernel_rfl) (by kernel_rfl) ?_
        refine s_val (some 11) (.string (strB (frB (tl (ByteArray.extract (List.getD ss k ByteArray.empty) 0 (min (ByteArray.size (List.getD ss k ByteArray.empty)) 300)))))) (fun w => by kernel_rfl) (by kernel_rfl) ?_
        refine s_val (some 12) (.int .i64 0) (fun w => by kernel_rfl) (by kernel_rfl) ?_
        refine s_nil ?_
        refine g_seq (by kernel_rfl) ?_
        refine g_sreg [0, 1, 2, 3, 4] (by kernel_rfl) (by kernel_rfl) ?_
        refine s_val (some 40) (.int .i64 0) (fun w => by kernel_rfl) (by kernel_rfl) ?_
        refine s_val (some 41) (.bool true) (fun w => by kernel_rfl) (by kernel_rfl) ?_
        refine s_val (some 42) (.string (ByteArray.extract (List.getD ss k ByteArray.empty) 0 (min (ByteArray.size (List.getD ss k ByteArray.empty)) 300))) (fun w => by kernel_rfl) (by kernel_rfl) ?_
        refine s_call H2 (some 43) 12 #[.string (ByteArray.extract (List.getD ss k ByteArray.empty) 0 (min (ByteArray.size (List.getD ss k ByteArray.empty)) 300))] (.bool true) (isRec_yes (ByteArray.extract (List.getD ss k ByteArray.empty) 0 (min (ByteArray.size (List.getD ss k ByteArray.empty)) 300)) (by omega)) (fun w => by kernel_rfl) (by kernel_rfl) ?_
        intro w3 H3; clear H2
        refine s_val (some 44) (.bool false) (fun w => by kernel_rfl) (by kernel_rfl) ?_
        refine s_nil ?_
        refine g_cond_f (by kernel_rfl) (by kernel_rfl) ?_
        refine g_skip (by kernel_rfl) ?_
        show WP _ _ _ _ _ _
        refine g_sreg [0, 1] (by kernel_rfl) (by kernel_rfl) ?_
        refine s_val (some 45) (.int .i64 0) (fun w => by kernel_rfl) (by kernel_rfl) ?_
        refine s_val (some 46) (.bool true) (fun w => by kernel_rfl) (by kernel_rfl) ?_
        refine s_nil ?_
        refine g_cond_t (by kernel_rfl) (by kernel_rfl) ?_
        refine g_sreg [0, 1, 2, 3] (by kernel_rfl) (by kernel_rfl) ?_
        refine s_val (some 47) (.string (strB (flat []))) (fun w => by kernel_rfl) (by kernel_rfl) ?_
        refine s_val (some 48) (.string (strB (frB (tl (ByteArray.extract (List.getD ss k ByteArray.empty) 0 (min (ByteArray.size (List.getD ss k ByteArray.empty)) 300)))))) (fun w => by kernel_rfl) (by kernel_rfl) ?_
        have hg3 : ByteArray.size (strB (flat [])) = 0 := rfl
        have hh3 : ByteArray.size (strB (frB (tl (ByteArray.extract (List.getD ss k ByteArray.empty) 0 (min (ByteArray.size (List.getD ss k ByteArray.empty)) 300))))) = ByteArray.size (ByteArray.extract (List.getD ss k ByteArray.empty) 0 (min (ByteArray.size (List.getD ss k ByteArray.empty)) 300)) + 6 := by rw [frB_size, tl_len]
        refine s_op (some 49) _ (.string ((strB (flat [])) ++ (strB (frB (tl (ByteArray.extract (List.getD ss k ByteArray.empty) 0 (min (ByteArray.size (List.getD ss k ByteArray.empty)) 300))))))) (by kernel_rfl) (by kernel_rfl) (fun o w ho => sadd_run (t := 9) (t' := 9) (x := (.tmp 47)) (y := (.tmp 48)) (strB (flat [])) (strB (frB (tl (ByteArray.extract (List.getD ss k ByteArray.empty) 0 (min (ByteArray.size (List.getD ss k ByteArray.empty)) 300))))) w ho (by kernel_rfl) (by kernel_rfl) (by omega)) ?_
        refine s_val (some 7) (.string ((strB (flat [])) ++ (strB (frB (tl (ByteArray.extract (List.getD ss k ByteArray.empty) 0 (min (ByteArray.size (List.getD ss k ByteArray.empty)) 300))))))) (fun w => by kernel_rfl) (by kernel_rfl) ?_
        refine s_nil ?_
        refine g_reg0 [0, 1, 2, 3, 4] (by kernel_rfl) ?_
        refine s_val (some 50) (.slice none 0 0) (fun w => by kernel_rfl) (by kernel_rfl) ?_
        refine s_val (some 51) (.string (ByteArray.extract (List.getD ss k ByteArray.empty) 0 (min (ByteArray.size (List.getD ss k ByteArray.empty)) 300))) (fun w => by kernel_rfl) (by kernel_rfl) ?_
        refine s_new H3 (some 52) (fun b => .slice (some ⟨b, 0, none⟩) 1 1) #[.string (ByteArray.extract (List.getD ss k ByteArray.empty) 0 (min (ByteArray.size (List.getD ss k ByteArray.empty)) 300))] 9 (fun w => by kernel_rfl) (by kernel_rfl) ?_
        intro b1 w4 H4; clear H3
        refine s_appendNil H4 (some 53) 30 9 1 16 (.tmp 50) (.tmp 52) 0 b1 1 1 #[.string (ByteArray.extract (List.getD ss k ByteArray.empty) 0 (min (ByteArray.size (List.getD ss k ByteArray.empty)) 300))] 9 (0, 0) ([.string (ByteArray.extract (List.getD ss k ByteArray.empty) 0 (min (ByteArray.size (List.getD ss k ByteArray.empty)) 300))]) (by kernel_rfl) (by kernel_rfl) (by kernel_rfl) (by kernel_rfl) (by kernel_rfl) (by kernel_rfl) (by rfl) (by rfl) (by intro u hu; simp at hu; first | exact hu.elim | (rcases hu with rfl | rfl | rfl | rfl <;> rfl) | (rcases hu with rfl | rfl <;> rfl) | (subst hu; rfl)) (by omega) (by omega) (by unfold maxLen; omega) ?_
        intro b_1 cap_2 cur_3 w5 H5 hr_4; clear H4
        have hr_4t : Rw 1 cur_3 cap_2 1 (cellsS ([(ByteArray.extract (List.getD ss k ByteArray.empty) 0 (min (ByteArray.size (List.getD ss k ByteArray.empty)) 300))])) := hr_4
        refine s_val (some 8) (.slice (some ⟨b_1, 0, none⟩) 1 cap_2) (fun w => by kernel_rfl) (by kernel_rfl) ?_
        refine s_nil ?_
        show WP _ _ _ _ _ _
        refine g_reg0 [0, 1] (by kernel_rfl) ?_
        refine s_valE (some 54) (.int .i64 (IntKind.i64.wrap (((k : Nat) : Int) + 1))) (.int .i64 ((k + 1 : Nat) : Int)) (fun w => by kernel_rfl) (int_eq (wrapAdd_i64 (a := k) (b := 1) (by omega))) (by kernel_rfl) ?_
        refine s_val (some 26) (.int .i64 ((k + 1 : Nat) : Int)) (fun w => by kernel_rfl) (by kernel_rfl) ?_
        refine s_nil ?_
        have hfs := flat_len_step [] (ByteArray.extract (List.getD ss k ByteArray.empty) 0 (min (ByteArray.size (List.getD ss k ByteArray.empty)) 300))
        rw [show ((strB (flat [])) ++ (strB (frB (tl (ByteArray.extract (List.getD ss k ByteArray.empty) 0 (min (ByteArray.size (List.getD ss k ByteArray.empty)) 300)))))) = strB (flat ([(ByteArray.extract (List.getD ss k ByteArray.empty) 0 (min (ByteArray.size (List.getD ss k ByteArray.empty)) 300))])) from flat_step [] (ByteArray.extract (List.getD ss k ByteArray.empty) 0 (min (ByteArray.size (List.getD ss k ByteArray.empty)) 300))]
        have hf00 : (flat []).length = 0 := rfl
        have hfl1 : (flat ([(ByteArray.extract (List.getD ss k ByteArray.empty) 0 (min (ByteArray.size (List.getD ss k ByteArray.empty)) 300))])).length ≤ 306 * (k + 1) := by have h0 : flat ([(ByteArray.extract (List.getD ss k ByteArray.empty) 0 (min (ByteArray.size (List.getD ss k ByteArray.empty)) 300))]) = flat ([] ++ [(ByteArray.extract (List.getD ss k ByteArray.empty) 0 (min (ByteArray.size (List.getD ss k ByteArray.empty)) 300))]) := rfl; rw [h0]; omega
        have hrs1 : ∀ s ∈ [(ByteArray.extract (List.getD ss k ByteArray.empty) 0 (min (ByteArray.size (List.getD ss k ByteArray.empty)) 300))], IsR (tl s) := (isR_snoc isR_nil (isR_of (s := (ByteArray.extract (List.getD ss k ByteArray.empty) 0 (min (ByteArray.size (List.getD ss k ByteArray.empty)) 300))) (by omega)))
        have HD4 : St w.heap.size w w5 [(b_1, Obj.cells cur_3 9 (0, 0))] := H5.sub (List.Sublist.cons_cons _ (List.Sublist.cons _ List.Sublist.slnil))
        show ∃ m, _ ∧ _
        exact ⟨_, (by omega), Or.inr (⟨b_1, cap_2, 1, cur_3, [(ByteArray.extract (List.getD ss k ByteArray.empty) 0 (min (ByteArray.size (List.getD ss k ByteArray.empty)) 300))], (k + 1), rfl, rfl, hr_4t, hrs1, hfl1, (by omega), (by omega), HD4, (Is.of ⟨(by kernel_rfl), (by kernel_rfl), (by kernel_rfl), (by kernel_rfl), (by kernel_rfl), (by kernel_rfl), (by kernel_rfl), (by kernel_rfl), trivial⟩)⟩)⟩
      · skip
        refine s_val (some 36) (.string (ByteArray.extract (List.getD ss k ByteArray.empty) 0 (min (ByteArray.size (List.getD ss k ByteArray.empty)) 300))) (fun w => by kernel_rfl) (by kernel_rfl) ?_
        refine s_call H1 (some 37) 8 #[.string (ByteArray.extract (List.getD ss k ByteArray.empty) 0 (min (ByteArray.size (List.getD ss k ByteArray.empty)) 300))] (.tuple #[.string (⟨#[]⟩), .int .i64 1]) (frameNo_fn (ByteArray.extract (List.getD ss k ByteArray.empty) 0 (min (ByteArray.size (List.getD ss k ByteArray.empty)) 300)) (by omega)) (fun w => by kernel_rfl) (by kernel_rfl) ?_
        intro w6 H6; clear H1
        refine s_val (some 35) (.tuple #[.string (⟨#[]⟩), .int .i64 1]) (fun w => by kernel_rfl) (by kernel_rfl) ?_
        refine s_val (some 38) (.string (⟨#[]⟩)) (fun w => by kernel_rfl) (by kernel_rfl) ?_
        refine s_val (some 39) (.int .i64 1) (fun w => by kernel_rfl) (by kernel_rfl) ?_
        refine s_val (some 11) (.string (⟨#[]⟩)) (fun w => by kernel_rfl) (by kernel_rfl) ?_
        refine s_val (some 12) (.int .i64 1) (fun w => by kernel_rfl) (by kernel_rfl) ?_
        refine s_nil ?_
        refine g_seq (by kernel_rfl) ?_
        refine g_sreg [0, 1, 2, 3, 4] (by kernel_rfl) (by kernel_rfl) ?_
        refine s_val (some 40) (.int .i64 1) (fun w => by kernel_rfl) (by kernel_rfl) ?_
        refine s_val (some 41) (.bool false) (fun w => by kernel_rfl) (by kernel_rfl) ?_
        refine s_val (some 42) (.string (ByteArray.extract (List.getD ss k ByteArray.empty) 0 (min (ByteArray.size (List.getD ss k ByteArray.empty)) 300))) (fun w => by kernel_rfl) (by kernel_rfl) ?_
        refine s_call H6 (some 43) 12 #[.string (ByteArray.extract (List.getD ss k ByteArray.empty) 0 (min (ByteArray.size (List.getD ss k ByteArray.empty)) 300))] (.bool false) (isRec_no (ByteArray.extract (List.getD ss k ByteArray.empty) 0 (min (ByteArray.size (List.getD ss k ByteArray.empty)) 300)) (by omega)) (fun w => by kernel_rfl) (by kernel_rfl) ?_
        intro w7 H7; clear H6
        refine s_val (some 44) (.bool false) (fun w => by kernel_rfl) (by kernel_rfl) ?_
        refine s_nil ?_
        refine g_cond_f (by kernel_rfl) (by kernel_rfl) ?_
        refine g_skip (by kernel_rfl) ?_
        show WP _ _ _ _ _ _
        refine g_sreg [0, 1] (by kernel_rfl) (by kernel_rfl) ?_
        refine s_val (some 45) (.int .i64 1) (fun w => by kernel_rfl) (by kernel_rfl) ?_
        refine s_val (some 46) (.bool false) (fun w => by kernel_rfl) (by kernel_rfl) ?_
        refine s_nil ?_
        refine g_cond_f (by kernel_rfl) (by kernel_rfl) ?_
        refine g_skip (by kernel_rfl) ?_
        show WP _ _ _ _ _ _
        refine g_reg0 [0, 1] (by kernel_rfl) ?_
        refine s_valE (some 54) (.int .i64 (IntKind.i64.wrap (((k : Nat) : Int) + 1))) (.int .i64 ((k + 1 : Nat) : Int)) (fun w => by kernel_rfl) (int_eq (wrapAdd_i64 (a := k) (b := 1) (by omega))) (by kernel_rfl) ?_
        refine s_val (some 26) (.int .i64 ((k + 1 : Nat) : Int)) (fun w => by kernel_rfl) (by kernel_rfl) ?_
        refine s_nil ?_
        show ∃ m, _ ∧ _
        exact ⟨_, (by omega), Or.inl ⟨(k + 1), rfl, (by omega), H7, (Is.of ⟨(by kernel_rfl), (by kernel_rfl), (by kernel_rfl), (by kernel_rfl), (by kernel_rfl), (by kernel_rfl), (by kernel_rfl), (by kernel_rfl), trivial⟩)⟩⟩
    · skip
      refine s_valE (some 27) (.bool (decide (((k : Nat) : Int) < ((min m 12 : Nat) : Int)))) (.bool false) (fun w => by kernel_rfl) (bool_eq (decide_eq_false (by omega))) (by kernel_rfl) ?_
      refine s_nil ?_
      refine g_seq (by kernel_rfl) ?_
      refine g_cond_f (by kernel_rfl) (by kernel_rfl) ?_
      refine g_exit 0 (by kernel_rfl) ?_
      show WP _ _ _ _ _ _
      refine g_sreg [0, 1, 2, 3, 4, 5, 6] (by kernel_rfl) (by kernel_rfl) ?_
      have hg0 : ByteArray.size (strB (flat [])) = 0 := rfl
      have hf0 : (flat []).length = 0 := rfl
      refine s_val (some 56) (.string (strB (flat []))) (fun w => by kernel_rfl) (by kernel_rfl) ?_
      refine s_callT H1 (some 57) 14 #[.string (strB (flat []))] (fun _ => True) 9 (fun rsZ pZ => Sc (tl (strB (flat []))) rsZ pZ) (scan_fn (strB (flat [])) (by omega)) trivial (by kernel_rfl) (by kernel_rfl) ?_ ?_
      · skip
        intro p_5 w8 H8 hs_6; clear H1
        obtain ⟨hl5, hp5⟩ := Sc.uniq hs_6 (sc_flat (X := strB (flat [])) (m := []) isR_nil (by rw [tl_strB, List.append_nil]) fst_nil)
        refine s_val (some 55) (.tuple #[.slice none 0 0, .int .i64 ((p_5 : Nat) : Int)]) (fun w => by kernel_rfl) (by kernel_rfl) ?_
        refine s_val (some 58) (.slice none 0 0) (fun w => by kernel_rfl) (by kernel_rfl) ?_
        refine s_val (some 59) (.int .i64 ((p_5 : Nat) : Int)) (fun w => by kernel_rfl) (by kernel_rfl) ?_
        refine s_val (some 13) (.slice none 0 0) (fun w => by kernel_rfl) (by kernel_rfl) ?_
        refine s_val (some 14) (.int .i64 ((p_5 : Nat) : Int)) (fun w => by kernel_rfl) (by kernel_rfl) ?_
        refine s_nil ?_
        refine g_seq (by kernel_rfl) ?_
        refine g_sreg [0, 1, 2, 3, 4, 5, 6, 7, 8, 9] (by kernel_rfl) (by kernel_rfl) ?_
        refine s_val (some 60) (.slice none 0 0) (fun w => by kernel_rfl) (by kernel_rfl) ?_
        refine s_val (some 61) (.slice none 0 0) (fun w => by kernel_rfl) (by kernel_rfl) ?_
        refine s_call H8 (some 62) 16 #[.slice none 0 0, .slice none 0 0] (.bool true) same_nn (fun w => by kernel_rfl) (by kernel_rfl) ?_
        intro w9 H9; clear H8
        refine s_val (some 63) (.bool false) (fun w => by kernel_rfl) (by kernel_rfl) ?_
        refine s_val (some 64) (.bool false) (fun w => by kernel_rfl) (by kernel_rfl) ?_
        refine s_val (some 65) (.int .i64 ((p_5 : Nat) : Int)) (fun w => by kernel_rfl) (by kernel_rfl) ?_
        refine s_val (some 66) (.string (strB (flat []))) (fun w => by kernel_rfl) (by kernel_rfl) ?_
        refine s_val (some 67) (.int .i64 ((ByteArray.size (strB (flat [])) : Nat) : Int)) (fun w => by kernel_rfl) (by kernel_rfl) ?_
        refine s_valE (some 68) (.bool (!(((p_5 : Nat) : Int) == ((ByteArray.size (strB (flat [])) : Nat) : Int)))) (.bool false) (fun w => by kernel_rfl) (bool_eq (by rw [beq_iff_eq.2 (by omega)]; rfl)) (by kernel_rfl) ?_
        refine s_val (some 69) (.bool false) (fun w => by kernel_rfl) (by kernel_rfl) ?_
        refine s_nil ?_
        refine g_cond_f (by kernel_rfl) (by kernel_rfl) ?_
        refine g_skip (by kernel_rfl) ?_
        show WP _ _ _ _ _ _
        refine g_sreg [0, 1, 2, 3, 4, 5, 6, 7, 8, 9, 10] (by kernel_rfl) (by kernel_rfl) ?_
        refine s_val (some 71) (.string more) (fun w => by kernel_rfl) (by kernel_rfl) ?_
        refine s_val (some 72) (.string more) (fun w => by kernel_rfl) (by kernel_rfl) ?_
        refine s_val (some 73) (.int .i64 ((ByteArray.size more : Nat) : Int)) (fun w => by kernel_rfl) (by kernel_rfl) ?_
        refine s_valE (some 74) (.int .i64 (if (300 : Int) < (((ByteArray.size more : Nat) : Int) : Int) then (300 : Int) else (((ByteArray.size more : Nat) : Int) : Int))) (.int .i64 ((min (ByteArray.size more) 300 : Nat) : Int)) (fun w => by kernel_rfl) (int_eq (minN (ByteArray.size more) 300)) (by kernel_rfl) ?_
        refine s_op (some 75) _ (.string (ByteArray.extract more 0 (min (ByteArray.size more) 300))) (by kernel_rfl) (by kernel_rfl) (fun o w ho => scut_run (t := 9) (kd := .i64) (by kernel_rfl) (x := (.tmp 71)) (y := (.tmp 74)) more (min (ByteArray.size more) 300) ho (by kernel_rfl) (by kernel_rfl) (by omega) w) ?_
        have hS300 : ByteArray.size (ByteArray.extract more 0 (min (ByteArray.size more) 300)) ≤ 300 := by rw [ext_size _ _ _ (Nat.min_le_left _ _)]; omega
        by_cases hx6 : 1 ≤ ByteArray.size (ByteArray.extract more 0 (min (ByteArray.size more) 300)) ∧ ByteArray.size (ByteArray.extract more 0 (min (ByteArray.size more) 300)) ≤ 4000
        · skip
          refine s_call H9 (some 76) 8 #[.string (ByteArray.extract more 0 (min (ByteArray.size more) 300))] (.tuple #[.string (strB (frB (tl (ByteArray.extract more 0 (min (ByteArray.size more) 300))))), .int .i64 0]) (frame_fn (ByteArray.extract more 0 (min (ByteArray.size more) 300)) (by omega)) (fun w => by kernel_rfl) (by kernel_rfl) ?_
          intro w10 H10; clear H9
          refine s_val (some 70) (.tuple #[.string (strB (frB (tl (ByteArray.extract more 0 (min (ByteArray.size more) 300))))), .int .i64 0]) (fun w => by kernel_rfl) (by kernel_rfl) ?_
          refine s_val (some 77) (.string (strB (frB (tl (ByteArray.extract more 0 (min (ByteArray.size more) 300)))))) (fun w => by kernel_rfl) (by kernel_rfl) ?_
          refine s_val (some 78) (.int .i64 0) (fun w => by kernel_rfl) (by kernel_rfl) ?_
          refine s_val (some 15) (.string (strB (frB (tl (ByteArray.extract more 0 (min (ByteArray.size more) 300)))))) (fun w => by kernel_rfl) (by kernel_rfl) ?_
          refine s_val (some 16) (.int .i64 0) (fun w => by kernel_rfl) (by kernel_rfl) ?_
          refine s_nil ?_
          refine g_seq (by kernel_rfl) ?_
          refine g_sreg [0, 1] (by kernel_rfl) (by kernel_rfl) ?_
          refine s_val (some 79) (.int .i64 0) (fun w => by kernel_rfl) (by kernel_rfl) ?_
          refine s_val (some 80) (.bool false) (fun w => by kernel_rfl) (by kernel_rfl) ?_
          refine s_nil ?_
          refine g_cond_f (by kernel_rfl) (by kernel_rfl) ?_
          refine g_skip (by kernel_rfl) ?_
          show WP _ _ _ _ _ _
          refine g_sreg [0, 1, 2, 3, 4, 5, 6, 7] (by kernel_rfl) (by kernel_rfl) ?_
          refine s_val (some 82) (.int .i64 ct) (fun w => by kernel_rfl) (by kernel_rfl) ?_
          refine s_valE (some 83) (.int .i64 (if (0 : Int) > (ct : Int) then (0 : Int) else (ct : Int))) (.int .i64 ((Int.toNat ct : Nat) : Int)) (fun w => by kernel_rfl) (int_eq (max0 ct)) (by kernel_rfl) ?_
          refine s_val (some 84) (.string (strB (frB (tl (ByteArray.extract more 0 (min (ByteArray.size more) 300)))))) (fun w => by kernel_rfl) (by kernel_rfl) ?_
          have hfz : ByteArray.size (strB (frB (tl (ByteArray.extract more 0 (min (ByteArray.size more) 300))))) = ByteArray.size (ByteArray.extract more 0 (min (ByteArray.size more) 300)) + 6 := by rw [frB_size, tl_len]
          refine s_val (some 85) (.int .i64 ((ByteArray.size (strB (frB (tl (ByteArray.extract more 0 (min (ByteArray.size more) 300))))) : Nat) : Int)) (fun w => by kernel_rfl) (by kernel_rfl) ?_
          refine s_valE (some 86) (.int .i64 (IntKind.i64.wrap (((ByteArray.size (strB (frB (tl (ByteArray.extract more 0 (min (ByteArray.size more) 300))))) : Nat) : Int) - 1))) (.int .i64 (((ByteArray.size (strB (frB (tl (ByteArray.extract more 0 (min (ByteArray.size more) 300)))))) - 1 : Nat) : Int)) (fun w => by kernel_rfl) (int_eq (wrapSub_i64 (a := ByteArray.size (strB (frB (tl (ByteArray.extract more 0 (min (ByteArray.size more) 300)))))) (b := 1) (by omega))) (by kernel_rfl) ?_
          refine s_valE (some 87) (.int .i64 (if (0 : Int) > ((((ByteArray.size (strB (frB (tl (ByteArray.extract more 0 (min (ByteArray.size more) 300)))))) - 1 : Nat) : Int) : Int) then (0 : Int) else ((((ByteArray.size (strB (frB (tl (ByteArray.extract more 0 (min (ByteArray.size more) 300)))))) - 1 : Nat) : Int) : Int))) (.int .i64 ((max ((ByteArray.size (strB (frB (tl (ByteArray.extract more 0 (min (ByteArray.size more) 300)))))) - 1) 0 : Nat) : Int)) (fun w => by kernel_rfl) (int_eq (maxN ((ByteArray.size (strB (frB (tl (ByteArray.extract more 0 (min (ByteArray.size more) 300)))))) - 1) 0)) (by kernel_rfl) ?_
          refine s_valE (some 88) (.int .i64 (if (((max ((ByteArray.size (strB (frB (tl (ByteArray.extract more 0 (min (ByteArray.size more) 300)))))) - 1) 0 : Nat) : Int) : Int) < (((Int.toNat ct : Nat) : Int) : Int) then (((max ((ByteArray.size (strB (frB (tl (ByteArray.extract more 0 (min (ByteArray.size more) 300)))))) - 1) 0 : Nat) : Int) : Int) else (((Int.toNat ct : Nat) : Int) : Int))) (.int .i64 ((min (Int.toNat ct) (max ((ByteArray.size (strB (frB (tl (ByteArray.extract more 0 (min (ByteArray.size more) 300)))))) - 1) 0) : Nat) : Int)) (fun w => by kernel_rfl) (int_eq (minN (Int.toNat ct) (max ((ByteArray.size (strB (frB (tl (ByteArray.extract more 0 (min (ByteArray.size more) 300)))))) - 1) 0))) (by kernel_rfl) ?_
          refine s_val (some 2) (.int .i64 ((min (Int.toNat ct) (max ((ByteArray.size (strB (frB (tl (ByteArray.extract more 0 (min (ByteArray.size more) 300)))))) - 1) 0) : Nat) : Int)) (fun w => by kernel_rfl) (by kernel_rfl) ?_
          refine s_nil ?_
          refine g_sreg [0, 1, 2, 3, 4, 5, 6, 7, 8, 9, 10] (by kernel_rfl) (by kernel_rfl) ?_
          refine s_val (some 90) (.string (strB (flat []))) (fun w => by kernel_rfl) (by kernel_rfl) ?_
          refine s_val (some 91) (.string (strB (frB (tl (ByteArray.extract more 0 (min (ByteArray.size more) 300)))))) (fun w => by kernel_rfl) (by kernel_rfl) ?_
          refine s_val (some 92) (.int .i64 ((min (Int.toNat ct) (max ((ByteArray.size (strB (frB (tl (ByteArray.extract more 0 (min (ByteArray.size more) 300)))))) - 1) 0) : Nat) : Int)) (fun w => by kernel_rfl) (by kernel_rfl) ?_
          refine s_op (some 93) _ (.string (ByteArray.extract (strB (frB (tl (ByteArray.extract more 0 (min (ByteArray.size more) 300))))) 0 (min (Int.toNat ct) (max ((ByteArray.size (strB (frB (tl (ByteArray.extract more 0 (min (ByteArray.size more) 300)))))) - 1) 0)))) (by kernel_rfl) (by kernel_rfl) (fun o w ho => scut_run (t := 9) (kd := .i64) (by kernel_rfl) (x := (.tmp 91)) (y := (.tmp 92)) (strB (frB (tl (ByteArray.extract more 0 (min (ByteArray.size more) 300))))) (min (Int.toNat ct) (max ((ByteArray.size (strB (frB (tl (ByteArray.extract more 0 (min (ByteArray.size more) 300)))))) - 1) 0)) ho (by kernel_rfl) (by kernel_rfl) (by omega) w) ?_
          have he7 : ByteArray.size (ByteArray.extract (strB (frB (tl (ByteArray.extract more 0 (min (ByteArray.size more) 300))))) 0 (min (Int.toNat ct) (max ((ByteArray.size (strB (frB (tl (ByteArray.extract more 0 (min (ByteArray.size more) 300)))))) - 1) 0))) = min (Int.toNat ct) (max ((ByteArray.size (strB (frB (tl (ByteArray.extract more 0 (min (ByteArray.size more) 300)))))) - 1) 0) := by rw [ext_size _ _ _ (by omega)]; omega
          have hs7 : ByteArray.size ((strB (flat [])) ++ (ByteArray.extract (strB (frB (tl (ByteArray.extract more 0 (min (ByteArray.size more) 300))))) 0 (min (Int.toNat ct) (max ((ByteArray.size (strB (frB (tl (ByteArray.extract more 0 (min (ByteArray.size more) 300)))))) - 1) 0)))) = ByteArray.size (strB (flat [])) + ByteArray.size (ByteArray.extract (strB (frB (tl (ByteArray.extract more 0 (min (ByteArray.size more) 300))))) 0 (min (Int.toNat ct) (max ((ByteArray.size (strB (frB (tl (ByteArray.extract more 0 (min (ByteArray.size more) 300)))))) - 1) 0))) := add_size _ _
          refine s_op (some 94) _ (.string ((strB (flat [])) ++ (ByteArray.extract (strB (frB (tl (ByteArray.extract more 0 (min (ByteArray.size more) 300))))) 0 (min (Int.toNat ct) (max ((ByteArray.size (strB (frB (tl (ByteArray.extract more 0 (min (ByteArray.size more) 300)))))) - 1) 0))))) (by kernel_rfl) (by kernel_rfl) (fun o w ho => sadd_run (t := 9) (t' := 9) (x := (.tmp 90)) (y := (.tmp 93)) (strB (flat [])) (ByteArray.extract (strB (frB (tl (ByteArray.extract more 0 (min (ByteArray.size more) 300))))) 0 (min (Int.toNat ct) (max ((ByteArray.size (strB (frB (tl (ByteArray.extract more 0 (min (ByteArray.size more) 300)))))) - 1) 0))) w ho (by kernel_rfl) (by kernel_rfl) (by omega)) ?_
          refine s_callT H10 (some 95) 14 #[.string ((strB (flat [])) ++ (ByteArray.extract (strB (frB (tl (ByteArray.extract more 0 (min (ByteArray.size more) 300))))) 0 (min (Int.toNat ct) (max ((ByteArray.size (strB (frB (tl (ByteArray.extract more 0 (min (ByteArray.size more) 300)))))) - 1) 0))))] (fun _ => True) 9 (fun rsZ pZ => Sc (tl ((strB (flat [])) ++ (ByteArray.extract (strB (frB (tl (ByteArray.extract more 0 (min (ByteArray.size more) 300))))) 0 (min (Int.toNat ct) (max ((ByteArray.size (strB (frB (tl (ByteArray.extract more 0 (min (ByteArray.size more) 300)))))) - 1) 0))))) rsZ pZ) (scan_fn ((strB (flat [])) ++ (ByteArray.extract (strB (frB (tl (ByteArray.extract more 0 (min (ByteArray.size more) 300))))) 0 (min (Int.toNat ct) (max ((ByteArray.size (strB (frB (tl (ByteArray.extract more 0 (min (ByteArray.size more) 300)))))) - 1) 0)))) (by omega)) trivial (by kernel_rfl) (by kernel_rfl) ?_ ?_
          · skip
            intro p_7 w11 H11 hs_8; clear H10
            obtain ⟨hl8, hp8⟩ := Sc.uniq hs_8 (sc_flat (X := ((strB (flat [])) ++ (ByteArray.extract (strB (frB (tl (ByteArray.extract more 0 (min (ByteArray.size more) 300))))) 0 (min (Int.toNat ct) (max ((ByteArray.size (strB (frB (tl (ByteArray.extract more 0 (min (ByteArray.size more) 300)))))) - 1) 0))))) (m := (frB (tl (ByteArray.extract more 0 (min (ByteArray.size more) 300)))).take (min (Int.toNat ct) (max ((ByteArray.size (strB (frB (tl (ByteArray.extract more 0 (min (ByteArray.size more) 300)))))) - 1) 0))) isR_nil (by rw [tl_add, tl_strB, tl_extract, tl_strB, List.drop_zero]) (fst_cut (tl (ByteArray.extract more 0 (min (ByteArray.size more) 300))) (isR_of (by omega)) (min (Int.toNat ct) (max ((ByteArray.size (strB (frB (tl (ByteArray.extract more 0 (min (ByteArray.size more) 300)))))) - 1) 0)) (by rw [frB_len, tl_len]; omega)))
            refine s_val (some 89) (.tuple #[.slice none 0 0, .int .i64 ((p_7 : Nat) : Int)]) (fun w => by kernel_rfl) (by kernel_rfl) ?_
            refine s_val (some 96) (.slice none 0 0) (fun w => by kernel_rfl) (by kernel_rfl) ?_
            refine s_val (some 97) (.int .i64 ((p_7 : Nat) : Int)) (fun w => by kernel_rfl) (by kernel_rfl) ?_
            refine s_val (some 17) (.slice none 0 0) (fun w => by kernel_rfl) (by kernel_rfl) ?_
            refine s_val (some 18) (.int .i64 ((p_7 : Nat) : Int)) (fun w => by kernel_rfl) (by kernel_rfl) ?_
            refine s_nil ?_
            refine g_sreg [0, 1, 2, 3, 4, 5, 6, 7, 8, 9, 10, 11, 12] (by kernel_rfl) (by kernel_rfl) ?_
            refine s_call H11 (some 98) 11 #[] (.bool true) alive_fn (fun w => by kernel_rfl) (by kernel_rfl) ?_
            intro w12 H12; clear H11
            refine s_val (some 99) (.bool true) (fun w => by kernel_rfl) (by kernel_rfl) ?_
            refine s_val (some 100) (.slice none 0 0) (fun w => by kernel_rfl) (by kernel_rfl) ?_
            refine s_val (some 101) (.slice none 0 0) (fun w => by kernel_rfl) (by kernel_rfl) ?_
            refine s_call H12 (some 102) 16 #[.slice none 0 0, .slice none 0 0] (.bool true) same_nn (fun w => by kernel_rfl) (by kernel_rfl) ?_
            intro w13 H13; clear H12
            refine s_val (some 103) (.bool true) (fun w => by kernel_rfl) (by kernel_rfl) ?_
            refine s_val (some 104) (.bool true) (fun w => by kernel_rfl) (by kernel_rfl) ?_
            refine s_val (some 105) (.int .i64 ((p_7 : Nat) : Int)) (fun w => by kernel_rfl) (by kernel_rfl) ?_
            refine s_val (some 106) (.string (strB (flat []))) (fun w => by kernel_rfl) (by kernel_rfl) ?_
            refine s_val (some 107) (.int .i64 ((ByteArray.size (strB (flat [])) : Nat) : Int)) (fun w => by kernel_rfl) (by kernel_rfl) ?_
            refine s_valE (some 108) (.bool (((p_7 : Nat) : Int) == ((ByteArray.size (strB (flat [])) : Nat) : Int))) (.bool true) (fun w => by kernel_rfl) (bool_eq (beq_iff_eq.2 (by omega))) (by kernel_rfl) ?_
            refine s_val (some 109) (.bool true) (fun w => by kernel_rfl) (by kernel_rfl) ?_
            refine s_val (some 6) (.bool true) (fun w => by kernel_rfl) (by kernel_rfl) ?_
            refine s_nil ?_
            refine g_ret (by kernel_rfl) ?_
            show ∃ vs, Res _ _ _ _ vs ∧ _
            refine ⟨[.bool true], (.tmp (.bool true) (by kernel_rfl) .nil), ?_, H13.below⟩
            rfl
          · skip
            intro b_9 cap_10 n_11 cur_12 rs_13 p_14 w14 H14 hs_15 hn_16 hr_17; clear H10
            obtain ⟨hl9, hp9⟩ := Sc.uniq hs_15 (sc_flat (X := ((strB (flat [])) ++ (ByteArray.extract (strB (frB (tl (ByteArray.extract more 0 (min (ByteArray.size more) 300))))) 0 (min (Int.toNat ct) (max ((ByteArray.size (strB (frB (tl (ByteArray.extract more 0 (min (ByteArray.size more) 300)))))) - 1) 0))))) (m := (frB (tl (ByteArray.extract more 0 (min (ByteArray.size more) 300)))).take (min (Int.toNat ct) (max ((ByteArray.size (strB (frB (tl (ByteArray.extract more 0 (min (ByteArray.size more) 300)))))) - 1) 0))) isR_nil (by rw [tl_add, tl_strB, tl_extract, tl_strB, List.drop_zero]) (fst_cut (tl (ByteArray.extract more 0 (min (ByteArray.size more) 300))) (isR_of (by omega)) (min (Int.toNat ct) (max ((ByteArray.size (strB (frB (tl (ByteArray.extract more 0 (min (ByteArray.size more) 300)))))) - 1) 0)) (by rw [frB_len, tl_len]; omega)))
            have hz9 := congrArg List.length hl9; simp only [List.length_nil] at hz9
            refine s_val (some 89) (.tuple #[.slice (some ⟨b_9, 0, none⟩) n_11 cap_10, .int .i64 ((p_14 : Nat) : Int)]) (fun w => by kernel_rfl) (by kernel_rfl) ?_
            refine s_val (some 96) (.slice (some ⟨b_9, 0, none⟩) n_11 cap_10) (fun w => by kernel_rfl) (by kernel_rfl) ?_
            refine s_val (some 97) (.int .i64 ((p_14 : Nat) : Int)) (fun w => by kernel_rfl) (by kernel_rfl) ?_
            refine s_val (some 17) (.slice (some ⟨b_9, 0, none⟩) n_11 cap_10) (fun w => by kernel_rfl) (by kernel_rfl) ?_
            refine s_val (some 18) (.int .i64 ((p_14 : Nat) : Int)) (fun w => by kernel_rfl) (by kernel_rfl) ?_
            refine s_nil ?_
            refine g_sreg [0, 1, 2, 3, 4, 5, 6, 7, 8, 9, 10, 11, 12] (by kernel_rfl) (by kernel_rfl) ?_
            refine s_call H14 (some 98) 11 #[] (.bool true) alive_fn (fun w => by kernel_rfl) (by kernel_rfl) ?_
            intro w15 H15; clear H14
            refine s_val (some 99) (.bool true) (fun w => by kernel_rfl) (by kernel_rfl) ?_
            refine s_val (some 100) (.slice (some ⟨b_9, 0, none⟩) n_11 cap_10) (fun w => by kernel_rfl) (by kernel_rfl) ?_
            refine s_val (some 101) (.slice none 0 0) (fun w => by kernel_rfl) (by kernel_rfl) ?_
            refine s_callP H15 (some 102) 16 #[.slice (some ⟨b_9, 0, none⟩) n_11 cap_10, .slice none 0 0] (fun _ => True) (.bool true) (same_bn n_11 b_9 cap_10 (by omega)) trivial (fun w => by kernel_rfl) (by kernel_rfl) ?_
            intro w16 H16; clear H15
            refine s_val (some 103) (.bool true) (fun w => by kernel_rfl) (by kernel_rfl) ?_
            refine s_val (some 104) (.bool true) (fun w => by kernel_rfl) (by kernel_rfl) ?_
            refine s_val (some 105) (.int .i64 ((p_14 : Nat) : Int)) (fun w => by kernel_rfl) (by kernel_rfl) ?_
            refine s_val (some 106) (.string (strB (flat []))) (fun w => by kernel_rfl) (by kernel_rfl) ?_
            refine s_val (some 107) (.int .i64 ((ByteArray.size (strB (flat [])) : Nat) : Int)) (fun w => by kernel_rfl) (by kernel_rfl) ?_
            refine s_valE (some 108) (.bool (((p_14 : Nat) : Int) == ((ByteArray.size (strB (flat [])) : Nat) : Int))) (.bool true) (fun w => by kernel_rfl) (bool_eq (beq_iff_eq.2 (by omega))) (by kernel_rfl) ?_
            refine s_val (some 109) (.bool true) (fun w => by kernel_rfl) (by kernel_rfl) ?_
            refine s_val (some 6) (.bool true) (fun w => by kernel_rfl) (by kernel_rfl) ?_
            refine s_nil ?_
            refine g_ret (by kernel_rfl) ?_
            show ∃ vs, Res _ _ _ _ vs ∧ _
            refine ⟨[.bool true], (.tmp (.bool true) (by kernel_rfl) .nil), ?_, H16.below⟩
            rfl
        · skip
          refine s_call H9 (some 76) 8 #[.string (ByteArray.extract more 0 (min (ByteArray.size more) 300))] (.tuple #[.string (⟨#[]⟩), .int .i64 1]) (frameNo_fn (ByteArray.extract more 0 (min (ByteArray.size more) 300)) (by omega)) (fun w => by kernel_rfl) (by kernel_rfl) ?_
          intro w17 H17; clear H9
          refine s_val (some 70) (.tuple #[.string (⟨#[]⟩), .int .i64 1]) (fun w => by kernel_rfl) (by kernel_rfl) ?_
          refine s_val (some 77) (.string (⟨#[]⟩)) (fun w => by kernel_rfl) (by kernel_rfl) ?_
          refine s_val (some 78) (.int .i64 1) (fun w => by kernel_rfl) (by kernel_rfl) ?_
          refine s_val (some 15) (.string (⟨#[]⟩)) (fun w => by kernel_rfl) (by kernel_rfl) ?_
          refine s_val (some 16) (.int .i64 1) (fun w => by kernel_rfl) (by kernel_rfl) ?_
          refine s_nil ?_
          refine g_seq (by kernel_rfl) ?_
          refine g_sreg [0, 1] (by kernel_rfl) (by kernel_rfl) ?_
          refine s_val (some 79) (.int .i64 1) (fun w => by kernel_rfl) (by kernel_rfl) ?_
          refine s_val (some 80) (.bool true) (fun w => by kernel_rfl) (by kernel_rfl) ?_
          refine s_nil ?_
          refine g_cond_t (by kernel_rfl) (by kernel_rfl) ?_
          refine g_sreg [0, 1] (by kernel_rfl) (by kernel_rfl) ?_
          refine s_call H17 (some 81) 11 #[] (.bool true) alive_fn (fun w => by kernel_rfl) (by kernel_rfl) ?_
          intro w18 H18; clear H17
          refine s_val (some 6) (.bool true) (fun w => by kernel_rfl) (by kernel_rfl) ?_
          refine s_nil ?_
          refine g_ret (by kernel_rfl) ?_
          show ∃ vs, Res _ _ _ _ vs ∧ _
          refine ⟨[.bool true], (.tmp (.bool true) (by kernel_rfl) .nil), ?_, H18.below⟩
          rfl
      · skip
        intro b_18 cap_19 n_20 cur_21 rs_22 p_23 w19 H19 hs_24 hn_25 hr_26; clear H1
        obtain ⟨hl10, hp10⟩ := Sc.uniq hs_24 (sc_flat (X := strB (flat [])) (m := []) isR_nil (by rw [tl_strB, List.append_nil]) fst_nil)
        have hz10 := congrArg List.length hl10; simp only [List.length_nil] at hz10
        refine s_val (some 55) (.tuple #[.slice (some ⟨b_18, 0, none⟩) n_20 cap_19, .int .i64 ((p_23 : Nat) : Int)]) (fun w => by kernel_rfl) (by kernel_rfl) ?_
        refine s_val (some 58) (.slice (some ⟨b_18, 0, none⟩) n_20 cap_19) (fun w => by kernel_rfl) (by kernel_rfl) ?_
        refine s_val (some 59) (.int .i64 ((p_23 : Nat) : Int)) (fun w => by kernel_rfl) (by kernel_rfl) ?_
        refine s_val (some 13) (.slice (some ⟨b_18, 0, none⟩) n_20 cap_19) (fun w => by kernel_rfl) (by kernel_rfl) ?_
        refine s_val (some 14) (.int .i64 ((p_23 : Nat) : Int)) (fun w => by kernel_rfl) (by kernel_rfl) ?_
        refine s_nil ?_
        refine g_seq (by kernel_rfl) ?_
        refine g_sreg [0, 1, 2, 3, 4, 5, 6, 7, 8, 9] (by kernel_rfl) (by kernel_rfl) ?_
        refine s_val (some 60) (.slice (some ⟨b_18, 0, none⟩) n_20 cap_19) (fun w => by kernel_rfl) (by kernel_rfl) ?_
        refine s_val (some 61) (.slice none 0 0) (fun w => by kernel_rfl) (by kernel_rfl) ?_
        refine s_callP H19 (some 62) 16 #[.slice (some ⟨b_18, 0, none⟩) n_20 cap_19, .slice none 0 0] (fun _ => True) (.bool true) (same_bn n_20 b_18 cap_19 (by omega)) trivial (fun w => by kernel_rfl) (by kernel_rfl) ?_
        intro w20 H20; clear H19
        refine s_val (some 63) (.bool false) (fun w => by kernel_rfl) (by kernel_rfl) ?_
        refine s_val (some 64) (.bool false) (fun w => by kernel_rfl) (by kernel_rfl) ?_
        refine s_val (some 65) (.int .i64 ((p_23 : Nat) : Int)) (fun w => by kernel_rfl) (by kernel_rfl) ?_
        refine s_val (some 66) (.string (strB (flat []))) (fun w => by kernel_rfl) (by kernel_rfl) ?_
        refine s_val (some 67) (.int .i64 ((ByteArray.size (strB (flat [])) : Nat) : Int)) (fun w => by kernel_rfl) (by kernel_rfl) ?_
        refine s_valE (some 68) (.bool (!(((p_23 : Nat) : Int) == ((ByteArray.size (strB (flat [])) : Nat) : Int)))) (.bool false) (fun w => by kernel_rfl) (bool_eq (by rw [beq_iff_eq.2 (by omega)]; rfl)) (by kernel_rfl) ?_
        refine s_val (some 69) (.bool false) (fun w => by kernel_rfl) (by kernel_rfl) ?_
        refine s_nil ?_
        refine g_cond_f (by kernel_rfl) (by kernel_rfl) ?_
        refine g_skip (by kernel_rfl) ?_
        show WP _ _ _ _ _ _
        refine g_sreg [0, 1, 2, 3, 4, 5, 6, 7, 8, 9, 10] (by kernel_rfl) (by kernel_rfl) ?_
        refine s_val (some 71) (.string more) (fun w => by kernel_rfl) (by kernel_rfl) ?_
        refine s_val (some 72) (.string more) (fun w => by kernel_rfl) (by kernel_rfl) ?_
        refine s_val (some 73) (.int .i64 ((ByteArray.size more : Nat) : Int)) (fun w => by kernel_rfl) (by kernel_rfl) ?_
        refine s_valE (some 74) (.int .i64 (if (300 : Int) < (((ByteArray.size more : Nat) : Int) : Int) then (300 : Int) else (((ByteArray.size more : Nat) : Int) : Int))) (.int .i64 ((min (ByteArray.size more) 300 : Nat) : Int)) (fun w => by kernel_rfl) (int_eq (minN (ByteArray.size more) 300)) (by kernel_rfl) ?_
        refine s_op (some 75) _ (.string (ByteArray.extract more 0 (min (ByteArray.size more) 300))) (by kernel_rfl) (by kernel_rfl) (fun o w ho => scut_run (t := 9) (kd := .i64) (by kernel_rfl) (x := (.tmp 71)) (y := (.tmp 74)) more (min (ByteArray.size more) 300) ho (by kernel_rfl) (by kernel_rfl) (by omega) w) ?_
        have hS300 : ByteArray.size (ByteArray.extract more 0 (min (ByteArray.size more) 300)) ≤ 300 := by rw [ext_size _ _ _ (Nat.min_le_left _ _)]; omega
        by_cases hx11 : 1 ≤ ByteArray.size (ByteArray.extract more 0 (min (ByteArray.size more) 300)) ∧ ByteArray.size (ByteArray.extract more 0 (min (ByteArray.size more) 300)) ≤ 4000
        · skip
          refine s_call H20 (some 76) 8 #[.string (ByteArray.extract more 0 (min (ByteArray.size more) 300))] (.tuple #[.string (strB (frB (tl (ByteArray.extract more 0 (min (ByteArray.size more) 300))))), .int .i64 0]) (frame_fn (ByteArray.extract more 0 (min (ByteArray.size more) 300)) (by omega)) (fun w => by kernel_rfl) (by kernel_rfl) ?_
          intro w21 H21; clear H20
          refine s_val (some 70) (.tuple #[.string (strB (frB (tl (ByteArray.extract more 0 (min (ByteArray.size more) 300))))), .int .i64 0]) (fun w => by kernel_rfl) (by kernel_rfl) ?_
          refine s_val (some 77) (.string (strB (frB (tl (ByteArray.extract more 0 (min (ByteArray.size more) 300)))))) (fun w => by kernel_rfl) (by kernel_rfl) ?_
          refine s_val (some 78) (.int .i64 0) (fun w => by kernel_rfl) (by kernel_rfl) ?_
          refine s_val (some 15) (.string (strB (frB (tl (ByteArray.extract more 0 (min (ByteArray.size more) 300)))))) (fun w => by kernel_rfl) (by kernel_rfl) ?_
          refine s_val (some 16) (.int .i64 0) (fun w => by kernel_rfl) (by kernel_rfl) ?_
          refine s_nil ?_
          refine g_seq (by kernel_rfl) ?_
          refine g_sreg [0, 1] (by kernel_rfl) (by kernel_rfl) ?_
          refine s_val (some 79) (.int .i64 0) (fun w => by kernel_rfl) (by kernel_rfl) ?_
          refine s_val (some 80) (.bool false) (fun w => by kernel_rfl) (by kernel_rfl) ?_
          refine s_nil ?_
          refine g_cond_f (by kernel_rfl) (by kernel_rfl) ?_
          refine g_skip (by kernel_rfl) ?_
          show WP _ _ _ _ _ _
          refine g_sreg [0, 1, 2, 3, 4, 5, 6, 7] (by kernel_rfl) (by kernel_rfl) ?_
          refine s_val (some 82) (.int .i64 ct) (fun w => by kernel_rfl) (by kernel_rfl) ?_
          refine s_valE (some 83) (.int .i64 (if (0 : Int) > (ct : Int) then (0 : Int) else (ct : Int))) (.int .i64 ((Int.toNat ct : Nat) : Int)) (fun w => by kernel_rfl) (int_eq (max0 ct)) (by kernel_rfl) ?_
          refine s_val (some 84) (.string (strB (frB (tl (ByteArray.extract more 0 (min (ByteArray.size more) 300)))))) (fun w => by kernel_rfl) (by kernel_rfl) ?_
          have hfz : ByteArray.size (strB (frB (tl (ByteArray.extract more 0 (min (ByteArray.size more) 300))))) = ByteArray.size (ByteArray.extract more 0 (min (ByteArray.size more) 300)) + 6 := by rw [frB_size, tl_len]
          refine s_val (some 85) (.int .i64 ((ByteArray.size (strB (frB (tl (ByteArray.extract more 0 (min (ByteArray.size more) 300))))) : Nat) : Int)) (fun w => by kernel_rfl) (by kernel_rfl) ?_
          refine s_valE (some 86) (.int .i64 (IntKind.i64.wrap (((ByteArray.size (strB (frB (tl (ByteArray.extract more 0 (min (ByteArray.size more) 300))))) : Nat) : Int) - 1))) (.int .i64 (((ByteArray.size (strB (frB (tl (ByteArray.extract more 0 (min (ByteArray.size more) 300)))))) - 1 : Nat) : Int)) (fun w => by kernel_rfl) (int_eq (wrapSub_i64 (a := ByteArray.size (strB (frB (tl (ByteArray.extract more 0 (min (ByteArray.size more) 300)))))) (b := 1) (by omega))) (by kernel_rfl) ?_
          refine s_valE (some 87) (.int .i64 (if (0 : Int) > ((((ByteArray.size (strB (frB (tl (ByteArray.extract more 0 (min (ByteArray.size more) 300)))))) - 1 : Nat) : Int) : Int) then (0 : Int) else ((((ByteArray.size (strB (frB (tl (ByteArray.extract more 0 (min (ByteArray.size more) 300)))))) - 1 : Nat) : Int) : Int))) (.int .i64 ((max ((ByteArray.size (strB (frB (tl (ByteArray.extract more 0 (min (ByteArray.size more) 300)))))) - 1) 0 : Nat) : Int)) (fun w => by kernel_rfl) (int_eq (maxN ((ByteArray.size (strB (frB (tl (ByteArray.extract more 0 (min (ByteArray.size more) 300)))))) - 1) 0)) (by kernel_rfl) ?_
          refine s_valE (some 88) (.int .i64 (if (((max ((ByteArray.size (strB (frB (tl (ByteArray.extract more 0 (min (ByteArray.size more) 300)))))) - 1) 0 : Nat) : Int) : Int) < (((Int.toNat ct : Nat) : Int) : Int) then (((max ((ByteArray.size (strB (frB (tl (ByteArray.extract more 0 (min (ByteArray.size more) 300)))))) - 1) 0 : Nat) : Int) : Int) else (((Int.toNat ct : Nat) : Int) : Int))) (.int .i64 ((min (Int.toNat ct) (max ((ByteArray.size (strB (frB (tl (ByteArray.extract more 0 (min (ByteArray.size more) 300)))))) - 1) 0) : Nat) : Int)) (fun w => by kernel_rfl) (int_eq (minN (Int.toNat ct) (max ((ByteArray.size (strB (frB (tl (ByteArray.extract more 0 (min (ByteArray.size more) 300)))))) - 1) 0))) (by kernel_rfl) ?_
          refine s_val (some 2) (.int .i64 ((min (Int.toNat ct) (max ((ByteArray.size (strB (frB (tl (ByteArray.extract more 0 (min (ByteArray.size more) 300)))))) - 1) 0) : Nat) : Int)) (fun w => by kernel_rfl) (by kernel_rfl) ?_
          refine s_nil ?_
          refine g_sreg [0, 1, 2, 3, 4, 5, 6, 7, 8, 9, 10] (by kernel_rfl) (by kernel_rfl) ?_
          refine s_val (some 90) (.string (strB (flat []))) (fun w => by kernel_rfl) (by kernel_rfl) ?_
          refine s_val (some 91) (.string (strB (frB (tl (ByteArray.extract more 0 (min (ByteArray.size more) 300)))))) (fun w => by kernel_rfl) (by kernel_rfl) ?_
          refine s_val (some 92) (.int .i64 ((min (Int.toNat ct) (max ((ByteArray.size (strB (frB (tl (ByteArray.extract more 0 (min (ByteArray.size more) 300)))))) - 1) 0) : Nat) : Int)) (fun w => by kernel_rfl) (by kernel_rfl) ?_
          refine s_op (some 93) _ (.string (ByteArray.extract (strB (frB (tl (ByteArray.extract more 0 (min (ByteArray.size more) 300))))) 0 (min (Int.toNat ct) (max ((ByteArray.size (strB (frB (tl (ByteArray.extract more 0 (min (ByteArray.size more) 300)))))) - 1) 0)))) (by kernel_rfl) (by kernel_rfl) (fun o w ho => scut_run (t := 9) (kd := .i64) (by kernel_rfl) (x := (.tmp 91)) (y := (.tmp 92)) (strB (frB (tl (ByteArray.extract more 0 (min (ByteArray.size more) 300))))) (min (Int.toNat ct) (max ((ByteArray.size (strB (frB (tl (ByteArray.extract more 0 (min (ByteArray.size more) 300)))))) - 1) 0)) ho (by kernel_rfl) (by kernel_rfl) (by omega) w) ?_
          have he12 : ByteArray.size (ByteArray.extract (strB (frB (tl (ByteArray.extract more 0 (min (ByteArray.size more) 300))))) 0 (min (Int.toNat ct) (max ((ByteArray.size (strB (frB (tl (ByteArray.extract more 0 (min (ByteArray.size more) 300)))))) - 1) 0))) = min (Int.toNat ct) (max ((ByteArray.size (strB (frB (tl (ByteArray.extract more 0 (min (ByteArray.size more) 300)))))) - 1) 0) := by rw [ext_size _ _ _ (by omega)]; omega
          have hs12 : ByteArray.size ((strB (flat [])) ++ (ByteArray.extract (strB (frB (tl (ByteArray.extract more 0 (min (ByteArray.size more) 300))))) 0 (min (Int.toNat ct) (max ((ByteArray.size (strB (frB (tl (ByteArray.extract more 0 (min (ByteArray.size more) 300)))))) - 1) 0)))) = ByteArray.size (strB (flat [])) + ByteArray.size (ByteArray.extract (strB (frB (tl (ByteArray.extract more 0 (min (ByteArray.size more) 300))))) 0 (min (Int.toNat ct) (max ((ByteArray.size (strB (frB (tl (ByteArray.extract more 0 (min (ByteArray.size more) 300)))))) - 1) 0))) := add_size _ _
          refine s_op (some 94) _ (.string ((strB (flat [])) ++ (ByteArray.extract (strB (frB (tl (ByteArray.extract more 0 (min (ByteArray.size more) 300))))) 0 (min (Int.toNat ct) (max ((ByteArray.size (strB (frB (tl (ByteArray.extract more 0 (min (ByteArray.size more) 300)))))) - 1) 0))))) (by kernel_rfl) (by kernel_rfl) (fun o w ho => sadd_run (t := 9) (t' := 9) (x := (.tmp 90)) (y := (.tmp 93)) (strB (flat [])) (ByteArray.extract (strB (frB (tl (ByteArray.extract more 0 (min (ByteArray.size more) 300))))) 0 (min (Int.toNat ct) (max ((ByteArray.size (strB (frB (tl (ByteArray.extract more 0 (min (ByteArray.size more) 300)))))) - 1) 0))) w ho (by kernel_rfl) (by kernel_rfl) (by omega)) ?_
          refine s_callT H21 (some 95) 14 #[.string ((strB (flat [])) ++ (ByteArray.extract (strB (frB (tl (ByteArray.extract more 0 (min (ByteArray.size more) 300))))) 0 (min (Int.toNat ct) (max ((ByteArray.size (strB (frB (tl (ByteArray.extract more 0 (min (ByteArray.size more) 300)))))) - 1) 0))))] (fun _ => True) 9 (fun rsZ pZ => Sc (tl ((strB (flat [])) ++ (ByteArray.extract (strB (frB (tl (ByteArray.extract more 0 (min (ByteArray.size more) 300))))) 0 (min (Int.toNat ct) (max ((ByteArray.size (strB (frB (tl (ByteArray.extract more 0 (min (ByteArray.size more) 300)))))) - 1) 0))))) rsZ pZ) (scan_fn ((strB (flat [])) ++ (ByteArray.extract (strB (frB (tl (ByteArray.extract more 0 (min (ByteArray.size more) 300))))) 0 (min (Int.toNat ct) (max ((ByteArray.size (strB (frB (tl (ByteArray.extract more 0 (min (ByteArray.size more) 300)))))) - 1) 0)))) (by omega)) trivial (by kernel_rfl) (by kernel_rfl) ?_ ?_
          · skip
            intro p_27 w22 H22 hs_28; clear H21
            obtain ⟨hl13, hp13⟩ := Sc.uniq hs_28 (sc_flat (X := ((strB (flat [])) ++ (ByteArray.extract (strB (frB (tl (ByteArray.extract more 0 (min (ByteArray.size more) 300))))) 0 (min (Int.toNat ct) (max ((ByteArray.size (strB (frB (tl (ByteArray.extract more 0 (min (ByteArray.size more) 300)))))) - 1) 0))))) (m := (frB (tl (ByteArray.extract more 0 (min (ByteArray.size more) 300)))).take (min (Int.toNat ct) (max ((ByteArray.size (strB (frB (tl (ByteArray.extract more 0 (min (ByteArray.size more) 300)))))) - 1) 0))) isR_nil (by rw [tl_add, tl_strB, tl_extract, tl_strB, List.drop_zero]) (fst_cut (tl (ByteArray.extract more 0 (min (ByteArray.size more) 300))) (isR_of (by omega)) (min (Int.toNat ct) (max ((ByteArray.size (strB (frB (tl (ByteArray.extract more 0 (min (ByteArray.size more) 300)))))) - 1) 0)) (by rw [frB_len, tl_len]; omega)))
            refine s_val (some 89) (.tuple #[.slice none 0 0, .int .i64 ((p_27 : Nat) : Int)]) (fun w => by kernel_rfl) (by kernel_rfl) ?_
            refine s_val (some 96) (.slice none 0 0) (fun w => by kernel_rfl) (by kernel_rfl) ?_
            refine s_val (some 97) (.int .i64 ((p_27 : Nat) : Int)) (fun w => by kernel_rfl) (by kernel_rfl) ?_
            refine s_val (some 17) (.slice none 0 0) (fun w => by kernel_rfl) (by kernel_rfl) ?_
            refine s_val (some 18) (.int .i64 ((p_27 : Nat) : Int)) (fun w => by kernel_rfl) (by kernel_rfl) ?_
            refine s_nil ?_
            refine g_sreg [0, 1, 2, 3, 4, 5, 6, 7, 8, 9, 10, 11, 12] (by kernel_rfl) (by kernel_rfl) ?_
            refine s_call H22 (some 98) 11 #[] (.bool true) alive_fn (fun w => by kernel_rfl) (by kernel_rfl) ?_
            intro w23 H23; clear H22
            refine s_val (some 99) (.bool true) (fun w => by kernel_rfl) (by kernel_rfl) ?_
            refine s_val (some 100) (.slice none 0 0) (fun w => by kernel_rfl) (by kernel_rfl) ?_
            refine s_val (some 101) (.slice none 0 0) (fun w => by kernel_rfl) (by kernel_rfl) ?_
            refine s_call H23 (some 102) 16 #[.slice none 0 0, .slice none 0 0] (.bool true) same_nn (fun w => by kernel_rfl) (by kernel_rfl) ?_
            intro w24 H24; clear H23
            refine s_val (some 103) (.bool true) (fun w => by kernel_rfl) (by kernel_rfl) ?_
            refine s_val (some 104) (.bool true) (fun w => by kernel_rfl) (by kernel_rfl) ?_
            refine s_val (some 105) (.int .i64 ((p_27 : Nat) : Int)) (fun w => by kernel_rfl) (by kernel_rfl) ?_
            refine s_val (some 106) (.string (strB (flat []))) (fun w => by kernel_rfl) (by kernel_rfl) ?_
            refine s_val (some 107) (.int .i64 ((ByteArray.size (strB (flat [])) : Nat) : Int)) (fun w => by kernel_rfl) (by kernel_rfl) ?_
            refine s_valE (some 108) (.bool (((p_27 : Nat) : Int) == ((ByteArray.size (strB (flat [])) : Nat) : Int))) (.bool true) (fun w => by kernel_rfl) (bool_eq (beq_iff_eq.2 (by omega))) (by kernel_rfl) ?_
            refine s_val (some 109) (.bool true) (fun w => by kernel_rfl) (by kernel_rfl) ?_
            refine s_val (some 6) (.bool true) (fun w => by kernel_rfl) (by kernel_rfl) ?_
            refine s_nil ?_
            refine g_ret (by kernel_rfl) ?_
            show ∃ vs, Res _ _ _ _ vs ∧ _
            refine ⟨[.bool true], (.tmp (.bool true) (by kernel_rfl) .nil), ?_, H24.below⟩
            rfl
          · skip
            intro b_29 cap_30 n_31 cur_32 rs_33 p_34 w25 H25 hs_35 hn_36 hr_37; clear H21
            obtain ⟨hl14, hp14⟩ := Sc.uniq hs_35 (sc_flat (X := ((strB (flat [])) ++ (ByteArray.extract (strB (frB (tl (ByteArray.extract more 0 (min (ByteArray.size more) 300))))) 0 (min (Int.toNat ct) (max ((ByteArray.size (strB (frB (tl (ByteArray.extract more 0 (min (ByteArray.size more) 300)))))) - 1) 0))))) (m := (frB (tl (ByteArray.extract more 0 (min (ByteArray.size more) 300)))).take (min (Int.toNat ct) (max ((ByteArray.size (strB (frB (tl (ByteArray.extract more 0 (min (ByteArray.size more) 300)))))) - 1) 0))) isR_nil (by rw [tl_add, tl_strB, tl_extract, tl_strB, List.drop_zero]) (fst_cut (tl (ByteArray.extract more 0 (min (ByteArray.size more) 300))) (isR_of (by omega)) (min (Int.toNat ct) (max ((ByteArray.size (strB (frB (tl (ByteArray.extract more 0 (min (ByteArray.size more) 300)))))) - 1) 0)) (by rw [frB_len, tl_len]; omega)))
            have hz14 := congrArg List.length hl14; simp only [List.length_nil] at hz14
            refine s_val (some 89) (.tuple #[.slice (some ⟨b_29, 0, none⟩) n_31 cap_30, .int .i64 ((p_34 : Nat) : Int)]) (fun w => by kernel_rfl) (by kernel_rfl) ?_
            refine s_val (some 96) (.slice (some ⟨b_29, 0, none⟩) n_31 cap_30) (fun w => by kernel_rfl) (by kernel_rfl) ?_
            refine s_val (some 97) (.int .i64 ((p_34 : Nat) : Int)) (fun w => by kernel_rfl) (by kernel_rfl) ?_
            refine s_val (some 17) (.slice (some ⟨b_29, 0, none⟩) n_31 cap_30) (fun w => by kernel_rfl) (by kernel_rfl) ?_
            refine s_val (some 18) (.int .i64 ((p_34 : Nat) : Int)) (fun w => by kernel_rfl) (by kernel_rfl) ?_
            refine s_nil ?_
            refine g_sreg [0, 1, 2, 3, 4, 5, 6, 7, 8, 9, 10, 11, 12] (by kernel_rfl) (by kernel_rfl) ?_
            refine s_call H25 (some 98) 11 #[] (.bool true) alive_fn (fun w => by kernel_rfl) (by kernel_rfl) ?_
            intro w26 H26; clear H25
            refine s_val (some 99) (.bool true) (fun w => by kernel_rfl) (by kernel_rfl) ?_
            refine s_val (some 100) (.slice (some ⟨b_29, 0, none⟩) n_31 cap_30) (fun w => by kernel_rfl) (by kernel_rfl) ?_
            refine s_val (some 101) (.slice none 0 0) (fun w => by kernel_rfl) (by kernel_rfl) ?_
            refine s_callP H26 (some 102) 16 #[.slice (some ⟨b_29, 0, none⟩) n_31 cap_30, .slice none 0 0] (fun _ => True) (.bool true) (same_bn n_31 b_29 cap_30 (by omega)) trivial (fun w => by kernel_rfl) (by kernel_rfl) ?_
            intro w27 H27; clear H26
            refine s_val (some 103) (.bool true) (fun w => by kernel_rfl) (by kernel_rfl) ?_
            refine s_val (some 104) (.bool true) (fun w => by kernel_rfl) (by kernel_rfl) ?_
            refine s_val (some 105) (.int .i64 ((p_34 : Nat) : Int)) (fun w => by kernel_rfl) (by kernel_rfl) ?_
            refine s_val (some 106) (.string (strB (flat []))) (fun w => by kernel_rfl) (by kernel_rfl) ?_
            refine s_val (some 107) (.int .i64 ((ByteArray.size (strB (flat [])) : Nat) : Int)) (fun w => by kernel_rfl) (by kernel_rfl) ?_
            refine s_valE (some 108) (.bool (((p_34 : Nat) : Int) == ((ByteArray.size (strB (flat [])) : Nat) : Int))) (.bool true) (fun w => by kernel_rfl) (bool_eq (beq_iff_eq.2 (by omega))) (by kernel_rfl) ?_
            refine s_val (some 109) (.bool true) (fun w => by kernel_rfl) (by kernel_rfl) ?_
            refine s_val (some 6) (.bool true) (fun w => by kernel_rfl) (by kernel_rfl) ?_
            refine s_nil ?_
            refine g_ret (by kernel_rfl) ?_
            show ∃ vs, Res _ _ _ _ vs ∧ _
            refine ⟨[.bool true], (.tmp (.bool true) (by kernel_rfl) .nil), ?_, H27.below⟩
            rfl
        · skip
          refine s_call H20 (some 76) 8 #[.string (ByteArray.extract more 0 (min (ByteArray.size more) 300))] (.tuple #[.string (⟨#[]⟩), .int .i64 1]) (frameNo_fn (ByteArray.extract more 0 (min (ByteArray.size more) 300)) (by omega)) (fun w => by kernel_rfl) (by kernel_rfl) ?_
          intro w28 H28; clear H20
          refine s_val (some 70) (.tuple #[.string (⟨#[]⟩), .int .i64 1]) (fun w => by kernel_rfl) (by kernel_rfl) ?_
          refine s_val (some 77) (.string (⟨#[]⟩)) (fun w => by kernel_rfl) (by kernel_rfl) ?_
          refine s_val (some 78) (.int .i64 1) (fun w => by kernel_rfl) (by kernel_rfl) ?_
          refine s_val (some 15) (.string (⟨#[]⟩)) (fun w => by kernel_rfl) (by kernel_rfl) ?_
          refine s_val (some 16) (.int .i64 1) (fun w => by kernel_rfl) (by kernel_rfl) ?_
          refine s_nil ?_
          refine g_seq (by kernel_rfl) ?_
          refine g_sreg [0, 1] (by kernel_rfl) (by kernel_rfl) ?_
          refine s_val (some 79) (.int .i64 1) (fun w => by kernel_rfl) (by kernel_rfl) ?_
          refine s_val (some 80) (.bool true) (fun w => by kernel_rfl) (by kernel_rfl) ?_
          refine s_nil ?_
          refine g_cond_t (by kernel_rfl) (by kernel_rfl) ?_
          refine g_sreg [0, 1] (by kernel_rfl) (by kernel_rfl) ?_
          refine s_call H28 (some 81) 11 #[] (.bool true) alive_fn (fun w => by kernel_rfl) (by kernel_rfl) ?_
          intro w29 H29; clear H28
          refine s_val (some 6) (.bool true) (fun w => by kernel_rfl) (by kernel_rfl) ?_
          refine s_nil ?_
          refine g_ret (by kernel_rfl) ?_
          show ∃ vs, Res _ _ _ _ vs ∧ _
          refine ⟨[.bool true], (.tmp (.bool true) (by kernel_rfl) .nil), ?_, H29.below⟩
          rfl
  · skip
    refine g_sreg [0] (by kernel_rfl) (by kernel_rfl) ?_
    by_cases hc15 : (k : Nat) < min m 12
    · skip
      refine s_valE (some 27) (.bool (decide (((k : Nat) : Int) < ((min m 12 : Nat) : Int)))) (.bool true) (fun w => by kernel_rfl) (bool_eq (decide_eq_true (by omega))) (by kernel_rfl) ?_
      refine s_nil ?_
      refine g_seq (by kernel_rfl) ?_
      refine g_cond_t (by kernel_rfl) (by kernel_rfl) ?_
      refine g_skip (by kernel_rfl) ?_
      show WP _ _ _ _ _ _
      refine g_seq (by kernel_rfl) ?_
      refine g_block 1 (by kernel_rfl) ?_
      refine g_sreg [0, 1, 2] (by kernel_rfl) (by kernel_rfl) ?_
      refine s_op (some 28) _ (.pointer (some (Addr.add ad k))) (by kernel_rfl) (by kernel_rfl) (fun o w ho => idxG_run (kd := .i64) (t := 30) (e := 9) (bytes := 16) (by kernel_rfl) (x := (.tmp 24)) (y := (.tmp 26)) ad (min m 12) cp k ho (by kernel_rfl) (by kernel_rfl) (by omega) w) ?_
      refine s_loadG H1 rfl (some 29) 9 (.tmp 28) (Addr.add ad k) (.string (List.getD ss k ByteArray.empty)) (by kernel_rfl) (by kernel_rfl) (by kernel_rfl) (by kernel_rfl) (hpre k (by omega)) ?_
      refine s_val (some 10) (.string (List.getD ss k ByteArray.empty)) (fun w => by kernel_rfl) (by kernel_rfl) ?_
      refine s_nil ?_
      refine g_sreg [0, 1, 2, 3, 4, 5] (by kernel_rfl) (by kernel_rfl) ?_
      refine s_val (some 30) (.string (List.getD ss k ByteArray.empty)) (fun w => by kernel_rfl) (by kernel_rfl) ?_
      refine s_val (some 31) (.string (List.getD ss k ByteArray.empty)) (fun w => by kernel_rfl) (by kernel_rfl) ?_
      refine s_val (some 32) (.int .i64 ((ByteArray.size (List.getD ss k ByteArray.empty) : Nat) : Int)) (fun w => by kernel_rfl) (by kernel_rfl) ?_
      refine s_valE (some 33) (.int .i64 (if (300 : Int) < (((ByteArray.size (List.getD ss k ByteArray.empty) : Nat) : Int) : Int) then (300 : Int) else (((ByteArray.size (List.getD ss k ByteArray.empty) : Nat) : Int) : Int))) (.int .i64 ((min (ByteArray.size (List.getD ss k ByteArray.empty)) 300 : Nat) : Int)) (fun w => by kernel_rfl) (int_eq (minN (ByteArray.size (List.getD ss k ByteArray.empty)) 300)) (by kernel_rfl) ?_
      refine s_op (some 34) _ (.string (ByteArray.extract (List.getD ss k ByteArray.empty) 0 (min (ByteArray.size (List.getD ss k ByteArray.empty)) 300))) (by kernel_rfl) (by kernel_rfl) (fun o w ho => scut_run (t := 9) (kd := .i64) (by kernel_rfl) (x := (.tmp 30)) (y := (.tmp 33)) (List.getD ss k ByteArray.empty) (min (ByteArray.size (List.getD ss k ByteArray.empty)) 300) ho (by kernel_rfl) (by kernel_rfl) (by omega) w) ?_
      refine s_val (some 10) (.string (ByteArray.extract (List.getD ss k ByteArray.empty) 0 (min (ByteArray.size (List.getD ss k ByteArray.empty)) 300))) (fun w => by kernel_rfl) (by kernel_rfl) ?_
      refine s_nil ?_
      refine g_sreg [0, 1, 2, 3, 4, 5, 6] (by kernel_rfl) (by kernel_rfl) ?_
      have hS300 : ByteArray.size (ByteArray.extract (List.getD ss k ByteArray.empty) 0 (min (ByteArray.size (List.getD ss k ByteArray.empty)) 300)) ≤ 300 := by rw [ext_size _ _ _ (Nat.min_le_left _ _)]; omega
      by_cases hx16 : 1 ≤ ByteArray.size (ByteArray.extract (List.getD ss k ByteArray.empty) 0 (min (ByteArray.size (List.getD ss k ByteArray.empty)) 300)) ∧ ByteArray.size (ByteArray.extract (List.getD ss k ByteArray.empty) 0 (min (ByteArray.size (List.getD ss k ByteArray.empty)) 300)) ≤ 4000
      · skip
        refine s_val (some 36) (.string (ByteArray.extract (List.getD ss k ByteArray.empty) 0 (min (ByteArray.size (List.getD ss k ByteArray.empty)) 300))) (fun w => by kernel_rfl) (by kernel_rfl) ?_
        refine s_call H1 (some 37) 8 #[.string (ByteArray.extract (List.getD ss k ByteArray.empty) 0 (min (ByteArray.size (List.getD ss k ByteArray.empty)) 300))] (.tuple #[.string (strB (frB (tl (ByteArray.extract (List.getD ss k ByteArray.empty) 0 (min (ByteArray.size (List.getD ss k ByteArray.empty)) 300))))), .int .i64 0]) (frame_fn (ByteArray.extract (List.getD ss k ByteArray.empty) 0 (min (ByteArray.size (List.getD ss k ByteArray.empty)) 300)) (by omega)) (fun w => by kernel_rfl) (by kernel_rfl) ?_
        intro w30 H30; clear H1
        refine s_val (some 35) (.tuple #[.string (strB (frB (tl (ByteArray.extract (List.getD ss k ByteArray.empty) 0 (min (ByteArray.size (List.getD ss k ByteArray.empty)) 300))))), .int .i64 0]) (fun w => by kernel_rfl) (by kernel_rfl) ?_
        refine s_val (some 38) (.string (strB (frB (tl (ByteArray.extract (List.getD ss k ByteArray.empty) 0 (min (ByteArray.size (List.getD ss k ByteArray.empty)) 300)))))) (fun w => by kernel_rfl) (by kernel_rfl) ?_
        refine s_val (some 39) (.int .i64 0) (fun w => by kernel_rfl) (by kernel_rfl) ?_
        refine s_val (some 11) (.string (strB (frB (tl (ByteArray.extract (List.getD ss k ByteArray.empty) 0 (min (ByteArray.size (List.getD ss k ByteArray.empty)) 300)))))) (fun w => by kernel_rfl) (by kernel_rfl) ?_
        refine s_val (some 12) (.int .i64 0) (fun w => by kernel_rfl) (by kernel_rfl) ?_
        refine s_nil ?_
        refine g_seq (by kernel_rfl) ?_
        refine g_sreg [0, 1, 2, 3, 4] (by kernel_rfl) (by kernel_rfl) ?_
        refine s_val (some 40) (.int .i64 0) (fun w => by kernel_rfl) (by kernel_rfl) ?_
        refine s_val (some 41) (.bool true) (fun w => by kernel_rfl) (by kernel_rfl) ?_
        refine s_val (some 42) (.string (ByteArray.extract (List.getD ss k ByteArray.empty) 0 (min (ByteArray.size (List.getD ss k ByteArray.empty)) 300))) (fun w => by kernel_rfl) (by kernel_rfl) ?_
        refine s_call H30 (some 43) 12 #[.string (ByteArray.extract (List.getD ss k ByteArray.empty) 0 (min (ByteArray.size (List.getD ss k ByteArray.empty)) 300))] (.bool true) (isRec_yes (ByteArray.extract (List.getD ss k ByteArray.empty) 0 (min (ByteArray.size (List.getD ss k ByteArray.empty)) 300)) (by omega)) (fun w => by kernel_rfl) (by kernel_rfl) ?_
        intro w31 H31; clear H30
        refine s_val (some 44) (.bool false) (fun w => by kernel_rfl) (by kernel_rfl) ?_
        refine s_nil ?_
        refine g_cond_f (by kernel_rfl) (by kernel_rfl) ?_
        refine g_skip (by kernel_rfl) ?_
        show WP _ _ _ _ _ _
        refine g_sreg [0, 1] (by kernel_rfl) (by kernel_rfl) ?_
        refine s_val (some 45) (.int .i64 0) (fun w => by kernel_rfl) (by kernel_rfl) ?_
        refine s_val (some 46) (.bool true) (fun w => by kernel_rfl) (by kernel_rfl) ?_
        refine s_nil ?_
        refine g_cond_t (by kernel_rfl) (by kernel_rfl) ?_
        refine g_sreg [0, 1, 2, 3] (by kernel_rfl) (by kernel_rfl) ?_
        refine s_val (some 47) (.string (strB (flat l))) (fun w => by kernel_rfl) (by kernel_rfl) ?_
        refine s_val (some 48) (.string (strB (frB (tl (ByteArray.extract (List.getD ss k ByteArray.empty) 0 (min (ByteArray.size (List.getD ss k ByteArray.empty)) 300)))))) (fun w => by kernel_rfl) (by kernel_rfl) ?_
        have hg17 : ByteArray.size (strB (flat l)) ≤ 306 * k := by rw [flat_size]; exact hfl
        have hh17 : ByteArray.size (strB (frB (tl (ByteArray.extract (List.getD ss k ByteArray.empty) 0 (min (ByteArray.size (List.getD ss k ByteArray.empty)) 300))))) = ByteArray.size (ByteArray.extract (List.getD ss k ByteArray.empty) 0 (min (ByteArray.size (List.getD ss k ByteArray.empty)) 300)) + 6 := by rw [frB_size, tl_len]
        refine s_op (some 49) _ (.string ((strB (flat l)) ++ (strB (frB (tl (ByteArray.extract (List.getD ss k ByteArray.empty) 0 (min (ByteArray.size (List.getD ss k ByteArray.empty)) 300))))))) (by kernel_rfl) (by kernel_rfl) (fun o w ho => sadd_run (t := 9) (t' := 9) (x := (.tmp 47)) (y := (.tmp 48)) (strB (flat l)) (strB (frB (tl (ByteArray.extract (List.getD ss k ByteArray.empty) 0 (min (ByteArray.size (List.getD ss k ByteArray.empty)) 300))))) w ho (by kernel_rfl) (by kernel_rfl) (by omega)) ?_
        refine s_val (some 7) (.string ((strB (flat l)) ++ (strB (frB (tl (ByteArray.extract (List.getD ss k ByteArray.empty) 0 (min (ByteArray.size (List.getD ss k ByteArray.empty)) 300))))))) (fun w => by kernel_rfl) (by kernel_rfl) ?_
        refine s_nil ?_
        refine g_reg0 [0, 1, 2, 3, 4] (by kernel_rfl) ?_
        refine s_val (some 50) (.slice (some ⟨b, 0, none⟩) n cap) (fun w => by kernel_rfl) (by kernel_rfl) ?_
        refine s_val (some 51) (.string (ByteArray.extract (List.getD ss k ByteArray.empty) 0 (min (ByteArray.size (List.getD ss k ByteArray.empty)) 300))) (fun w => by kernel_rfl) (by kernel_rfl) ?_
        refine s_new H31 (some 52) (fun b => .slice (some ⟨b, 0, none⟩) 1 1) #[.string (ByteArray.extract (List.getD ss k ByteArray.empty) 0 (min (ByteArray.size (List.getD ss k ByteArray.empty)) 300))] 9 (fun w => by kernel_rfl) (by kernel_rfl) ?_
        intro b2 w32 H32; clear H31
        refine s_append H32 (some 53) 30 9 1 16 (.tmp 50) (.tmp 52) 1 0 b b2 n 1 cap 1 cur #[.string (ByteArray.extract (List.getD ss k ByteArray.empty) 0 (min (ByteArray.size (List.getD ss k ByteArray.empty)) 300))] 9 (0, 0) (cellsS l) ([.string (ByteArray.extract (List.getD ss k ByteArray.empty) 0 (min (ByteArray.size (List.getD ss k ByteArray.empty)) 300))]) (fun b_38 cur_40 => [(b2, Obj.cells #[.string (ByteArray.extract (List.getD ss k ByteArray.empty) 0 (min (ByteArray.size (List.getD ss k ByteArray.empty)) 300))] 9 (0, 0)), (b_38, Obj.cells cur_40 9 (0, 0))]) (by kernel_rfl) (by kernel_rfl) (by kernel_rfl) (by kernel_rfl) (by kernel_rfl) hr (by kernel_rfl) (by kernel_rfl) (by rfl) (by rfl) (by intro u hu; simp at hu; first | exact hu.elim | (rcases hu with rfl | rfl | rfl | rfl <;> rfl) | (rcases hu with rfl | rfl <;> rfl) | (subst hu; rfl)) (by omega) (by unfold maxLen; omega) (fun _ _ => by kernel_rfl) ?_
        intro b_38 cap_39 cur_40 w33 H33 hr_41; clear H32
        have hr_41t : Rw 1 cur_40 cap_39 (n + 1) (cellsS (l ++ [(ByteArray.extract (List.getD ss k ByteArray.empty) 0 (min (ByteArray.size (List.getD ss k ByteArray.empty)) 300))])) := by rw [cellsS_append]; exact hr_41
        have hr_41n : n + 1 = List.length (l ++ [(ByteArray.extract (List.getD ss k ByteArray.empty) 0 (min (ByteArray.size (List.getD ss k ByteArray.empty)) 300))]) := by have h0 : n = List.length l := hn; rw [List.length_append, ← h0]; rfl
        refine s_val (some 8) (.slice (some ⟨b_38, 0, none⟩) (n + 1) cap_39) (fun w => by kernel_rfl) (by kernel_rfl) ?_
        refine s_nil ?_
        show WP _ _ _ _ _ _
        refine g_reg0 [0, 1] (by kernel_rfl) ?_
        refine s_valE (some 54) (.int .i64 (IntKind.i64.wrap (((k : Nat) : Int) + 1))) (.int .i64 ((k + 1 : Nat) : Int)) (fun w => by kernel_rfl) (int_eq (wrapAdd_i64 (a := k) (b := 1) (by omega))) (by kernel_rfl) ?_
        refine s_val (some 26) (.int .i64 ((k + 1 : Nat) : Int)) (fun w => by kernel_rfl) (by kernel_rfl) ?_
        refine s_nil ?_
        have hfs := flat_len_step l (ByteArray.extract (List.getD ss k ByteArray.empty) 0 (min (ByteArray.size (List.getD ss k ByteArray.empty)) 300))
        rw [show ((strB (flat l)) ++ (strB (frB (tl (ByteArray.extract (List.getD ss k ByteArray.empty) 0 (min (ByteArray.size (List.getD ss k ByteArray.empty)) 300)))))) = strB (flat (l ++ [(ByteArray.extract (List.getD ss k ByteArray.empty) 0 (min (ByteArray.size (List.getD ss k ByteArray.empty)) 300))])) from flat_step l (ByteArray.extract (List.getD ss k ByteArray.empty) 0 (min (ByteArray.size (List.getD ss k ByteArray.empty)) 300))]
        have hfl1 : (flat (l ++ [(ByteArray.extract (List.getD ss k ByteArray.empty) 0 (min (ByteArray.size (List.getD ss k ByteArray.empty)) 300))])).length ≤ 306 * (k + 1) := by omega
        have HD18 : St w.heap.size w w33 [(b_38, Obj.cells cur_40 9 (0, 0))] := H33.sub (List.Sublist.cons _ (List.Sublist.cons_cons _ List.Sublist.slnil))
        show ∃ m, _ ∧ _
        exact ⟨_, (by omega), Or.inr (⟨b_38, cap_39, n + 1, cur_40, (l ++ [(ByteArray.extract (List.getD ss k ByteArray.empty) 0 (min (ByteArray.size (List.getD ss k ByteArray.empty)) 300))]), (k + 1), rfl, hr_41n, hr_41t, (isR_snoc hrs (isR_of (s := (ByteArray.extract (List.getD ss k ByteArray.empty) 0 (min (ByteArray.size (List.getD ss k ByteArray.empty)) 300))) (by omega))), hfl1, (by omega), (by omega), HD18, (Is.of ⟨(by kernel_rfl), (by kernel_rfl), (by kernel_rfl), (by kernel_rfl), (by kernel_rfl), (by kernel_rfl), (by kernel_rfl), (by kernel_rfl), trivial⟩)⟩)⟩
      · skip
        refine s_val (some 36) (.string (ByteArray.extract (List.getD ss k ByteArray.empty) 0 (min (ByteArray.size (List.getD ss k ByteArray.empty)) 300))) (fun w => by kernel_rfl) (by kernel_rfl) ?_
        refine s_call H1 (some 37) 8 #[.string (ByteArray.extract (List.getD ss k ByteArray.empty) 0 (min (ByteArray.size (List.getD ss k ByteArray.empty)) 300))] (.tuple #[.string (⟨#[]⟩), .int .i64 1]) (frameNo_fn (ByteArray.extract (List.getD ss k ByteArray.empty) 0 (min (ByteArray.size (List.getD ss k ByteArray.empty)) 300)) (by omega)) (fun w => by kernel_rfl) (by kernel_rfl) ?_
        intro w34 H34; clear H1
        refine s_val (some 35) (.tuple #[.string (⟨#[]⟩), .int .i64 1]) (fun w => by kernel_rfl) (by kernel_rfl) ?_
        refine s_val (some 38) (.string (⟨#[]⟩)) (fun w => by kernel_rfl) (by kernel_rfl) ?_
        refine s_val (some 39) (.int .i64 1) (fun w => by kernel_rfl) (by kernel_rfl) ?_
        refine s_val (some 11) (.string (⟨#[]⟩)) (fun w => by kernel_rfl) (by kernel_rfl) ?_
        refine s_val (some 12) (.int .i64 1) (fun w => by kernel_rfl) (by kernel_rfl) ?_
        refine s_nil ?_
        refine g_seq (by kernel_rfl) ?_
        refine g_sreg [0, 1, 2, 3, 4] (by kernel_rfl) (by kernel_rfl) ?_
        refine s_val (some 40) (.int .i64 1) (fun w => by kernel_rfl) (by kernel_rfl) ?_
        refine s_val (some 41) (.bool false) (fun w => by kernel_rfl) (by kernel_rfl) ?_
        refine s_val (some 42) (.string (ByteArray.extract (List.getD ss k ByteArray.empty) 0 (min (ByteArray.size (List.getD ss k ByteArray.empty)) 300))) (fun w => by kernel_rfl) (by kernel_rfl) ?_
        refine s_call H34 (some 43) 12 #[.string (ByteArray.extract (List.getD ss k ByteArray.empty) 0 (min (ByteArray.size (List.getD ss k ByteArray.empty)) 300))] (.bool false) (isRec_no (ByteArray.extract (List.getD ss k ByteArray.empty) 0 (min (ByteArray.size (List.getD ss k ByteArray.empty)) 300)) (by omega)) (fun w => by kernel_rfl) (by kernel_rfl) ?_
        intro w35 H35; clear H34
        refine s_val (some 44) (.bool false) (fun w => by kernel_rfl) (by kernel_rfl) ?_
        refine s_nil ?_
        refine g_cond_f (by kernel_rfl) (by kernel_rfl) ?_
        refine g_skip (by kernel_rfl) ?_
        show WP _ _ _ _ _ _
        refine g_sreg [0, 1] (by kernel_rfl) (by kernel_rfl) ?_
        refine s_val (some 45) (.int .i64 1) (fun w => by kernel_rfl) (by kernel_rfl) ?_
        refine s_val (some 46) (.bool false) (fun w => by kernel_rfl) (by kernel_rfl) ?_
        refine s_nil ?_
        refine g_cond_f (by kernel_rfl) (by kernel_rfl) ?_
        refine g_skip (by kernel_rfl) ?_
        show WP _ _ _ _ _ _
        refine g_reg0 [0, 1] (by kernel_rfl) ?_
        refine s_valE (some 54) (.int .i64 (IntKind.i64.wrap (((k : Nat) : Int) + 1))) (.int .i64 ((k + 1 : Nat) : Int)) (fun w => by kernel_rfl) (int_eq (wrapAdd_i64 (a := k) (b := 1) (by omega))) (by kernel_rfl) ?_
        refine s_val (some 26) (.int .i64 ((k + 1 : Nat) : Int)) (fun w => by kernel_rfl) (by kernel_rfl) ?_
        refine s_nil ?_
        show ∃ m, _ ∧ _
        exact ⟨_, (by omega), Or.inr (⟨b, cap, n, cur, l, (k + 1), rfl, hn, hr, hrs, (by omega), (by omega), (by omega), H35, (Is.of ⟨(by kernel_rfl), (by kernel_rfl), (by kernel_rfl), (by kernel_rfl), (by kernel_rfl), (by kernel_rfl), (by kernel_rfl), (by kernel_rfl), trivial⟩)⟩)⟩
    · skip
      refine s_valE (some 27) (.bool (decide (((k : Nat) : Int) < ((min m 12 : Nat) : Int)))) (.bool false) (fun w => by kernel_rfl) (bool_eq (decide_eq_false (by omega))) (by kernel_rfl) ?_
      refine s_nil ?_
      refine g_seq (by kernel_rfl) ?_
      refine g_cond_f (by kernel_rfl) (by kernel_rfl) ?_
      refine g_exit 0 (by kernel_rfl) ?_
      show WP _ _ _ _ _ _
      refine g_sreg [0, 1, 2, 3, 4, 5, 6] (by kernel_rfl) (by kernel_rfl) ?_
      have hg0 : ByteArray.size (strB (flat l)) = (flat l).length := flat_size l
      refine s_val (some 56) (.string (strB (flat l))) (fun w => by kernel_rfl) (by kernel_rfl) ?_
      refine s_callT H1 (some 57) 14 #[.string (strB (flat l))] (fun _ => True) 9 (fun rsZ pZ => Sc (tl (strB (flat l))) rsZ pZ) (scan_fn (strB (flat l)) (by omega)) trivial (by kernel_rfl) (by kernel_rfl) ?_ ?_
      · skip
        intro p_42 w36 H36 hs_43; clear H1
        obtain ⟨hl19, hp19⟩ := Sc.uniq hs_43 (sc_flat (X := strB (flat l)) (m := []) hrs (by rw [tl_strB, List.append_nil]) fst_nil)
        have hz19 := congrArg List.length hl19; simp only [List.length_nil] at hz19
        refine s_val (some 55) (.tuple #[.slice none 0 0, .int .i64 ((p_42 : Nat) : Int)]) (fun w => by kernel_rfl) (by kernel_rfl) ?_
        refine s_val (some 58) (.slice none 0 0) (fun w => by kernel_rfl) (by kernel_rfl) ?_
        refine s_val (some 59) (.int .i64 ((p_42 : Nat) : Int)) (fun w => by kernel_rfl) (by kernel_rfl) ?_
        refine s_val (some 13) (.slice none 0 0) (fun w => by kernel_rfl) (by kernel_rfl) ?_
        refine s_val (some 14) (.int .i64 ((p_42 : Nat) : Int)) (fun w => by kernel_rfl) (by kernel_rfl) ?_
        refine s_nil ?_
        refine g_seq (by kernel_rfl) ?_
        refine g_sreg [0, 1, 2, 3, 4, 5, 6, 7, 8, 9] (by kernel_rfl) (by kernel_rfl) ?_
        refine s_val (some 60) (.slice none 0 0) (fun w => by kernel_rfl) (by kernel_rfl) ?_
        refine s_val (some 61) (.slice (some ⟨b, 0, none⟩) n cap) (fun w => by kernel_rfl) (by kernel_rfl) ?_
        refine s_callP H36 (some 62) 16 #[.slice none 0 0, .slice (some ⟨b, 0, none⟩) n cap] (fun _ => True) (.bool true) (same_nb n b cap (by omega)) trivial (fun w => by kernel_rfl) (by kernel_rfl) ?_
        intro w37 H37; clear H36
        refine s_val (some 63) (.bool false) (fun w => by kernel_rfl) (by kernel_rfl) ?_
        refine s_val (some 64) (.bool false) (fun w => by kernel_rfl) (by kernel_rfl) ?_
        refine s_val (some 65) (.int .i64 ((p_42 : Nat) : Int)) (fun w => by kernel_rfl) (by kernel_rfl) ?_
        refine s_val (some 66) (.string (strB (flat l))) (fun w => by kernel_rfl) (by kernel_rfl) ?_
        refine s_val (some 67) (.int .i64 ((ByteArray.size (strB (flat l)) : Nat) : Int)) (fun w => by kernel_rfl) (by kernel_rfl) ?_
        refine s_valE (some 68) (.bool (!(((p_42 : Nat) : Int) == ((ByteArray.size (strB (flat l)) : Nat) : Int)))) (.bool false) (fun w => by kernel_rfl) (bool_eq (by rw [beq_iff_eq.2 (by omega)]; rfl)) (by kernel_rfl) ?_
        refine s_val (some 69) (.bool false) (fun w => by kernel_rfl) (by kernel_rfl) ?_
        refine s_nil ?_
        refine g_cond_f (by kernel_rfl) (by kernel_rfl) ?_
        refine g_skip (by kernel_rfl) ?_
        show WP _ _ _ _ _ _
        refine g_sreg [0, 1, 2, 3, 4, 5, 6, 7, 8, 9, 10] (by kernel_rfl) (by kernel_rfl) ?_
        refine s_val (some 71) (.string more) (fun w => by kernel_rfl) (by kernel_rfl) ?_
        refine s_val (some 72) (.string more) (fun w => by kernel_rfl) (by kernel_rfl) ?_
        refine s_val (some 73) (.int .i64 ((ByteArray.size more : Nat) : Int)) (fun w => by kernel_rfl) (by kernel_rfl) ?_
        refine s_valE (some 74) (.int .i64 (if (300 : Int) < (((ByteArray.size more : Nat) : Int) : Int) then (300 : Int) else (((ByteArray.size more : Nat) : Int) : Int))) (.int .i64 ((min (ByteArray.size more) 300 : Nat) : Int)) (fun w => by kernel_rfl) (int_eq (minN (ByteArray.size more) 300)) (by kernel_rfl) ?_
        refine s_op (some 75) _ (.string (ByteArray.extract more 0 (min (ByteArray.size more) 300))) (by kernel_rfl) (by kernel_rfl) (fun o w ho => scut_run (t := 9) (kd := .i64) (by kernel_rfl) (x := (.tmp 71)) (y := (.tmp 74)) more (min (ByteArray.size more) 300) ho (by kernel_rfl) (by kernel_rfl) (by omega) w) ?_
        have hS300 : ByteArray.size (ByteArray.extract more 0 (min (ByteArray.size more) 300)) ≤ 300 := by rw [ext_size _ _ _ (Nat.min_le_left _ _)]; omega
        by_cases hx20 : 1 ≤ ByteArray.size (ByteArray.extract more 0 (min (ByteArray.size more) 300)) ∧ ByteArray.size (ByteArray.extract more 0 (min (ByteArray.size more) 300)) ≤ 4000
        · skip
          refine s_call H37 (some 76) 8 #[.string (ByteArray.extract more 0 (min (ByteArray.size more) 300))] (.tuple #[.string (strB (frB (tl (ByteArray.extract more 0 (min (ByteArray.size more) 300))))), .int .i64 0]) (frame_fn (ByteArray.extract more 0 (min (ByteArray.size more) 300)) (by omega)) (fun w => by kernel_rfl) (by kernel_rfl) ?_
          intro w38 H38; clear H37
          refine s_val (some 70) (.tuple #[.string (strB (frB (tl (ByteArray.extract more 0 (min (ByteArray.size more) 300))))), .int .i64 0]) (fun w => by kernel_rfl) (by kernel_rfl) ?_
          refine s_val (some 77) (.string (strB (frB (tl (ByteArray.extract more 0 (min (ByteArray.size more) 300)))))) (fun w => by kernel_rfl) (by kernel_rfl) ?_
          refine s_val (some 78) (.int .i64 0) (fun w => by kernel_rfl) (by kernel_rfl) ?_
          refine s_val (some 15) (.string (strB (frB (tl (ByteArray.extract more 0 (min (ByteArray.size more) 300)))))) (fun w => by kernel_rfl) (by kernel_rfl) ?_
          refine s_val (some 16) (.int .i64 0) (fun w => by kernel_rfl) (by kernel_rfl) ?_
          refine s_nil ?_
          refine g_seq (by kernel_rfl) ?_
          refine g_sreg [0, 1] (by kernel_rfl) (by kernel_rfl) ?_
          refine s_val (some 79) (.int .i64 0) (fun w => by kernel_rfl) (by kernel_rfl) ?_
          refine s_val (some 80) (.bool false) (fun w => by kernel_rfl) (by kernel_rfl) ?_
          refine s_nil ?_
          refine g_cond_f (by kernel_rfl) (by kernel_rfl) ?_
          refine g_skip (by kernel_rfl) ?_
          show WP _ _ _ _ _ _
          refine g_sreg [0, 1, 2, 3, 4, 5, 6, 7] (by kernel_rfl) (by kernel_rfl) ?_
          refine s_val (some 82) (.int .i64 ct) (fun w => by kernel_rfl) (by kernel_rfl) ?_
          refine s_valE (some 83) (.int .i64 (if (0 : Int) > (ct : Int) then (0 : Int) else (ct : Int))) (.int .i64 ((Int.toNat ct : Nat) : Int)) (fun w => by kernel_rfl) (int_eq (max0 ct)) (by kernel_rfl) ?_
          refine s_val (some 84) (.string (strB (frB (tl (ByteArray.extract more 0 (min (ByteArray.size more) 300)))))) (fun w => by kernel_rfl) (by kernel_rfl) ?_
          have hfz : ByteArray.size (strB (frB (tl (ByteArray.extract more 0 (min (ByteArray.size more) 300))))) = ByteArray.size (ByteArray.extract more 0 (min (ByteArray.size more) 300)) + 6 := by rw [frB_size, tl_len]
          refine s_val (some 85) (.int .i64 ((ByteArray.size (strB (frB (tl (ByteArray.extract more 0 (min (ByteArray.size more) 300))))) : Nat) : Int)) (fun w => by kernel_rfl) (by kernel_rfl) ?_
          refine s_valE (some 86) (.int .i64 (IntKind.i64.wrap (((ByteArray.size (strB (frB (tl (ByteArray.extract more 0 (min (ByteArray.size more) 300))))) : Nat) : Int) - 1))) (.int .i64 (((ByteArray.size (strB (frB (tl (ByteArray.extract more 0 (min (ByteArray.size more) 300)))))) - 1 : Nat) : Int)) (fun w => by kernel_rfl) (int_eq (wrapSub_i64 (a := ByteArray.size (strB (frB (tl (ByteArray.extract more 0 (min (ByteArray.size more) 300)))))) (b := 1) (by omega))) (by kernel_rfl) ?_
          refine s_valE (some 87) (.int .i64 (if (0 : Int) > ((((ByteArray.size (strB (frB (tl (ByteArray.extract more 0 (min (ByteArray.size more) 300)))))) - 1 : Nat) : Int) : Int) then (0 : Int) else ((((ByteArray.size (strB (frB (tl (ByteArray.extract more 0 (min (ByteArray.size more) 300)))))) - 1 : Nat) : Int) : Int))) (.int .i64 ((max ((ByteArray.size (strB (frB (tl (ByteArray.extract more 0 (min (ByteArray.size more) 300)))))) - 1) 0 : Nat) : Int)) (fun w => by kernel_rfl) (int_eq (maxN ((ByteArray.size (strB (frB (tl (ByteArray.extract more 0 (min (ByteArray.size more) 300)))))) - 1) 0)) (by kernel_rfl) ?_
          refine s_valE (some 88) (.int .i64 (if (((max ((ByteArray.size (strB (frB (tl (ByteArray.extract more 0 (min (ByteArray.size more) 300)))))) - 1) 0 : Nat) : Int) : Int) < (((Int.toNat ct : Nat) : Int) : Int) then (((max ((ByteArray.size (strB (frB (tl (ByteArray.extract more 0 (min (ByteArray.size more) 300)))))) - 1) 0 : Nat) : Int) : Int) else (((Int.toNat ct : Nat) : Int) : Int))) (.int .i64 ((min (Int.toNat ct) (max ((ByteArray.size (strB (frB (tl (ByteArray.extract more 0 (min (ByteArray.size more) 300)))))) - 1) 0) : Nat) : Int)) (fun w => by kernel_rfl) (int_eq (minN (Int.toNat ct) (max ((ByteArray.size (strB (frB (tl (ByteArray.extract more 0 (min (ByteArray.size more) 300)))))) - 1) 0))) (by kernel_rfl) ?_
          refine s_val (some 2) (.int .i64 ((min (Int.toNat ct) (max ((ByteArray.size (strB (frB (tl (ByteArray.extract more 0 (min (ByteArray.size more) 300)))))) - 1) 0) : Nat) : Int)) (fun w => by kernel_rfl) (by kernel_rfl) ?_
          refine s_nil ?_
          refine g_sreg [0, 1, 2, 3, 4, 5, 6, 7, 8, 9, 10] (by kernel_rfl) (by kernel_rfl) ?_
          refine s_val (some 90) (.string (strB (flat l))) (fun w => by kernel_rfl) (by kernel_rfl) ?_
          refine s_val (some 91) (.string (strB (frB (tl (ByteArray.extract more 0 (min (ByteArray.size more) 300)))))) (fun w => by kernel_rfl) (by kernel_rfl) ?_
          refine s_val (some 92) (.int .i64 ((min (Int.toNat ct) (max ((ByteArray.size (strB (frB (tl (ByteArray.extract more 0 (min (ByteArray.size more) 300)))))) - 1) 0) : Nat) : Int)) (fun w => by kernel_rfl) (by kernel_rfl) ?_
          refine s_op (some 93) _ (.string (ByteArray.extract (strB (frB (tl (ByteArray.extract more 0 (min (ByteArray.size more) 300))))) 0 (min (Int.toNat ct) (max ((ByteArray.size (strB (frB (tl (ByteArray.extract more 0 (min (ByteArray.size more) 300)))))) - 1) 0)))) (by kernel_rfl) (by kernel_rfl) (fun o w ho => scut_run (t := 9) (kd := .i64) (by kernel_rfl) (x := (.tmp 91)) (y := (.tmp 92)) (strB (frB (tl (ByteArray.extract more 0 (min (ByteArray.size more) 300))))) (min (Int.toNat ct) (max ((ByteArray.size (strB (frB (tl (ByteArray.extract more 0 (min (ByteArray.size more) 300)))))) - 1) 0)) ho (by kernel_rfl) (by kernel_rfl) (by omega) w) ?_
          have he21 : ByteArray.size (ByteArray.extract (strB (frB (tl (ByteArray.extract more 0 (min (ByteArray.size more) 300))))) 0 (min (Int.toNat ct) (max ((ByteArray.size (strB (frB (tl (ByteArray.extract more 0 (min (ByteArray.size more) 300)))))) - 1) 0))) = min (Int.toNat ct) (max ((ByteArray.size (strB (frB (tl (ByteArray.extract more 0 (min (ByteArray.size more) 300)))))) - 1) 0) := by rw [ext_size _ _ _ (by omega)]; omega
          have hs21 : ByteArray.size ((strB (flat l)) ++ (ByteArray.extract (strB (frB (tl (ByteArray.extract more 0 (min (ByteArray.size more) 300))))) 0 (min (Int.toNat ct) (max ((ByteArray.size (strB (frB (tl (ByteArray.extract more 0 (min (ByteArray.size more) 300)))))) - 1) 0)))) = ByteArray.size (strB (flat l)) + ByteArray.size (ByteArray.extract (strB (frB (tl (ByteArray.extract more 0 (min (ByteArray.size more) 300))))) 0 (min (Int.toNat ct) (max ((ByteArray.size (strB (frB (tl (ByteArray.extract more 0 (min (ByteArray.size more) 300)))))) - 1) 0))) := add_size _ _
          refine s_op (some 94) _ (.string ((strB (flat l)) ++ (ByteArray.extract (strB (frB (tl (ByteArray.extract more 0 (min (ByteArray.size more) 300))))) 0 (min (Int.toNat ct) (max ((ByteArray.size (strB (frB (tl (ByteArray.extract more 0 (min (ByteArray.size more) 300)))))) - 1) 0))))) (by kernel_rfl) (by kernel_rfl) (fun o w ho => sadd_run (t := 9) (t' := 9) (x := (.tmp 90)) (y := (.tmp 93)) (strB (flat l)) (ByteArray.extract (strB (frB (tl (ByteArray.extract more 0 (min (ByteArray.size more) 300))))) 0 (min (Int.toNat ct) (max ((ByteArray.size (strB (frB (tl (ByteArray.extract more 0 (min (ByteArray.size more) 300)))))) - 1) 0))) w ho (by kernel_rfl) (by kernel_rfl) (by omega)) ?_
          refine s_callT H38 (some 95) 14 #[.string ((strB (flat l)) ++ (ByteArray.extract (strB (frB (tl (ByteArray.extract more 0 (min (ByteArray.size more) 300))))) 0 (min (Int.toNat ct) (max ((ByteArray.size (strB (frB (tl (ByteArray.extract more 0 (min (ByteArray.size more) 300)))))) - 1) 0))))] (fun _ => True) 9 (fun rsZ pZ => Sc (tl ((strB (flat l)) ++ (ByteArray.extract (strB (frB (tl (ByteArray.extract more 0 (min (ByteArray.size more) 300))))) 0 (min (Int.toNat ct) (max ((ByteArray.size (strB (frB (tl (ByteArray.extract more 0 (min (ByteArray.size more) 300)))))) - 1) 0))))) rsZ pZ) (scan_fn ((strB (flat l)) ++ (ByteArray.extract (strB (frB (tl (ByteArray.extract more 0 (min (ByteArray.size more) 300))))) 0 (min (Int.toNat ct) (max ((ByteArray.size (strB (frB (tl (ByteArray.extract more 0 (min (ByteArray.size more) 300)))))) - 1) 0)))) (by omega)) trivial (by kernel_rfl) (by kernel_rfl) ?_ ?_
          · skip
            intro p_44 w39 H39 hs_45; clear H38
            obtain ⟨hl22, hp22⟩ := Sc.uniq hs_45 (sc_flat (X := ((strB (flat l)) ++ (ByteArray.extract (strB (frB (tl (ByteArray.extract more 0 (min (ByteArray.size more) 300))))) 0 (min (Int.toNat ct) (max ((ByteArray.size (strB (frB (tl (ByteArray.extract more 0 (min (ByteArray.size more) 300)))))) - 1) 0))))) (m := (frB (tl (ByteArray.extract more 0 (min (ByteArray.size more) 300)))).take (min (Int.toNat ct) (max ((ByteArray.size (strB (frB (tl (ByteArray.extract more 0 (min (ByteArray.size more) 300)))))) - 1) 0))) hrs (by rw [tl_add, tl_strB, tl_extract, tl_strB, List.drop_zero]) (fst_cut (tl (ByteArray.extract more 0 (min (ByteArray.size more) 300))) (isR_of (by omega)) (min (Int.toNat ct) (max ((ByteArray.size (strB (frB (tl (ByteArray.extract more 0 (min (ByteArray.size more) 300)))))) - 1) 0)) (by rw [frB_len, tl_len]; omega)))
            have hz22 := congrArg List.length hl22; simp only [List.length_nil] at hz22
            refine s_val (some 89) (.tuple #[.slice none 0 0, .int .i64 ((p_44 : Nat) : Int)]) (fun w => by kernel_rfl) (by kernel_rfl) ?_
            refine s_val (some 96) (.slice none 0 0) (fun w => by kernel_rfl) (by kernel_rfl) ?_
            refine s_val (some 97) (.int .i64 ((p_44 : Nat) : Int)) (fun w => by kernel_rfl) (by kernel_rfl) ?_
            refine s_val (some 17) (.slice none 0 0) (fun w => by kernel_rfl) (by kernel_rfl) ?_
            refine s_val (some 18) (.int .i64 ((p_44 : Nat) : Int)) (fun w => by kernel_rfl) (by kernel_rfl) ?_
            refine s_nil ?_
            refine g_sreg [0, 1, 2, 3, 4, 5, 6, 7, 8, 9, 10, 11, 12] (by kernel_rfl) (by kernel_rfl) ?_
            refine s_call H39 (some 98) 11 #[] (.bool true) alive_fn (fun w => by kernel_rfl) (by kernel_rfl) ?_
            intro w40 H40; clear H39
            refine s_val (some 99) (.bool true) (fun w => by kernel_rfl) (by kernel_rfl) ?_
            refine s_val (some 100) (.slice none 0 0) (fun w => by kernel_rfl) (by kernel_rfl) ?_
            refine s_val (some 101) (.slice (some ⟨b, 0, none⟩) n cap) (fun w => by kernel_rfl) (by kernel_rfl) ?_
            refine s_callP H40 (some 102) 16 #[.slice none 0 0, .slice (some ⟨b, 0, none⟩) n cap] (fun _ => True) (.bool true) (same_nb n b cap (by omega)) trivial (fun w => by kernel_rfl) (by kernel_rfl) ?_
            intro w41 H41; clear H40
            refine s_val (some 103) (.bool true) (fun w => by kernel_rfl) (by kernel_rfl) ?_
            refine s_val (some 104) (.bool true) (fun w => by kernel_rfl) (by kernel_rfl) ?_
            refine s_val (some 105) (.int .i64 ((p_44 : Nat) : Int)) (fun w => by kernel_rfl) (by kernel_rfl) ?_
            refine s_val (some 106) (.string (strB (flat l))) (fun w => by kernel_rfl) (by kernel_rfl) ?_
            refine s_val (some 107) (.int .i64 ((ByteArray.size (strB (flat l)) : Nat) : Int)) (fun w => by kernel_rfl) (by kernel_rfl) ?_
            refine s_valE (some 108) (.bool (((p_44 : Nat) : Int) == ((ByteArray.size (strB (flat l)) : Nat) : Int))) (.bool true) (fun w => by kernel_rfl) (bool_eq (beq_iff_eq.2 (by omega))) (by kernel_rfl) ?_
            refine s_val (some 109) (.bool true) (fun w => by kernel_rfl) (by kernel_rfl) ?_
            refine s_val (some 6) (.bool true) (fun w => by kernel_rfl) (by kernel_rfl) ?_
            refine s_nil ?_
            refine g_ret (by kernel_rfl) ?_
            show ∃ vs, Res _ _ _ _ vs ∧ _
            refine ⟨[.bool true], (.tmp (.bool true) (by kernel_rfl) .nil), ?_, H41.below⟩
            rfl
          · skip
            intro b_46 cap_47 n_48 cur_49 rs_50 p_51 w42 H42 hs_52 hn_53 hr_54; clear H38
            obtain ⟨hl23, hp23⟩ := Sc.uniq hs_52 (sc_flat (X := ((strB (flat l)) ++ (ByteArray.extract (strB (frB (tl (ByteArray.extract more 0 (min (ByteArray.size more) 300))))) 0 (min (Int.toNat ct) (max ((ByteArray.size (strB (frB (tl (ByteArray.extract more 0 (min (ByteArray.size more) 300)))))) - 1) 0))))) (m := (frB (tl (ByteArray.extract more 0 (min (ByteArray.size more) 300)))).take (min (Int.toNat ct) (max ((ByteArray.size (strB (frB (tl (ByteArray.extract more 0 (min (ByteArray.size more) 300)))))) - 1) 0))) hrs (by rw [tl_add, tl_strB, tl_extract, tl_strB, List.drop_zero]) (fst_cut (tl (ByteArray.extract more 0 (min (ByteArray.size more) 300))) (isR_of (by omega)) (min (Int.toNat ct) (max ((ByteArray.size (strB (frB (tl (ByteArray.extract more 0 (min (ByteArray.size more) 300)))))) - 1) 0)) (by rw [frB_len, tl_len]; omega)))
            have hle23 := congrArg List.length hl23
            refine s_val (some 89) (.tuple #[.slice (some ⟨b_46, 0, none⟩) n_48 cap_47, .int .i64 ((p_51 : Nat) : Int)]) (fun w => by kernel_rfl) (by kernel_rfl) ?_
            refine s_val (some 96) (.slice (some ⟨b_46, 0, none⟩) n_48 cap_47) (fun w => by kernel_rfl) (by kernel_rfl) ?_
            refine s_val (some 97) (.int .i64 ((p_51 : Nat) : Int)) (fun w => by kernel_rfl) (by kernel_rfl) ?_
            refine s_val (some 17) (.slice (some ⟨b_46, 0, none⟩) n_48 cap_47) (fun w => by kernel_rfl) (by kernel_rfl) ?_
            refine s_val (some 18) (.int .i64 ((p_51 : Nat) : Int)) (fun w => by kernel_rfl) (by kernel_rfl) ?_
            refine s_nil ?_
            refine g_sreg [0, 1, 2, 3, 4, 5, 6, 7, 8, 9, 10, 11, 12] (by kernel_rfl) (by kernel_rfl) ?_
            refine s_call H42 (some 98) 11 #[] (.bool true) alive_fn (fun w => by kernel_rfl) (by kernel_rfl) ?_
            intro w43 H43; clear H42
            refine s_val (some 99) (.bool true) (fun w => by kernel_rfl) (by kernel_rfl) ?_
            refine s_val (some 100) (.slice (some ⟨b_46, 0, none⟩) n_48 cap_47) (fun w => by kernel_rfl) (by kernel_rfl) ?_
            refine s_val (some 101) (.slice (some ⟨b, 0, none⟩) n cap) (fun w => by kernel_rfl) (by kernel_rfl) ?_
            refine s_callP H43 (some 102) 16 #[.slice (some ⟨b_46, 0, none⟩) n_48 cap_47, .slice (some ⟨b, 0, none⟩) n cap] (fun w => w.heap[b_46]? = some (.cells cur_49 9 (0, 0)) ∧ w.heap[b]? = some (.cells cur 9 (0, 0))) (.bool true) (same_bb2 rs_50 l n_48 n b_46 cap_47 b cap cur_49 cur hl23 hn_53 hn (by omega) hr_54 hr) (⟨(H43.get 0 (by kernel_rfl)), (H43.get 1 (by kernel_rfl))⟩) (fun w => by kernel_rfl) (by kernel_rfl) ?_
            intro w44 H44; clear H43
            refine s_val (some 103) (.bool true) (fun w => by kernel_rfl) (by kernel_rfl) ?_
            refine s_val (some 104) (.bool true) (fun w => by kernel_rfl) (by kernel_rfl) ?_
            refine s_val (some 105) (.int .i64 ((p_51 : Nat) : Int)) (fun w => by kernel_rfl) (by kernel_rfl) ?_
            refine s_val (some 106) (.string (strB (flat l))) (fun w => by kernel_rfl) (by kernel_rfl) ?_
            refine s_val (some 107) (.int .i64 ((ByteArray.size (strB (flat l)) : Nat) : Int)) (fun w => by kernel_rfl) (by kernel_rfl) ?_
            refine s_valE (some 108) (.bool (((p_51 : Nat) : Int) == ((ByteArray.size (strB (flat l)) : Nat) : Int))) (.bool true) (fun w => by kernel_rfl) (bool_eq (beq_iff_eq.2 (by omega))) (by kernel_rfl) ?_
            refine s_val (some 109) (.bool true) (fun w => by kernel_rfl) (by kernel_rfl) ?_
            refine s_val (some 6) (.bool true) (fun w => by kernel_rfl) (by kernel_rfl) ?_
            refine s_nil ?_
            refine g_ret (by kernel_rfl) ?_
            show ∃ vs, Res _ _ _ _ vs ∧ _
            refine ⟨[.bool true], (.tmp (.bool true) (by kernel_rfl) .nil), ?_, H44.below⟩
            rfl
        · skip
          refine s_call H37 (some 76) 8 #[.string (ByteArray.extract more 0 (min (ByteArray.size more) 300))] (.tuple #[.string (⟨#[]⟩), .int .i64 1]) (frameNo_fn (ByteArray.extract more 0 (min (ByteArray.size more) 300)) (by omega)) (fun w => by kernel_rfl) (by kernel_rfl) ?_
          intro w45 H45; clear H37
          refine s_val (some 70) (.tuple #[.string (⟨#[]⟩), .int .i64 1]) (fun w => by kernel_rfl) (by kernel_rfl) ?_
          refine s_val (some 77) (.string (⟨#[]⟩)) (fun w => by kernel_rfl) (by kernel_rfl) ?_
          refine s_val (some 78) (.int .i64 1) (fun w => by kernel_rfl) (by kernel_rfl) ?_
          refine s_val (some 15) (.string (⟨#[]⟩)) (fun w => by kernel_rfl) (by kernel_rfl) ?_
          refine s_val (some 16) (.int .i64 1) (fun w => by kernel_rfl) (by kernel_rfl) ?_
          refine s_nil ?_
          refine g_seq (by kernel_rfl) ?_
          refine g_sreg [0, 1] (by kernel_rfl) (by kernel_rfl) ?_
          refine s_val (some 79) (.int .i64 1) (fun w => by kernel_rfl) (by kernel_rfl) ?_
          refine s_val (some 80) (.bool true) (fun w => by kernel_rfl) (by kernel_rfl) ?_
          refine s_nil ?_
          refine g_cond_t (by kernel_rfl) (by kernel_rfl) ?_
          refine g_sreg [0, 1] (by kernel_rfl) (by kernel_rfl) ?_
          refine s_call H45 (some 81) 11 #[] (.bool true) alive_fn (fun w => by kernel_rfl) (by kernel_rfl) ?_
          intro w46 H46; clear H45
          refine s_val (some 6) (.bool true) (fun w => by kernel_rfl) (by kernel_rfl) ?_
          refine s_nil ?_
          refine g_ret (by kernel_rfl) ?_
          show ∃ vs, Res _ _ _ _ vs ∧ _
          refine ⟨[.bool true], (.tmp (.bool true) (by kernel_rfl) .nil), ?_, H46.below⟩
          rfl
      · skip
        intro b_55 cap_56 n_57 cur_58 rs_59 p_60 w47 H47 hs_61 hn_62 hr_63; clear H1
        obtain ⟨hl24, hp24⟩ := Sc.uniq hs_61 (sc_flat (X := strB (flat l)) (m := []) hrs (by rw [tl_strB, List.append_nil]) fst_nil)
        have hle24 := congrArg List.length hl24
        refine s_val (some 55) (.tuple #[.slice (some ⟨b_55, 0, none⟩) n_57 cap_56, .int .i64 ((p_60 : Nat) : Int)]) (fun w => by kernel_rfl) (by kernel_rfl) ?_
        refine s_val (some 58) (.slice (some ⟨b_55, 0, none⟩) n_57 cap_56) (fun w => by kernel_rfl) (by kernel_rfl) ?_
        refine s_val (some 59) (.int .i64 ((p_60 : Nat) : Int)) (fun w => by kernel_rfl) (by kernel_rfl) ?_
        refine s_val (some 13) (.slice (some ⟨b_55, 0, none⟩) n_57 cap_56) (fun w => by kernel_rfl) (by kernel_rfl) ?_
        refine s_val (some 14) (.int .i64 ((p_60 : Nat) : Int)) (fun w => by kernel_rfl) (by kernel_rfl) ?_
        refine s_nil ?_
        refine g_seq (by kernel_rfl) ?_
        refine g_sreg [0, 1, 2, 3, 4, 5, 6, 7, 8, 9] (by kernel_rfl) (by kernel_rfl) ?_
        refine s_val (some 60) (.slice (some ⟨b_55, 0, none⟩) n_57 cap_56) (fun w => by kernel_rfl) (by kernel_rfl) ?_
        refine s_val (some 61) (.slice (some ⟨b, 0, none⟩) n cap) (fun w => by kernel_rfl) (by kernel_rfl) ?_
        refine s_callP H47 (some 62) 16 #[.slice (some ⟨b_55, 0, none⟩) n_57 cap_56, .slice (some ⟨b, 0, none⟩) n cap] (fun w => w.heap[b_55]? = some (.cells cur_58 9 (0, 0)) ∧ w.heap[b]? = some (.cells cur 9 (0, 0))) (.bool true) (same_bb2 rs_59 l n_57 n b_55 cap_56 b cap cur_58 cur hl24 hn_62 hn (by omega) hr_63 hr) (⟨(H47.get 0 (by kernel_rfl)), (H47.get 1 (by kernel_rfl))⟩) (fun w => by kernel_rfl) (by kernel_rfl) ?_
        intro w48 H48; clear H47
        refine s_val (some 63) (.bool false) (fun w => by kernel_rfl) (by kernel_rfl) ?_
        refine s_val (some 64) (.bool false) (fun w => by kernel_rfl) (by kernel_rfl) ?_
        refine s_val (some 65) (.int .i64 ((p_60 : Nat) : Int)) (fun w => by kernel_rfl) (by kernel_rfl) ?_
        refine s_val (some 66) (.string (strB (flat l))) (fun w => by kernel_rfl) (by kernel_rfl) ?_
        refine s_val (some 67) (.int .i64 ((ByteArray.size (strB (flat l)) : Nat) : Int)) (fun w => by kernel_rfl) (by kernel_rfl) ?_
        refine s_valE (some 68) (.bool (!(((p_60 : Nat) : Int) == ((ByteArray.size (strB (flat l)) : Nat) : Int)))) (.bool false) (fun w => by kernel_rfl) (bool_eq (by rw [beq_iff_eq.2 (by omega)]; rfl)) (by kernel_rfl) ?_
        refine s_val (some 69) (.bool false) (fun w => by kernel_rfl) (by kernel_rfl) ?_
        refine s_nil ?_
        refine g_cond_f (by kernel_rfl) (by kernel_rfl) ?_
        refine g_skip (by kernel_rfl) ?_
        show WP _ _ _ _ _ _
        refine g_sreg [0, 1, 2, 3, 4, 5, 6, 7, 8, 9, 10] (by kernel_rfl) (by kernel_rfl) ?_
        refine s_val (some 71) (.string more) (fun w => by kernel_rfl) (by kernel_rfl) ?_
        refine s_val (some 72) (.string more) (fun w => by kernel_rfl) (by kernel_rfl) ?_
        refine s_val (some 73) (.int .i64 ((ByteArray.size more : Nat) : Int)) (fun w => by kernel_rfl) (by kernel_rfl) ?_
        refine s_valE (some 74) (.int .i64 (if (300 : Int) < (((ByteArray.size more : Nat) : Int) : Int) then (300 : Int) else (((ByteArray.size more : Nat) : Int) : Int))) (.int .i64 ((min (ByteArray.size more) 300 : Nat) : Int)) (fun w => by kernel_rfl) (int_eq (minN (ByteArray.size more) 300)) (by kernel_rfl) ?_
        refine s_op (some 75) _ (.string (ByteArray.extract more 0 (min (ByteArray.size more) 300))) (by kernel_rfl) (by kernel_rfl) (fun o w ho => scut_run (t := 9) (kd := .i64) (by kernel_rfl) (x := (.tmp 71)) (y := (.tmp 74)) more (min (ByteArray.size more) 300) ho (by kernel_rfl) (by kernel_rfl) (by omega) w) ?_
        have hS300 : ByteArray.size (ByteArray.extract more 0 (min (ByteArray.size more) 300)) ≤ 300 := by rw [ext_size _ _ _ (Nat.min_le_left _ _)]; omega
        by_cases hx25 : 1 ≤ ByteArray.size (ByteArray.extract more 0 (min (ByteArray.size more) 300)) ∧ ByteArray.size (ByteArray.extract more 0 (min (ByteArray.size more) 300)) ≤ 4000
        · skip
          refine s_call H48 (some 76) 8 #[.string (ByteArray.extract more 0 (min (ByteArray.size more) 300))] (.tuple #[.string (strB (frB (tl (ByteArray.extract more 0 (min (ByteArray.size more) 300))))), .int .i64 0]) (frame_fn (ByteArray.extract more 0 (min (ByteArray.size more) 300)) (by omega)) (fun w => by kernel_rfl) (by kernel_rfl) ?_
          intro w49 H49; clear H48
          refine s_val (some 70) (.tuple #[.string (strB (frB (tl (ByteArray.extract more 0 (min (ByteArray.size more) 300))))), .int .i64 0]) (fun w => by kernel_rfl) (by kernel_rfl) ?_
          refine s_val (some 77) (.string (strB (frB (tl (ByteArray.extract more 0 (min (ByteArray.size more) 300)))))) (fun w => by kernel_rfl) (by kernel_rfl) ?_
          refine s_val (some 78) (.int .i64 0) (fun w => by kernel_rfl) (by kernel_rfl) ?_
          refine s_val (some 15) (.string (strB (frB (tl (ByteArray.extract more 0 (min (ByteArray.size more) 300)))))) (fun w => by kernel_rfl) (by kernel_rfl) ?_
          refine s_val (some 16) (.int .i64 0) (fun w => by kernel_rfl) (by kernel_rfl) ?_
          refine s_nil ?_
          refine g_seq (by kernel_rfl) ?_
          refine g_sreg [0, 1] (by kernel_rfl) (by kernel_rfl) ?_
          refine s_val (some 79) (.int .i64 0) (fun w => by kernel_rfl) (by kernel_rfl) ?_
          refine s_val (some 80) (.bool false) (fun w => by kernel_rfl) (by kernel_rfl) ?_
          refine s_nil ?_
          refine g_cond_f (by kernel_rfl) (by kernel_rfl) ?_
          refine g_skip (by kernel_rfl) ?_
          show WP _ _ _ _ _ _
          refine g_sreg [0, 1, 2, 3, 4, 5, 6, 7] (by kernel_rfl) (by kernel_rfl) ?_
          refine s_val (some 82) (.int .i64 ct) (fun w => by kernel_rfl) (by kernel_rfl) ?_
          refine s_valE (some 83) (.int .i64 (if (0 : Int) > (ct : Int) then (0 : Int) else (ct : Int))) (.int .i64 ((Int.toNat ct : Nat) : Int)) (fun w => by kernel_rfl) (int_eq (max0 ct)) (by kernel_rfl) ?_
          refine s_val (some 84) (.string (strB (frB (tl (ByteArray.extract more 0 (min (ByteArray.size more) 300)))))) (fun w => by kernel_rfl) (by kernel_rfl) ?_
          have hfz : ByteArray.size (strB (frB (tl (ByteArray.extract more 0 (min (ByteArray.size more) 300))))) = ByteArray.size (ByteArray.extract more 0 (min (ByteArray.size more) 300)) + 6 := by rw [frB_size, tl_len]
          refine s_val (some 85) (.int .i64 ((ByteArray.size (strB (frB (tl (ByteArray.extract more 0 (min (ByteArray.size more) 300))))) : Nat) : Int)) (fun w => by kernel_rfl) (by kernel_rfl) ?_
          refine s_valE (some 86) (.int .i64 (IntKind.i64.wrap (((ByteArray.size (strB (frB (tl (ByteArray.extract more 0 (min (ByteArray.size more) 300))))) : Nat) : Int) - 1))) (.int .i64 (((ByteArray.size (strB (frB (tl (ByteArray.extract more 0 (min (ByteArray.size more) 300)))))) - 1 : Nat) : Int)) (fun w => by kernel_rfl) (int_eq (wrapSub_i64 (a := ByteArray.size (strB (frB (tl (ByteArray.extract more 0 (min (ByteArray.size more) 300)))))) (b := 1) (by omega))) (by kernel_rfl) ?_
          refine s_valE (some 87) (.int .i64 (if (0 : Int) > ((((ByteArray.size (strB (frB (tl (ByteArray.extract more 0 (min (ByteArray.size more) 300)))))) - 1 : Nat) : Int) : Int) then (0 : Int) else ((((ByteArray.size (strB (frB (tl (ByteArray.extract more 0 (min (ByteArray.size more) 300)))))) - 1 : Nat) : Int) : Int))) (.int .i64 ((max ((ByteArray.size (strB (frB (tl (ByteArray.extract more 0 (min (ByteArray.size more) 300)))))) - 1) 0 : Nat) : Int)) (fun w => by kernel_rfl) (int_eq (maxN ((ByteArray.size (strB (frB (tl (ByteArray.extract more 0 (min (ByteArray.size more) 300)))))) - 1) 0)) (by kernel_rfl) ?_
          refine s_valE (some 88) (.int .i64 (if (((max ((ByteArray.size (strB (frB (tl (ByteArray.extract more 0 (min (ByteArray.size more) 300)))))) - 1) 0 : Nat) : Int) : Int) < (((Int.toNat ct : Nat) : Int) : Int) then (((max ((ByteArray.size (strB (frB (tl (ByteArray.extract more 0 (min (ByteArray.size more) 300)))))) - 1) 0 : Nat) : Int) : Int) else (((Int.toNat ct : Nat) : Int) : Int))) (.int .i64 ((min (Int.toNat ct) (max ((ByteArray.size (strB (frB (tl (ByteArray.extract more 0 (min (ByteArray.size more) 300)))))) - 1) 0) : Nat) : Int)) (fun w => by kernel_rfl) (int_eq (minN (Int.toNat ct) (max ((ByteArray.size (strB (frB (tl (ByteArray.extract more 0 (min (ByteArray.size more) 300)))))) - 1) 0))) (by kernel_rfl) ?_
          refine s_val (some 2) (.int .i64 ((min (Int.toNat ct) (max ((ByteArray.size (strB (frB (tl (ByteArray.extract more 0 (min (ByteArray.size more) 300)))))) - 1) 0) : Nat) : Int)) (fun w => by kernel_rfl) (by kernel_rfl) ?_
          refine s_nil ?_
          refine g_sreg [0, 1, 2, 3, 4, 5, 6, 7, 8, 9, 10] (by kernel_rfl) (by kernel_rfl) ?_
          refine s_val (some 90) (.string (strB (flat l))) (fun w => by kernel_rfl) (by kernel_rfl) ?_
          refine s_val (some 91) (.string (strB (frB (tl (ByteArray.extract more 0 (min (ByteArray.size more) 300)))))) (fun w => by kernel_rfl) (by kernel_rfl) ?_
          refine s_val (some 92) (.int .i64 ((min (Int.toNat ct) (max ((ByteArray.size (strB (frB (tl (ByteArray.extract more 0 (min (ByteArray.size more) 300)))))) - 1) 0) : Nat) : Int)) (fun w => by kernel_rfl) (by kernel_rfl) ?_
          refine s_op (some 93) _ (.string (ByteArray.extract (strB (frB (tl (ByteArray.extract more 0 (min (ByteArray.size more) 300))))) 0 (min (Int.toNat ct) (max ((ByteArray.size (strB (frB (tl (ByteArray.extract more 0 (min (ByteArray.size more) 300)))))) - 1) 0)))) (by kernel_rfl) (by kernel_rfl) (fun o w ho => scut_run (t := 9) (kd := .i64) (by kernel_rfl) (x := (.tmp 91)) (y := (.tmp 92)) (strB (frB (tl (ByteArray.extract more 0 (min (ByteArray.size more) 300))))) (min (Int.toNat ct) (max ((ByteArray.size (strB (frB (tl (ByteArray.extract more 0 (min (ByteArray.size more) 300)))))) - 1) 0)) ho (by kernel_rfl) (by kernel_rfl) (by omega) w) ?_
          have he26 : ByteArray.size (ByteArray.extract (strB (frB (tl (ByteArray.extract more 0 (min (ByteArray.size more) 300))))) 0 (min (Int.toNat ct) (max ((ByteArray.size (strB (frB (tl (ByteArray.extract more 0 (min (ByteArray.size more) 300)))))) - 1) 0))) = min (Int.toNat ct) (max ((ByteArray.size (strB (frB (tl (ByteArray.extract more 0 (min (ByteArray.size more) 300)))))) - 1) 0) := by rw [ext_size _ _ _ (by omega)]; omega
          have hs26 : ByteArray.size ((strB (flat l)) ++ (ByteArray.extract (strB (frB (tl (ByteArray.extract more 0 (min (ByteArray.size more) 300))))) 0 (min (Int.toNat ct) (max ((ByteArray.size (strB (frB (tl (ByteArray.extract more 0 (min (ByteArray.size more) 300)))))) - 1) 0)))) = ByteArray.size (strB (flat l)) + ByteArray.size (ByteArray.extract (strB (frB (tl (ByteArray.extract more 0 (min (ByteArray.size more) 300))))) 0 (min (Int.toNat ct) (max ((ByteArray.size (strB (frB (tl (ByteArray.extract more 0 (min (ByteArray.size more) 300)))))) - 1) 0))) := add_size _ _
          refine s_op (some 94) _ (.string ((strB (flat l)) ++ (ByteArray.extract (strB (frB (tl (ByteArray.extract more 0 (min (ByteArray.size more) 300))))) 0 (min (Int.toNat ct) (max ((ByteArray.size (strB (frB (tl (ByteArray.extract more 0 (min (ByteArray.size more) 300)))))) - 1) 0))))) (by kernel_rfl) (by kernel_rfl) (fun o w ho => sadd_run (t := 9) (t' := 9) (x := (.tmp 90)) (y := (.tmp 93)) (strB (flat l)) (ByteArray.extract (strB (frB (tl (ByteArray.extract more 0 (min (ByteArray.size more) 300))))) 0 (min (Int.toNat ct) (max ((ByteArray.size (strB (frB (tl (ByteArray.extract more 0 (min (ByteArray.size more) 300)))))) - 1) 0))) w ho (by kernel_rfl) (by kernel_rfl) (by omega)) ?_
          refine s_callT H49 (some 95) 14 #[.string ((strB (flat l)) ++ (ByteArray.extract (strB (frB (tl (ByteArray.extract more 0 (min (ByteArray.size more) 300))))) 0 (min (Int.toNat ct) (max ((ByteArray.size (strB (frB (tl (ByteArray.extract more 0 (min (ByteArray.size more) 300)))))) - 1) 0))))] (fun _ => True) 9 (fun rsZ pZ => Sc (tl ((strB (flat l)) ++ (ByteArray.extract (strB (frB (tl (ByteArray.extract more 0 (min (ByteArray.size more) 300))))) 0 (min (Int.toNat ct) (max ((ByteArray.size (strB (frB (tl (ByteArray.extract more 0 (min (ByteArray.size more) 300)))))) - 1) 0))))) rsZ pZ) (scan_fn ((strB (flat l)) ++ (ByteArray.extract (strB (frB (tl (ByteArray.extract more 0 (min (ByteArray.size more) 300))))) 0 (min (Int.toNat ct) (max ((ByteArray.size (strB (frB (tl (ByteArray.extract more 0 (min (ByteArray.size more) 300)))))) - 1) 0)))) (by omega)) trivial (by kernel_rfl) (by kernel_rfl) ?_ ?_
          · skip
            intro p_64 w50 H50 hs_65; clear H49
            obtain ⟨hl27, hp27⟩ := Sc.uniq hs_65 (sc_flat (X := ((strB (flat l)) ++ (ByteArray.extract (strB (frB (tl (ByteArray.extract more 0 (min (ByteArray.size more) 300))))) 0 (min (Int.toNat ct) (max ((ByteArray.size (strB (frB (tl (ByteArray.extract more 0 (min (ByteArray.size more) 300)))))) - 1) 0))))) (m := (frB (tl (ByteArray.extract more 0 (min (ByteArray.size more) 300)))).take (min (Int.toNat ct) (max ((ByteArray.size (strB (frB (tl (ByteArray.extract more 0 (min (ByteArray.size more) 300)))))) - 1) 0))) hrs (by rw [tl_add, tl_strB, tl_extract, tl_strB, List.drop_zero]) (fst_cut (tl (ByteArray.extract more 0 (min (ByteArray.size more) 300))) (isR_of (by omega)) (min (Int.toNat ct) (max ((ByteArray.size (strB (frB (tl (ByteArray.extract more 0 (min (ByteArray.size more) 300)))))) - 1) 0)) (by rw [frB_len, tl_len]; omega)))
            have hz27 := congrArg List.length hl27; simp only [List.length_nil] at hz27
            refine s_val (some 89) (.tuple #[.slice none 0 0, .int .i64 ((p_64 : Nat) : Int)]) (fun w => by kernel_rfl) (by kernel_rfl) ?_
            refine s_val (some 96) (.slice none 0 0) (fun w => by kernel_rfl) (by kernel_rfl) ?_
            refine s_val (some 97) (.int .i64 ((p_64 : Nat) : Int)) (fun w => by kernel_rfl) (by kernel_rfl) ?_
            refine s_val (some 17) (.slice none 0 0) (fun w => by kernel_rfl) (by kernel_rfl) ?_
            refine s_val (some 18) (.int .i64 ((p_64 : Nat) : Int)) (fun w => by kernel_rfl) (by kernel_rfl) ?_
            refine s_nil ?_
            refine g_sreg [0, 1, 2, 3, 4, 5, 6, 7, 8, 9, 10, 11, 12] (by kernel_rfl) (by kernel_rfl) ?_
            refine s_call H50 (some 98) 11 #[] (.bool true) alive_fn (fun w => by kernel_rfl) (by kernel_rfl) ?_
            intro w51 H51; clear H50
            refine s_val (some 99) (.bool true) (fun w => by kernel_rfl) (by kernel_rfl) ?_
            refine s_val (some 100) (.slice none 0 0) (fun w => by kernel_rfl) (by kernel_rfl) ?_
            refine s_val (some 101) (.slice (some ⟨b, 0, none⟩) n cap) (fun w => by kernel_rfl) (by kernel_rfl) ?_
            refine s_callP H51 (some 102) 16 #[.slice none 0 0, .slice (some ⟨b, 0, none⟩) n cap] (fun _ => True) (.bool true) (same_nb n b cap (by omega)) trivial (fun w => by kernel_rfl) (by kernel_rfl) ?_
            intro w52 H52; clear H51
            refine s_val (some 103) (.bool true) (fun w => by kernel_rfl) (by kernel_rfl) ?_
            refine s_val (some 104) (.bool true) (fun w => by kernel_rfl) (by kernel_rfl) ?_
            refine s_val (some 105) (.int .i64 ((p_64 : Nat) : Int)) (fun w => by kernel_rfl) (by kernel_rfl) ?_
            refine s_val (some 106) (.string (strB (flat l))) (fun w => by kernel_rfl) (by kernel_rfl) ?_
            refine s_val (some 107) (.int .i64 ((ByteArray.size (strB (flat l)) : Nat) : Int)) (fun w => by kernel_rfl) (by kernel_rfl) ?_
            refine s_valE (some 108) (.bool (((p_64 : Nat) : Int) == ((ByteArray.size (strB (flat l)) : Nat) : Int))) (.bool true) (fun w => by kernel_rfl) (bool_eq (beq_iff_eq.2 (by omega))) (by kernel_rfl) ?_
            refine s_val (some 109) (.bool true) (fun w => by kernel_rfl) (by kernel_rfl) ?_
            refine s_val (some 6) (.bool true) (fun w => by kernel_rfl) (by kernel_rfl) ?_
            refine s_nil ?_
            refine g_ret (by kernel_rfl) ?_
            show ∃ vs, Res _ _ _ _ vs ∧ _
            refine ⟨[.bool true], (.tmp (.bool true) (by kernel_rfl) .nil), ?_, H52.below⟩
            rfl
          · skip
            intro b_66 cap_67 n_68 cur_69 rs_70 p_71 w53 H53 hs_72 hn_73 hr_74; clear H49
            obtain ⟨hl28, hp28⟩ := Sc.uniq hs_72 (sc_flat (X := ((strB (flat l)) ++ (ByteArray.extract (strB (frB (tl (ByteArray.extract more 0 (min (ByteArray.size more) 300))))) 0 (min (Int.toNat ct) (max ((ByteArray.size (strB (frB (tl (ByteArray.extract more 0 (min (ByteArray.size more) 300)))))) - 1) 0))))) (m := (frB (tl (ByteArray.extract more 0 (min (ByteArray.size more) 300)))).take (min (Int.toNat ct) (max ((ByteArray.size (strB (frB (tl (ByteArray.extract more 0 (min (ByteArray.size more) 300)))))) - 1) 0))) hrs (by rw [tl_add, tl_strB, tl_extract, tl_strB, List.drop_zero]) (fst_cut (tl (ByteArray.extract more 0 (min (ByteArray.size more) 300))) (isR_of (by omega)) (min (Int.toNat ct) (max ((ByteArray.size (strB (frB (tl (ByteArray.extract more 0 (min (ByteArray.size more) 300)))))) - 1) 0)) (by rw [frB_len, tl_len]; omega)))
            have hle28 := congrArg List.length hl28
            refine s_val (some 89) (.tuple #[.slice (some ⟨b_66, 0, none⟩) n_68 cap_67, .int .i64 ((p_71 : Nat) : Int)]) (fun w => by kernel_rfl) (by kernel_rfl) ?_
            refine s_val (some 96) (.slice (some ⟨b_66, 0, none⟩) n_68 cap_67) (fun w => by kernel_rfl) (by kernel_rfl) ?_
            refine s_val (some 97) (.int .i64 ((p_71 : Nat) : Int)) (fun w => by kernel_rfl) (by kernel_rfl) ?_
            refine s_val (some 17) (.slice (some ⟨b_66, 0, none⟩) n_68 cap_67) (fun w => by kernel_rfl) (by kernel_rfl) ?_
            refine s_val (some 18) (.int .i64 ((p_71 : Nat) : Int)) (fun w => by kernel_rfl) (by kernel_rfl) ?_
            refine s_nil ?_
            refine g_sreg [0, 1, 2, 3, 4, 5, 6, 7, 8, 9, 10, 11, 12] (by kernel_rfl) (by kernel_rfl) ?_
            refine s_call H53 (some 98) 11 #[] (.bool true) alive_fn (fun w => by kernel_rfl) (by kernel_rfl) ?_
            intro w54 H54; clear H53
            refine s_val (some 99) (.bool true) (fun w => by kernel_rfl) (by kernel_rfl) ?_
            refine s_val (some 100) (.slice (some ⟨b_66, 0, none⟩) n_68 cap_67) (fun w => by kernel_rfl) (by kernel_rfl) ?_
            refine s_val (some 101) (.slice (some ⟨b, 0, none⟩) n cap) (fun w => by kernel_rfl) (by kernel_rfl) ?_
            refine s_callP H54 (some 102) 16 #[.slice (some ⟨b_66, 0, none⟩) n_68 cap_67, .slice (some ⟨b, 0, none⟩) n cap] (fun w => w.heap[b_66]? = some (.cells cur_69 9 (0, 0)) ∧ w.heap[b]? = some (.cells cur 9 (0, 0))) (.bool true) (same_bb2 rs_70 l n_68 n b_66 cap_67 b cap cur_69 cur hl28 hn_73 hn (by omega) hr_74 hr) (⟨(H54.get 0 (by kernel_rfl)), (H54.get 2 (by kernel_rfl))⟩) (fun w => by kernel_rfl) (by kernel_rfl) ?_
            intro w55 H55; clear H54
            refine s_val (some 103) (.bool true) (fun w => by kernel_rfl) (by kernel_rfl) ?_
            refine s_val (some 104) (.bool true) (fun w => by kernel_rfl) (by kernel_rfl) ?_
            refine s_val (some 105) (.int .i64 ((p_71 : Nat) : Int)) (fun w => by kernel_rfl) (by kernel_rfl) ?_
            refine s_val (some 106) (.string (strB (flat l))) (fun w => by kernel_rfl) (by kernel_rfl) ?_
            refine s_val (some 107) (.int .i64 ((ByteArray.size (strB (flat l)) : Nat) : Int)) (fun w => by kernel_rfl) (by kernel_rfl) ?_
            refine s_valE (some 108) (.bool (((p_71 : Nat) : Int) == ((ByteArray.size (strB (flat l)) : Nat) : Int))) (.bool true) (fun w => by kernel_rfl) (bool_eq (beq_iff_eq.2 (by omega))) (by kernel_rfl) ?_
            refine s_val (some 109) (.bool true) (fun w => by kernel_rfl) (by kernel_rfl) ?_
            refine s_val (some 6) (.bool true) (fun w => by kernel_rfl) (by kernel_rfl) ?_
            refine s_nil ?_
            refine g_ret (by kernel_rfl) ?_
            show ∃ vs, Res _ _ _ _ vs ∧ _
            refine ⟨[.bool true], (.tmp (.bool true) (by kernel_rfl) .nil), ?_, H55.below⟩
            rfl
        · skip
          refine s_call H48 (some 76) 8 #[.string (ByteArray.extract more 0 (min (ByteArray.size more) 300))] (.tuple #[.string (⟨#[]⟩), .int .i64 1]) (frameNo_fn (ByteArray.extract more 0 (min (ByteArray.size more) 300)) (by omega)) (fun w => by kernel_rfl) (by kernel_rfl) ?_
          intro w56 H56; clear H48
          refine s_val (some 70) (.tuple #[.string (⟨#[]⟩), .int .i64 1]) (fun w => by kernel_rfl) (by kernel_rfl) ?_
          refine s_val (some 77) (.string (⟨#[]⟩)) (fun w => by kernel_rfl) (by kernel_rfl) ?_
          refine s_val (some 78) (.int .i64 1) (fun w => by kernel_rfl) (by kernel_rfl) ?_
          refine s_val (some 15) (.string (⟨#[]⟩)) (fun w => by kernel_rfl) (by kernel_rfl) ?_
          refine s_val (some 16) (.int .i64 1) (fun w => by kernel_rfl) (by kernel_rfl) ?_
          refine s_nil ?_
          refine g_seq (by kernel_rfl) ?_
          refine g_sreg [0, 1] (by kernel_rfl) (by kernel_rfl) ?_
          refine s_val (some 79) (.int .i64 1) (fun w => by kernel_rfl) (by kernel_rfl) ?_
          refine s_val (some 80) (.bool true) (fun w => by kernel_rfl) (by kernel_rfl) ?_
          refine s_nil ?_
          refine g_cond_t (by kernel_rfl) (by kernel_rfl) ?_
          refine g_sreg [0, 1] (by kernel_rfl) (by kernel_rfl) ?_
          refine s_call H56 (some 81) 11 #[] (.bool true) alive_fn (fun w => by kernel_rfl) (by kernel_rfl) ?_
          intro w57 H57; clear H56
          refine s_val (some 6) (.bool true) (fun w => by kernel_rfl) (by kernel_rfl) ?_
          refine s_nil ?_
          refine g_ret (by kernel_rfl) ?_
          show ∃ vs, Res _ _ _ _ vs ∧ _
          refine ⟨[.bool true], (.tmp (.bool true) (by kernel_rfl) .nil), ?_, H57.below⟩
          rfl
end Go.Proofs.Ythipcmpmfjeakaa
