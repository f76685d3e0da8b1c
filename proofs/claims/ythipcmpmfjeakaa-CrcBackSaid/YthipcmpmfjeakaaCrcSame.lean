/-
  The reference: two rows.
-/
import Derived.Test.YthipcmpmfjeakaaProg
import Derived.Test.YthipcmpmfjeakaaCrcF
import Derived.Test.YthipcmpmfjeakaaTxt
import Derived.Test.YthipcmpmfjeakaaCrcScanR
namespace Go.Proofs.Ythipcmpmfjeakaa
open Go Go.RowKit Go.Proofs.Crc
set_option linter.unusedVariables false
set_option maxRecDepth 100000 in
set_option maxHeartbeats 2000000 in
theorem same_bb (l : List ByteArray) (n ba ca bb cb : Nat) (curA curB : Array Value) (hn : n = List.length l) (hm : n ≤ 1000000) (hA : Rw 1 curA ca n (cellsS l)) (hB : Rw 1 curB cb n (cellsS l)) : FnP Try.prog 16 #[.slice (some ⟨ba, 0, none⟩) n ca, .slice (some ⟨bb, 0, none⟩) n cb] (fun w => w.heap[ba]? = some (.cells curA 9 (0, 0)) ∧ w.heap[bb]? = some (.cells curB 9 (0, 0))) (.bool true) := by
  refine FnP.intro (c := codeOf Try.f16) [.tmp 4] 26 Try.func16 (by kernel_rfl) (by kernel_rfl) (by kernel_rfl) fun w hpre => ?_
  have H0 := St.start w
  refine g_sreg [0] (by kernel_rfl) (by kernel_rfl) ?_
  refine s_val (some 4) (.bool false) (fun w => by kernel_rfl) (by kernel_rfl) ?_
  refine s_nil ?_
  refine g_seq (by kernel_rfl) ?_
  refine g_sreg [0, 1, 2, 3, 4] (by kernel_rfl) (by kernel_rfl) ?_
  refine s_val (some 6) (.slice (some ⟨ba, 0, none⟩) n ca) (fun w => by kernel_rfl) (by kernel_rfl) ?_
  refine s_val (some 7) (.int .i64 ((n : Nat) : Int)) (fun w => by kernel_rfl) (by kernel_rfl) ?_
  refine s_val (some 8) (.slice (some ⟨bb, 0, none⟩) n cb) (fun w => by kernel_rfl) (by kernel_rfl) ?_
  refine s_val (some 9) (.int .i64 ((n : Nat) : Int)) (fun w => by kernel_rfl) (by kernel_rfl) ?_
  refine s_valE (some 10) (.bool (!(((n : Nat) : Int) == ((n : Nat) : Int)))) (.bool false) (fun w => by kernel_rfl) (bool_eq (by rw [beq_iff_eq.2 (by omega)]; rfl)) (by kernel_rfl) ?_
  refine s_nil ?_
  refine g_cond_f (by kernel_rfl) (by kernel_rfl) ?_
  refine g_skip (by kernel_rfl) ?_
  show WP _ _ _ _ _ _
  refine g_seq (by kernel_rfl) ?_
  refine g_sreg [0, 1, 2] (by kernel_rfl) (by kernel_rfl) ?_
  refine s_val (some 11) (.slice (some ⟨ba, 0, none⟩) n ca) (fun w => by kernel_rfl) (by kernel_rfl) ?_
  refine s_val (some 12) (.int .i64 ((n : Nat) : Int)) (fun w => by kernel_rfl) (by kernel_rfl) ?_
  refine s_val (some 13) (.int .i64 0) (fun w => by kernel_rfl) (by kernel_rfl) ?_
  refine s_nil ?_
  refine g_block 0 (by kernel_rfl) ?_
  refine g_loop (by kernel_rfl) (fun mz ρ ww => ∃ (k : Nat), n - k = mz ∧ (k ≤ n) ∧ St w.heap.size w ww [] ∧ Is [(0, .slice (some ⟨ba, 0, none⟩) n ca), (1, .slice (some ⟨bb, 0, none⟩) n cb), (10, .bool false), (12, .int .i64 ((n : Nat) : Int)), (13, .int .i64 ((k : Nat) : Int))] ρ) (n - 0) ⟨0, rfl, (by omega), H0, (Is.of ⟨(by kernel_rfl), (by kernel_rfl), (by kernel_rfl), (by kernel_rfl), (by kernel_rfl), trivial⟩)⟩ ?_
  clear H0
  rintro _ _ w1 ⟨k, rfl, hk, H1, _, rfl⟩
  refine g_sreg [0] (by kernel_rfl) (by kernel_rfl) ?_
  by_cases hc1 : (k : Nat) < n
  · skip
    refine s_valE (some 14) (.bool (decide (((k : Nat) : Int) < ((n : Nat) : Int)))) (.bool true) (fun w => by kernel_rfl) (bool_eq (decide_eq_true (by omega))) (by kernel_rfl) ?_
    refine s_nil ?_
    refine g_seq (by kernel_rfl) ?_
    refine g_cond_t (by kernel_rfl) (by kernel_rfl) ?_
    refine g_skip (by kernel_rfl) ?_
    show WP _ _ _ _ _ _
    refine g_seq (by kernel_rfl) ?_
    refine g_block 1 (by kernel_rfl) ?_
    refine g_sreg [0, 1] (by kernel_rfl) (by kernel_rfl) ?_
    refine s_val (some 15) (.int .i64 ((k : Nat) : Int)) (fun w => by kernel_rfl) (by kernel_rfl) ?_
    refine s_val (some 5) (.int .i64 ((k : Nat) : Int)) (fun w => by kernel_rfl) (by kernel_rfl) ?_
    refine s_nil ?_
    refine D2.g_sdraw [0, 1, 2, 3, 4, 5, 6, 7, 8] [((some 16), fun _ => .slice (some ⟨ba, 0, none⟩) n ca), ((some 17), fun _ => .int .i64 ((k : Nat) : Int)), ((some 18), fun _ => .pointer (some ⟨ba, 0 + k * 1, none⟩)), ((some 19), fun _ => .string (List.getD l k ByteArray.empty)), ((some 20), fun _ => .slice (some ⟨bb, 0, none⟩) n cb), ((some 21), fun _ => .int .i64 ((k : Nat) : Int)), ((some 22), fun _ => .pointer (some ⟨bb, 0 + k * 1, none⟩)), ((some 23), fun _ => .string (List.getD l k ByteArray.empty)), ((some 24), fun _ => .bool false)] (D2.Pre w.heap.size w (fun L g => []) (fun L g => True)) (by kernel_rfl) (by kernel_rfl) (by kernel_rfl) (by kernel_rfl) ⟨D2.StE.of H1.drew _ (by kernel_rfl), trivial⟩ ⟨?_, ?_, ?_, ?_, ?_, ?_, ?_, ?_, ?_, trivial⟩ ?_
    · exact D2.gv_val (fun _ _ _ h => h) (fun g w => by kernel_rfl)
    · exact D2.gv_val (fun _ _ _ h => h) (fun g w => by kernel_rfl)
    · exact D2.gv_op (fun _ _ _ h => h) _ (fun g => by kernel_rfl) (fun g => (fun o w ho => idxS_run (kd := .i64) (t := 30) (e := 9) (size := 1) (bytes := 16) (by kernel_rfl) (x := (.tmp 16)) (y := (.tmp 17)) ba 0 n ca k ho (by kernel_rfl) (by kernel_rfl) (by omega) w))
    · exact D2.gv_load1F 9 (.tmp 18) ba (0 + k * 1) curA 9 (0, 0) (fun _ _ _ h => h) (fun g => by kernel_rfl) (fun g => by kernel_rfl) hpre.1 (lt_of_heap hpre.1) (by kernel_rfl) (hA.atS (by omega) hn)
    · exact D2.gv_val (fun _ _ _ h => h) (fun g w => by kernel_rfl)
    · exact D2.gv_val (fun _ _ _ h => h) (fun g w => by kernel_rfl)
    · exact D2.gv_op (fun _ _ _ h => h) _ (fun g => by kernel_rfl) (fun g => (fun o w ho => idxS_run (kd := .i64) (t := 30) (e := 9) (size := 1) (bytes := 16) (by kernel_rfl) (x := (.tmp 20)) (y := (.tmp 21)) bb 0 n cb k ho (by kernel_rfl) (by kernel_rfl) (by omega) w))
    · exact D2.gv_load1F 9 (.tmp 22) bb (0 + k * 1) curB 9 (0, 0) (fun _ _ _ h => h) (fun g => by kernel_rfl) (fun g => by kernel_rfl) hpre.2 (lt_of_heap hpre.2) (by kernel_rfl) (hB.atS (by omega) hn)
    · exact D2.gv_valE (fun _ _ _ h => h) (V' := .bool (!(ByteArray.toList (List.getD l k ByteArray.empty) == ByteArray.toList (List.getD l k ByteArray.empty)))) (fun g w => by kernel_rfl) (bool_eq (by rw [str_self (List.getD l k ByteArray.empty)]; rfl))
    intro L0 G2 w2 hall HL; clear H1
    have H2 : St w.heap.size w w2 [] := D2.StE.st HL.1
    clear HL hall
    refine g_cond_f (by kernel_rfl) (by kernel_rfl) ?_
    refine g_skip (by kernel_rfl) ?_
    show WP _ _ _ _ _ _
    refine g_reg0 [0, 1] (by kernel_rfl) ?_
    refine s_valE (some 25) (.int .i64 (IntKind.i64.wrap (((k : Nat) : Int) + 1))) (.int .i64 ((k + 1 : Nat) : Int)) (fun w => by kernel_rfl) (int_eq (wrapAdd_i64 (a := k) (b := 1) (by omega))) (by kernel_rfl) ?_
    refine s_val (some 13) (.int .i64 ((k + 1 : Nat) : Int)) (fun w => by kernel_rfl) (by kernel_rfl) ?_
    refine s_nil ?_
    show ∃ m, _ ∧ _
    exact ⟨_, (by omega), (k + 1), rfl, (by omega), H2, (Is.of ⟨(by kernel_rfl), (by kernel_rfl), (by kernel_rfl), (by kernel_rfl), (by kernel_rfl), trivial⟩)⟩
  · skip
    refine s_valE (some 14) (.bool (decide (((k : Nat) : Int) < ((n : Nat) : Int)))) (.bool false) (fun w => by kernel_rfl) (bool_eq (decide_eq_false (by omega))) (by kernel_rfl) ?_
    refine s_nil ?_
    refine g_seq (by kernel_rfl) ?_
    refine g_cond_f (by kernel_rfl) (by kernel_rfl) ?_
    refine g_exit 0 (by kernel_rfl) ?_
    show WP _ _ _ _ _ _
    refine g_sreg [0] (by kernel_rfl) (by kernel_rfl) ?_
    refine s_val (some 4) (.bool true) (fun w => by kernel_rfl) (by kernel_rfl) ?_
    refine s_nil ?_
    refine g_ret (by kernel_rfl) ?_
    show ∃ vs, Res _ _ _ _ vs ∧ _
    refine ⟨[.bool true], (.tmp (.bool true) (by kernel_rfl) .nil), ?_, H1.below⟩
    rfl

set_option maxRecDepth 100000 in
set_option maxHeartbeats 2000000 in
theorem same_nn  : Fn Try.prog 16 #[.slice none 0 0, .slice none 0 0] (.bool true) := by
  refine Fn.intro (c := codeOf Try.f16) [.tmp 4] 26 Try.func16 (by kernel_rfl) (by kernel_rfl) (by kernel_rfl) fun w => ?_
  have H0 := St.start w
  refine g_sreg [0] (by kernel_rfl) (by kernel_rfl) ?_
  refine s_val (some 4) (.bool false) (fun w => by kernel_rfl) (by kernel_rfl) ?_
  refine s_nil ?_
  refine g_seq (by kernel_rfl) ?_
  refine g_sreg [0, 1, 2, 3, 4] (by kernel_rfl) (by kernel_rfl) ?_
  refine s_val (some 6) (.slice none 0 0) (fun w => by kernel_rfl) (by kernel_rfl) ?_
  refine s_val (some 7) (.int .i64 0) (fun w => by kernel_rfl) (by kernel_rfl) ?_
  refine s_val (some 8) (.slice none 0 0) (fun w => by kernel_rfl) (by kernel_rfl) ?_
  refine s_val (some 9) (.int .i64 0) (fun w => by kernel_rfl) (by kernel_rfl) ?_
  refine s_val (some 10) (.bool false) (fun w => by kernel_rfl) (by kernel_rfl) ?_
  refine s_nil ?_
  refine g_cond_f (by kernel_rfl) (by kernel_rfl) ?_
  refine g_skip (by kernel_rfl) ?_
  show WP _ _ _ _ _ _
  refine g_seq (by kernel_rfl) ?_
  refine g_sreg [0, 1, 2] (by kernel_rfl) (by kernel_rfl) ?_
  refine s_val (some 11) (.slice none 0 0) (fun w => by kernel_rfl) (by kernel_rfl) ?_
  refine s_val (some 12) (.int .i64 0) (fun w => by kernel_rfl) (by kernel_rfl) ?_
  refine s_val (some 13) (.int .i64 0) (fun w => by kernel_rfl) (by kernel_rfl) ?_
  refine s_nil ?_
  refine g_block 0 (by kernel_rfl) ?_
  refine g_first (by kernel_rfl) ?_
  refine g_sreg [0] (by kernel_rfl) (by kernel_rfl) ?_
  refine s_val (some 14) (.bool false) (fun w => by kernel_rfl) (by kernel_rfl) ?_
  refine s_nil ?_
  refine g_seq (by kernel_rfl) ?_
  refine g_cond_f (by kernel_rfl) (by kernel_rfl) ?_
  refine g_exit 0 (by kernel_rfl) ?_
  show WP _ _ _ _ _ _
  refine g_sreg [0] (by kernel_rfl) (by kernel_rfl) ?_
  refine s_val (some 4) (.bool true) (fun w => by kernel_rfl) (by kernel_rfl) ?_
  refine s_nil ?_
  refine g_ret (by kernel_rfl) ?_
  show ∃ vs, Res _ _ _ _ vs ∧ _
  refine ⟨[.bool true], (.tmp (.bool true) (by kernel_rfl) .nil), ?_, H0.below⟩
  rfl

set_option maxRecDepth 100000 in
set_option maxHeartbeats 2000000 in
theorem same_nb (n bb cb : Nat) (hn : n = 0) : FnP Try.prog 16 #[.slice none 0 0, .slice (some ⟨bb, 0, none⟩) n cb] (fun _ => True) (.bool true) := by
  subst hn
  refine FnP.intro (c := codeOf Try.f16) [.tmp 4] 26 Try.func16 (by kernel_rfl) (by kernel_rfl) (by kernel_rfl) fun w hpre => ?_
  have H0 := St.start w
  refine g_sreg [0] (by kernel_rfl) (by kernel_rfl) ?_
  refine s_val (some 4) (.bool false) (fun w => by kernel_rfl) (by kernel_rfl) ?_
  refine s_nil ?_
  refine g_seq (by kernel_rfl) ?_
  refine g_sreg [0, 1, 2, 3, 4] (by kernel_rfl) (by kernel_rfl) ?_
  refine s_val (some 6) (.slice none 0 0) (fun w => by kernel_rfl) (by kernel_rfl) ?_
  refine s_val (some 7) (.int .i64 0) (fun w => by kernel_rfl) (by kernel_rfl) ?_
  refine s_val (some 8) (.slice (some ⟨bb, 0, none⟩) 0 cb) (fun w => by kernel_rfl) (by kernel_rfl) ?_
  refine s_val (some 9) (.int .i64 0) (fun w => by kernel_rfl) (by kernel_rfl) ?_
  refine s_val (some 10) (.bool false) (fun w => by kernel_rfl) (by kernel_rfl) ?_
  refine s_nil ?_
  refine g_cond_f (by kernel_rfl) (by kernel_rfl) ?_
  refine g_skip (by kernel_rfl) ?_
  show WP _ _ _ _ _ _
  refine g_seq (by kernel_rfl) ?_
  refine g_sreg [0, 1, 2] (by kernel_rfl) (by kernel_rfl) ?_
  refine s_val (some 11) (.slice none 0 0) (fun w => by kernel_rfl) (by kernel_rfl) ?_
  refine s_val (some 12) (.int .i64 0) (fun w => by kernel_rfl) (by kernel_rfl) ?_
  refine s_val (some 13) (.int .i64 0) (fun w => by kernel_rfl) (by kernel_rfl) ?_
  refine s_nil ?_
  refine g_block 0 (by kernel_rfl) ?_
  refine g_first (by kernel_rfl) ?_
  refine g_sreg [0] (by kernel_rfl) (by kernel_rfl) ?_
  refine s_val (some 14) (.bool false) (fun w => by kernel_rfl) (by kernel_rfl) ?_
  refine s_nil ?_
  refine g_seq (by kernel_rfl) ?_
  refine g_cond_f (by kernel_rfl) (by kernel_rfl) ?_
  refine g_exit 0 (by kernel_rfl) ?_
  show WP _ _ _ _ _ _
  refine g_sreg [0] (by kernel_rfl) (by kernel_rfl) ?_
  refine s_val (some 4) (.bool true) (fun w => by kernel_rfl) (by kernel_rfl) ?_
  refine s_nil ?_
  refine g_ret (by kernel_rfl) ?_
  show ∃ vs, Res _ _ _ _ vs ∧ _
  refine ⟨[.bool true], (.tmp (.bool true) (by kernel_rfl) .nil), ?_, H0.below⟩
  rfl

set_option maxRecDepth 100000 in
set_option maxHeartbeats 2000000 in
theorem same_bn (n ba ca : Nat) (hn : n = 0) : FnP Try.prog 16 #[.slice (some ⟨ba, 0, none⟩) n ca, .slice none 0 0] (fun _ => True) (.bool true) := by
  subst hn
  refine FnP.intro (c := codeOf Try.f16) [.tmp 4] 26 Try.func16 (by kernel_rfl) (by kernel_rfl) (by kernel_rfl) fun w hpre => ?_
  have H0 := St.start w
  refine g_sreg [0] (by kernel_rfl) (by kernel_rfl) ?_
  refine s_val (some 4) (.bool false) (fun w => by kernel_rfl) (by kernel_rfl) ?_
  refine s_nil ?_
  refine g_seq (by kernel_rfl) ?_
  refine g_sreg [0, 1, 2, 3, 4] (by kernel_rfl) (by kernel_rfl) ?_
  refine s_val (some 6) (.slice (some ⟨ba, 0, none⟩) 0 ca) (fun w => by kernel_rfl) (by kernel_rfl) ?_
  refine s_val (some 7) (.int .i64 0) (fun w => by kernel_rfl) (by kernel_rfl) ?_
  refine s_val (some 8) (.slice none 0 0) (fun w => by kernel_rfl) (by kernel_rfl) ?_
  refine s_val (some 9) (.int .i64 0) (fun w => by kernel_rfl) (by kernel_rfl) ?_
  refine s_val (some 10) (.bool false) (fun w => by kernel_rfl) (by kernel_rfl) ?_
  refine s_nil ?_
  refine g_cond_f (by kernel_rfl) (by kernel_rfl) ?_
  refine g_skip (by kernel_rfl) ?_
  show WP _ _ _ _ _ _
  refine g_seq (by kernel_rfl) ?_
  refine g_sreg [0, 1, 2] (by kernel_rfl) (by kernel_rfl) ?_
  refine s_val (some 11) (.slice (some ⟨ba, 0, none⟩) 0 ca) (fun w => by kernel_rfl) (by kernel_rfl) ?_
  refine s_val (some 12) (.int .i64 0) (fun w => by kernel_rfl) (by kernel_rfl) ?_
  refine s_val (some 13) (.int .i64 0) (fun w => by kernel_rfl) (by kernel_rfl) ?_
  refine s_nil ?_
  refine g_block 0 (by kernel_rfl) ?_
  refine g_first (by kernel_rfl) ?_
  refine g_sreg [0] (by kernel_rfl) (by kernel_rfl) ?_
  refine s_val (some 14) (.bool false) (fun w => by kernel_rfl) (by kernel_rfl) ?_
  refine s_nil ?_
  refine g_seq (by kernel_rfl) ?_
  refine g_cond_f (by kernel_rfl) (by kernel_rfl) ?_
  refine g_exit 0 (by kernel_rfl) ?_
  show WP _ _ _ _ _ _
  refine g_sreg [0] (by kernel_rfl) (by kernel_rfl) ?_
  refine s_val (some 4) (.bool true) (fun w => by kernel_rfl) (by kernel_rfl) ?_
  refine s_nil ?_
  refine g_ret (by kernel_rfl) ?_
  show ∃ vs, Res _ _ _ _ vs ∧ _
  refine ⟨[.bool true], (.tmp (.bool true) (by kernel_rfl) .nil), ?_, H0.below⟩
  rfl
end Go.Proofs.Ythipcmpmfjeakaa
