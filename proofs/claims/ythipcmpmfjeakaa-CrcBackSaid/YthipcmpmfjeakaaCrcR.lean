/-
  The first record; a copy of a text.
-/
import Derived.Test.YthipcmpmfjeakaaProg
import Derived.Test.YthipcmpmfjeakaaCrcF
import Derived.Test.YthipcmpmfjeakaaTxt
import Derived.Test.YthipcmpmfjeakaaCrcS
namespace Go.Proofs.Ythipcmpmfjeakaa
open Go Go.RowKit Go.Proofs.Crc
set_option linter.unusedVariables false
theorem numB2 (l : List UInt8) (h : 2 ≤ l.length) : (numB (l.take 2)).toNat = size2 l := by
  have e : numB (l.take 2) = BitVec.ofNat 32 (size2 l) := by
    rw [← two l h]
    apply BitVec.eq_of_getLsbD_eq
    intro i hi
    unfold numB
    rw [le_len, num_bit _ _ hi]
    by_cases h16 : i < 16
    · rw [le_bit _ _ _ (by omega)]; simp [h16]
    · rw [BitVec.getLsbD_ofNat, Nat.testBit_lt_two_pow (Nat.lt_of_lt_of_le (size2_lt l) (show 2 ^ 16 ≤ 2 ^ i from Nat.pow_le_pow_right (by omega) (by omega)))]
      simp [show ¬ i < 8 * 2 by omega]
  have := size2_lt l
  rw [e, BitVec.toNat_ofNat]
  omega
theorem number2 (s : ByteArray) (h : 2 ≤ ByteArray.size s) : IntKind.i64.wrap ((BitVec.toNat (numB (tl (ByteArray.extract s 0 2))) : Nat) : Int) = ((size2 (tl s) : Nat) : Int) := by
  have := size2_lt (tl s)
  rw [tl_extract, List.drop_zero, numB2 _ (by rw [tl_len]; exact h)]
  exact wrapN_i64 (by omega)
theorem chk (s : ByteArray) (n : Nat) : tl (ByteArray.extract s (2 + n) (2 + n + 4)) = ((tl s).take (n + 6)).drop (n + 2) ∧ tl (ByteArray.extract s 0 (2 + n)) = (tl s).take (n + 2) := by
  constructor
  · rw [tl_extract, show 2 + n + 4 = n + 6 by omega, show 2 + n = n + 2 by omega]
  · rw [tl_extract, List.drop_zero, show 2 + n = n + 2 by omega]
theorem fst_bad (s : ByteArray) (h : ByteArray.size s < 2 ∨ ¬ (1 ≤ size2 (tl s) ∧ size2 (tl s) ≤ 4000) ∨ ByteArray.size s < 2 + size2 (tl s) + 4 ∨ (BitVec.toNat (numB (tl (ByteArray.extract s (2 + size2 (tl s)) (2 + size2 (tl s) + 4)))) : Nat) ≠ BitVec.toNat (crc (tl (ByteArray.extract s 0 (2 + size2 (tl s)))))) : (⟨#[]⟩ : ByteArray) = strB (fst (tl s)) := by
  unfold fst
  rw [if_pos]
  · rfl
  · rw [(chk s _).1, (chk s _).2] at h
    rw [tl_len]
    rcases h with h | h | h | h
    · exact Or.inl h
    · exact Or.inr (Or.inl h)
    · exact Or.inr (Or.inr (Or.inl (by omega)))
    · exact Or.inr (Or.inr (Or.inr fun q => h (by rw [q])))
theorem fst_ok (s : ByteArray) (h0 : ¬ ByteArray.size s < 2) (h1 : 1 ≤ size2 (tl s) ∧ size2 (tl s) ≤ 4000) (h2 : ¬ ByteArray.size s < 2 + size2 (tl s) + 4)
    (h3 : ¬ (BitVec.toNat (numB (tl (ByteArray.extract s (2 + size2 (tl s)) (2 + size2 (tl s) + 4)))) : Nat) ≠ BitVec.toNat (crc (tl (ByteArray.extract s 0 (2 + size2 (tl s)))))) : ByteArray.extract s 2 (2 + size2 (tl s)) = strB (fst (tl s)) := by
  unfold fst
  rw [(chk s _).1, (chk s _).2] at h3
  rw [if_neg]
  · rw [← strB_tl (ByteArray.extract s 2 _), tl_extract, show 2 + size2 (tl s) = size2 (tl s) + 2 by omega]
  · rw [tl_len]
    rintro (q | q | q | q)
    · exact h0 q
    · exact q h1
    · omega
    · exact h3 (fun e => q (BitVec.eq_of_toNat_eq e))

set_option maxRecDepth 100000 in
set_option maxHeartbeats 2000000 in
theorem first_fn (s : ByteArray) (hs : ByteArray.size s ≤ 1000000) : Fn Try.prog 22 #[arr 256 tabL, .string s] (.string (strB (fst (tl s)))) := by
  refine Fn.intro (c := codeOf Try.f22) [.tmp 4] 41 Try.func22 (by kernel_rfl) (by kernel_rfl) (by kernel_rfl) fun w => ?_
  have H0 := St.start w
  refine g_sreg [0, 1] (by kernel_rfl) (by kernel_rfl) ?_
  refine s_box H0 (some 2) 40 (.tmp 0) (arr 256 tabL) (by kernel_rfl) (by kernel_rfl) (by kernel_rfl) ?_
  intro b1 w1 H1; clear H0
  refine s_val (some 4) (.string (⟨#[]⟩)) (fun w => by kernel_rfl) (by kernel_rfl) ?_
  refine s_nil ?_
  refine g_seq (by kernel_rfl) ?_
  refine g_sreg [0, 1, 2] (by kernel_rfl) (by kernel_rfl) ?_
  refine s_val (some 7) (.string s) (fun w => by kernel_rfl) (by kernel_rfl) ?_
  refine s_val (some 8) (.int .i64 ((ByteArray.size s : Nat) : Int)) (fun w => by kernel_rfl) (by kernel_rfl) ?_
  by_cases hc1 : (ByteArray.size s : Nat) < 2
  · skip
    refine s_valE (some 9) (.bool (decide (((ByteArray.size s : Nat) : Int) < 2))) (.bool true) (fun w => by kernel_rfl) (bool_eq (decide_eq_true (by omega))) (by kernel_rfl) ?_
    refine s_nil ?_
    refine g_cond_t (by kernel_rfl) (by kernel_rfl) ?_
    refine g_sreg [0] (by kernel_rfl) (by kernel_rfl) ?_
    refine s_val (some 4) (.string (⟨#[]⟩)) (fun w => by kernel_rfl) (by kernel_rfl) ?_
    refine s_nil ?_
    refine g_ret (by kernel_rfl) ?_
    show ∃ vs, Res _ _ _ _ vs ∧ _
    refine ⟨[.string (⟨#[]⟩)], (.tmp (.string (⟨#[]⟩)) (by kernel_rfl) .nil), ?_, H1.below⟩
    exact congrArg Value.string (fst_bad s (by omega))
  · skip
    refine s_valE (some 9) (.bool (decide (((ByteArray.size s : Nat) : Int) < 2))) (.bool false) (fun w => by kernel_rfl) (bool_eq (decide_eq_false (by omega))) (by kernel_rfl) ?_
    refine s_nil ?_
    refine g_cond_f (by kernel_rfl) (by kernel_rfl) ?_
    refine g_skip (by kernel_rfl) ?_
    show WP _ _ _ _ _ _
    refine g_sreg [0, 1, 2, 3, 4] (by kernel_rfl) (by kernel_rfl) ?_
    have hlt := size2_lt (tl s)
    refine s_val (some 10) (.string s) (fun w => by kernel_rfl) (by kernel_rfl) ?_
    refine s_op (some 11) _ (.string (ByteArray.extract s 0 2)) (by kernel_rfl) (by kernel_rfl) (fun o w ho => scut_run (t := 9) (kd := .i64) (by kernel_rfl) (x := (.tmp 10)) (y := (.const (.int .i64 2))) s 2 ho (by kernel_rfl) (by kernel_rfl) (by omega) w) ?_
    refine s_call H1 (some 12) 25 #[.string (ByteArray.extract s 0 2)] (.int .u32 ((BitVec.toNat (numB (tl (ByteArray.extract s 0 2))) : Nat) : Int)) (number_fn (ByteArray.extract s 0 2) (by rw [ext_size _ _ _ (by omega)]; omega)) (fun w => by kernel_rfl) (by kernel_rfl) ?_
    intro w2 H2; clear H1
    refine s_valE (some 13) (.int .i64 (IntKind.i64.wrap (((BitVec.toNat (numB (tl (ByteArray.extract s 0 2))) : Nat) : Int)))) (.int .i64 ((size2 (tl s) : Nat) : Int)) (fun w => by kernel_rfl) (int_eq (number2 s (by omega))) (by kernel_rfl) ?_
    refine s_val (some 5) (.int .i64 ((size2 (tl s) : Nat) : Int)) (fun w => by kernel_rfl) (by kernel_rfl) ?_
    refine s_nil ?_
    refine g_sreg [0, 1, 2] (by kernel_rfl) (by kernel_rfl) ?_
    refine s_val (some 14) (.int .i64 ((size2 (tl s) : Nat) : Int)) (fun w => by kernel_rfl) (by kernel_rfl) ?_
    refine s_valE (some 15) (.int .i64 (IntKind.i64.wrap (2 + ((size2 (tl s) : Nat) : Int)))) (.int .i64 ((2 + (size2 (tl s)) : Nat) : Int)) (fun w => by kernel_rfl) (int_eq (wrapAdd_i64 (a := 2) (b := size2 (tl s)) (by omega))) (by kernel_rfl) ?_
    refine s_val (some 6) (.int .i64 ((2 + (size2 (tl s)) : Nat) : Int)) (fun w => by kernel_rfl) (by kernel_rfl) ?_
    refine s_nil ?_
    refine g_seq (by kernel_rfl) ?_
    refine g_sreg [0, 1, 2, 3, 4, 5, 6, 7, 8, 9] (by kernel_rfl) (by kernel_rfl) ?_
    by_cases hx2 : 1 ≤ size2 (tl s) ∧ size2 (tl s) ≤ 4000
    · skip
      refine s_val (some 16) (.int .i64 ((size2 (tl s) : Nat) : Int)) (fun w => by kernel_rfl) (by kernel_rfl) ?_
      refine s_call H2 (some 17) 18 #[.int .i64 ((size2 (tl s) : Nat) : Int)] (.bool true) (may_yes (size2 (tl s)) (by omega)) (fun w => by kernel_rfl) (by kernel_rfl) ?_
      intro w3 H3; clear H2
      refine s_val (some 18) (.bool false) (fun w => by kernel_rfl) (by kernel_rfl) ?_
      refine s_val (some 19) (.bool false) (fun w => by kernel_rfl) (by kernel_rfl) ?_
      refine s_val (some 20) (.string s) (fun w => by kernel_rfl) (by kernel_rfl) ?_
      refine s_val (some 21) (.int .i64 ((ByteArray.size s : Nat) : Int)) (fun w => by kernel_rfl) (by kernel_rfl) ?_
      refine s_val (some 22) (.int .i64 ((2 + (size2 (tl s)) : Nat) : Int)) (fun w => by kernel_rfl) (by kernel_rfl) ?_
      refine s_valE (some 23) (.int .i64 (IntKind.i64.wrap (((2 + (size2 (tl s)) : Nat) : Int) + 4))) (.int .i64 (((2 + (size2 (tl s))) + 4 : Nat) : Int)) (fun w => by kernel_rfl) (int_eq (wrapAdd_i64 (a := 2 + (size2 (tl s))) (b := 4) (by omega))) (by kernel_rfl) ?_
      by_cases hc3 : (ByteArray.size s : Nat) < (2 + (size2 (tl s))) + 4
      · skip
        refine s_valE (some 24) (.bool (decide (((ByteArray.size s : Nat) : Int) < (((2 + (size2 (tl s))) + 4 : Nat) : Int)))) (.bool true) (fun w => by kernel_rfl) (bool_eq (decide_eq_true (by omega))) (by kernel_rfl) ?_
        refine s_val (some 25) (.bool true) (fun w => by kernel_rfl) (by kernel_rfl) ?_
        refine s_nil ?_
        refine g_cond_t (by kernel_rfl) (by kernel_rfl) ?_
        refine g_sreg [0] (by kernel_rfl) (by kernel_rfl) ?_
        refine s_val (some 4) (.string (⟨#[]⟩)) (fun w => by kernel_rfl) (by kernel_rfl) ?_
        refine s_nil ?_
        refine g_ret (by kernel_rfl) ?_
        show ∃ vs, Res _ _ _ _ vs ∧ _
        refine ⟨[.string (⟨#[]⟩)], (.tmp (.string (⟨#[]⟩)) (by kernel_rfl) .nil), ?_, H3.below⟩
        exact congrArg Value.string (fst_bad s (by omega))
      · skip
        refine s_valE (some 24) (.bool (decide (((ByteArray.size s : Nat) : Int) < (((2 + (size2 (tl s))) + 4 : Nat) : Int)))) (.bool false) (fun w => by kernel_rfl) (bool_eq (decide_eq_false (by omega))) (by kernel_rfl) ?_
        refine s_val (some 25) (.bool false) (fun w => by kernel_rfl) (by kernel_rfl) ?_
        refine s_nil ?_
        refine g_cond_f (by kernel_rfl) (by kernel_rfl) ?_
        refine g_skip (by kernel_rfl) ?_
        show WP _ _ _ _ _ _
        refine g_seq (by kernel_rfl) ?_
        by_cases hx4 : ((BitVec.toNat (numB (tl (ByteArray.extract s (2 + (size2 (tl s))) ((2 + (size2 (tl s))) + 4))))) : Nat) ≠ (BitVec.toNat (crc (tl (ByteArray.extract s 0 (2 + (size2 (tl s)))))))
        · skip
          refine D2.g_sdraw [0, 1, 2, 3, 4, 5, 6, 7, 8, 9, 10, 11] [((some 26), fun _ => .string s), ((some 27), fun _ => .int .i64 ((2 + (size2 (tl s)) : Nat) : Int)), ((some 28), fun _ => .int .i64 ((2 + (size2 (tl s)) : Nat) : Int)), ((some 29), fun _ => .int .i64 (((2 + (size2 (tl s))) + 4 : Nat) : Int)), ((some 30), fun _ => .string (ByteArray.extract s (2 + (size2 (tl s))) ((2 + (size2 (tl s))) + 4))), ((some 31), fun _ => .int .u32 ((BitVec.toNat (numB (tl (ByteArray.extract s (2 + (size2 (tl s))) ((2 + (size2 (tl s))) + 4)))) : Nat) : Int)), ((some 32), fun _ => arr 256 tabL), ((some 33), fun _ => .string s), ((some 34), fun _ => .int .i64 ((2 + (size2 (tl s)) : Nat) : Int)), ((some 35), fun _ => .string (ByteArray.extract s 0 (2 + (size2 (tl s))))), ((some 36), fun _ => .int .u32 ((BitVec.toNat (crc (tl (ByteArray.extract s 0 (2 + (size2 (tl s)))))) : Nat) : Int)), ((some 37), fun _ => .bool true)] (D2.Pre w.heap.size w (fun L g => [(true, (b1, Obj.cells (Value.cells (arr 256 tabL)) 40 (0, 0)))]) (fun L g => True)) (by kernel_rfl) (by kernel_rfl) (by kernel_rfl) (by kernel_rfl) ⟨D2.StE.of H3.drew _ (by kernel_rfl), trivial⟩ ⟨?_, ?_, ?_, ?_, ?_, ?_, ?_, ?_, ?_, ?_, ?_, ?_, trivial⟩ ?_
          · exact D2.gv_val (fun _ _ _ h => h) (fun g w => by kernel_rfl)
          · exact D2.gv_val (fun _ _ _ h => h) (fun g w => by kernel_rfl)
          · exact D2.gv_val (fun _ _ _ h => h) (fun g w => by kernel_rfl)
          · exact D2.gv_valE (fun _ _ _ h => h) (V' := .int .i64 (IntKind.i64.wrap (((2 + (size2 (tl s)) : Nat) : Int) + 4))) (fun g w => by kernel_rfl) (int_eq (wrapAdd_i64 (a := 2 + (size2 (tl s))) (b := 4) (by omega)))
          · exact D2.gv_op (fun _ _ _ h => h) _ (fun g => by kernel_rfl) (fun g => (fun o w ho => scut2_run (t := 9) (kd := .i64) (kz := .i64) (by kernel_rfl) (x := (.tmp 26)) (y := (.tmp 29)) (z := (.tmp 27)) s (2 + (size2 (tl s))) ((2 + (size2 (tl s))) + 4) ho (by kernel_rfl) (by kernel_rfl) (by kernel_rfl) (by omega) (by omega) w))
          · exact D2.gv_call 25 #[.string (ByteArray.extract s (2 + (size2 (tl s))) ((2 + (size2 (tl s))) + 4))] (fun _ _ _ h => h) (number_fn (ByteArray.extract s (2 + (size2 (tl s))) ((2 + (size2 (tl s))) + 4)) (by rw [ext_size _ _ _ (by omega)]; omega)) (fun g w => by kernel_rfl)
          · exact D2.gv_load 40 (.tmp 2) 0 (fun g => b1) (Value.cells (arr 256 tabL)) 40 (0, 0) (fun _ _ _ h => h) (fun g => by kernel_rfl) (fun g => by kernel_rfl) (fun L g hN => (by kernel_rfl)) (by kernel_rfl)
          · exact D2.gv_val (fun _ _ _ h => h) (fun g w => by kernel_rfl)
          · exact D2.gv_val (fun _ _ _ h => h) (fun g w => by kernel_rfl)
          · exact D2.gv_op (fun _ _ _ h => h) _ (fun g => by kernel_rfl) (fun g => (fun o w ho => scut_run (t := 9) (kd := .i64) (by kernel_rfl) (x := (.tmp 33)) (y := (.tmp 34)) s (2 + (size2 (tl s))) ho (by kernel_rfl) (by kernel_rfl) (by omega) w))
          · exact D2.gv_call 20 #[arr 256 tabL, .string (ByteArray.extract s 0 (2 + (size2 (tl s))))] (fun _ _ _ h => h) (sum_fn (ByteArray.extract s 0 (2 + (size2 (tl s)))) (by first | omega | (rw [ext_size _ _ _ (by omega)]; omega))) (fun g w => by kernel_rfl)
          · exact D2.gv_valE (fun _ _ _ h => h) (V' := .bool (!(((BitVec.toNat (numB (tl (ByteArray.extract s (2 + (size2 (tl s))) ((2 + (size2 (tl s))) + 4)))) : Nat) : Int) == ((BitVec.toNat (crc (tl (ByteArray.extract s 0 (2 + (size2 (tl s)))))) : Nat) : Int)))) (fun g w => by kernel_rfl) (bool_eq (by rw [beq_eq_false_iff_ne.2 (by omega)]; rfl))
          intro L0 G4 w4 hall HL; clear H3
          have H4 : St w.heap.size w w4 [(b1, Obj.cells (Value.cells (arr 256 tabL)) 40 (0, 0))] := D2.StE.st HL.1
          clear HL hall
          refine g_cond_t (by kernel_rfl) (by kernel_rfl) ?_
          refine g_sreg [0] (by kernel_rfl) (by kernel_rfl) ?_
          refine s_val (some 4) (.string (⟨#[]⟩)) (fun w => by kernel_rfl) (by kernel_rfl) ?_
          refine s_nil ?_
          refine g_ret (by kernel_rfl) ?_
          show ∃ vs, Res _ _ _ _ vs ∧ _
          refine ⟨[.string (⟨#[]⟩)], (.tmp (.string (⟨#[]⟩)) (by kernel_rfl) .nil), ?_, H4.below⟩
          exact congrArg Value.string (fst_bad s (by omega))
        · skip
          refine D2.g_sdraw [0, 1, 2, 3, 4, 5, 6, 7, 8, 9, 10, 11] [((some 26), fun _ => .string s), ((some 27), fun _ => .int .i64 ((2 + (size2 (tl s)) : Nat) : Int)), ((some 28), fun _ => .int .i64 ((2 + (size2 (tl s)) : Nat) : Int)), ((some 29), fun _ => .int .i64 (((2 + (size2 (tl s))) + 4 : Nat) : Int)), ((some 30), fun _ => .string (ByteArray.extract s (2 + (size2 (tl s))) ((2 + (size2 (tl s))) + 4))), ((some 31), fun _ => .int .u32 ((BitVec.toNat (numB (tl (ByteArray.extract s (2 + (size2 (tl s))) ((2 + (size2 (tl s))) + 4)))) : Nat) : Int)), ((some 32), fun _ => arr 256 tabL), ((some 33), fun _ => .string s), ((some 34), fun _ => .int .i64 ((2 + (size2 (tl s)) : Nat) : Int)), ((some 35), fun _ => .string (ByteArray.extract s 0 (2 + (size2 (tl s))))), ((some 36), fun _ => .int .u32 ((BitVec.toNat (crc (tl (ByteArray.extract s 0 (2 + (size2 (tl s)))))) : Nat) : Int)), ((some 37), fun _ => .bool false)] (D2.Pre w.heap.size w (fun L g => [(true, (b1, Obj.cells (Value.cells (arr 256 tabL)) 40 (0, 0)))]) (fun L g => True)) (by kernel_rfl) (by kernel_rfl) (by kernel_rfl) (by kernel_rfl) ⟨D2.StE.of H3.drew _ (by kernel_rfl), trivial⟩ ⟨?_, ?_, ?_, ?_, ?_, ?_, ?_, ?_, ?_, ?_, ?_, ?_, trivial⟩ ?_
          · exact D2.gv_val (fun _ _ _ h => h) (fun g w => by kernel_rfl)
          · exact D2.gv_val (fun _ _ _ h => h) (fun g w => by kernel_rfl)
          · exact D2.gv_val (fun _ _ _ h => h) (fun g w => by kernel_rfl)
          · exact D2.gv_valE (fun _ _ _ h => h) (V' := .int .i64 (IntKind.i64.wrap (((2 + (size2 (tl s)) : Nat) : Int) + 4))) (fun g w => by kernel_rfl) (int_eq (wrapAdd_i64 (a := 2 + (size2 (tl s))) (b := 4) (by omega)))
          · exact D2.gv_op (fun _ _ _ h => h) _ (fun g => by kernel_rfl) (fun g => (fun o w ho => scut2_run (t := 9) (kd := .i64) (kz := .i64) (by kernel_rfl) (x := (.tmp 26)) (y := (.tmp 29)) (z := (.tmp 27)) s (2 + (size2 (tl s))) ((2 + (size2 (tl s))) + 4) ho (by kernel_rfl) (by kernel_rfl) (by kernel_rfl) (by omega) (by omega) w))
          · exact D2.gv_call 25 #[.string (ByteArray.extract s (2 + (size2 (tl s))) ((2 + (size2 (tl s))) + 4))] (fun _ _ _ h => h) (number_fn (ByteArray.extract s (2 + (size2 (tl s))) ((2 + (size2 (tl s))) + 4)) (by rw [ext_size _ _ _ (by omega)]; omega)) (fun g w => by kernel_rfl)
          · exact D2.gv_load 40 (.tmp 2) 0 (fun g => b1) (Value.cells (arr 256 tabL)) 40 (0, 0) (fun _ _ _ h => h) (fun g => by kernel_rfl) (fun g => by kernel_rfl) (fun L g hN => (by kernel_rfl)) (by kernel_rfl)
          · exact D2.gv_val (fun _ _ _ h => h) (fun g w => by kernel_rfl)
          · exact D2.gv_val (fun _ _ _ h => h) (fun g w => by kernel_rfl)
          · exact D2.gv_op (fun _ _ _ h => h) _ (fun g => by kernel_rfl) (fun g => (fun o w ho => scut_run (t := 9) (kd := .i64) (by kernel_rfl) (x := (.tmp 33)) (y := (.tmp 34)) s (2 + (size2 (tl s))) ho (by kernel_rfl) (by kernel_rfl) (by omega) w))
          · exact D2.gv_call 20 #[arr 256 tabL, .string (ByteArray.extract s 0 (2 + (size2 (tl s))))] (fun _ _ _ h => h) (sum_fn (ByteArray.extract s 0 (2 + (size2 (tl s)))) (by first | omega | (rw [ext_size _ _ _ (by omega)]; omega))) (fun g w => by kernel_rfl)
          · exact D2.gv_valE (fun _ _ _ h => h) (V' := .bool (!(((BitVec.toNat (numB (tl (ByteArray.extract s (2 + (size2 (tl s))) ((2 + (size2 (tl s))) + 4)))) : Nat) : Int) == ((BitVec.toNat (crc (tl (ByteArray.extract s 0 (2 + (size2 (tl s)))))) : Nat) : Int)))) (fun g w => by kernel_rfl) (bool_eq (by rw [beq_iff_eq.2 (by omega)]; rfl))
          intro L0 G5 w5 hall HL; clear H3
          have H5 : St w.heap.size w w5 [(b1, Obj.cells (Value.cells (arr 256 tabL)) 40 (0, 0))] := D2.StE.st HL.1
          clear HL hall
          refine g_cond_f (by kernel_rfl) (by kernel_rfl) ?_
          refine g_skip (by kernel_rfl) ?_
          show WP _ _ _ _ _ _
          refine g_sreg [0, 1, 2, 3] (by kernel_rfl) (by kernel_rfl) ?_
          refine s_val (some 38) (.string s) (fun w => by kernel_rfl) (by kernel_rfl) ?_
          refine s_val (some 39) (.int .i64 ((2 + (size2 (tl s)) : Nat) : Int)) (fun w => by kernel_rfl) (by kernel_rfl) ?_
          refine s_op (some 40) _ (.string (ByteArray.extract s 2 (2 + (size2 (tl s))))) (by kernel_rfl) (by kernel_rfl) (fun o w ho => scut2_run (t := 9) (kd := .i64) (kz := .i64) (by kernel_rfl) (x := (.tmp 38)) (y := (.tmp 39)) (z := (.const (.int .i64 2))) s 2 (2 + (size2 (tl s))) ho (by kernel_rfl) (by kernel_rfl) (by kernel_rfl) (by omega) (by omega) w) ?_
          refine s_val (some 4) (.string (ByteArray.extract s 2 (2 + (size2 (tl s))))) (fun w => by kernel_rfl) (by kernel_rfl) ?_
          refine s_nil ?_
          refine g_ret (by kernel_rfl) ?_
          show ∃ vs, Res _ _ _ _ vs ∧ _
          refine ⟨[.string (ByteArray.extract s 2 (2 + (size2 (tl s))))], (.tmp (.string (ByteArray.extract s 2 (2 + (size2 (tl s))))) (by kernel_rfl) .nil), ?_, H5.below⟩
          exact congrArg Value.string (fst_ok s (by omega) (by omega) (by omega) (by omega))
    · skip
      refine s_val (some 16) (.int .i64 ((size2 (tl s) : Nat) : Int)) (fun w => by kernel_rfl) (by kernel_rfl) ?_
      refine s_call H2 (some 17) 18 #[.int .i64 ((size2 (tl s) : Nat) : Int)] (.bool false) (may_no (size2 (tl s)) (by omega)) (fun w => by kernel_rfl) (by kernel_rfl) ?_
      intro w6 H6; clear H2
      refine s_val (some 18) (.bool true) (fun w => by kernel_rfl) (by kernel_rfl) ?_
      refine s_val (some 19) (.bool true) (fun w => by kernel_rfl) (by kernel_rfl) ?_
      refine s_not (some 20) (by kernel_rfl) (by kernel_rfl) ?_
      refine s_not (some 21) (by kernel_rfl) (by kernel_rfl) ?_
      refine s_not (some 22) (by kernel_rfl) (by kernel_rfl) ?_
      refine s_not (some 23) (by kernel_rfl) (by kernel_rfl) ?_
      refine s_not (some 24) (by kernel_rfl) (by kernel_rfl) ?_
      refine s_val (some 25) (.bool true) (fun w => by kernel_rfl) (by kernel_rfl) ?_
      refine s_nil ?_
      refine g_cond_t (by kernel_rfl) (by kernel_rfl) ?_
      refine g_sreg [0] (by kernel_rfl) (by kernel_rfl) ?_
      refine s_val (some 4) (.string (⟨#[]⟩)) (fun w => by kernel_rfl) (by kernel_rfl) ?_
      refine s_nil ?_
      refine g_ret (by kernel_rfl) ?_
      show ∃ vs, Res _ _ _ _ vs ∧ _
      refine ⟨[.string (⟨#[]⟩)], (.tmp (.string (⟨#[]⟩)) (by kernel_rfl) .nil), ?_, H6.below⟩
      exact congrArg Value.string (fst_bad s (by omega))

theorem rwB (s : ByteArray) (h : ByteArray.size s ≤ maxLen) : Rw 1 (cellsB (tl s)).toArray (ByteArray.size s) (ByteArray.size s) (cellsB (tl s)) :=
  ⟨by rw [cellsB_len, tl_len]; omega, Nat.le_refl _, h, by rw [List.take_of_length_le (by simp [cellsB_len, tl_len])], by simp [cellsB_len, tl_len]⟩
theorem idx0_run {P : Program} {ρ : Env} {t e : TypeId} {bytes : Nat} (ht : sliceOf P t = some (e, 1, bytes)) {x y : Operand} {o : Oper} {kd : IntKind} (b n c : Nat) (ho : o.op = .indexAddr t x y) (hx : ev ρ x = .slice (some ⟨b, 0, none⟩) n c) (hy : ev ρ y = .int kd 0) (hk : 0 < n) :
    ∀ w, (execOp (ev ρ) o).run P w = .ok (.value (.pointer (some ⟨b, 0, none⟩))) w := fun w =>
  idxS_run (P := P) (kd := kd) ht b 0 n c 0 ho hx hy hk w

set_option maxRecDepth 100000 in
set_option maxHeartbeats 2000000 in
theorem slClone_fn (s : ByteArray) (hs : ByteArray.size s ≤ 1000000) : Fn Try.prog 26 #[.string s] (.string s) := by
  refine Fn.intro (c := codeOf Try.f26) [.tmp 2] 18 Try.func26 (by kernel_rfl) (by kernel_rfl) (by kernel_rfl) fun w => ?_
  have H0 := St.start w
  refine g_sreg [0] (by kernel_rfl) (by kernel_rfl) ?_
  refine s_val (some 2) (.string (⟨#[]⟩)) (fun w => by kernel_rfl) (by kernel_rfl) ?_
  refine s_nil ?_
  refine g_seq (by kernel_rfl) ?_
  refine g_sreg [0, 1, 2] (by kernel_rfl) (by kernel_rfl) ?_
  refine s_val (some 4) (.string s) (fun w => by kernel_rfl) (by kernel_rfl) ?_
  refine s_val (some 5) (.int .i64 ((ByteArray.size s : Nat) : Int)) (fun w => by kernel_rfl) (by kernel_rfl) ?_
  by_cases hc1 : (ByteArray.size s : Nat) = 0
  · skip
    refine s_valE (some 6) (.bool (((ByteArray.size s : Nat) : Int) == 0)) (.bool true) (fun w => by kernel_rfl) (bool_eq (beq_iff_eq.2 (by omega))) (by kernel_rfl) ?_
    refine s_nil ?_
    refine g_cond_t (by kernel_rfl) (by kernel_rfl) ?_
    refine g_sreg [0] (by kernel_rfl) (by kernel_rfl) ?_
    refine s_val (some 2) (.string (⟨#[]⟩)) (fun w => by kernel_rfl) (by kernel_rfl) ?_
    refine s_nil ?_
    refine g_ret (by kernel_rfl) ?_
    show ∃ vs, Res _ _ _ _ vs ∧ _
    refine ⟨[.string (⟨#[]⟩)], (.tmp (.string (⟨#[]⟩)) (by kernel_rfl) .nil), ?_, H0.below⟩
    exact congrArg Value.string (tl_inj (List.eq_nil_of_length_eq_zero (by rw [tl_len]; omega) : tl s = []).symm)
  · skip
    refine s_valE (some 6) (.bool (((ByteArray.size s : Nat) : Int) == 0)) (.bool false) (fun w => by kernel_rfl) (bool_eq (beq_eq_false_iff_ne.2 (by omega))) (by kernel_rfl) ?_
    refine s_nil ?_
    refine g_cond_f (by kernel_rfl) (by kernel_rfl) ?_
    refine g_skip (by kernel_rfl) ?_
    show WP _ _ _ _ _ _
    refine g_sreg [0, 1, 2, 3] (by kernel_rfl) (by kernel_rfl) ?_
    refine s_val (some 7) (.string s) (fun w => by kernel_rfl) (by kernel_rfl) ?_
    refine s_val (some 8) (.int .i64 ((ByteArray.size s : Nat) : Int)) (fun w => by kernel_rfl) (by kernel_rfl) ?_
    refine s_make H0 (some 9) 43 5 1 (.int .u8 0) (.tmp 8) (.tmp 8) .i64 .i64 (ByteArray.size s) (by kernel_rfl) (by kernel_rfl) (by kernel_rfl) (by kernel_rfl) rfl (by kernel_rfl) (by kernel_rfl) (by omega) (by unfold maxLen; omega) ?_
    intro b_1 cur_2 w1 H1 hr_3; clear H0
    have hr_3z : Rw 1 cur_2 (ByteArray.size s) (ByteArray.size s) (cellsB (List.replicate (ByteArray.size s) 0)) := by rw [cellsB_zeros']; exact hr_3
    refine s_val (some 3) (.slice (some ⟨b_1, 0, none⟩) (ByteArray.size s) (ByteArray.size s)) (fun w => by kernel_rfl) (by kernel_rfl) ?_
    refine s_nil ?_
    refine g_sreg [0, 1, 2] (by kernel_rfl) (by kernel_rfl) ?_
    refine s_val (some 10) (.slice (some ⟨b_1, 0, none⟩) (ByteArray.size s) (ByteArray.size s)) (fun w => by kernel_rfl) (by kernel_rfl) ?_
    refine s_val (some 11) (.string s) (fun w => by kernel_rfl) (by kernel_rfl) ?_
    refine s_copyStr H1 (some 12) 43 9 5 1 (.tmp 10) (.tmp 11) 0 b_1 (ByteArray.size s) (ByteArray.size s) s cur_2 ((cellsB (tl s)).toArray) 5 [(b_1, Obj.cells ((cellsB (tl s)).toArray) 5 (0, 0))] (by kernel_rfl) (by kernel_rfl) (by kernel_rfl) (by kernel_rfl) (by kernel_rfl) (by kernel_rfl) (by omega) (Nat.le_of_eq (by have h := hr_3z.sz; rw [h]; omega)) (by rw [List.drop_of_length_le (by have h := hr_3z.sz; rw [Array.length_toList, h]; omega), List.append_nil]) (by kernel_rfl) ?_
    intro w2 H2; clear H1
    refine s_nil ?_
    refine g_sreg [0, 1, 2, 3, 4, 5] (by kernel_rfl) (by kernel_rfl) ?_
    refine s_val (some 13) (.slice (some ⟨b_1, 0, none⟩) (ByteArray.size s) (ByteArray.size s)) (fun w => by kernel_rfl) (by kernel_rfl) ?_
    refine s_op (some 14) _ (.pointer (some ⟨b_1, 0, none⟩)) (by kernel_rfl) (by kernel_rfl) (fun o w ho => idx0_run (kd := .i64) (t := 43) (e := 5) (bytes := 1) (by kernel_rfl) (x := (.tmp 13)) (y := (.const (.int .i64 0))) b_1 (ByteArray.size s) (ByteArray.size s) ho (by kernel_rfl) (by kernel_rfl) (by omega) w) ?_
    refine s_val (some 15) (.slice (some ⟨b_1, 0, none⟩) (ByteArray.size s) (ByteArray.size s)) (fun w => by kernel_rfl) (by kernel_rfl) ?_
    refine s_val (some 16) (.int .i64 ((ByteArray.size s : Nat) : Int)) (fun w => by kernel_rfl) (by kernel_rfl) ?_
    refine s_unsafeStr H2 (some 17) 46 3 5 (.tmp 14) (.tmp 16) (ByteArray.size s) (ByteArray.size s) (tl s) (by kernel_rfl) (by kernel_rfl) (by kernel_rfl) (by kernel_rfl) rfl (by kernel_rfl) (by kernel_rfl) (rwB s (by unfold maxLen; omega)) (by omega) (by omega) ?_
    intro w3 H3; clear H2
    refine s_val (some 2) (.string (strB (tl s))) (fun w => by kernel_rfl) (by kernel_rfl) ?_
    refine s_nil ?_
    refine g_ret (by kernel_rfl) ?_
    show ∃ vs, Res _ _ _ _ vs ∧ _
    refine ⟨[.string (strB (tl s))], (.tmp (.string (strB (tl s))) (by kernel_rfl) .nil), ?_, H3.below⟩
    rfl

set_option maxRecDepth 100000 in
set_option maxHeartbeats 2000000 in
theorem clone_fn (s : ByteArray) (hs : ByteArray.size s ≤ 1000000) : Fn Try.prog 23 #[.string s] (.string s) := by
  refine Fn.intro (c := codeOf Try.f23) [.tmp 2] 5 Try.func23 (by kernel_rfl) (by kernel_rfl) (by kernel_rfl) fun w => ?_
  have H0 := St.start w
  refine g_sreg [0] (by kernel_rfl) (by kernel_rfl) ?_
  refine s_val (some 2) (.string (⟨#[]⟩)) (fun w => by kernel_rfl) (by kernel_rfl) ?_
  refine s_nil ?_
  refine g_sreg [0, 1, 2] (by kernel_rfl) (by kernel_rfl) ?_
  refine s_val (some 3) (.string s) (fun w => by kernel_rfl) (by kernel_rfl) ?_
  refine s_call H0 (some 4) 26 #[.string s] (.string s) (slClone_fn s (by omega)) (fun w => by kernel_rfl) (by kernel_rfl) ?_
  intro w1 H1; clear H0
  refine s_val (some 2) (.string s) (fun w => by kernel_rfl) (by kernel_rfl) ?_
  refine s_nil ?_
  refine g_ret (by kernel_rfl) ?_
  show ∃ vs, Res _ _ _ _ vs ∧ _
  refine ⟨[.string s], (.tmp (.string s) (by kernel_rfl) .nil), ?_, H1.below⟩
  rfl
end Go.Proofs.Ythipcmpmfjeakaa
