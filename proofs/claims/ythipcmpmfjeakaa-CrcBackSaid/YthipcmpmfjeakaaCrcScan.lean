/-
  Scan.
-/
import Derived.Test.YthipcmpmfjeakaaProg
import Derived.Test.YthipcmpmfjeakaaCrcF
import Derived.Test.YthipcmpmfjeakaaTxt
import Derived.Test.YthipcmpmfjeakaaCrcR
namespace Go.Proofs.Ythipcmpmfjeakaa
open Go Go.RowKit Go.Proofs.Crc
set_option linter.unusedVariables false
theorem drop_ext (s : ByteArray) (p : Nat) : tl (ByteArray.extract s p (ByteArray.size s)) = (tl s).drop p := by
  rw [tl_extract, show ByteArray.size s = (tl s).length from rfl, List.take_length]
theorem strB_ne {l : List UInt8} (h : ¬ strB l = ⟨#[]⟩) : l ≠ [] := fun e => h (by rw [e]; rfl)
/-- Records so far. -/
def So (l : List UInt8) (rs : List ByteArray) (p : Nat) : Prop := (∀ x ∈ rs, IsR (tl x)) ∧ (flat rs).length = p ∧ l = flat rs ++ l.drop p ∧ p ≤ l.length
theorem So.start (l : List UInt8) : So l [] 0 := ⟨fun _ h => (by cases h), rfl, rfl, Nat.zero_le _⟩
theorem So.step {s : ByteArray} {rs : List ByteArray} {p : Nat} (h : So (tl s) rs p) (hne : ¬ strB (fst (tl (ByteArray.extract s p (ByteArray.size s)))) = ⟨#[]⟩) :
    So (tl s) (rs ++ [strB (fst (tl (ByteArray.extract s p (ByteArray.size s))))]) (p + (2 + ByteArray.size (strB (fst (tl (ByteArray.extract s p (ByteArray.size s))))) + 4)) ∧ p + (2 + ByteArray.size (strB (fst (tl (ByteArray.extract s p (ByteArray.size s))))) + 4) ≤ ByteArray.size s := by
  rw [drop_ext] at hne ⊢
  have := sc_more (s := strB (fst ((tl s).drop p))) h.2.1 h.2.2.1 rfl (strB_ne hne) h.1
  rw [show p + (2 + ByteArray.size (strB (fst ((tl s).drop p))) + 4) = p + ((strB (fst ((tl s).drop p))).size + 6) by omega]
  exact ⟨⟨this.1, this.2.1, this.2.2.1, this.2.2.2.1⟩, this.2.2.2.1⟩
theorem So.done {s : ByteArray} {rs : List ByteArray} {p : Nat} (h : So (tl s) rs p) (he : strB (fst (tl (ByteArray.extract s p (ByteArray.size s)))) = ⟨#[]⟩) : Sc (tl s) rs p := by
  rw [drop_ext] at he
  exact ⟨h.1, h.2.1, h.2.2.1, congrArg tl he⟩
theorem fst_size (l : List UInt8) : (strB (fst l)).size ≤ l.length := by
  rw [strB_size]
  unfold fst
  split
  · simp
  · rw [List.length_drop, List.length_take]; omega

theorem flat_ge (rs : List ByteArray) : rs.length ≤ (flat rs).length := by
  induction rs with
  | nil => exact Nat.le_refl _
  | cons x t ih => rw [flat_cons, List.length_append, frB_len, List.length_cons]; omega
theorem len_size (s : ByteArray) (l : List ByteArray) (p n : Nat) (h : So (tl s) l p) (hn : n = l.length) : n ≤ ByteArray.size s := by
  have h1 := flat_ge l
  have h2 := h.2.1
  have h3 : p ≤ ByteArray.size s := h.2.2.2
  omega

set_option maxRecDepth 100000 in
set_option maxHeartbeats 2000000 in
theorem scan_fn (s : ByteArray) (hs : ByteArray.size s ≤ 1000000) : FnR Try.prog 14 #[.string s] (fun _ => True) (RetT 9 (fun rs p => Sc (tl s) rs p)) := by
  refine FnR.intro (c := codeOf Try.f14) [.tmp 2, .tmp 3] 29 Try.func14 (by kernel_rfl) (by kernel_rfl) (by kernel_rfl) fun w hpre => ?_
  have H0 := St.start w
  refine g_sreg [0, 1] (by kernel_rfl) (by kernel_rfl) ?_
  refine s_val (some 2) (.slice none 0 0) (fun w => by kernel_rfl) (by kernel_rfl) ?_
  refine s_val (some 3) (.int .i64 0) (fun w => by kernel_rfl) (by kernel_rfl) ?_
  refine s_nil ?_
  refine g_sreg [0] (by kernel_rfl) (by kernel_rfl) ?_
  refine s_val (some 4) (.slice none 0 0) (fun w => by kernel_rfl) (by kernel_rfl) ?_
  refine s_nil ?_
  refine g_sreg [0, 1, 2, 3] (by kernel_rfl) (by kernel_rfl) ?_
  refine s_call H0 (some 8) 21 #[] (arr 256 tabL) table_fn (fun w => by kernel_rfl) (by kernel_rfl) ?_
  intro w1 H1; clear H0
  refine s_alloc H1 (some 5) 40 (zeroV .u32 256) (by kernel_rfl) (by kernel_rfl) (by kernel_rfl) ?_
  intro b1 w2 H2; clear H1
  refine s_store H2 0 [(b1, Obj.cells (Value.cells (arr 256 tabL)) 40 (0, 0))] 40 (.tmp 5) (.tmp 8) b1 (0) (Value.cells (zeroV .u32 256)) (Value.cells (arr 256 tabL)) 40 (arr 256 tabL) (by kernel_rfl) (by kernel_rfl) (by kernel_rfl) (by kernel_rfl) (by kernel_rfl) (by kernel_rfl) (of_decide_eq_true (by kernel_rfl)) (by kernel_rfl) (by kernel_rfl) ?_
  intro w3 H3; clear H2
  refine s_val (some 6) (.int .i64 0) (fun w => by kernel_rfl) (by kernel_rfl) ?_
  refine s_nil ?_
  refine g_block 0 (by kernel_rfl) ?_
  refine g_loop (by kernel_rfl) (fun mz ρ ww => (ByteArray.size s + 1 = mz ∧ St w.heap.size w ww [(b1, Obj.cells (Value.cells (arr 256 tabL)) 40 (0, 0))] ∧ Is [(0, .string s), (4, .slice none 0 0), (5, .pointer (some ⟨b1, 0, none⟩)), (6, .int .i64 ((0 : Nat) : Int))] ρ) ∨ (∃ (b : Nat) (cap : Nat) (n : Nat) (cur : Array Value) (l : List ByteArray) (p : Nat), ByteArray.size s - p = mz ∧ (n = List.length l) ∧ (Rw 1 cur cap n (cellsS l)) ∧ (So (tl s) l p) ∧ St w.heap.size w ww [(b, Obj.cells cur 9 (0, 0)), (b1, Obj.cells (Value.cells (arr 256 tabL)) 40 (0, 0))] ∧ Is [(0, .string s), (4, .slice (some ⟨b, 0, none⟩) n cap), (5, .pointer (some ⟨b1, 0, none⟩)), (6, .int .i64 ((p : Nat) : Int))] ρ)) (ByteArray.size s + 1) (Or.inl ⟨rfl, H3, (Is.of ⟨(by kernel_rfl), (by kernel_rfl), (by kernel_rfl), (by kernel_rfl), trivial⟩)⟩) ?_
  clear H3
  rintro _ _ w4 (⟨rfl, H4, _, rfl⟩ | ⟨b, cap, n, cur, l, p, rfl, hn, hr, hso, H4, _, rfl⟩)
  · skip
    refine g_block 1 (by kernel_rfl) ?_
    refine D2.g_sdraw [0, 1, 2, 3, 4, 5] [((some 9), fun _ => arr 256 tabL), ((some 10), fun _ => .string s), ((some 11), fun _ => .int .i64 ((0 : Nat) : Int)), ((some 12), fun _ => .string (ByteArray.extract s 0 (ByteArray.size s))), ((some 13), fun _ => .string (strB (fst (tl (ByteArray.extract s 0 (ByteArray.size s)))))), ((some 7), fun _ => .string (strB (fst (tl (ByteArray.extract s 0 (ByteArray.size s))))))] (D2.Pre w.heap.size w (fun L g => [(true, (b1, Obj.cells (Value.cells (arr 256 tabL)) 40 (0, 0)))]) (fun L g => True)) (by kernel_rfl) (by kernel_rfl) (by kernel_rfl) (by kernel_rfl) ⟨D2.StE.of H4.drew _ (by kernel_rfl), trivial⟩ ⟨?_, ?_, ?_, ?_, ?_, ?_, trivial⟩ ?_
    · exact D2.gv_load 40 (.tmp 5) 0 (fun g => b1) (Value.cells (arr 256 tabL)) 40 (0, 0) (fun _ _ _ h => h) (fun g => by kernel_rfl) (fun g => by kernel_rfl) (fun L g hN => (by kernel_rfl)) (by kernel_rfl)
    · exact D2.gv_val (fun _ _ _ h => h) (fun g w => by kernel_rfl)
    · exact D2.gv_val (fun _ _ _ h => h) (fun g w => by kernel_rfl)
    · exact D2.gv_op (fun _ _ _ h => h) _ (fun g => by kernel_rfl) (fun g => (fun o w ho => scut3_run (t := 9) (kz := .i64) (by kernel_rfl) (x := (.tmp 10)) (z := (.tmp 11)) s 0 ho (by kernel_rfl) (by kernel_rfl) (by omega) w))
    · exact D2.gv_call 22 #[arr 256 tabL, .string (ByteArray.extract s 0 (ByteArray.size s))] (fun _ _ _ h => h) (first_fn (ByteArray.extract s 0 (ByteArray.size s)) (by first | omega | (rw [ext_size _ _ _ (by omega)]; omega))) (fun g w => by kernel_rfl)
    · exact D2.gv_val (fun _ _ _ h => h) (fun g w => by kernel_rfl)
    intro L0 G5 w5 hall HL; clear H4
    have H5 : St w.heap.size w w5 [(b1, Obj.cells (Value.cells (arr 256 tabL)) 40 (0, 0))] := D2.StE.st HL.1
    clear HL hall
    refine g_seq (by kernel_rfl) ?_
    refine g_sreg [0, 1] (by kernel_rfl) (by kernel_rfl) ?_
    refine s_val (some 14) (.string (strB (fst (tl (ByteArray.extract s 0 (ByteArray.size s)))))) (fun w => by kernel_rfl) (by kernel_rfl) ?_
    by_cases hx1 : (strB (fst (tl (ByteArray.extract s 0 (ByteArray.size s))))) = ⟨#[]⟩
    · skip
      refine s_valE (some 15) (.bool (ByteArray.toList (strB (fst (tl (ByteArray.extract s 0 (ByteArray.size s))))) == ByteArray.toList (⟨#[]⟩))) (.bool true) (fun w => by kernel_rfl) (bool_eq (str_same (strB (fst (tl (ByteArray.extract s 0 (ByteArray.size s))))) (⟨#[]⟩) hx1)) (by kernel_rfl) ?_
      refine s_nil ?_
      refine g_cond_t (by kernel_rfl) (by kernel_rfl) ?_
      refine g_sreg [0, 1, 2, 3] (by kernel_rfl) (by kernel_rfl) ?_
      refine s_val (some 16) (.slice none 0 0) (fun w => by kernel_rfl) (by kernel_rfl) ?_
      refine s_val (some 17) (.int .i64 ((0 : Nat) : Int)) (fun w => by kernel_rfl) (by kernel_rfl) ?_
      refine s_val (some 2) (.slice none 0 0) (fun w => by kernel_rfl) (by kernel_rfl) ?_
      refine s_val (some 3) (.int .i64 ((0 : Nat) : Int)) (fun w => by kernel_rfl) (by kernel_rfl) ?_
      refine s_nil ?_
      refine g_ret (by kernel_rfl) ?_
      show ∃ vs, Res _ _ _ _ vs ∧ _
      refine ⟨[.slice none 0 0, .int .i64 ((0 : Nat) : Int)], (.tmp (.slice none 0 0) (by kernel_rfl) (.tmp (.int .i64 ((0 : Nat) : Int)) (by kernel_rfl) .nil)), H5.below, ?_⟩
      exact ⟨[], 0, So.done (s := s) (So.start (tl s)) hx1, Or.inl ⟨rfl, rfl⟩⟩
    · skip
      refine s_valE (some 15) (.bool (ByteArray.toList (strB (fst (tl (ByteArray.extract s 0 (ByteArray.size s))))) == ByteArray.toList (⟨#[]⟩))) (.bool false) (fun w => by kernel_rfl) (bool_eq (str_other (strB (fst (tl (ByteArray.extract s 0 (ByteArray.size s))))) (⟨#[]⟩) hx1)) (by kernel_rfl) ?_
      refine s_nil ?_
      refine g_cond_f (by kernel_rfl) (by kernel_rfl) ?_
      refine g_skip (by kernel_rfl) ?_
      show WP _ _ _ _ _ _
      refine g_sreg [0, 1, 2, 3, 4, 5] (by kernel_rfl) (by kernel_rfl) ?_
      have hstep := So.step (s := s) (So.start (tl s)) hx1
      rw [Nat.zero_add] at hstep
      have hsz2 := hstep.2
      refine s_val (some 18) (.slice none 0 0) (fun w => by kernel_rfl) (by kernel_rfl) ?_
      refine s_val (some 19) (.string (strB (fst (tl (ByteArray.extract s 0 (ByteArray.size s)))))) (fun w => by kernel_rfl) (by kernel_rfl) ?_
      refine s_call H5 (some 20) 23 #[.string (strB (fst (tl (ByteArray.extract s 0 (ByteArray.size s)))))] (.string (strB (fst (tl (ByteArray.extract s 0 (ByteArray.size s)))))) (clone_fn (strB (fst (tl (ByteArray.extract s 0 (ByteArray.size s))))) (by omega)) (fun w => by kernel_rfl) (by kernel_rfl) ?_
      intro w6 H6; clear H5
      refine s_new H6 (some 21) (fun b => .slice (some ⟨b, 0, none⟩) 1 1) #[.string (strB (fst (tl (ByteArray.extract s 0 (ByteArray.size s)))))] 9 (fun w => by kernel_rfl) (by kernel_rfl) ?_
      intro b2 w7 H7; clear H6
      refine s_appendNil H7 (some 22) 30 9 1 16 (.tmp 18) (.tmp 21) 0 b2 1 1 #[.string (strB (fst (tl (ByteArray.extract s 0 (ByteArray.size s)))))] 9 (0, 0) ([.string (strB (fst (tl (ByteArray.extract s 0 (ByteArray.size s)))))]) (by kernel_rfl) (by kernel_rfl) (by kernel_rfl) (by kernel_rfl) (by kernel_rfl) (by kernel_rfl) (by rfl) (by rfl) (by intro u hu; simp at hu; first | exact hu.elim | (rcases hu with rfl | rfl | rfl | rfl <;> rfl) | (rcases hu with rfl | rfl <;> rfl) | (subst hu; rfl)) (by omega) (by omega) (by unfold maxLen; omega) ?_
      intro b_1 cap_2 cur_3 w8 H8 hr_4; clear H7
      have hr_4t : Rw 1 cur_3 cap_2 1 (cellsS ([strB (fst (tl (ByteArray.extract s 0 (ByteArray.size s))))])) := hr_4
      refine s_val (some 4) (.slice (some ⟨b_1, 0, none⟩) 1 cap_2) (fun w => by kernel_rfl) (by kernel_rfl) ?_
      refine s_nil ?_
      refine g_reg0 [0, 1, 2, 3, 4, 5, 6] (by kernel_rfl) ?_
      refine s_val (some 23) (.int .i64 ((0 : Nat) : Int)) (fun w => by kernel_rfl) (by kernel_rfl) ?_
      refine s_val (some 24) (.string (strB (fst (tl (ByteArray.extract s 0 (ByteArray.size s)))))) (fun w => by kernel_rfl) (by kernel_rfl) ?_
      refine s_val (some 25) (.int .i64 ((ByteArray.size (strB (fst (tl (ByteArray.extract s 0 (ByteArray.size s))))) : Nat) : Int)) (fun w => by kernel_rfl) (by kernel_rfl) ?_
      refine s_valE (some 26) (.int .i64 (IntKind.i64.wrap (2 + ((ByteArray.size (strB (fst (tl (ByteArray.extract s 0 (ByteArray.size s))))) : Nat) : Int)))) (.int .i64 ((2 + (ByteArray.size (strB (fst (tl (ByteArray.extract s 0 (ByteArray.size s)))))) : Nat) : Int)) (fun w => by kernel_rfl) (int_eq (wrapAdd_i64 (a := 2) (b := ByteArray.size (strB (fst (tl (ByteArray.extract s 0 (ByteArray.size s)))))) (by omega))) (by kernel_rfl) ?_
      refine s_valE (some 27) (.int .i64 (IntKind.i64.wrap (((2 + (ByteArray.size (strB (fst (tl (ByteArray.extract s 0 (ByteArray.size s)))))) : Nat) : Int) + 4))) (.int .i64 (((2 + (ByteArray.size (strB (fst (tl (ByteArray.extract s 0 (ByteArray.size s))))))) + 4 : Nat) : Int)) (fun w => by kernel_rfl) (int_eq (wrapAdd_i64 (a := 2 + (ByteArray.size (strB (fst (tl (ByteArray.extract s 0 (ByteArray.size s))))))) (b := 4) (by omega))) (by kernel_rfl) ?_
      refine s_valE (some 28) (.int .i64 (IntKind.i64.wrap (((0 : Nat) : Int) + (((2 + (ByteArray.size (strB (fst (tl (ByteArray.extract s 0 (ByteArray.size s))))))) + 4 : Nat) : Int)))) (.int .i64 (((2 + (ByteArray.size (strB (fst (tl (ByteArray.extract s 0 (ByteArray.size s))))))) + 4 : Nat) : Int)) (fun w => by kernel_rfl) (int_eq (show IntKind.i64.wrap ((0 : Int) + (((2 + (ByteArray.size (strB (fst (tl (ByteArray.extract s 0 (ByteArray.size s))))))) + 4 : Nat) : Int)) = _ by rw [Int.zero_add]; exact wrapN_i64 (by omega))) (by kernel_rfl) ?_
      refine s_val (some 6) (.int .i64 (((2 + (ByteArray.size (strB (fst (tl (ByteArray.extract s 0 (ByteArray.size s))))))) + 4 : Nat) : Int)) (fun w => by kernel_rfl) (by kernel_rfl) ?_
      refine s_nil ?_
      have HD2 : St w.heap.size w w8 [(b_1, Obj.cells cur_3 9 (0, 0)), (b1, Obj.cells (Value.cells (arr 256 tabL)) 40 (0, 0))] := H8.sub (List.Sublist.cons_cons _ (List.Sublist.cons _ (List.Sublist.cons_cons _ List.Sublist.slnil)))
      show ∃ m, _ ∧ _
      exact ⟨_, (by omega), Or.inr (⟨b_1, cap_2, 1, cur_3, [strB (fst (tl (ByteArray.extract s 0 (ByteArray.size s))))], ((2 + (ByteArray.size (strB (fst (tl (ByteArray.extract s 0 (ByteArray.size s))))))) + 4), rfl, rfl, hr_4t, hstep.1, HD2, (Is.of ⟨(by kernel_rfl), (by kernel_rfl), (by kernel_rfl), (by kernel_rfl), trivial⟩)⟩)⟩
  · skip
    have hpl : p ≤ ByteArray.size s := hso.2.2.2
    have hlp := len_size s l p n hso hn
    refine g_block 1 (by kernel_rfl) ?_
    refine D2.g_sdraw [0, 1, 2, 3, 4, 5] [((some 9), fun _ => arr 256 tabL), ((some 10), fun _ => .string s), ((some 11), fun _ => .int .i64 ((p : Nat) : Int)), ((some 12), fun _ => .string (ByteArray.extract s p (ByteArray.size s))), ((some 13), fun _ => .string (strB (fst (tl (ByteArray.extract s p (ByteArray.size s)))))), ((some 7), fun _ => .string (strB (fst (tl (ByteArray.extract s p (ByteArray.size s))))))] (D2.Pre w.heap.size w (fun L g => [(true, (b, Obj.cells cur 9 (0, 0))), (true, (b1, Obj.cells (Value.cells (arr 256 tabL)) 40 (0, 0)))]) (fun L g => True)) (by kernel_rfl) (by kernel_rfl) (by kernel_rfl) (by kernel_rfl) ⟨D2.StE.of H4.drew _ (by kernel_rfl), trivial⟩ ⟨?_, ?_, ?_, ?_, ?_, ?_, trivial⟩ ?_
    · exact D2.gv_load 40 (.tmp 5) 1 (fun g => b1) (Value.cells (arr 256 tabL)) 40 (0, 0) (fun _ _ _ h => h) (fun g => by kernel_rfl) (fun g => by kernel_rfl) (fun L g hN => (by kernel_rfl)) (by kernel_rfl)
    · exact D2.gv_val (fun _ _ _ h => h) (fun g w => by kernel_rfl)
    · exact D2.gv_val (fun _ _ _ h => h) (fun g w => by kernel_rfl)
    · exact D2.gv_op (fun _ _ _ h => h) _ (fun g => by kernel_rfl) (fun g => (fun o w ho => scut3_run (t := 9) (kz := .i64) (by kernel_rfl) (x := (.tmp 10)) (z := (.tmp 11)) s p ho (by kernel_rfl) (by kernel_rfl) (by omega) w))
    · exact D2.gv_call 22 #[arr 256 tabL, .string (ByteArray.extract s p (ByteArray.size s))] (fun _ _ _ h => h) (first_fn (ByteArray.extract s p (ByteArray.size s)) (by first | omega | (rw [ext_size _ _ _ (by omega)]; omega))) (fun g w => by kernel_rfl)
    · exact D2.gv_val (fun _ _ _ h => h) (fun g w => by kernel_rfl)
    intro L0 G9 w9 hall HL; clear H4
    have H9 : St w.heap.size w w9 [(b, Obj.cells cur 9 (0, 0)), (b1, Obj.cells (Value.cells (arr 256 tabL)) 40 (0, 0))] := D2.StE.st HL.1
    clear HL hall
    refine g_seq (by kernel_rfl) ?_
    refine g_sreg [0, 1] (by kernel_rfl) (by kernel_rfl) ?_
    refine s_val (some 14) (.string (strB (fst (tl (ByteArray.extract s p (ByteArray.size s)))))) (fun w => by kernel_rfl) (by kernel_rfl) ?_
    by_cases hx3 : (strB (fst (tl (ByteArray.extract s p (ByteArray.size s))))) = ⟨#[]⟩
    · skip
      refine s_valE (some 15) (.bool (ByteArray.toList (strB (fst (tl (ByteArray.extract s p (ByteArray.size s))))) == ByteArray.toList (⟨#[]⟩))) (.bool true) (fun w => by kernel_rfl) (bool_eq (str_same (strB (fst (tl (ByteArray.extract s p (ByteArray.size s))))) (⟨#[]⟩) hx3)) (by kernel_rfl) ?_
      refine s_nil ?_
      refine g_cond_t (by kernel_rfl) (by kernel_rfl) ?_
      refine g_sreg [0, 1, 2, 3] (by kernel_rfl) (by kernel_rfl) ?_
      refine s_val (some 16) (.slice (some ⟨b, 0, none⟩) n cap) (fun w => by kernel_rfl) (by kernel_rfl) ?_
      refine s_val (some 17) (.int .i64 ((p : Nat) : Int)) (fun w => by kernel_rfl) (by kernel_rfl) ?_
      refine s_val (some 2) (.slice (some ⟨b, 0, none⟩) n cap) (fun w => by kernel_rfl) (by kernel_rfl) ?_
      refine s_val (some 3) (.int .i64 ((p : Nat) : Int)) (fun w => by kernel_rfl) (by kernel_rfl) ?_
      refine s_nil ?_
      refine g_ret (by kernel_rfl) ?_
      show ∃ vs, Res _ _ _ _ vs ∧ _
      refine ⟨[.slice (some ⟨b, 0, none⟩) n cap, .int .i64 ((p : Nat) : Int)], (.tmp (.slice (some ⟨b, 0, none⟩) n cap) (by kernel_rfl) (.tmp (.int .i64 ((p : Nat) : Int)) (by kernel_rfl) .nil)), H9.below, ?_⟩
      exact ⟨l, p, So.done (s := s) hso hx3, Or.inr ⟨b, cap, n, cur, rfl, H9.ge 0 (o := .cells cur 9 (0, 0)) (by kernel_rfl), H9.get 0 (by kernel_rfl), hn, hr⟩⟩
    · skip
      refine s_valE (some 15) (.bool (ByteArray.toList (strB (fst (tl (ByteArray.extract s p (ByteArray.size s))))) == ByteArray.toList (⟨#[]⟩))) (.bool false) (fun w => by kernel_rfl) (bool_eq (str_other (strB (fst (tl (ByteArray.extract s p (ByteArray.size s))))) (⟨#[]⟩) hx3)) (by kernel_rfl) ?_
      refine s_nil ?_
      refine g_cond_f (by kernel_rfl) (by kernel_rfl) ?_
      refine g_skip (by kernel_rfl) ?_
      show WP _ _ _ _ _ _
      refine g_sreg [0, 1, 2, 3, 4, 5] (by kernel_rfl) (by kernel_rfl) ?_
      have hstep := So.step (s := s) hso hx3
      have hsz2 := hstep.2
      refine s_val (some 18) (.slice (some ⟨b, 0, none⟩) n cap) (fun w => by kernel_rfl) (by kernel_rfl) ?_
      refine s_val (some 19) (.string (strB (fst (tl (ByteArray.extract s p (ByteArray.size s)))))) (fun w => by kernel_rfl) (by kernel_rfl) ?_
      refine s_call H9 (some 20) 23 #[.string (strB (fst (tl (ByteArray.extract s p (ByteArray.size s)))))] (.string (strB (fst (tl (ByteArray.extract s p (ByteArray.size s)))))) (clone_fn (strB (fst (tl (ByteArray.extract s p (ByteArray.size s))))) (by omega)) (fun w => by kernel_rfl) (by kernel_rfl) ?_
      intro w10 H10; clear H9
      refine s_new H10 (some 21) (fun b => .slice (some ⟨b, 0, none⟩) 1 1) #[.string (strB (fst (tl (ByteArray.extract s p (ByteArray.size s)))))] 9 (fun w => by kernel_rfl) (by kernel_rfl) ?_
      intro b3 w11 H11; clear H10
      refine s_append H11 (some 22) 30 9 1 16 (.tmp 18) (.tmp 21) 1 0 b b3 n 1 cap 1 cur #[.string (strB (fst (tl (ByteArray.extract s p (ByteArray.size s)))))] 9 (0, 0) (cellsS l) ([.string (strB (fst (tl (ByteArray.extract s p (ByteArray.size s)))))]) (fun b_5 cur_7 => [(b3, Obj.cells #[.string (strB (fst (tl (ByteArray.extract s p (ByteArray.size s)))))] 9 (0, 0)), (b_5, Obj.cells cur_7 9 (0, 0)), (b1, Obj.cells (Value.cells (arr 256 tabL)) 40 (0, 0))]) (by kernel_rfl) (by kernel_rfl) (by kernel_rfl) (by kernel_rfl) (by kernel_rfl) hr (by kernel_rfl) (by kernel_rfl) (by rfl) (by rfl) (by intro u hu; simp at hu; first | exact hu.elim | (rcases hu with rfl | rfl | rfl | rfl <;> rfl) | (rcases hu with rfl | rfl <;> rfl) | (subst hu; rfl)) (by omega) (by unfold maxLen; omega) (fun _ _ => by kernel_rfl) ?_
      intro b_5 cap_6 cur_7 w12 H12 hr_8; clear H11
      have hr_8t : Rw 1 cur_7 cap_6 (n + 1) (cellsS (l ++ [strB (fst (tl (ByteArray.extract s p (ByteArray.size s))))])) := by rw [cellsS_append]; exact hr_8
      have hr_8n : n + 1 = List.length (l ++ [strB (fst (tl (ByteArray.extract s p (ByteArray.size s))))]) := by have h0 : n = List.length l := hn; rw [List.length_append, ← h0]; rfl
      refine s_val (some 4) (.slice (some ⟨b_5, 0, none⟩) (n + 1) cap_6) (fun w => by kernel_rfl) (by kernel_rfl) ?_
      refine s_nil ?_
      refine g_reg0 [0, 1, 2, 3, 4, 5, 6] (by kernel_rfl) ?_
      refine s_val (some 23) (.int .i64 ((p : Nat) : Int)) (fun w => by kernel_rfl) (by kernel_rfl) ?_
      refine s_val (some 24) (.string (strB (fst (tl (ByteArray.extract s p (ByteArray.size s)))))) (fun w => by kernel_rfl) (by kernel_rfl) ?_
      refine s_val (some 25) (.int .i64 ((ByteArray.size (strB (fst (tl (ByteArray.extract s p (ByteArray.size s))))) : Nat) : Int)) (fun w => by kernel_rfl) (by kernel_rfl) ?_
      refine s_valE (some 26) (.int .i64 (IntKind.i64.wrap (2 + ((ByteArray.size (strB (fst (tl (ByteArray.extract s p (ByteArray.size s))))) : Nat) : Int)))) (.int .i64 ((2 + (ByteArray.size (strB (fst (tl (ByteArray.extract s p (ByteArray.size s)))))) : Nat) : Int)) (fun w => by kernel_rfl) (int_eq (wrapAdd_i64 (a := 2) (b := ByteArray.size (strB (fst (tl (ByteArray.extract s p (ByteArray.size s)))))) (by omega))) (by kernel_rfl) ?_
      refine s_valE (some 27) (.int .i64 (IntKind.i64.wrap (((2 + (ByteArray.size (strB (fst (tl (ByteArray.extract s p (ByteArray.size s)))))) : Nat) : Int) + 4))) (.int .i64 (((2 + (ByteArray.size (strB (fst (tl (ByteArray.extract s p (ByteArray.size s))))))) + 4 : Nat) : Int)) (fun w => by kernel_rfl) (int_eq (wrapAdd_i64 (a := 2 + (ByteArray.size (strB (fst (tl (ByteArray.extract s p (ByteArray.size s))))))) (b := 4) (by omega))) (by kernel_rfl) ?_
      refine s_valE (some 28) (.int .i64 (IntKind.i64.wrap (((p : Nat) : Int) + (((2 + (ByteArray.size (strB (fst (tl (ByteArray.extract s p (ByteArray.size s))))))) + 4 : Nat) : Int)))) (.int .i64 ((p + ((2 + (ByteArray.size (strB (fst (tl (ByteArray.extract s p (ByteArray.size s))))))) + 4) : Nat) : Int)) (fun w => by kernel_rfl) (int_eq (wrapAdd_i64 (a := p) (b := (2 + (ByteArray.size (strB (fst (tl (ByteArray.extract s p (ByteArray.size s))))))) + 4) (by omega))) (by kernel_rfl) ?_
      refine s_val (some 6) (.int .i64 ((p + ((2 + (ByteArray.size (strB (fst (tl (ByteArray.extract s p (ByteArray.size s))))))) + 4) : Nat) : Int)) (fun w => by kernel_rfl) (by kernel_rfl) ?_
      refine s_nil ?_
      have HD4 : St w.heap.size w w12 [(b_5, Obj.cells cur_7 9 (0, 0)), (b1, Obj.cells (Value.cells (arr 256 tabL)) 40 (0, 0))] := H12.sub (List.Sublist.cons _ (List.Sublist.cons_cons _ (List.Sublist.cons_cons _ List.Sublist.slnil)))
      show ∃ m, _ ∧ _
      exact ⟨_, (by omega), Or.inr (⟨b_5, cap_6, n + 1, cur_7, (l ++ [strB (fst (tl (ByteArray.extract s p (ByteArray.size s))))]), (p + ((2 + (ByteArray.size (strB (fst (tl (ByteArray.extract s p (ByteArray.size s))))))) + 4)), rfl, hr_8n, hr_8t, hstep.1, HD4, (Is.of ⟨(by kernel_rfl), (by kernel_rfl), (by kernel_rfl), (by kernel_rfl), trivial⟩)⟩)⟩
end Go.Proofs.Ythipcmpmfjeakaa
