/-
  The reference: a scan.
-/
import Derived.Test.YthipcmpmfjeakaaProg
import Derived.Test.YthipcmpmfjeakaaCrcF
import Derived.Test.YthipcmpmfjeakaaTxt
import Derived.Test.YthipcmpmfjeakaaCrcOf
namespace Go.Proofs.Ythipcmpmfjeakaa
open Go Go.RowKit Go.Proofs.Crc
set_option linter.unusedVariables false
theorem size2_drop (s : ByteArray) (p : Nat) : size2 ((tl s).drop p) = by_ s p + 256 * by_ s (p + 1) := by
  unfold size2 by_
  have e : ∀ i, ((tl s).drop p).getD i 0 = (tl s).getD (p + i) 0 := fun i => by
    rw [List.getD_eq_getElem?_getD, List.getElem?_drop, List.getD_eq_getElem?_getD]
  rw [e, e]; rfl
theorem rec_is (s : ByteArray) (p n : Nat) : tl (ByteArray.extract s (p + 2) (p + 2 + n)) = (((tl s).drop p).take (n + 2)).drop 2 := by
  rw [tl_extract, ← List.drop_drop, List.take_drop, show p + (n + 2) = p + 2 + n by omega]
theorem all_is (s : ByteArray) (p n : Nat) : tl (ByteArray.extract s p (p + n + 6)) = ((tl s).drop p).take (n + 6) := by
  rw [tl_extract, List.take_drop, show p + (n + 6) = p + n + 6 by omega]
/-- Where the reference says no. -/
theorem no_short {s : ByteArray} {l : List ByteArray} {p : Nat} (h : So (tl s) l p) (hc : ByteArray.size s - p < 7) : Sc (tl s) l p :=
  ⟨h.1, h.2.1, h.2.2.1, fst_short (by rw [List.length_drop, tl_len]; exact hc)⟩
theorem no_size {s : ByteArray} {l : List ByteArray} {p : Nat} (h : So (tl s) l p) (hc : by_ s p + 256 * by_ s (p + 1) < 1 ∨ 4000 < by_ s p + 256 * by_ s (p + 1) ∨ ByteArray.size s - p < by_ s p + 256 * by_ s (p + 1) + 6) : Sc (tl s) l p := by
  refine ⟨h.1, h.2.1, h.2.2.1, ?_⟩
  unfold fst
  rw [size2_drop, List.length_drop, tl_len, if_pos (by omega)]
theorem no_same {s : ByteArray} {l : List ByteArray} {p : Nat} (h : So (tl s) l p)
    (hc : ¬ strB (frB (tl (ByteArray.extract s (p + 2) (p + 2 + (by_ s p + 256 * by_ s (p + 1)))))) = ByteArray.extract s p (p + (by_ s p + 256 * by_ s (p + 1)) + 6)) : Sc (tl s) l p := by
  refine ⟨h.1, h.2.1, h.2.2.1, ?_⟩
  by_cases e : fst ((tl s).drop p) = []
  · exact e
  · exfalso
    obtain ⟨h1, h2, h3⟩ := fst_back rfl e
    apply hc
    apply tl_inj
    rw [tl_strB, rec_is, all_is]
    rw [size2_drop] at h3
    generalize by_ s p + 256 * by_ s (p + 1) = n at *
    generalize hr : fst ((tl s).drop p) = r at *
    have e1 : (((tl s).drop p).take (n + 2)).drop 2 = r := by
      rw [h2, ← h3]
      unfold frB ct
      rw [List.append_assoc, List.append_assoc, List.take_append, le_len, List.take_of_length_le (by rw [le_len]; omega), show r.length + 2 - 2 = r.length by omega, List.take_left, List.drop_append_of_le_length (by rw [le_len]; omega), List.drop_of_length_le (by rw [le_len]; omega), List.nil_append]
    rw [e1]
    conv => rhs; rw [h2]
    rw [← h3, ← frB_len, List.take_left]
theorem so_more {s : ByteArray} {l : List ByteArray} {p : Nat} (h : So (tl s) l p) (hn : ¬ by_ s p + 256 * by_ s (p + 1) < 1 ∧ ¬ 4000 < by_ s p + 256 * by_ s (p + 1)) (hp : ¬ ByteArray.size s - p < by_ s p + 256 * by_ s (p + 1) + 6)
    (hc : strB (frB (tl (ByteArray.extract s (p + 2) (p + 2 + (by_ s p + 256 * by_ s (p + 1)))))) = ByteArray.extract s p (p + (by_ s p + 256 * by_ s (p + 1)) + 6)) :
    So (tl s) (l ++ [ByteArray.extract s (p + 2) (p + 2 + (by_ s p + 256 * by_ s (p + 1)))]) (p + (by_ s p + 256 * by_ s (p + 1)) + 6) ∧ p + (by_ s p + 256 * by_ s (p + 1)) + 6 ≤ ByteArray.size s := by
  generalize by_ s p + 256 * by_ s (p + 1) = n at *
  have hps : p ≤ ByteArray.size s := h.2.2.2
  have hz := ext_size s (p + 2) (p + 2 + n) (by omega)
  have hr : IsR (tl (ByteArray.extract s (p + 2) (p + 2 + n))) := by unfold IsR; rw [tl_len]; omega
  have hd : (tl s).drop p = frB (tl (ByteArray.extract s (p + 2) (p + 2 + n))) ++ (tl s).drop (p + (n + 6)) := by
    have := congrArg tl hc
    rw [tl_strB, all_is] at this
    rw [this, ← List.drop_drop, List.take_append_drop]
  have hf : fst ((tl s).drop p) = tl (ByteArray.extract s (p + 2) (p + 2 + n)) := by rw [hd]; exact fst_some _ _ hr
  have hne : tl (ByteArray.extract s (p + 2) (p + 2 + n)) ≠ [] := fun e => by have := hr.1; rw [e] at this; simp at this
  have := sc_more (s := ByteArray.extract s (p + 2) (p + 2 + n)) h.2.1 h.2.2.1 hf hne h.1
  rw [hz, show p + (p + 2 + n - (p + 2) + 6) = p + n + 6 by omega] at this
  exact ⟨⟨this.1, this.2.1, this.2.2.1, this.2.2.2.1⟩, by have := this.2.2.2.1; rw [tl_len] at this; exact this⟩

set_option maxRecDepth 100000 in
set_option maxHeartbeats 2000000 in
theorem scanR_fn (s : ByteArray) (hs : ByteArray.size s ≤ 1000000) : FnR Try.prog 15 #[.string s] (fun _ => True) (RetT 9 (fun rs p => Sc (tl s) rs p)) := by
  refine FnR.intro (c := codeOf Try.f15) [.tmp 2, .tmp 3] 72 Try.func15 (by kernel_rfl) (by kernel_rfl) (by kernel_rfl) fun w hpre => ?_
  have H0 := St.start w
  refine g_sreg [0, 1] (by kernel_rfl) (by kernel_rfl) ?_
  refine s_val (some 2) (.slice none 0 0) (fun w => by kernel_rfl) (by kernel_rfl) ?_
  refine s_val (some 3) (.int .i64 0) (fun w => by kernel_rfl) (by kernel_rfl) ?_
  refine s_nil ?_
  refine g_sreg [0, 1] (by kernel_rfl) (by kernel_rfl) ?_
  refine s_new H0 (some 8) (fun b => .slice (some ⟨b, 0, none⟩) 0 0) #[] 9 (fun w => by kernel_rfl) (by kernel_rfl) ?_
  intro b1 w1 H1; clear H0
  refine s_val (some 4) (.slice (some ⟨b1, 0, none⟩) 0 0) (fun w => by kernel_rfl) (by kernel_rfl) ?_
  refine s_nil ?_
  refine g_sreg [0] (by kernel_rfl) (by kernel_rfl) ?_
  refine s_val (some 5) (.int .i64 0) (fun w => by kernel_rfl) (by kernel_rfl) ?_
  refine s_nil ?_
  refine g_block 0 (by kernel_rfl) ?_
  refine g_loop (by kernel_rfl) (fun mz ρ ww => ∃ (b : Nat) (cap : Nat) (n : Nat) (cur : Array Value) (l : List ByteArray) (p : Nat), ByteArray.size s - p = mz ∧ (n = List.length l) ∧ (Rw 1 cur cap n (cellsS l)) ∧ (So (tl s) l p) ∧ St w.heap.size w ww [(b, Obj.cells cur 9 (0, 0))] ∧ Is [(0, .string s), (4, .slice (some ⟨b, 0, none⟩) n cap), (5, .int .i64 ((p : Nat) : Int))] ρ) (ByteArray.size s - 0) ⟨b1, 0, 0, #[], [], 0, rfl, rfl, (Rw.lit #[] 0 rfl (by unfold maxLen; omega)), (So.start (tl s)), H1, (Is.of ⟨(by kernel_rfl), (by kernel_rfl), (by kernel_rfl), trivial⟩)⟩ ?_
  clear H1
  rintro _ _ w2 ⟨b, cap, n, cur, l, p, rfl, hn, hr, hso, H2, _, rfl⟩
  have hpl : p ≤ ByteArray.size s := hso.2.2.2
  have hlp := len_size s l p n hso hn
  have hb1 := by_lt s p
  have hb2 := by_lt s (p + 1)
  refine g_block 1 (by kernel_rfl) ?_
  refine g_seq (by kernel_rfl) ?_
  refine g_sreg [0, 1, 2, 3, 4] (by kernel_rfl) (by kernel_rfl) ?_
  refine s_val (some 9) (.string s) (fun w => by kernel_rfl) (by kernel_rfl) ?_
  refine s_val (some 10) (.int .i64 ((ByteArray.size s : Nat) : Int)) (fun w => by kernel_rfl) (by kernel_rfl) ?_
  refine s_val (some 11) (.int .i64 ((p : Nat) : Int)) (fun w => by kernel_rfl) (by kernel_rfl) ?_
  refine s_valE (some 12) (.int .i64 (IntKind.i64.wrap (((ByteArray.size s : Nat) : Int) - ((p : Nat) : Int)))) (.int .i64 (((ByteArray.size s) - p : Nat) : Int)) (fun w => by kernel_rfl) (int_eq (wrapSub_i64 (a := ByteArray.size s) (b := p) (by omega))) (by kernel_rfl) ?_
  by_cases hc1 : ((ByteArray.size s) - p : Nat) < 7
  · skip
    refine s_valE (some 13) (.bool (decide ((((ByteArray.size s) - p : Nat) : Int) < 7))) (.bool true) (fun w => by kernel_rfl) (bool_eq (decide_eq_true (by omega))) (by kernel_rfl) ?_
    refine s_nil ?_
    refine g_cond_t (by kernel_rfl) (by kernel_rfl) ?_
    refine g_sreg [0, 1, 2, 3] (by kernel_rfl) (by kernel_rfl) ?_
    refine s_val (some 14) (.slice (some ⟨b, 0, none⟩) n cap) (fun w => by kernel_rfl) (by kernel_rfl) ?_
    refine s_val (some 15) (.int .i64 ((p : Nat) : Int)) (fun w => by kernel_rfl) (by kernel_rfl) ?_
    refine s_val (some 2) (.slice (some ⟨b, 0, none⟩) n cap) (fun w => by kernel_rfl) (by kernel_rfl) ?_
    refine s_val (some 3) (.int .i64 ((p : Nat) : Int)) (fun w => by kernel_rfl) (by kernel_rfl) ?_
    refine s_nil ?_
    refine g_ret (by kernel_rfl) ?_
    show ∃ vs, Res _ _ _ _ vs ∧ _
    refine ⟨[.slice (some ⟨b, 0, none⟩) n cap, .int .i64 ((p : Nat) : Int)], (.tmp (.slice (some ⟨b, 0, none⟩) n cap) (by kernel_rfl) (.tmp (.int .i64 ((p : Nat) : Int)) (by kernel_rfl) .nil)), H2.below, ?_⟩
    exact ⟨l, p, (no_short hso (by omega)), Or.inr ⟨b, cap, n, cur, rfl, H2.ge 0 (o := .cells cur 9 (0, 0)) (by kernel_rfl), H2.get 0 (by kernel_rfl), hn, hr⟩⟩
  · skip
    refine s_valE (some 13) (.bool (decide ((((ByteArray.size s) - p : Nat) : Int) < 7))) (.bool false) (fun w => by kernel_rfl) (bool_eq (decide_eq_false (by omega))) (by kernel_rfl) ?_
    refine s_nil ?_
    refine g_cond_f (by kernel_rfl) (by kernel_rfl) ?_
    refine g_skip (by kernel_rfl) ?_
    show WP _ _ _ _ _ _
    refine D2.g_sdraw [0, 1, 2, 3, 4, 5, 6, 7, 8, 9, 10, 11] [((some 16), fun _ => .string s), ((some 17), fun _ => .int .i64 ((p : Nat) : Int)), ((some 18), fun _ => .int .u8 ((by_ s p : Nat) : Int)), ((some 19), fun _ => .int .i64 ((by_ s p : Nat) : Int)), ((some 20), fun _ => .string s), ((some 21), fun _ => .int .i64 ((p : Nat) : Int)), ((some 22), fun _ => .int .i64 ((p + 1 : Nat) : Int)), ((some 23), fun _ => .int .u8 ((by_ s (p + 1) : Nat) : Int)), ((some 24), fun _ => .int .i64 ((by_ s (p + 1) : Nat) : Int)), ((some 25), fun _ => .int .i64 ((256 * (by_ s (p + 1)) : Nat) : Int)), ((some 26), fun _ => .int .i64 (((by_ s p) + (256 * (by_ s (p + 1))) : Nat) : Int)), ((some 6), fun _ => .int .i64 (((by_ s p) + (256 * (by_ s (p + 1))) : Nat) : Int))] (D2.Pre w.heap.size w (fun L g => [(true, (b, Obj.cells cur 9 (0, 0)))]) (fun L g => True)) (by kernel_rfl) (by kernel_rfl) (by kernel_rfl) (by kernel_rfl) ⟨D2.StE.of H2.drew _ (by kernel_rfl), trivial⟩ ⟨?_, ?_, ?_, ?_, ?_, ?_, ?_, ?_, ?_, ?_, ?_, ?_, trivial⟩ ?_
    · exact D2.gv_val (fun _ _ _ h => h) (fun g w => by kernel_rfl)
    · exact D2.gv_val (fun _ _ _ h => h) (fun g w => by kernel_rfl)
    · exact D2.gv_op (fun _ _ _ h => h) _ (fun g => by kernel_rfl) (fun g => (fun o w ho => sindex_run (t := 9) (kd := .i64) (by kernel_rfl) (x := (.tmp 16)) (y := (.tmp 17)) s p ho (by kernel_rfl) (by kernel_rfl) (by omega) w))
    · exact D2.gv_valE (fun _ _ _ h => h) (V' := .int .i64 (IntKind.i64.wrap (((by_ s p : Nat) : Int)))) (fun g w => by kernel_rfl) (int_eq (wrapN_i64 (a := by_ s p) (by omega)))
    · exact D2.gv_val (fun _ _ _ h => h) (fun g w => by kernel_rfl)
    · exact D2.gv_val (fun _ _ _ h => h) (fun g w => by kernel_rfl)
    · exact D2.gv_valE (fun _ _ _ h => h) (V' := .int .i64 (IntKind.i64.wrap (((p : Nat) : Int) + 1))) (fun g w => by kernel_rfl) (int_eq (wrapAdd_i64 (a := p) (b := 1) (by omega)))
    · exact D2.gv_op (fun _ _ _ h => h) _ (fun g => by kernel_rfl) (fun g => (fun o w ho => sindex_run (t := 9) (kd := .i64) (by kernel_rfl) (x := (.tmp 20)) (y := (.tmp 22)) s (p + 1) ho (by kernel_rfl) (by kernel_rfl) (by omega) w))
    · exact D2.gv_valE (fun _ _ _ h => h) (V' := .int .i64 (IntKind.i64.wrap (((by_ s (p + 1) : Nat) : Int)))) (fun g w => by kernel_rfl) (int_eq (wrapN_i64 (a := by_ s (p + 1)) (by omega)))
    · exact D2.gv_valE (fun _ _ _ h => h) (V' := .int .i64 (IntKind.i64.wrap (256 * ((by_ s (p + 1) : Nat) : Int)))) (fun g w => by kernel_rfl) (int_eq (wrapMul_i64 (a := 256) (b := by_ s (p + 1)) (by omega)))
    · exact D2.gv_valE (fun _ _ _ h => h) (V' := .int .i64 (IntKind.i64.wrap (((by_ s p : Nat) : Int) + ((256 * (by_ s (p + 1)) : Nat) : Int)))) (fun g w => by kernel_rfl) (int_eq (wrapAdd_i64 (a := by_ s p) (b := 256 * (by_ s (p + 1))) (by omega)))
    · exact D2.gv_val (fun _ _ _ h => h) (fun g w => by kernel_rfl)
    intro L0 G3 w3 hall HL; clear H2
    have H3 : St w.heap.size w w3 [(b, Obj.cells cur 9 (0, 0))] := D2.StE.st HL.1
    clear HL hall
    refine g_seq (by kernel_rfl) ?_
    refine g_sreg [0, 1, 2, 3, 4, 5, 6, 7, 8, 9, 10, 11, 12, 13, 14] (by kernel_rfl) (by kernel_rfl) ?_
    refine s_val (some 27) (.int .i64 (((by_ s p) + (256 * (by_ s (p + 1))) : Nat) : Int)) (fun w => by kernel_rfl) (by kernel_rfl) ?_
    by_cases hc2 : ((by_ s p) + (256 * (by_ s (p + 1))) : Nat) < 1
    · skip
      refine s_valE (some 28) (.bool (decide ((((by_ s p) + (256 * (by_ s (p + 1))) : Nat) : Int) < 1))) (.bool true) (fun w => by kernel_rfl) (bool_eq (decide_eq_true (by omega))) (by kernel_rfl) ?_
      refine s_val (some 29) (.bool true) (fun w => by kernel_rfl) (by kernel_rfl) ?_
      refine s_not (some 30) (by kernel_rfl) (by kernel_rfl) ?_
      refine s_not (some 31) (by kernel_rfl) (by kernel_rfl) ?_
      refine s_val (some 32) (.bool true) (fun w => by kernel_rfl) (by kernel_rfl) ?_
      refine s_val (some 33) (.bool true) (fun w => by kernel_rfl) (by kernel_rfl) ?_
      refine s_not (some 34) (by kernel_rfl) (by kernel_rfl) ?_
      refine s_not (some 35) (by kernel_rfl) (by kernel_rfl) ?_
      refine s_not (some 36) (by kernel_rfl) (by kernel_rfl) ?_
      refine s_not (some 37) (by kernel_rfl) (by kernel_rfl) ?_
      refine s_not (some 38) (by kernel_rfl) (by kernel_rfl) ?_
      refine s_not (some 39) (by kernel_rfl) (by kernel_rfl) ?_
      refine s_not (some 40) (by kernel_rfl) (by kernel_rfl) ?_
      refine s_val (some 41) (.bool true) (fun w => by kernel_rfl) (by kernel_rfl) ?_
      refine s_nil ?_
      refine g_cond_t (by kernel_rfl) (by kernel_rfl) ?_
      refine g_sreg [0, 1, 2, 3] (by kernel_rfl) (by kernel_rfl) ?_
      refine s_val (some 42) (.slice (some ⟨b, 0, none⟩) n cap) (fun w => by kernel_rfl) (by kernel_rfl) ?_
      refine s_val (some 43) (.int .i64 ((p : Nat) : Int)) (fun w => by kernel_rfl) (by kernel_rfl) ?_
      refine s_val (some 2) (.slice (some ⟨b, 0, none⟩) n cap) (fun w => by kernel_rfl) (by kernel_rfl) ?_
      refine s_val (some 3) (.int .i64 ((p : Nat) : Int)) (fun w => by kernel_rfl) (by kernel_rfl) ?_
      refine s_nil ?_
      refine g_ret (by kernel_rfl) ?_
      show ∃ vs, Res _ _ _ _ vs ∧ _
      refine ⟨[.slice (some ⟨b, 0, none⟩) n cap, .int .i64 ((p : Nat) : Int)], (.tmp (.slice (some ⟨b, 0, none⟩) n cap) (by kernel_rfl) (.tmp (.int .i64 ((p : Nat) : Int)) (by kernel_rfl) .nil)), H3.below, ?_⟩
      exact ⟨l, p, (no_size hso (by omega)), Or.inr ⟨b, cap, n, cur, rfl, H3.ge 0 (o := .cells cur 9 (0, 0)) (by kernel_rfl), H3.get 0 (by kernel_rfl), hn, hr⟩⟩
    · skip
      refine s_valE (some 28) (.bool (decide ((((by_ s p) + (256 * (by_ s (p + 1))) : Nat) : Int) < 1))) (.bool false) (fun w => by kernel_rfl) (bool_eq (decide_eq_false (by omega))) (by kernel_rfl) ?_
      refine s_val (some 29) (.bool false) (fun w => by kernel_rfl) (by kernel_rfl) ?_
      refine s_val (some 30) (.int .i64 (((by_ s p) + (256 * (by_ s (p + 1))) : Nat) : Int)) (fun w => by kernel_rfl) (by kernel_rfl) ?_
      by_cases hc3 : ((by_ s p) + (256 * (by_ s (p + 1))) : Nat) > 4000
      · skip
        refine s_valE (some 31) (.bool (decide (4000 < (((by_ s p) + (256 * (by_ s (p + 1))) : Nat) : Int)))) (.bool true) (fun w => by kernel_rfl) (bool_eq (decide_eq_true (by omega))) (by kernel_rfl) ?_
        refine s_val (some 32) (.bool true) (fun w => by kernel_rfl) (by kernel_rfl) ?_
        refine s_val (some 33) (.bool true) (fun w => by kernel_rfl) (by kernel_rfl) ?_
        refine s_not (some 34) (by kernel_rfl) (by kernel_rfl) ?_
        refine s_not (some 35) (by kernel_rfl) (by kernel_rfl) ?_
        refine s_not (some 36) (by kernel_rfl) (by kernel_rfl) ?_
        refine s_not (some 37) (by kernel_rfl) (by kernel_rfl) ?_
        refine s_not (some 38) (by kernel_rfl) (by kernel_rfl) ?_
        refine s_not (some 39) (by kernel_rfl) (by kernel_rfl) ?_
        refine s_not (some 40) (by kernel_rfl) (by kernel_rfl) ?_
        refine s_val (some 41) (.bool true) (fun w => by kernel_rfl) (by kernel_rfl) ?_
        refine s_nil ?_
        refine g_cond_t (by kernel_rfl) (by kernel_rfl) ?_
        refine g_sreg [0, 1, 2, 3] (by kernel_rfl) (by kernel_rfl) ?_
        refine s_val (some 42) (.slice (some ⟨b, 0, none⟩) n cap) (fun w => by kernel_rfl) (by kernel_rfl) ?_
        refine s_val (some 43) (.int .i64 ((p : Nat) : Int)) (fun w => by kernel_rfl) (by kernel_rfl) ?_
        refine s_val (some 2) (.slice (some ⟨b, 0, none⟩) n cap) (fun w => by kernel_rfl) (by kernel_rfl) ?_
        refine s_val (some 3) (.int .i64 ((p : Nat) : Int)) (fun w => by kernel_rfl) (by kernel_rfl) ?_
        refine s_nil ?_
        refine g_ret (by kernel_rfl) ?_
        show ∃ vs, Res _ _ _ _ vs ∧ _
        refine ⟨[.slice (some ⟨b, 0, none⟩) n cap, .int .i64 ((p : Nat) : Int)], (.tmp (.slice (some ⟨b, 0, none⟩) n cap) (by kernel_rfl) (.tmp (.int .i64 ((p : Nat) : Int)) (by kernel_rfl) .nil)), H3.below, ?_⟩
        exact ⟨l, p, (no_size hso (by omega)), Or.inr ⟨b, cap, n, cur, rfl, H3.ge 0 (o := .cells cur 9 (0, 0)) (by kernel_rfl), H3.get 0 (by kernel_rfl), hn, hr⟩⟩
      · skip
        refine s_valE (some 31) (.bool (decide (4000 < (((by_ s p) + (256 * (by_ s (p + 1))) : Nat) : Int)))) (.bool false) (fun w => by kernel_rfl) (bool_eq (decide_eq_false (by omega))) (by kernel_rfl) ?_
        refine s_val (some 32) (.bool false) (fun w => by kernel_rfl) (by kernel_rfl) ?_
        refine s_val (some 33) (.bool false) (fun w => by kernel_rfl) (by kernel_rfl) ?_
        refine s_val (some 34) (.string s) (fun w => by kernel_rfl) (by kernel_rfl) ?_
        refine s_val (some 35) (.int .i64 ((ByteArray.size s : Nat) : Int)) (fun w => by kernel_rfl) (by kernel_rfl) ?_
        refine s_val (some 36) (.int .i64 ((p : Nat) : Int)) (fun w => by kernel_rfl) (by kernel_rfl) ?_
        refine s_valE (some 37) (.int .i64 (IntKind.i64.wrap (((ByteArray.size s : Nat) : Int) - ((p : Nat) : Int)))) (.int .i64 (((ByteArray.size s) - p : Nat) : Int)) (fun w => by kernel_rfl) (int_eq (wrapSub_i64 (a := ByteArray.size s) (b := p) (by omega))) (by kernel_rfl) ?_
        refine s_val (some 38) (.int .i64 (((by_ s p) + (256 * (by_ s (p + 1))) : Nat) : Int)) (fun w => by kernel_rfl) (by kernel_rfl) ?_
        refine s_valE (some 39) (.int .i64 (IntKind.i64.wrap ((((by_ s p) + (256 * (by_ s (p + 1))) : Nat) : Int) + 6))) (.int .i64 ((((by_ s p) + (256 * (by_ s (p + 1)))) + 6 : Nat) : Int)) (fun w => by kernel_rfl) (int_eq (wrapAdd_i64 (a := (by_ s p) + (256 * (by_ s (p + 1)))) (b := 6) (by omega))) (by kernel_rfl) ?_
        by_cases hc4 : ((ByteArray.size s) - p : Nat) < ((by_ s p) + (256 * (by_ s (p + 1)))) + 6
        · skip
          refine s_valE (some 40) (.bool (decide ((((ByteArray.size s) - p : Nat) : Int) < ((((by_ s p) + (256 * (by_ s (p + 1)))) + 6 : Nat) : Int)))) (.bool true) (fun w => by kernel_rfl) (bool_eq (decide_eq_true (by omega))) (by kernel_rfl) ?_
          refine s_val (some 41) (.bool true) (fun w => by kernel_rfl) (by kernel_rfl) ?_
          refine s_nil ?_
          refine g_cond_t (by kernel_rfl) (by kernel_rfl) ?_
          refine g_sreg [0, 1, 2, 3] (by kernel_rfl) (by kernel_rfl) ?_
          refine s_val (some 42) (.slice (some ⟨b, 0, none⟩) n cap) (fun w => by kernel_rfl) (by kernel_rfl) ?_
          refine s_val (some 43) (.int .i64 ((p : Nat) : Int)) (fun w => by kernel_rfl) (by kernel_rfl) ?_
          refine s_val (some 2) (.slice (some ⟨b, 0, none⟩) n cap) (fun w => by kernel_rfl) (by kernel_rfl) ?_
          refine s_val (some 3) (.int .i64 ((p : Nat) : Int)) (fun w => by kernel_rfl) (by kernel_rfl) ?_
          refine s_nil ?_
          refine g_ret (by kernel_rfl) ?_
          show ∃ vs, Res _ _ _ _ vs ∧ _
          refine ⟨[.slice (some ⟨b, 0, none⟩) n cap, .int .i64 ((p : Nat) : Int)], (.tmp (.slice (some ⟨b, 0, none⟩) n cap) (by kernel_rfl) (.tmp (.int .i64 ((p : Nat) : Int)) (by kernel_rfl) .nil)), H3.below, ?_⟩
          exact ⟨l, p, (no_size hso (by omega)), Or.inr ⟨b, cap, n, cur, rfl, H3.ge 0 (o := .cells cur 9 (0, 0)) (by kernel_rfl), H3.get 0 (by kernel_rfl), hn, hr⟩⟩
        · skip
          refine s_valE (some 40) (.bool (decide ((((ByteArray.size s) - p : Nat) : Int) < ((((by_ s p) + (256 * (by_ s (p + 1)))) + 6 : Nat) : Int)))) (.bool false) (fun w => by kernel_rfl) (bool_eq (decide_eq_false (by omega))) (by kernel_rfl) ?_
          refine s_val (some 41) (.bool false) (fun w => by kernel_rfl) (by kernel_rfl) ?_
          refine s_nil ?_
          refine g_cond_f (by kernel_rfl) (by kernel_rfl) ?_
          refine g_skip (by kernel_rfl) ?_
          show WP _ _ _ _ _ _
          refine g_sreg [0, 1, 2, 3, 4, 5, 6, 7, 8] (by kernel_rfl) (by kernel_rfl) ?_
          refine s_val (some 44) (.string s) (fun w => by kernel_rfl) (by kernel_rfl) ?_
          refine s_val (some 45) (.int .i64 ((p : Nat) : Int)) (fun w => by kernel_rfl) (by kernel_rfl) ?_
          refine s_valE (some 46) (.int .i64 (IntKind.i64.wrap (((p : Nat) : Int) + 2))) (.int .i64 ((p + 2 : Nat) : Int)) (fun w => by kernel_rfl) (int_eq (wrapAdd_i64 (a := p) (b := 2) (by omega))) (by kernel_rfl) ?_
          refine s_val (some 47) (.int .i64 ((p : Nat) : Int)) (fun w => by kernel_rfl) (by kernel_rfl) ?_
          refine s_valE (some 48) (.int .i64 (IntKind.i64.wrap (((p : Nat) : Int) + 2))) (.int .i64 ((p + 2 : Nat) : Int)) (fun w => by kernel_rfl) (int_eq (wrapAdd_i64 (a := p) (b := 2) (by omega))) (by kernel_rfl) ?_
          refine s_val (some 49) (.int .i64 (((by_ s p) + (256 * (by_ s (p + 1))) : Nat) : Int)) (fun w => by kernel_rfl) (by kernel_rfl) ?_
          refine s_valE (some 50) (.int .i64 (IntKind.i64.wrap (((p + 2 : Nat) : Int) + (((by_ s p) + (256 * (by_ s (p + 1))) : Nat) : Int)))) (.int .i64 (((p + 2) + ((by_ s p) + (256 * (by_ s (p + 1)))) : Nat) : Int)) (fun w => by kernel_rfl) (int_eq (wrapAdd_i64 (a := p + 2) (b := (by_ s p) + (256 * (by_ s (p + 1)))) (by omega))) (by kernel_rfl) ?_
          refine s_op (some 51) _ (.string (ByteArray.extract s (p + 2) ((p + 2) + ((by_ s p) + (256 * (by_ s (p + 1))))))) (by kernel_rfl) (by kernel_rfl) (fun o w ho => scut2_run (t := 9) (kd := .i64) (kz := .i64) (by kernel_rfl) (x := (.tmp 44)) (y := (.tmp 50)) (z := (.tmp 46)) s (p + 2) ((p + 2) + ((by_ s p) + (256 * (by_ s (p + 1))))) ho (by kernel_rfl) (by kernel_rfl) (by kernel_rfl) (by omega) (by omega) w) ?_
          refine s_val (some 7) (.string (ByteArray.extract s (p + 2) ((p + 2) + ((by_ s p) + (256 * (by_ s (p + 1))))))) (fun w => by kernel_rfl) (by kernel_rfl) ?_
          refine s_nil ?_
          refine g_seq (by kernel_rfl) ?_
          by_cases hx5 : strB (frB (tl (ByteArray.extract s (p + 2) ((p + 2) + ((by_ s p) + (256 * (by_ s (p + 1)))))))) = (ByteArray.extract s p ((p + ((by_ s p) + (256 * (by_ s (p + 1))))) + 6))
          · skip
            refine D2.g_sdraw [0, 1, 2, 3, 4, 5, 6, 7, 8, 9] [((some 52), fun _ => .string (ByteArray.extract s (p + 2) ((p + 2) + ((by_ s p) + (256 * (by_ s (p + 1))))))), ((some 53), fun _ => .string (strB (frB (tl (ByteArray.extract s (p + 2) ((p + 2) + ((by_ s p) + (256 * (by_ s (p + 1)))))))))), ((some 54), fun _ => .string s), ((some 55), fun _ => .int .i64 ((p : Nat) : Int)), ((some 56), fun _ => .int .i64 ((p : Nat) : Int)), ((some 57), fun _ => .int .i64 (((by_ s p) + (256 * (by_ s (p + 1))) : Nat) : Int)), ((some 58), fun _ => .int .i64 ((p + ((by_ s p) + (256 * (by_ s (p + 1)))) : Nat) : Int)), ((some 59), fun _ => .int .i64 (((p + ((by_ s p) + (256 * (by_ s (p + 1))))) + 6 : Nat) : Int)), ((some 60), fun _ => .string (ByteArray.extract s p ((p + ((by_ s p) + (256 * (by_ s (p + 1))))) + 6))), ((some 61), fun _ => .bool false)] (D2.Pre w.heap.size w (fun L g => [(true, (b, Obj.cells cur 9 (0, 0)))]) (fun L g => True)) (by kernel_rfl) (by kernel_rfl) (by kernel_rfl) (by kernel_rfl) ⟨D2.StE.of H3.drew _ (by kernel_rfl), trivial⟩ ⟨?_, ?_, ?_, ?_, ?_, ?_, ?_, ?_, ?_, ?_, trivial⟩ ?_
            · exact D2.gv_val (fun _ _ _ h => h) (fun g w => by kernel_rfl)
            · exact D2.gv_call 13 #[.string (ByteArray.extract s (p + 2) ((p + 2) + ((by_ s p) + (256 * (by_ s (p + 1))))))] (fun _ _ _ h => h) (frameR_fn (ByteArray.extract s (p + 2) ((p + 2) + ((by_ s p) + (256 * (by_ s (p + 1)))))) (by first | omega | (rw [ext_size _ _ _ (by omega)]; omega))) (fun g w => by kernel_rfl)
            · exact D2.gv_val (fun _ _ _ h => h) (fun g w => by kernel_rfl)
            · exact D2.gv_val (fun _ _ _ h => h) (fun g w => by kernel_rfl)
            · exact D2.gv_val (fun _ _ _ h => h) (fun g w => by kernel_rfl)
            · exact D2.gv_val (fun _ _ _ h => h) (fun g w => by kernel_rfl)
            · exact D2.gv_valE (fun _ _ _ h => h) (V' := .int .i64 (IntKind.i64.wrap (((p : Nat) : Int) + (((by_ s p) + (256 * (by_ s (p + 1))) : Nat) : Int)))) (fun g w => by kernel_rfl) (int_eq (wrapAdd_i64 (a := p) (b := (by_ s p) + (256 * (by_ s (p + 1)))) (by omega)))
            · exact D2.gv_valE (fun _ _ _ h => h) (V' := .int .i64 (IntKind.i64.wrap (((p + ((by_ s p) + (256 * (by_ s (p + 1)))) : Nat) : Int) + 6))) (fun g w => by kernel_rfl) (int_eq (wrapAdd_i64 (a := p + ((by_ s p) + (256 * (by_ s (p + 1))))) (b := 6) (by omega)))
            · exact D2.gv_op (fun _ _ _ h => h) _ (fun g => by kernel_rfl) (fun g => (fun o w ho => scut2_run (t := 9) (kd := .i64) (kz := .i64) (by kernel_rfl) (x := (.tmp 54)) (y := (.tmp 59)) (z := (.tmp 55)) s p ((p + ((by_ s p) + (256 * (by_ s (p + 1))))) + 6) ho (by kernel_rfl) (by kernel_rfl) (by kernel_rfl) (by omega) (by omega) w))
            · exact D2.gv_valE (fun _ _ _ h => h) (V' := .bool (!(ByteArray.toList (strB (frB (tl (ByteArray.extract s (p + 2) ((p + 2) + ((by_ s p) + (256 * (by_ s (p + 1))))))))) == ByteArray.toList (ByteArray.extract s p ((p + ((by_ s p) + (256 * (by_ s (p + 1))))) + 6))))) (fun g w => by kernel_rfl) (bool_eq (by rw [str_same (strB (frB (tl (ByteArray.extract s (p + 2) ((p + 2) + ((by_ s p) + (256 * (by_ s (p + 1))))))))) (ByteArray.extract s p ((p + ((by_ s p) + (256 * (by_ s (p + 1))))) + 6)) hx5]; rfl))
            intro L0 G4 w4 hall HL; clear H3
            have H4 : St w.heap.size w w4 [(b, Obj.cells cur 9 (0, 0))] := D2.StE.st HL.1
            clear HL hall
            refine g_cond_f (by kernel_rfl) (by kernel_rfl) ?_
            refine g_skip (by kernel_rfl) ?_
            show WP _ _ _ _ _ _
            refine g_sreg [0, 1, 2, 3, 4] (by kernel_rfl) (by kernel_rfl) ?_
            have hstep := so_more hso (by omega) (by omega) hx5
            have hsz2 := hstep.2
            refine s_val (some 64) (.slice (some ⟨b, 0, none⟩) n cap) (fun w => by kernel_rfl) (by kernel_rfl) ?_
            refine s_val (some 65) (.string (ByteArray.extract s (p + 2) ((p + 2) + ((by_ s p) + (256 * (by_ s (p + 1))))))) (fun w => by kernel_rfl) (by kernel_rfl) ?_
            refine s_new H4 (some 66) (fun b => .slice (some ⟨b, 0, none⟩) 1 1) #[.string (ByteArray.extract s (p + 2) ((p + 2) + ((by_ s p) + (256 * (by_ s (p + 1))))))] 9 (fun w => by kernel_rfl) (by kernel_rfl) ?_
            intro b2 w5 H5; clear H4
            refine s_append H5 (some 67) 30 9 1 16 (.tmp 64) (.tmp 66) 1 0 b b2 n 1 cap 1 cur #[.string (ByteArray.extract s (p + 2) ((p + 2) + ((by_ s p) + (256 * (by_ s (p + 1))))))] 9 (0, 0) (cellsS l) ([.string (ByteArray.extract s (p + 2) ((p + 2) + ((by_ s p) + (256 * (by_ s (p + 1))))))]) (fun b_1 cur_3 => [(b2, Obj.cells #[.string (ByteArray.extract s (p + 2) ((p + 2) + ((by_ s p) + (256 * (by_ s (p + 1))))))] 9 (0, 0)), (b_1, Obj.cells cur_3 9 (0, 0))]) (by kernel_rfl) (by kernel_rfl) (by kernel_rfl) (by kernel_rfl) (by kernel_rfl) hr (by kernel_rfl) (by kernel_rfl) (by rfl) (by rfl) (by intro u hu; simp at hu; first | exact hu.elim | (rcases hu with rfl | rfl | rfl | rfl <;> rfl) | (rcases hu with rfl | rfl <;> rfl) | (subst hu; rfl)) (by omega) (by unfold maxLen; omega) (fun _ _ => by kernel_rfl) ?_
            intro b_1 cap_2 cur_3 w6 H6 hr_4; clear H5
            have hr_4t : Rw 1 cur_3 cap_2 (n + 1) (cellsS (l ++ [(ByteArray.extract s (p + 2) ((p + 2) + ((by_ s p) + (256 * (by_ s (p + 1))))))])) := by rw [cellsS_append]; exact hr_4
            have hr_4n : n + 1 = List.length (l ++ [(ByteArray.extract s (p + 2) ((p + 2) + ((by_ s p) + (256 * (by_ s (p + 1))))))]) := by have h0 : n = List.length l := hn; rw [List.length_append, ← h0]; rfl
            refine s_val (some 4) (.slice (some ⟨b_1, 0, none⟩) (n + 1) cap_2) (fun w => by kernel_rfl) (by kernel_rfl) ?_
            refine s_nil ?_
            refine g_reg0 [0, 1, 2, 3, 4] (by kernel_rfl) ?_
            refine s_val (some 68) (.int .i64 ((p : Nat) : Int)) (fun w => by kernel_rfl) (by kernel_rfl) ?_
            refine s_val (some 69) (.int .i64 (((by_ s p) + (256 * (by_ s (p + 1))) : Nat) : Int)) (fun w => by kernel_rfl) (by kernel_rfl) ?_
            refine s_valE (some 70) (.int .i64 (IntKind.i64.wrap (((p : Nat) : Int) + (((by_ s p) + (256 * (by_ s (p + 1))) : Nat) : Int)))) (.int .i64 ((p + ((by_ s p) + (256 * (by_ s (p + 1)))) : Nat) : Int)) (fun w => by kernel_rfl) (int_eq (wrapAdd_i64 (a := p) (b := (by_ s p) + (256 * (by_ s (p + 1)))) (by omega))) (by kernel_rfl) ?_
            refine s_valE (some 71) (.int .i64 (IntKind.i64.wrap (((p + ((by_ s p) + (256 * (by_ s (p + 1)))) : Nat) : Int) + 6))) (.int .i64 (((p + ((by_ s p) + (256 * (by_ s (p + 1))))) + 6 : Nat) : Int)) (fun w => by kernel_rfl) (int_eq (wrapAdd_i64 (a := p + ((by_ s p) + (256 * (by_ s (p + 1))))) (b := 6) (by omega))) (by kernel_rfl) ?_
            refine s_val (some 5) (.int .i64 (((p + ((by_ s p) + (256 * (by_ s (p + 1))))) + 6 : Nat) : Int)) (fun w => by kernel_rfl) (by kernel_rfl) ?_
            refine s_nil ?_
            have HD6 : St w.heap.size w w6 [(b_1, Obj.cells cur_3 9 (0, 0))] := H6.sub (List.Sublist.cons _ (List.Sublist.cons_cons _ List.Sublist.slnil))
            show ∃ m, _ ∧ _
            exact ⟨_, (by omega), b_1, cap_2, n + 1, cur_3, (l ++ [(ByteArray.extract s (p + 2) ((p + 2) + ((by_ s p) + (256 * (by_ s (p + 1))))))]), ((p + ((by_ s p) + (256 * (by_ s (p + 1))))) + 6), rfl, hr_4n, hr_4t, hstep.1, HD6, (Is.of ⟨(by kernel_rfl), (by kernel_rfl), (by kernel_rfl), trivial⟩)⟩
          · skip
            refine D2.g_sdraw [0, 1, 2, 3, 4, 5, 6, 7, 8, 9] [((some 52), fun _ => .string (ByteArray.extract s (p + 2) ((p + 2) + ((by_ s p) + (256 * (by_ s (p + 1))))))), ((some 53), fun _ => .string (strB (frB (tl (ByteArray.extract s (p + 2) ((p + 2) + ((by_ s p) + (256 * (by_ s (p + 1)))))))))), ((some 54), fun _ => .string s), ((some 55), fun _ => .int .i64 ((p : Nat) : Int)), ((some 56), fun _ => .int .i64 ((p : Nat) : Int)), ((some 57), fun _ => .int .i64 (((by_ s p) + (256 * (by_ s (p + 1))) : Nat) : Int)), ((some 58), fun _ => .int .i64 ((p + ((by_ s p) + (256 * (by_ s (p + 1)))) : Nat) : Int)), ((some 59), fun _ => .int .i64 (((p + ((by_ s p) + (256 * (by_ s (p + 1))))) + 6 : Nat) : Int)), ((some 60), fun _ => .string (ByteArray.extract s p ((p + ((by_ s p) + (256 * (by_ s (p + 1))))) + 6))), ((some 61), fun _ => .bool true)] (D2.Pre w.heap.size w (fun L g => [(true, (b, Obj.cells cur 9 (0, 0)))]) (fun L g => True)) (by kernel_rfl) (by kernel_rfl) (by kernel_rfl) (by kernel_rfl) ⟨D2.StE.of H3.drew _ (by kernel_rfl), trivial⟩ ⟨?_, ?_, ?_, ?_, ?_, ?_, ?_, ?_, ?_, ?_, trivial⟩ ?_
            · exact D2.gv_val (fun _ _ _ h => h) (fun g w => by kernel_rfl)
            · exact D2.gv_call 13 #[.string (ByteArray.extract s (p + 2) ((p + 2) + ((by_ s p) + (256 * (by_ s (p + 1))))))] (fun _ _ _ h => h) (frameR_fn (ByteArray.extract s (p + 2) ((p + 2) + ((by_ s p) + (256 * (by_ s (p + 1)))))) (by first | omega | (rw [ext_size _ _ _ (by omega)]; omega))) (fun g w => by kernel_rfl)
            · exact D2.gv_val (fun _ _ _ h => h) (fun g w => by kernel_rfl)
            · exact D2.gv_val (fun _ _ _ h => h) (fun g w => by kernel_rfl)
            · exact D2.gv_val (fun _ _ _ h => h) (fun g w => by kernel_rfl)
            · exact D2.gv_val (fun _ _ _ h => h) (fun g w => by kernel_rfl)
            · exact D2.gv_valE (fun _ _ _ h => h) (V' := .int .i64 (IntKind.i64.wrap (((p : Nat) : Int) + (((by_ s p) + (256 * (by_ s (p + 1))) : Nat) : Int)))) (fun g w => by kernel_rfl) (int_eq (wrapAdd_i64 (a := p) (b := (by_ s p) + (256 * (by_ s (p + 1)))) (by omega)))
            · exact D2.gv_valE (fun _ _ _ h => h) (V' := .int .i64 (IntKind.i64.wrap (((p + ((by_ s p) + (256 * (by_ s (p + 1)))) : Nat) : Int) + 6))) (fun g w => by kernel_rfl) (int_eq (wrapAdd_i64 (a := p + ((by_ s p) + (256 * (by_ s (p + 1))))) (b := 6) (by omega)))
            · exact D2.gv_op (fun _ _ _ h => h) _ (fun g => by kernel_rfl) (fun g => (fun o w ho => scut2_run (t := 9) (kd := .i64) (kz := .i64) (by kernel_rfl) (x := (.tmp 54)) (y := (.tmp 59)) (z := (.tmp 55)) s p ((p + ((by_ s p) + (256 * (by_ s (p + 1))))) + 6) ho (by kernel_rfl) (by kernel_rfl) (by kernel_rfl) (by omega) (by omega) w))
            · exact D2.gv_valE (fun _ _ _ h => h) (V' := .bool (!(ByteArray.toList (strB (frB (tl (ByteArray.extract s (p + 2) ((p + 2) + ((by_ s p) + (256 * (by_ s (p + 1))))))))) == ByteArray.toList (ByteArray.extract s p ((p + ((by_ s p) + (256 * (by_ s (p + 1))))) + 6))))) (fun g w => by kernel_rfl) (bool_eq (by rw [str_other (strB (frB (tl (ByteArray.extract s (p + 2) ((p + 2) + ((by_ s p) + (256 * (by_ s (p + 1))))))))) (ByteArray.extract s p ((p + ((by_ s p) + (256 * (by_ s (p + 1))))) + 6)) hx5]; rfl))
            intro L0 G7 w7 hall HL; clear H3
            have H7 : St w.heap.size w w7 [(b, Obj.cells cur 9 (0, 0))] := D2.StE.st HL.1
            clear HL hall
            refine g_cond_t (by kernel_rfl) (by kernel_rfl) ?_
            refine g_sreg [0, 1, 2, 3] (by kernel_rfl) (by kernel_rfl) ?_
            refine s_val (some 62) (.slice (some ⟨b, 0, none⟩) n cap) (fun w => by kernel_rfl) (by kernel_rfl) ?_
            refine s_val (some 63) (.int .i64 ((p : Nat) : Int)) (fun w => by kernel_rfl) (by kernel_rfl) ?_
            refine s_val (some 2) (.slice (some ⟨b, 0, none⟩) n cap) (fun w => by kernel_rfl) (by kernel_rfl) ?_
            refine s_val (some 3) (.int .i64 ((p : Nat) : Int)) (fun w => by kernel_rfl) (by kernel_rfl) ?_
            refine s_nil ?_
            refine g_ret (by kernel_rfl) ?_
            show ∃ vs, Res _ _ _ _ vs ∧ _
            refine ⟨[.slice (some ⟨b, 0, none⟩) n cap, .int .i64 ((p : Nat) : Int)], (.tmp (.slice (some ⟨b, 0, none⟩) n cap) (by kernel_rfl) (.tmp (.int .i64 ((p : Nat) : Int)) (by kernel_rfl) .nil)), H7.below, ?_⟩
            exact ⟨l, p, (no_same hso hx5), Or.inr ⟨b, cap, n, cur, rfl, H7.ge 0 (o := .cells cur 9 (0, 0)) (by kernel_rfl), H7.get 0 (by kernel_rfl), hn, hr⟩⟩
end Go.Proofs.Ythipcmpmfjeakaa
