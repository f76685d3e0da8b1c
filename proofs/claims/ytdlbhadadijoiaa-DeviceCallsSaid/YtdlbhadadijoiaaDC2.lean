/-
  Texts of the proof, part 2.
-/
import Derived.Test.YtdlbhadadijoiaaProg
import Derived.ChangeKeysEq
import Derived.Laws.StructEq
import Derived.Test.YtdlbhadadijoiaaChecked
import Derived.ChangeArms
import Derived.OpenShut
import Derived.ProofKit
import Derived.Test.YtdlbhadadijoiaaDC1

namespace Go.Proofs.Ytdlbhadadijoiaa
open Go Go.RowKit
set_option linter.unusedVariables false
abbrev dvR (s : ByteArray) (a e : Int) : Value := .tuple #[dvV s a, .int .i64 e]
theorem heap_old {w w' : World} {b : Nat} {o : Obj} (h : w.heap[b]? = some o) (hb : Below w.heap.size w w') : w'.heap[b]? = some o := by rw [hb.block b (lt_of_heap h)]; exact h
theorem checked_no (s : ByteArray) (a : Int) (fv : Value) (hr : rightM s a = false) : Fn Try.prog 14 #[dvV s a, fv] (dvR em 0 1) := by
  refine Fn.intro (c := codeOf Try.f14) [.cell 4 23, .tmp 5] 14 Try.func14 kr kr kr fun w => ?_
  have H0 := St.start w
  refine rS [.b, .a, .v] H0 kr fun gs1 w1 H1 => ?_
  refine g_seq kr ?_
  refine rS [.l 0, .c (right_fn s a), .e (v := .bool (!(rightM s a))) (v' := .bool true) (bool_eq (by rw [hr]; rfl))] H1 kr fun gs2 w2 H2 => ?_
  refine g_cond_t kr kr ?_
  refine rS [.v, .s 1, .v] H2 kr fun gs3 w3 H3 => ?_
  exact rRe [.cell 4 23, .tmp 5] [1] (v := dvR em 0 1) (v' := dvR em 0 1) H3 rfl kr
theorem checked_append (s : ByteArray) (a : Int) (c0 c1 : Value) (pre : World → Prop) (r : ByteArray) (q e : Int) (hc : FnP Try.prog 15 #[c0, c1] pre (dvR r q e)) (hst : ∀ w w', pre w → Below w.heap.size w w' → pre w') (hr : rightM s a = true) :
    FnP Try.prog 14 #[dvV s a, .func (.func 15) #[] #[c0, c1]] pre (dvR r q e) := by
  refine FnP.intro (c := codeOf Try.f14) [.cell 4 23, .tmp 5] 14 Try.func14 kr kr kr fun w hP => ?_
  have H0 := St.start w
  refine rS [.b, .a, .v] H0 kr fun gs1 w1 H1 => ?_
  refine g_seq kr ?_
  refine rS [.l 0, .c (right_fn s a), .e (v := .bool (!(rightM s a))) (v' := .bool false) (bool_eq (by rw [hr]; rfl))] H1 kr fun gs2 w2 H2 => ?_
  refine g_cond_f kr kr ?_
  refine g_skip kr ?_
  show WP _ _ _ _ _ _
  refine rS [.v, .cp (pre := pre) hc [] (fun w' hb hd => hst w w' hP hb), .v, .v, .s 1, .v] H2 kr fun gs3 w3 H3 => ?_
  exact rRe [.cell 4 23, .tmp 5] [1] (v := dvR r q e) (v' := dvR r q e) H3 rfl kr
theorem checked_sync (s : ByteArray) (a : Int) (c0 : Value) (pre : World → Prop) (r : ByteArray) (q e : Int) (hc : FnP Try.prog 16 #[c0] pre (dvR r q e)) (hst : ∀ w w', pre w → Below w.heap.size w w' → pre w') (hr : rightM s a = true) :
    FnP Try.prog 14 #[dvV s a, .func (.func 16) #[] #[c0]] pre (dvR r q e) := by
  refine FnP.intro (c := codeOf Try.f14) [.cell 4 23, .tmp 5] 14 Try.func14 kr kr kr fun w hP => ?_
  have H0 := St.start w
  refine rS [.b, .a, .v] H0 kr fun gs1 w1 H1 => ?_
  refine g_seq kr ?_
  refine rS [.l 0, .c (right_fn s a), .e (v := .bool (!(rightM s a))) (v' := .bool false) (bool_eq (by rw [hr]; rfl))] H1 kr fun gs2 w2 H2 => ?_
  refine g_cond_f kr kr ?_
  refine g_skip kr ?_
  show WP _ _ _ _ _ _
  refine rS [.v, .cp (pre := pre) hc [] (fun w' hb hd => hst w w' hP hb), .v, .v, .s 1, .v] H2 kr fun gs3 w3 H3 => ?_
  exact rRe [.cell 4 23, .tmp 5] [1] (v := dvR r q e) (v' := dvR r q e) H3 rfl kr
theorem checked_crash (s : ByteArray) (a : Int) (c0 c1 : Value) (pre : World → Prop) (r : ByteArray) (q e : Int) (hc : FnP Try.prog 17 #[c0, c1] pre (dvR r q e)) (hst : ∀ w w', pre w → Below w.heap.size w w' → pre w') (hr : rightM s a = true) :
    FnP Try.prog 14 #[dvV s a, .func (.func 17) #[] #[c0, c1]] pre (dvR r q e) := by
  refine FnP.intro (c := codeOf Try.f14) [.cell 4 23, .tmp 5] 14 Try.func14 kr kr kr fun w hP => ?_
  have H0 := St.start w
  refine rS [.b, .a, .v] H0 kr fun gs1 w1 H1 => ?_
  refine g_seq kr ?_
  refine rS [.l 0, .c (right_fn s a), .e (v := .bool (!(rightM s a))) (v' := .bool false) (bool_eq (by rw [hr]; rfl))] H1 kr fun gs2 w2 H2 => ?_
  refine g_cond_f kr kr ?_
  refine g_skip kr ?_
  show WP _ _ _ _ _ _
  refine rS [.v, .cp (pre := pre) hc [] (fun w' hb hd => hst w w' hP hb), .v, .v, .s 1, .v] H2 kr fun gs3 w3 H3 => ?_
  exact rRe [.cell 4 23, .tmp 5] [1] (v := dvR r q e) (v' := dvR r q e) H3 rfl kr
theorem checked_cut (s : ByteArray) (a : Int) (c0 c1 : Value) (pre : World → Prop) (r : ByteArray) (q e : Int) (hc : FnP Try.prog 19 #[c0, c1] pre (dvR r q e)) (hst : ∀ w w', pre w → Below w.heap.size w w' → pre w') (hr : rightM s a = true) :
    FnP Try.prog 14 #[dvV s a, .func (.func 19) #[] #[c0, c1]] pre (dvR r q e) := by
  refine FnP.intro (c := codeOf Try.f14) [.cell 4 23, .tmp 5] 14 Try.func14 kr kr kr fun w hP => ?_
  have H0 := St.start w
  refine rS [.b, .a, .v] H0 kr fun gs1 w1 H1 => ?_
  refine g_seq kr ?_
  refine rS [.l 0, .c (right_fn s a), .e (v := .bool (!(rightM s a))) (v' := .bool false) (bool_eq (by rw [hr]; rfl))] H1 kr fun gs2 w2 H2 => ?_
  refine g_cond_f kr kr ?_
  refine g_skip kr ?_
  show WP _ _ _ _ _ _
  refine rS [.v, .cp (pre := pre) hc [] (fun w' hb hd => hst w w' hP hb), .v, .v, .s 1, .v] H2 kr fun gs3 w3 H3 => ?_
  exact rRe [.cell 4 23, .tmp 5] [1] (v := dvR r q e) (v' := dvR r q e) H3 rfl kr
end Go.Proofs.Ytdlbhadadijoiaa

namespace Go.Proofs.Ytdlbhadadijoiaa
open Go Go.RowKit
set_option linter.unusedVariables false
abbrev pB (b : Nat) : Value := .pointer (some ⟨b, 0, none⟩)
abbrev stO (t : ByteArray) : Obj := .cells #[.string t] 9 (0, 0)
abbrev inO (n : Int) : Obj := .cells #[.int .i64 n] 3 (0, 0)
abbrev two (b1 : Nat) (o1 : Obj) (b2 : Nat) (o2 : Obj) : World → Prop := fun w => w.heap[b1]? = some o1 ∧ w.heap[b2]? = some o2
theorem two_st {b1 : Nat} {o1 : Obj} {b2 : Nat} {o2 : Obj} : ∀ w w', two b1 o1 b2 o2 w → Below w.heap.size w w' → two b1 o1 b2 o2 w' := fun w w' h hb => ⟨heap_old h.1 hb, heap_old h.2 hb⟩
/-! ### Append -/
theorem append1_ok (bs bd : Nat) (s t : ByteArray) (a : Int) (hs : s.size + t.size ≤ 200000) :
    FnP Try.prog 15 #[pB bs, pB bd] (two bs (stO t) bd (dvO s a)) (dvR (s ++ t) a 0) := by
  refine FnP.intro (c := codeOf Try.f15) [.cell 2 23, .tmp 3] 19 Try.func15 kr kr kr fun w hP => ?_
  have H0 := St.start w
  obtain ⟨h1, h2⟩ := hP
  refine rS [.a, .v] H0 kr fun gs1 w1 H1 => ?_
  refine g_seq kr ?_
  refine rS [.f h1 (lt_of_heap h1), .v, .v, .f h2 (lt_of_heap h2), .v, .e (v := .int .i64 (IntKind.i64.wrap (200000 - ((s.size : Nat) : Int)))) (v' := .int .i64 (200000 - ((s.size : Nat) : Int))) (int_eq (wrap_i64 (by omega) (by omega))), .e (v := .bool (decide (((t.size : Nat) : Int) > 200000 - ((s.size : Nat) : Int)))) (v' := .bool false) (bool_eq (decide_eq_false (by omega)))] H1 kr fun gs2 w2 H2 => ?_
  refine g_cond_f kr kr ?_
  refine g_skip kr ?_
  show WP _ _ _ _ _ _
  refine rS [.v, .f h2 (lt_of_heap h2), .f h1 (lt_of_heap h1), .o (ins := [((.tmp 13), .string s), ((.tmp 14), .string t)]) (v := .string (s ++ t)) (fun ρ o w ho hi => sadd_run (t := 9) (t' := 9) (x := (.tmp 13)) (y := (.tmp 14)) s t w ho hi.1 hi.2.1 (by omega)), .v, .f h2 (lt_of_heap h2), .v, .s 0, .v] H2 kr fun gs3 w3 H3 => ?_
  exact rRe [.cell 2 23, .tmp 3] [0] (v := dvR (s ++ t) a 0) (v' := dvR (s ++ t) a 0) H3 rfl kr
theorem append1_no (bs bd : Nat) (s t : ByteArray) (a : Int) (hs1 : s.size ≤ 200000) (hs : ¬ s.size + t.size ≤ 200000) :
    FnP Try.prog 15 #[pB bs, pB bd] (two bs (stO t) bd (dvO s a)) (dvR em 0 2) := by
  refine FnP.intro (c := codeOf Try.f15) [.cell 2 23, .tmp 3] 19 Try.func15 kr kr kr fun w hP => ?_
  have H0 := St.start w
  obtain ⟨h1, h2⟩ := hP
  refine rS [.a, .v] H0 kr fun gs1 w1 H1 => ?_
  refine g_seq kr ?_
  refine rS [.f h1 (lt_of_heap h1), .v, .v, .f h2 (lt_of_heap h2), .v, .e (v := .int .i64 (IntKind.i64.wrap (200000 - ((s.size : Nat) : Int)))) (v' := .int .i64 (200000 - ((s.size : Nat) : Int))) (int_eq (wrap_i64 (by omega) (by omega))), .e (v := .bool (decide (((t.size : Nat) : Int) > 200000 - ((s.size : Nat) : Int)))) (v' := .bool true) (bool_eq (decide_eq_true (by omega)))] H1 kr fun gs2 w2 H2 => ?_
  refine g_cond_t kr kr ?_
  refine rS [.v, .s 0, .v] H2 kr fun gs3 w3 H3 => ?_
  exact rRe [.cell 2 23, .tmp 3] [0] (v := dvR em 0 2) (v' := dvR em 0 2) H3 rfl kr
theorem append_of (s t r : ByteArray) (a q e : Int) (hr : rightM s a = true) (hc : ∀ bs bd, FnP Try.prog 15 #[pB bs, pB bd] (two bs (stO t) bd (dvO s a)) (dvR r q e)) : Fn Try.prog 6 #[dvV s a, .string t] (dvR r q e) := by
  refine Fn.intro (c := codeOf Try.f6) [.cell 4 23, .tmp 5] 11 Try.func6 kr kr kr fun w => ?_
  have H0 := St.start w
  refine rS [.b, .b, .a, .v] H0 kr fun gs1 w1 H1 => ?_
  refine rS [.l 0, .v, .cp (pre := two (gs1 1).b (stO t) (gs1 0).b (dvO s a)) (checked_append s a (pB (gs1 1).b) (pB (gs1 0).b) (two (gs1 1).b (stO t) (gs1 0).b (dvO s a)) r q e (hc (gs1 1).b (gs1 0).b) two_st hr) [(1, ((gs1 1).b, stO t)), (0, ((gs1 0).b, dvO s a))] (fun w' hb hd => ⟨hd.1, hd.2.1⟩), .v, .v, .s 2, .v] H1 kr fun gs2 w2 H2 => ?_
  exact rRe [.cell 4 23, .tmp 5] [2] (v := dvR r q e) (v' := dvR r q e) H2 rfl kr
theorem append_ok (s t : ByteArray) (a : Int) (hr : rightM s a = true) (hs : s.size + t.size ≤ 200000) : Fn Try.prog 6 #[dvV s a, .string t] (dvR (s ++ t) a 0) :=
  append_of s t _ a _ _ hr fun bs bd => append1_ok bs bd s t a hs
theorem append_long (s t : ByteArray) (a : Int) (hr : rightM s a = true) (hs : ¬ s.size + t.size ≤ 200000) : Fn Try.prog 6 #[dvV s a, .string t] (dvR em 0 2) :=
  append_of s t _ a _ _ hr fun bs bd => append1_no bs bd s t a (rightM_iff.1 hr).1 hs
theorem append_not (s t : ByteArray) (a : Int) (hr : rightM s a = false) : Fn Try.prog 6 #[dvV s a, .string t] (dvR em 0 1) := by
  refine Fn.intro (c := codeOf Try.f6) [.cell 4 23, .tmp 5] 11 Try.func6 kr kr kr fun w => ?_
  have H0 := St.start w
  refine rS [.b, .b, .a, .v] H0 kr fun gs1 w1 H1 => ?_
  refine rS [.l 0, .v, .c (checked_no s a (.func (.func 15) #[] #[pB (gs1 1).b, pB (gs1 0).b]) hr), .v, .v, .s 2, .v] H1 kr fun gs2 w2 H2 => ?_
  exact rRe [.cell 4 23, .tmp 5] [2] (v := dvR em 0 1) (v' := dvR em 0 1) H2 rfl kr
/-! ### Sync -/
theorem sync1_ok (bd : Nat) (s : ByteArray) (a : Int) : FnP Try.prog 16 #[pB bd] (fun w => w.heap[bd]? = some (dvO s a)) (dvR s ((s.size : Nat) : Int) 0) := by
  refine FnP.intro (c := codeOf Try.f16) [.cell 1 23, .tmp 2] 9 Try.func16 kr kr kr fun w h2 => ?_
  have H0 := St.start w
  refine rS [.a, .v] H0 kr fun gs1 w1 H1 => ?_
  refine rS [.v, .f h2 (lt_of_heap h2), .v, .f h2 (lt_of_heap h2), .v, .v, .s 0, .v] H1 kr fun gs2 w2 H2 => ?_
  exact rRe [.cell 1 23, .tmp 2] [0] (v := dvR s ((s.size : Nat) : Int) 0) (v' := dvR s ((s.size : Nat) : Int) 0) H2 rfl kr
theorem sync_ok (s : ByteArray) (a : Int) (hr : rightM s a = true) : Fn Try.prog 7 #[dvV s a] (dvR s ((s.size : Nat) : Int) 0) := by
  refine Fn.intro (c := codeOf Try.f7) [.cell 2 23, .tmp 3] 9 Try.func7 kr kr kr fun w => ?_
  have H0 := St.start w
  refine rS [.b, .a, .v] H0 kr fun gs1 w1 H1 => ?_
  refine rS [.l 0, .v, .cp (pre := fun w => w.heap[(gs1 0).b]? = some (dvO s a)) (checked_sync s a (pB (gs1 0).b) (fun w => w.heap[(gs1 0).b]? = some (dvO s a)) s ((s.size : Nat) : Int) 0 (sync1_ok (gs1 0).b s a) (fun w w' h hb => heap_old h hb) hr) [(0, ((gs1 0).b, dvO s a))] (fun w' hb hd => hd.1), .v, .v, .s 1, .v] H1 kr fun gs2 w2 H2 => ?_
  exact rRe [.cell 2 23, .tmp 3] [1] (v := dvR s ((s.size : Nat) : Int) 0) (v' := dvR s ((s.size : Nat) : Int) 0) H2 rfl kr
theorem sync_not (s : ByteArray) (a : Int) (hr : rightM s a = false) : Fn Try.prog 7 #[dvV s a] (dvR em 0 1) := by
  refine Fn.intro (c := codeOf Try.f7) [.cell 2 23, .tmp 3] 9 Try.func7 kr kr kr fun w => ?_
  have H0 := St.start w
  refine rS [.b, .a, .v] H0 kr fun gs1 w1 H1 => ?_
  refine rS [.l 0, .v, .c (checked_no s a (.func (.func 16) #[] #[pB (gs1 0).b]) hr), .v, .v, .s 1, .v] H1 kr fun gs2 w2 H2 => ?_
  exact rRe [.cell 2 23, .tmp 3] [1] (v := dvR em 0 1) (v' := dvR em 0 1) H2 rfl kr
/-! ### Crash -/
/-- How much a crash leaves. -/
def leftM (s : ByteArray) (k : Nat) (m : Int) : Nat := k + min m.toNat (s.size - k)
theorem leftM_le {s : ByteArray} {k : Nat} {m : Int} (h : k ≤ s.size) : leftM s k m ≤ s.size := by unfold leftM; omega
theorem crash1_ok (bd bm : Nat) (s : ByteArray) (k : Nat) (m : Int) (hs : s.size ≤ 200000) (hk : k ≤ s.size) :
    FnP Try.prog 17 #[pB bd, pB bm] (two bd (dvO s ((k : Nat) : Int)) bm (inO m)) (dvR (s.extract 0 (leftM s k m)) ((leftM s k m : Nat) : Int) 0) := by
  refine FnP.intro (c := codeOf Try.f17) [.cell 2 23, .tmp 3] 22 Try.func17 kr kr kr fun w hP => ?_
  have H0 := St.start w
  obtain ⟨h1, h2⟩ := hP
  refine rS [.a, .v] H0 kr fun gs1 w1 H1 => ?_
  refine rS [.v, .f h1 (lt_of_heap h1), .f h2 (lt_of_heap h2), .e (v := .int .i64 (if (0 : Int) > m then (0 : Int) else m)) (v' := iN m.toNat) (int_eq (by split <;> omega)), .v, .f h1 (lt_of_heap h1), .v, .v, .f h1 (lt_of_heap h1), .e (v := .int .i64 (IntKind.i64.wrap (((s.size : Nat) : Int) - ((k : Nat) : Int)))) (v' := iN (s.size - k)) (int_eq (wrapSub_i64 (by omega))), .e (v := .int .i64 (if ((s.size - k : Nat) : Int) < ((m.toNat : Nat) : Int) then ((s.size - k : Nat) : Int) else ((m.toNat : Nat) : Int))) (v' := iN (min m.toNat (s.size - k))) (int_eq (minN _ _)), .e (v := .int .i64 (IntKind.i64.wrap (((k : Nat) : Int) + ((min m.toNat (s.size - k) : Nat) : Int)))) (v' := iN (leftM s k m)) (int_eq (wrapAdd_i64 (by omega))), .v] H1 kr fun gs2 w2 H2 => ?_
  refine rS [.f h1 (lt_of_heap h1), .v, .c (first_fn s ((k : Nat) : Int) (leftM s k m) (by omega) (leftM_le hk)), .v, .v, .s 0, .v] H2 kr fun gs3 w3 H3 => ?_
  exact rRe [.cell 2 23, .tmp 3] [0] (v := dvR (s.extract 0 (leftM s k m)) ((leftM s k m : Nat) : Int) 0) (v' := dvR (s.extract 0 (leftM s k m)) ((leftM s k m : Nat) : Int) 0) H3 rfl kr
theorem crash_ok (s : ByteArray) (k : Nat) (m : Int) (hs : s.size ≤ 200000) (hk : k ≤ s.size) : Fn Try.prog 8 #[dvV s ((k : Nat) : Int), .int .i64 m] (dvR (s.extract 0 (leftM s k m)) ((leftM s k m : Nat) : Int) 0) := by
  refine Fn.intro (c := codeOf Try.f8) [.cell 4 23, .tmp 5] 11 Try.func8 kr kr kr fun w => ?_
  have H0 := St.start w
  have hr : rightM s ((k : Nat) : Int) = true := rightM_iff.2 ⟨hs, by omega, by omega⟩
  refine rS [.b, .b, .a, .v] H0 kr fun gs1 w1 H1 => ?_
  refine rS [.l 0, .v, .cp (pre := two (gs1 0).b (dvO s ((k : Nat) : Int)) (gs1 1).b (inO m)) (checked_crash s ((k : Nat) : Int) (pB (gs1 0).b) (pB (gs1 1).b) (two (gs1 0).b (dvO s ((k : Nat) : Int)) (gs1 1).b (inO m)) _ _ _ (crash1_ok (gs1 0).b (gs1 1).b s k m hs hk) two_st hr) [(0, ((gs1 0).b, dvO s ((k : Nat) : Int))), (1, ((gs1 1).b, inO m))] (fun w' hb hd => ⟨hd.1, hd.2.1⟩), .v, .v, .s 2, .v] H1 kr fun gs2 w2 H2 => ?_
  exact rRe [.cell 4 23, .tmp 5] [2] (v := dvR (s.extract 0 (leftM s k m)) ((leftM s k m : Nat) : Int) 0) (v' := dvR (s.extract 0 (leftM s k m)) ((leftM s k m : Nat) : Int) 0) H2 rfl kr
theorem crash_not (s : ByteArray) (a m : Int) (hr : rightM s a = false) : Fn Try.prog 8 #[dvV s a, .int .i64 m] (dvR em 0 1) := by
  refine Fn.intro (c := codeOf Try.f8) [.cell 4 23, .tmp 5] 11 Try.func8 kr kr kr fun w => ?_
  have H0 := St.start w
  refine rS [.b, .b, .a, .v] H0 kr fun gs1 w1 H1 => ?_
  refine rS [.l 0, .v, .c (checked_no s a (.func (.func 17) #[] #[pB (gs1 0).b, pB (gs1 1).b]) hr), .v, .v, .s 2, .v] H1 kr fun gs2 w2 H2 => ?_
  exact rRe [.cell 4 23, .tmp 5] [2] (v := dvR em 0 1) (v' := dvR em 0 1) H2 rfl kr
/-! ### Cut -/
theorem cut1_ok (bn bd : Nat) (s : ByteArray) (k n : Nat) (hs : s.size ≤ 200000) (hn : n ≤ s.size) :
    FnP Try.prog 19 #[pB bn, pB bd] (two bn (inO ((n : Nat) : Int)) bd (dvO s ((k : Nat) : Int))) (dvR (s.extract 0 n) ((min k n : Nat) : Int) 0) := by
  refine FnP.intro (c := codeOf Try.f19) [.cell 2 23, .tmp 3] 22 Try.func19 kr kr kr fun w hP => ?_
  have H0 := St.start w
  obtain ⟨h1, h2⟩ := hP
  refine rS [.a, .v] H0 kr fun gs1 w1 H1 => ?_
  refine g_seq kr ?_
  refine rS [.f h1 (lt_of_heap h1), .e (v := .bool (decide (((n : Nat) : Int) < 0))) (v' := .bool false) (bool_eq (decide_eq_false (by omega))), .v, .f h1 (lt_of_heap h1), .v, .f h2 (lt_of_heap h2), .v, .e (v := .bool (decide (((n : Nat) : Int) > ((s.size : Nat) : Int)))) (v' := .bool false) (bool_eq (decide_eq_false (by omega))), .v] H1 kr fun gs2 w2 H2 => ?_
  refine g_cond_f kr kr ?_
  refine g_skip kr ?_
  show WP _ _ _ _ _ _
  refine dS [.f h2 (lt_of_heap h2), .f h1 (lt_of_heap h1), .c (first_fn s ((k : Nat) : Int) n (by omega) hn), .v, .f h2 (lt_of_heap h2), .f h1 (lt_of_heap h1), .e (v := .int .i64 (if ((n : Nat) : Int) < ((k : Nat) : Int) then ((n : Nat) : Int) else ((k : Nat) : Int))) (v' := iN (min k n)) (int_eq (minN _ _)), .v, .s 0, .v] H2 kr fun w3 H3 => ?_
  exact rRe [.cell 2 23, .tmp 3] [0] (v := dvR (s.extract 0 n) ((min k n : Nat) : Int) 0) (v' := dvR (s.extract 0 n) ((min k n : Nat) : Int) 0) H3 rfl kr
theorem cut1_no (bn bd : Nat) (s : ByteArray) (a n : Int) (hn : n < 0 ∨ n > ((s.size : Nat) : Int)) :
    FnP Try.prog 19 #[pB bn, pB bd] (two bn (inO n) bd (dvO s a)) (dvR em 0 1) := by
  refine FnP.intro (c := codeOf Try.f19) [.cell 2 23, .tmp 3] 22 Try.func19 kr kr kr fun w hP => ?_
  have H0 := St.start w
  obtain ⟨h1, h2⟩ := hP
  refine rS [.a, .v] H0 kr fun gs1 w1 H1 => ?_
  refine g_seq kr ?_
  by_cases hn0 : n < 0
  · refine rS [.f h1 (lt_of_heap h1), .e (v := .bool (decide (n < 0))) (v' := .bool true) (bool_eq (decide_eq_true hn0)), .v, .n, .n, .n, .n, .n, .v] H1 kr fun gs2 w2 H2 => ?_
    refine g_cond_t kr kr ?_
    refine rS [.v, .s 0, .v] H2 kr fun gs3 w3 H3 => ?_
    exact rRe [.cell 2 23, .tmp 3] [0] (v := dvR em 0 1) (v' := dvR em 0 1) H3 rfl kr
  · refine rS [.f h1 (lt_of_heap h1), .e (v := .bool (decide (n < 0))) (v' := .bool false) (bool_eq (decide_eq_false hn0)), .v, .f h1 (lt_of_heap h1), .v, .f h2 (lt_of_heap h2), .v, .e (v := .bool (decide (n > ((s.size : Nat) : Int)))) (v' := .bool true) (bool_eq (decide_eq_true (by omega))), .v] H1 kr fun gs2 w2 H2 => ?_
    refine g_cond_t kr kr ?_
    refine rS [.v, .s 0, .v] H2 kr fun gs3 w3 H3 => ?_
    exact rRe [.cell 2 23, .tmp 3] [0] (v := dvR em 0 1) (v' := dvR em 0 1) H3 rfl kr
theorem cut_of (s r : ByteArray) (a n q e : Int) (hr : rightM s a = true) (hc : ∀ bn bd, FnP Try.prog 19 #[pB bn, pB bd] (two bn (inO n) bd (dvO s a)) (dvR r q e)) : Fn Try.prog 9 #[dvV s a, .int .i64 n] (dvR r q e) := by
  refine Fn.intro (c := codeOf Try.f9) [.cell 4 23, .tmp 5] 11 Try.func9 kr kr kr fun w => ?_
  have H0 := St.start w
  refine rS [.b, .b, .a, .v] H0 kr fun gs1 w1 H1 => ?_
  refine rS [.l 0, .v, .cp (pre := two (gs1 1).b (inO n) (gs1 0).b (dvO s a)) (checked_cut s a (pB (gs1 1).b) (pB (gs1 0).b) (two (gs1 1).b (inO n) (gs1 0).b (dvO s a)) r q e (hc (gs1 1).b (gs1 0).b) two_st hr) [(1, ((gs1 1).b, inO n)), (0, ((gs1 0).b, dvO s a))] (fun w' hb hd => ⟨hd.1, hd.2.1⟩), .v, .v, .s 2, .v] H1 kr fun gs2 w2 H2 => ?_
  exact rRe [.cell 4 23, .tmp 5] [2] (v := dvR r q e) (v' := dvR r q e) H2 rfl kr
theorem cut_ok (s : ByteArray) (k n : Nat) (hs : s.size ≤ 200000) (hk : k ≤ s.size) (hn : n ≤ s.size) : Fn Try.prog 9 #[dvV s ((k : Nat) : Int), iN n] (dvR (s.extract 0 n) ((min k n : Nat) : Int) 0) :=
  cut_of s _ _ _ _ _ (rightM_iff.2 ⟨hs, by omega, by omega⟩) fun bn bd => cut1_ok bn bd s k n hs hn
theorem cut_no (s : ByteArray) (a n : Int) (hr : rightM s a = true) (hn : n < 0 ∨ n > ((s.size : Nat) : Int)) : Fn Try.prog 9 #[dvV s a, .int .i64 n] (dvR em 0 1) :=
  cut_of s _ _ _ _ _ hr fun bn bd => cut1_no bn bd s a n hn
theorem cut_not (s : ByteArray) (a n : Int) (hr : rightM s a = false) : Fn Try.prog 9 #[dvV s a, .int .i64 n] (dvR em 0 1) := by
  refine Fn.intro (c := codeOf Try.f9) [.cell 4 23, .tmp 5] 11 Try.func9 kr kr kr fun w => ?_
  have H0 := St.start w
  refine rS [.b, .b, .a, .v] H0 kr fun gs1 w1 H1 => ?_
  refine rS [.l 0, .v, .c (checked_no s a (.func (.func 19) #[] #[pB (gs1 1).b, pB (gs1 0).b]) hr), .v, .v, .s 2, .v] H1 kr fun gs2 w2 H2 => ?_
  exact rRe [.cell 4 23, .tmp 5] [2] (v := dvR em 0 1) (v' := dvR em 0 1) H2 rfl kr
end Go.Proofs.Ytdlbhadadijoiaa

namespace Go.Proofs.Ytdlbhadadijoiaa
open Go Go.RowKit
set_option linter.unusedVariables false
theorem crashR_fn (s : ByteArray) (k : Nat) (m : Int) (hs : s.size ≤ 200000) (hk : k ≤ s.size) : Fn Try.prog 13 #[dvV s ((k : Nat) : Int), .int .i64 m] (dvV (s.extract 0 (leftM s k m)) ((leftM s k m : Nat) : Int)) := by
  refine Fn.intro (c := codeOf Try.f13) [.cell 4 23] 29 Try.func13 kr kr kr fun w => ?_
  have H0 := St.start w
  refine rS [.b, .a] H0 kr fun gs1 w1 H1 => ?_
  refine rS [.v, .l 0, .v] H1 kr fun gs2 w2 H2 => ?_
  refine g_seq kr ?_
  refine rS [.v] H2 kr fun gs3 w3 H3 => ?_
  refine g_block 0 kr ?_
  have H4 : St w.heap.size w w3 [((gs1 0).b, dvO s ((k : Nat) : Int)), ((gs1 1).b, dvO em 0)] := H3.as kr
  refine g_loop kr (fun mz ρ ww => ∃ i : Nat, m.toNat - i = mz ∧ i ≤ m.toNat ∧ k + i ≤ s.size ∧ St w.heap.size w ww [((gs1 0).b, dvO s ((k : Nat) : Int)), ((gs1 1).b, dvO em 0)] ∧ Is [(1, .int .i64 m), (2, pB (gs1 0).b), (4, pB (gs1 1).b), (5, iN (k + i)), (6, iN i)] ρ) (m.toNat - 0) ⟨0, rfl, Nat.zero_le _, by omega, H4, (Is.of ⟨kr, kr, kr, kr, kr, trivial⟩)⟩ ?_
  clear H0 H1 H2 H3 H4
  rintro _ _ w4 ⟨i, rfl, him, hik, H4, _, rfl⟩
  refine g_seq kr ?_
  refine g_seq kr ?_
  by_cases hi : i < m.toNat
  · by_cases hj : k + i < s.size
    · refine rL [.v, .v, .e (v := .bool (decide (((i : Nat) : Int) < m))) (v' := .bool true) (bool_eq (decide_eq_true (by omega))), .v, .v, .v, .l 0, .v, .e (v := .bool (decide (((k + i : Nat) : Int) < ((s.size : Nat) : Int)))) (v' := .bool true) (bool_eq (decide_eq_true (by omega))), .v] H4 kr fun gs4 w5 H5 => ?_
      show WP _ _ _ _ _ _
      refine g_cond_t kr kr ?_
      refine g_skip kr ?_
      show WP _ _ _ _ _ _
      refine g_seq kr ?_
      refine g_block 1 kr ?_
      refine rL [.v, .e (v := .int .i64 (IntKind.i64.wrap (((k + i : Nat) : Int) + 1))) (v' := iN (k + (i + 1))) (int_eq (wrapAdd_i64 (a := k + i) (b := 1) (by omega))), .v] H5 kr fun gs5 w6 H6 => ?_
      show WP _ _ _ _ _ _
      refine rL [.v, .e (v := .int .i64 (IntKind.i64.wrap (((i : Nat) : Int) + 1))) (v' := iN (i + 1)) (int_eq (wrapAdd_i64 (a := i) (b := 1) (by omega))), .v] H6 kr fun gs6 w7 H7 => ?_
      show ∃ m, _ ∧ _
      exact ⟨_, (by omega), i + 1, rfl, hi, hj, H7.as kr, (Is.of ⟨kr, kr, kr, kr, kr, trivial⟩)⟩
    · refine rL [.v, .v, .e (v := .bool (decide (((i : Nat) : Int) < m))) (v' := .bool true) (bool_eq (decide_eq_true (by omega))), .v, .v, .v, .l 0, .v, .e (v := .bool (decide (((k + i : Nat) : Int) < ((s.size : Nat) : Int)))) (v' := .bool false) (bool_eq (decide_eq_false (by omega))), .v] H4 kr fun gs4 w5 H5 => ?_
      show WP _ _ _ _ _ _
      refine g_cond_f kr kr ?_
      refine g_exit 0 kr ?_
      show WP _ _ _ _ _ _
      have hl : leftM s k m = k + i := by unfold leftM; omega
      refine rS [.v, .l 0, .v, .o (ins := [((.tmp 24), .string s), ((.tmp 25), iN (k + i))]) (v := .string (s.extract 0 (k + i))) (fun ρ o w ho hi => scut_run (t := 9) (kd := .i64) kr (x := (.tmp 24)) (y := (.tmp 25)) s (k + i) ho hi.1 hi.2.1 hik w), .v, .v, .s 1] H5 kr fun gs5 w6 H6 => ?_
      exact rRe [.cell 4 23] [1] (v := dvV (s.extract 0 (k + i)) ((k + i : Nat) : Int)) (v' := dvV (s.extract 0 (leftM s k m)) ((leftM s k m : Nat) : Int)) H6 (by rw [hl]) kr
  · refine rL [.v, .v, .e (v := .bool (decide (((i : Nat) : Int) < m))) (v' := .bool false) (bool_eq (decide_eq_false (by omega))), .v, .n, .n, .n, .n, .n, .v] H4 kr fun gs4 w5 H5 => ?_
    show WP _ _ _ _ _ _
    refine g_cond_f kr kr ?_
    refine g_exit 0 kr ?_
    show WP _ _ _ _ _ _
    have hl : leftM s k m = k + i := by unfold leftM; omega
    refine rS [.v, .l 0, .v, .o (ins := [((.tmp 24), .string s), ((.tmp 25), iN (k + i))]) (v := .string (s.extract 0 (k + i))) (fun ρ o w ho hi => scut_run (t := 9) (kd := .i64) kr (x := (.tmp 24)) (y := (.tmp 25)) s (k + i) ho hi.1 hi.2.1 hik w), .v, .v, .s 1] H5 kr fun gs5 w6 H6 => ?_
    exact rRe [.cell 4 23] [1] (v := dvV (s.extract 0 (k + i)) ((k + i : Nat) : Int)) (v' := dvV (s.extract 0 (leftM s k m)) ((leftM s k m : Nat) : Int)) H6 (by rw [hl]) kr
abbrev ab : ByteArray := ⟨#[97, 98]⟩
theorem append_ab : Fn Try.prog 6 #[dvV em 0, .string ab] (dvR ab 0 0) := by
  have h := append_ok em ab 0 (by decide) (by decide)
  rwa [show em ++ ab = ab from tl_inj (by rw [tl_add]; rfl)] at h
theorem alive_fn : Fn Try.prog 12 #[] (.bool true) := by
  refine Fn.intro (c := codeOf Try.f12) [.tmp 0] 24 Try.func12 kr kr kr fun w => ?_
  have H0 := St.start w
  refine rS [.v] H0 kr fun gs1 w1 H1 => ?_
  refine rS [.v, .c append_ab, .v, .v, .v, .a, .s 0, .v] H1 kr fun gs2 w2 H2 => ?_
  refine rS [.v, .v, .v, .v, .l 0, .e (v := .bool (ab.toList == ab.toList)) (v' := .bool true) (bool_eq (str_self ab)), .v, .v, .v, .l 0, .v, .v, .v, .l 0, .c (right_fn ab 0), .v, .v] H2 kr fun gs3 w3 H3 => ?_
  exact rRe [.tmp 0] [] (v := .bool (rightM ab 0)) (v' := .bool true) H3 (bool_eq (by decide)) kr
theorem eqF_cons {P : Program} {w : World} {d : Nat} {xs ys : Array Value} {f : Field} {fs : List Field} {a b : Value} {r : Bool} (hn : f.name ≠ "_") (ha : (part f.type xs f.offset).run P w = .ok a w) (hb : (part f.type ys f.offset).run P w = .ok b w) (hr : (Op.equalIn d f.type a b).run P w = .ok r w) {q : Bool} (hq : (Op.eqFields d xs ys fs).run P w = .ok q w) :
    (Op.eqFields d xs ys (f :: fs)).run P w = .ok (r && q) w := by
  unfold Op.eqFields
  rw [if_pos hn]
  simp only [Sem.run_bind, ha, hb, hr, Result.andThen_ok]
  cases r
  · simp
  · simpa using hq
theorem dv_eq (s : ByteArray) (a : Int) (w : World) : (Op.equalIn 10000 23 (dvV s a) (dvV s a)).run Try.prog w = .ok true w := by
  rw [run_equalIn_agg w 9999 23 _ _ kr kr]
  rw [show (Try.prog.fieldsOf 23).toList = [{ name := "Bytes", type := 9, offset := 0, embedded := false, tag := "", pkgPath := "", byteOffset := 0 }, { name := "Sure", type := 3, offset := 1, embedded := false, tag := "", pkgPath := "", byteOffset := 16 }] by kernel_rfl]
  have e4 : (Op.eqFields 9999 #[.string s, .int .i64 a] #[.string s, .int .i64 a] []).run Try.prog w = .ok true w := by simp [Op.eqFields]
  have h2 := eqF_cons (P := Try.prog) (w := w) (d := 9999) (xs := #[.string s, .int .i64 a]) (ys := #[.string s, .int .i64 a]) (f := { name := "Sure", type := 3, offset := 1, embedded := false, tag := "", pkgPath := "", byteOffset := 16 }) (a := .int .i64 a) (b := .int .i64 a) (by decide) (run_part_plain w kr rfl) (run_part_plain w kr rfl) (run_equalIn_int w 9998 3 .i64 .i64 _ _ Try.underlying3) e4
  have h3 := eqF_cons (P := Try.prog) (w := w) (d := 9999) (xs := #[.string s, .int .i64 a]) (ys := #[.string s, .int .i64 a]) (f := { name := "Bytes", type := 9, offset := 0, embedded := false, tag := "", pkgPath := "", byteOffset := 0 }) (a := .string s) (b := .string s) (by decide) (run_part_plain w kr rfl) (run_part_plain w kr rfl) (run_equalIn_string w 9998 _ _ _ Try.underlying9) h2
  rw [h3, str_self, beq_self_eq_true]; rfl
theorem dv_eql {ρ : Env} (s : ByteArray) (a : Int) {x y : Operand} {o : Oper} (w : World) (ho : o.op = .binOp .eql 23 x y 23) (hx : ev ρ x = dvV s a) (hy : ev ρ y = dvV s a) :
    (execOp (ev ρ) o).run Try.prog w = .ok (.value (.bool true)) w := by
  have q := dv_eq s a w
  have hg := fun X Y => run_eqGuard_agg (P := Try.prog) w .eql 23 x y X Y kr
  have hn := fun X Y => run_eql_struct (P := Try.prog) w 23 X Y
  unfold dvV at hx hy q
  generalize (#[.string s, .int .i64 a] : Array Value) = X at q hx hy
  unfold execOp
  simp only [ho, hx, hy, Sem.run_bind, hg, hn, q, Result.andThen_ok, Sem.run_pure]
theorem dv_neq {ρ : Env} (s : ByteArray) (a : Int) {x y : Operand} {o : Oper} (w : World) (ho : o.op = .binOp .neq 23 x y 23) (hx : ev ρ x = dvV s a) (hy : ev ρ y = dvV s a) :
    (execOp (ev ρ) o).run Try.prog w = .ok (.value (.bool false)) w := by
  have q := dv_eq s a w
  have hg := fun X Y => run_eqGuard_agg (P := Try.prog) w .neq 23 x y X Y kr
  have hn := fun X Y => run_neq_struct (P := Try.prog) w 23 X Y
  unfold dvV at hx hy q
  generalize (#[.string s, .int .i64 a] : Array Value) = X at q hx hy
  unfold execOp
  simp only [ho, hx, hy, Sem.run_bind, hg, hn, q, Result.andThen_ok, Sem.run_pure, Bool.not_true]
end Go.Proofs.Ytdlbhadadijoiaa

namespace Go.Proofs.Ytdlbhadadijoiaa
open Go Go.ChangeShapes Go.WideShapes Go.ChangeAt Go.RowKit
set_option linter.unusedVariables false
theorem cellsDv : Try.prog.cellsOf 23 = 2 := kr
theorem cellsStD : Try.prog.cellsOf 9 = 1 := kr
theorem cellsInD : Try.prog.cellsOf 3 = 1 := kr
theorem openDev {H : Type} {enc : TypeId × Value → H} {W : World} {base b0 : Nat} {v : Value} {sp : Nat → Bool} {held : Bool} {d : DataW H} {p : List MemPlace}
    (hv : Value.okWide Try.prog W .any base 23 v) (h : DataW.Trod enc Try.prog W b0 sp held 23 v d p) : ∃ (s : ByteArray) (a : Int), v = dvV s a ∧ s.size ≤ maxLen ∧ (Lit.int .i64 a).wf = true := by
  obtain ⟨cs, rfl, hsz, _⟩ : ∃ cs, v = .agg cs ∧ cs.size = Try.prog.cellsOf 23 ∧ Row.okWide Try.prog W .any base 23 cs := by
    simpa [Value.okWide, Try.underlying23] using hv
  rw [cellsDv] at hsz
  obtain ⟨l⟩ := cs
  obtain ⟨c0, c1, rfl⟩ : ∃ c0 c1, l = [c0, c1] := by
    match l, hsz with
    | [c0, c1], _ => exact ⟨c0, c1, rfl⟩
  obtain ⟨fuel, hf⟩ := h
  obtain ⟨xs, m, rfl, hxx, hl, hlen, hff⟩ := DataW.trod_struct Try.underlying23 hf
  obtain ⟨y0, y1, rfl⟩ : ∃ y0 y1, xs = [y0, y1] := by
    match xs, hlen with
    | [y0, y1], _ => exact ⟨y0, y1, rfl⟩
  have g0 := hff 0 _ rfl
  have g1 := hff 1 _ rfl
  change DataW.trod enc Try.prog W b0 sp held m 9 (([c0, c1].drop 0).take (Try.prog.cellsOf 9)) = some y0 at g0
  change DataW.trod enc Try.prog W b0 sp held m 3 (([c0, c1].drop 1).take (Try.prog.cellsOf 3)) = some y1 at g1
  rw [cellsStD] at g0
  rw [cellsInD] at g1
  obtain ⟨s, e0, rfl, hs⟩ := DataW.trod_string Try.underlying9 (show DataW.trod enc Try.prog W b0 sp held m 9 [c0] = some y0 from g0)
  obtain ⟨a, e1, e1', hw⟩ := DataW.trod_int Try.underlying3 (show DataW.trod enc Try.prog W b0 sp held m 3 [c1] = some y1 from g1)
  obtain rfl : c0 = .string s := by simpa using e0
  obtain rfl : c1 = .int .i64 a := by simpa using e1
  exact ⟨s, a, rfl, hs, hw⟩
end Go.Proofs.Ytdlbhadadijoiaa

namespace Go.Proofs.Ytdlbhadadijoiaa
open Go Go.RowKit
set_option linter.unusedVariables false
theorem ext_sz (s : ByteArray) (n : Nat) : (s.extract 0 n).size = min n s.size := by rw [ByteArray.size_extract]; omega
theorem right_nat {s : ByteArray} {a : Int} (h : rightM s a = true) : ∃ k : Nat, a = (k : Int) ∧ k ≤ s.size := ⟨a.toNat, by have := rightM_iff.1 h; omega, by have := rightM_iff.1 h; omega⟩
end Go.Proofs.Ytdlbhadadijoiaa

namespace Go.Proofs.Ytdlbhadadijoiaa
open Go Go.RowKit
set_option linter.unusedVariables false
end Go.Proofs.Ytdlbhadadijoiaa

namespace Go.Proofs.Ytdlbhadadijoiaa
open Go Go.RowKit
set_option linter.unusedVariables false
set_option maxRecDepth 100000 in
set_option maxHeartbeats 2000000 in
theorem deviceCalls_v (s0 : ByteArray) (a : Int) (u0 : ByteArray) (n : Int) : Fn Try.prog 3 #[dvV s0 a, .string u0, .int .i64 n] (.bool true) := by
  refine Fn.intro (c := codeOf Try.f3) [.tmp 6] 187 Try.func3 kr kr kr fun w => ?_
  have H0 := St.start w
  obtain ⟨S, hS⟩ : ∃ S, s0.extract 0 (min s0.size 200010) = S := ⟨_, rfl⟩
  obtain ⟨U, hU⟩ : ∃ U, u0.extract 0 (min u0.size 300) = U := ⟨_, rfl⟩
  have zS : S.size ≤ 200010 := by rw [← hS, ext_sz]; omega
  have zU : U.size ≤ 300 := by rw [← hU, ext_sz]; omega
  refine rS [.b, .v] H0 kr fun gs1 w1 H1 => ?_
  refine dS [.v, .l 0, .v, .l 0, .v, .e (v := .int .i64 (if (200010 : Int) < ((s0.size : Nat) : Int) then (200010 : Int) else ((s0.size : Nat) : Int))) (v' := iN (min s0.size 200010)) (int_eq (by split <;> omega)), .oe (ins := [((.tmp 17), .string s0), ((.tmp 21), iN (min s0.size 200010))]) (v := .string (s0.extract 0 (min s0.size 200010))) (v' := .string S) (fun ρ o w ho hi => scut_run (t := 9) (kd := .i64) kr (x := (.tmp 17)) (y := (.tmp 21)) s0 (min s0.size 200010) ho hi.1 hi.2.1 (Nat.min_le_left _ _) w) (congrArg Value.string hS), .v, .v, .v, .e (v := .int .i64 (if (300 : Int) < ((u0.size : Nat) : Int) then (300 : Int) else ((u0.size : Nat) : Int))) (v' := iN (min u0.size 300)) (int_eq (by split <;> omega)), .oe (ins := [((.tmp 23), .string u0), ((.tmp 26), iN (min u0.size 300))]) (v := .string (u0.extract 0 (min u0.size 300))) (v' := .string U) (fun ρ o w ho hi => scut_run (t := 9) (kd := .i64) kr (x := (.tmp 23)) (y := (.tmp 26)) u0 (min u0.size 300) ho hi.1 hi.2.1 (Nat.min_le_left _ _) w) (congrArg Value.string hU), .v, .s 0, .v] H1 kr fun w2 H2 => ?_
  cases hr : rightM S a with
  | false =>
    refine rS [.l 0, .v, .c (append_not S U a hr), .v, .v, .v, .a, .s 1, .v] H2 kr fun gs3 w3 H3 => ?_
    refine rS [.l 0, .c (sync_not S a hr), .v, .v, .v, .a, .s 2, .v] H3 kr fun gs4 w4 H4 => ?_
    refine rS [.l 0, .v, .c (crash_not S a n hr), .v, .v, .v, .a, .s 3, .v] H4 kr fun gs5 w5 H5 => ?_
    refine rS [.l 0, .v, .c (cut_not S a n hr), .v, .v, .v, .a, .s 4, .v] H5 kr fun gs6 w6 H6 => ?_
    refine rS [.v, .a, .s 5] H6 kr fun gs7 w7 H7 => ?_
    refine g_seq kr ?_
    refine dS [.l 0, .c (right_fn S a), .l 0, .c (rightR_fn S a), .e (v := .bool (!(rightM S a == rightM S a))) (v' := .bool false) (bool_eq (by rw [beq_self_eq_true]; rfl)), .v, .c alive_fn, .v, .v] H7 kr fun w8 H8 => ?_
    refine g_cond_f kr kr ?_
    refine g_skip kr ?_
    show WP _ _ _ _ _ _
    refine g_seq kr ?_
    refine rS [.l 0, .c (rightR_fn S a), .e (v := .bool (!(rightM S a))) (v' := .bool true) (bool_eq (by rw [hr]; rfl))] H8 kr fun gs9 w9 H9 => ?_
    refine g_cond_t kr kr ?_
    refine rS [.v, .v, .v, .v, .v, .v, .v, .v, .v, .v, .v, .v, .v, .v, .v, .v, .v, .v, .l 1, .l 5, .o (ins := [((.tmp 83), dvV em 0), ((.tmp 84), dvV em 0)]) (v := .bool true) (fun ρ o w ho hi => dv_eql (x := (.tmp 83)) (y := (.tmp 84)) em 0 w ho hi.1 hi.2.1), .v, .v, .l 2, .l 5, .o (ins := [((.tmp 88), dvV em 0), ((.tmp 89), dvV em 0)]) (v := .bool true) (fun ρ o w ho hi => dv_eql (x := (.tmp 88)) (y := (.tmp 89)) em 0 w ho hi.1 hi.2.1), .v, .v, .l 3, .l 5, .o (ins := [((.tmp 93), dvV em 0), ((.tmp 94), dvV em 0)]) (v := .bool true) (fun ρ o w ho hi => dv_eql (x := (.tmp 93)) (y := (.tmp 94)) em 0 w ho hi.1 hi.2.1), .v, .v, .l 4, .l 5, .o (ins := [((.tmp 98), dvV em 0), ((.tmp 99), dvV em 0)]) (v := .bool true) (fun ρ o w ho hi => dv_eql (x := (.tmp 98)) (y := (.tmp 99)) em 0 w ho hi.1 hi.2.1), .v, .v] H9 kr fun gs10 w10 H10 => ?_
    exact rRe [.tmp 6] [] (v := .bool true) (v' := .bool true) H10 rfl kr
  | true =>
    obtain ⟨k, rfl, hk⟩ := right_nat hr
    have zr := (rightM_iff.1 hr).1
    by_cases hn : n < 0
    · skip
      by_cases hl : S.size + U.size ≤ 200000
      · skip
        refine rS [.l 0, .v, .c (append_ok S U ((k : Nat) : Int) hr hl), .v, .v, .v, .a, .s 1, .v] H2 kr fun gs3 w3 H3 => ?_
        refine rS [.l 0, .c (sync_ok S ((k : Nat) : Int) hr), .v, .v, .v, .a, .s 2, .v] H3 kr fun gs4 w4 H4 => ?_
        refine rS [.l 0, .v, .c (crash_ok S k n zr hk), .v, .v, .v, .a, .s 3, .v] H4 kr fun gs5 w5 H5 => ?_
        refine rS [.l 0, .v, .c (cut_no S ((k : Nat) : Int) n hr (.inl hn)), .v, .v, .v, .a, .s 4, .v] H5 kr fun gs6 w6 H6 => ?_
        refine rS [.v, .a, .s 5] H6 kr fun gs7 w7 H7 => ?_
        refine g_seq kr ?_
        refine dS [.l 0, .c (right_fn S ((k : Nat) : Int)), .l 0, .c (rightR_fn S ((k : Nat) : Int)), .e (v := .bool (!(rightM S ((k : Nat) : Int) == rightM S ((k : Nat) : Int)))) (v' := .bool false) (bool_eq (by rw [beq_self_eq_true]; rfl)), .v, .c alive_fn, .v, .v] H7 kr fun w8 H8 => ?_
        refine g_cond_f kr kr ?_
        refine g_skip kr ?_
        show WP _ _ _ _ _ _
        refine g_seq kr ?_
        refine rS [.l 0, .c (rightR_fn S ((k : Nat) : Int)), .e (v := .bool (!(rightM S ((k : Nat) : Int)))) (v' := .bool false) (bool_eq (by rw [hr]; rfl))] H8 kr fun gs9 w9 H9 => ?_
        refine g_cond_f kr kr ?_
        refine g_skip kr ?_
        show WP _ _ _ _ _ _
        refine g_seq kr ?_
        refine rS [.v, .l 0, .v, .v, .v, .e (v := .int .i64 (IntKind.i64.wrap (((S.size : Nat) : Int) + ((U.size : Nat) : Int)))) (v' := iN (S.size + U.size)) (int_eq (wrapAdd_i64 (by omega))), .e (v := .bool (decide (((S.size + U.size : Nat) : Int) > 200000))) (v' := .bool false) (bool_eq (decide_eq_false (by omega)))] H9 kr fun gs10 w10 H10 => ?_
        refine g_cond_f kr kr ?_
        refine rS [.v, .v, .v, .l 1, .v, .l 0, .v, .o (ins := [((.tmp 121), .string S), ((.tmp 122), .string U)]) (v := .string (S ++ U)) (fun ρ o w ho hi => sadd_run (t := 9) (t' := 9) (x := (.tmp 121)) (y := (.tmp 122)) S U w ho hi.1 hi.2.1 (by omega)), .v, .l 0, .v, .o (ins := [((.tmp 119), dvV (S ++ U) ((k : Nat) : Int)), ((.tmp 126), dvV (S ++ U) ((k : Nat) : Int))]) (v := .bool false) (fun ρ o w ho hi => dv_neq (x := (.tmp 119)) (y := (.tmp 126)) (S ++ U) ((k : Nat) : Int) w ho hi.1 hi.2.1), .v] H10 kr fun gs11 w11 H11 => ?_
        refine g_cond_f kr kr ?_
        refine g_skip kr ?_
        show WP _ _ _ _ _ _
        refine g_seq kr ?_
        refine rS [.v, .e (v := .bool (decide (n < 0))) (v' := .bool true) (bool_eq (decide_eq_true hn)), .v, .n, .n, .n, .n, .n, .v] H11 kr fun gs12 w12 H12 => ?_
        refine g_cond_t kr kr ?_
        refine rS [.v, .v, .v, .l 4, .l 5, .o (ins := [((.tmp 141), dvV em 0), ((.tmp 142), dvV em 0)]) (v := .bool false) (fun ρ o w ho hi => dv_neq (x := (.tmp 141)) (y := (.tmp 142)) em 0 w ho hi.1 hi.2.1), .v] H12 kr fun gs13 w13 H13 => ?_
        refine g_cond_f kr kr ?_
        refine g_skip kr ?_
        show WP _ _ _ _ _ _
        have h1000 : ¬ n > 1000 := by omega
        refine dS [.v, .v, .v, .l 2, .v, .l 0, .v, .l 0, .v, .v, .o (ins := [((.tmp 163), dvV S ((S.size : Nat) : Int)), ((.tmp 169), dvV S ((S.size : Nat) : Int))]) (v := .bool true) (fun ρ o w ho hi => dv_eql (x := (.tmp 163)) (y := (.tmp 169)) S ((S.size : Nat) : Int) w ho hi.1 hi.2.1), .v, .v, .v, .v, .v, .v, .v, .e (v := .bool (decide (n > 1000))) (v' := .bool false) (bool_eq (decide_eq_false h1000)), .v, .l 3, .l 0, .v, .c (crashR_fn S k n zr hk), .o (ins := [((.tmp 180), dvV (S.extract 0 (leftM S k n)) (((leftM S k n) : Nat) : Int)), ((.tmp 183), dvV (S.extract 0 (leftM S k n)) (((leftM S k n) : Nat) : Int))]) (v := .bool true) (fun ρ o w ho hi => dv_eql (x := (.tmp 180)) (y := (.tmp 183)) (S.extract 0 (leftM S k n)) (((leftM S k n) : Nat) : Int) w ho hi.1 hi.2.1), .v, .v, .v] H13 kr fun w14 H14 => ?_
        exact rRe [.tmp 6] [] (v := .bool true) (v' := .bool true) H14 rfl kr
      · skip
        refine rS [.l 0, .v, .c (append_long S U ((k : Nat) : Int) hr hl), .v, .v, .v, .a, .s 1, .v] H2 kr fun gs3 w3 H3 => ?_
        refine rS [.l 0, .c (sync_ok S ((k : Nat) : Int) hr), .v, .v, .v, .a, .s 2, .v] H3 kr fun gs4 w4 H4 => ?_
        refine rS [.l 0, .v, .c (crash_ok S k n zr hk), .v, .v, .v, .a, .s 3, .v] H4 kr fun gs5 w5 H5 => ?_
        refine rS [.l 0, .v, .c (cut_no S ((k : Nat) : Int) n hr (.inl hn)), .v, .v, .v, .a, .s 4, .v] H5 kr fun gs6 w6 H6 => ?_
        refine rS [.v, .a, .s 5] H6 kr fun gs7 w7 H7 => ?_
        refine g_seq kr ?_
        refine dS [.l 0, .c (right_fn S ((k : Nat) : Int)), .l 0, .c (rightR_fn S ((k : Nat) : Int)), .e (v := .bool (!(rightM S ((k : Nat) : Int) == rightM S ((k : Nat) : Int)))) (v' := .bool false) (bool_eq (by rw [beq_self_eq_true]; rfl)), .v, .c alive_fn, .v, .v] H7 kr fun w8 H8 => ?_
        refine g_cond_f kr kr ?_
        refine g_skip kr ?_
        show WP _ _ _ _ _ _
        refine g_seq kr ?_
        refine rS [.l 0, .c (rightR_fn S ((k : Nat) : Int)), .e (v := .bool (!(rightM S ((k : Nat) : Int)))) (v' := .bool false) (bool_eq (by rw [hr]; rfl))] H8 kr fun gs9 w9 H9 => ?_
        refine g_cond_f kr kr ?_
        refine g_skip kr ?_
        show WP _ _ _ _ _ _
        refine g_seq kr ?_
        refine rS [.v, .l 0, .v, .v, .v, .e (v := .int .i64 (IntKind.i64.wrap (((S.size : Nat) : Int) + ((U.size : Nat) : Int)))) (v' := iN (S.size + U.size)) (int_eq (wrapAdd_i64 (by omega))), .e (v := .bool (decide (((S.size + U.size : Nat) : Int) > 200000))) (v' := .bool true) (bool_eq (decide_eq_true (by omega)))] H9 kr fun gs10 w10 H10 => ?_
        refine g_cond_t kr kr ?_
        refine rS [.v, .v, .v, .l 1, .l 5, .o (ins := [((.tmp 112), dvV em 0), ((.tmp 113), dvV em 0)]) (v := .bool false) (fun ρ o w ho hi => dv_neq (x := (.tmp 112)) (y := (.tmp 113)) em 0 w ho hi.1 hi.2.1), .v] H10 kr fun gs11 w11 H11 => ?_
        refine g_cond_f kr kr ?_
        refine g_skip kr ?_
        show WP _ _ _ _ _ _
        refine g_seq kr ?_
        refine rS [.v, .e (v := .bool (decide (n < 0))) (v' := .bool true) (bool_eq (decide_eq_true hn)), .v, .n, .n, .n, .n, .n, .v] H11 kr fun gs12 w12 H12 => ?_
        refine g_cond_t kr kr ?_
        refine rS [.v, .v, .v, .l 4, .l 5, .o (ins := [((.tmp 141), dvV em 0), ((.tmp 142), dvV em 0)]) (v := .bool false) (fun ρ o w ho hi => dv_neq (x := (.tmp 141)) (y := (.tmp 142)) em 0 w ho hi.1 hi.2.1), .v] H12 kr fun gs13 w13 H13 => ?_
        refine g_cond_f kr kr ?_
        refine g_skip kr ?_
        show WP _ _ _ _ _ _
        have h1000 : ¬ n > 1000 := by omega
        refine dS [.v, .v, .v, .l 2, .v, .l 0, .v, .l 0, .v, .v, .o (ins := [((.tmp 163), dvV S ((S.size : Nat) : Int)), ((.tmp 169), dvV S ((S.size : Nat) : Int))]) (v := .bool true) (fun ρ o w ho hi => dv_eql (x := (.tmp 163)) (y := (.tmp 169)) S ((S.size : Nat) : Int) w ho hi.1 hi.2.1), .v, .v, .v, .v, .v, .v, .v, .e (v := .bool (decide (n > 1000))) (v' := .bool false) (bool_eq (decide_eq_false h1000)), .v, .l 3, .l 0, .v, .c (crashR_fn S k n zr hk), .o (ins := [((.tmp 180), dvV (S.extract 0 (leftM S k n)) (((leftM S k n) : Nat) : Int)), ((.tmp 183), dvV (S.extract 0 (leftM S k n)) (((leftM S k n) : Nat) : Int))]) (v := .bool true) (fun ρ o w ho hi => dv_eql (x := (.tmp 180)) (y := (.tmp 183)) (S.extract 0 (leftM S k n)) (((leftM S k n) : Nat) : Int) w ho hi.1 hi.2.1), .v, .v, .v] H13 kr fun w14 H14 => ?_
        exact rRe [.tmp 6] [] (v := .bool true) (v' := .bool true) H14 rfl kr
    · skip
      by_cases hb : n > ((S.size : Nat) : Int)
      · skip
        by_cases hl : S.size + U.size ≤ 200000
        · skip
          refine rS [.l 0, .v, .c (append_ok S U ((k : Nat) : Int) hr hl), .v, .v, .v, .a, .s 1, .v] H2 kr fun gs3 w3 H3 => ?_
          refine rS [.l 0, .c (sync_ok S ((k : Nat) : Int) hr), .v, .v, .v, .a, .s 2, .v] H3 kr fun gs4 w4 H4 => ?_
          refine rS [.l 0, .v, .c (crash_ok S k n zr hk), .v, .v, .v, .a, .s 3, .v] H4 kr fun gs5 w5 H5 => ?_
          refine rS [.l 0, .v, .c (cut_no S ((k : Nat) : Int) n hr (.inr hb)), .v, .v, .v, .a, .s 4, .v] H5 kr fun gs6 w6 H6 => ?_
          refine rS [.v, .a, .s 5] H6 kr fun gs7 w7 H7 => ?_
          refine g_seq kr ?_
          refine dS [.l 0, .c (right_fn S ((k : Nat) : Int)), .l 0, .c (rightR_fn S ((k : Nat) : Int)), .e (v := .bool (!(rightM S ((k : Nat) : Int) == rightM S ((k : Nat) : Int)))) (v' := .bool false) (bool_eq (by rw [beq_self_eq_true]; rfl)), .v, .c alive_fn, .v, .v] H7 kr fun w8 H8 => ?_
          refine g_cond_f kr kr ?_
          refine g_skip kr ?_
          show WP _ _ _ _ _ _
          refine g_seq kr ?_
          refine rS [.l 0, .c (rightR_fn S ((k : Nat) : Int)), .e (v := .bool (!(rightM S ((k : Nat) : Int)))) (v' := .bool false) (bool_eq (by rw [hr]; rfl))] H8 kr fun gs9 w9 H9 => ?_
          refine g_cond_f kr kr ?_
          refine g_skip kr ?_
          show WP _ _ _ _ _ _
          refine g_seq kr ?_
          refine rS [.v, .l 0, .v, .v, .v, .e (v := .int .i64 (IntKind.i64.wrap (((S.size : Nat) : Int) + ((U.size : Nat) : Int)))) (v' := iN (S.size + U.size)) (int_eq (wrapAdd_i64 (by omega))), .e (v := .bool (decide (((S.size + U.size : Nat) : Int) > 200000))) (v' := .bool false) (bool_eq (decide_eq_false (by omega)))] H9 kr fun gs10 w10 H10 => ?_
          refine g_cond_f kr kr ?_
          refine rS [.v, .v, .v, .l 1, .v, .l 0, .v, .o (ins := [((.tmp 121), .string S), ((.tmp 122), .string U)]) (v := .string (S ++ U)) (fun ρ o w ho hi => sadd_run (t := 9) (t' := 9) (x := (.tmp 121)) (y := (.tmp 122)) S U w ho hi.1 hi.2.1 (by omega)), .v, .l 0, .v, .o (ins := [((.tmp 119), dvV (S ++ U) ((k : Nat) : Int)), ((.tmp 126), dvV (S ++ U) ((k : Nat) : Int))]) (v := .bool false) (fun ρ o w ho hi => dv_neq (x := (.tmp 119)) (y := (.tmp 126)) (S ++ U) ((k : Nat) : Int) w ho hi.1 hi.2.1), .v] H10 kr fun gs11 w11 H11 => ?_
          refine g_cond_f kr kr ?_
          refine g_skip kr ?_
          show WP _ _ _ _ _ _
          refine g_seq kr ?_
          refine rS [.v, .e (v := .bool (decide (n < 0))) (v' := .bool false) (bool_eq (decide_eq_false hn)), .v, .v, .v, .l 0, .v, .e (v := .bool (decide (n > ((S.size : Nat) : Int)))) (v' := .bool true) (bool_eq (decide_eq_true hb)), .v] H11 kr fun gs12 w12 H12 => ?_
          refine g_cond_t kr kr ?_
          refine rS [.v, .v, .v, .l 4, .l 5, .o (ins := [((.tmp 141), dvV em 0), ((.tmp 142), dvV em 0)]) (v := .bool false) (fun ρ o w ho hi => dv_neq (x := (.tmp 141)) (y := (.tmp 142)) em 0 w ho hi.1 hi.2.1), .v] H12 kr fun gs13 w13 H13 => ?_
          refine g_cond_f kr kr ?_
          refine g_skip kr ?_
          show WP _ _ _ _ _ _
          by_cases h1000 : n > 1000
          · skip
            refine dS [.v, .v, .v, .l 2, .v, .l 0, .v, .l 0, .v, .v, .o (ins := [((.tmp 163), dvV S ((S.size : Nat) : Int)), ((.tmp 169), dvV S ((S.size : Nat) : Int))]) (v := .bool true) (fun ρ o w ho hi => dv_eql (x := (.tmp 163)) (y := (.tmp 169)) S ((S.size : Nat) : Int) w ho hi.1 hi.2.1), .v, .v, .v, .v, .v, .v, .v, .e (v := .bool (decide (n > 1000))) (v' := .bool true) (bool_eq (decide_eq_true h1000)), .v, .n, .n, .n, .n, .n, .v, .v, .v] H13 kr fun w14 H14 => ?_
            exact rRe [.tmp 6] [] (v := .bool true) (v' := .bool true) H14 rfl kr
          · skip
            refine dS [.v, .v, .v, .l 2, .v, .l 0, .v, .l 0, .v, .v, .o (ins := [((.tmp 163), dvV S ((S.size : Nat) : Int)), ((.tmp 169), dvV S ((S.size : Nat) : Int))]) (v := .bool true) (fun ρ o w ho hi => dv_eql (x := (.tmp 163)) (y := (.tmp 169)) S ((S.size : Nat) : Int) w ho hi.1 hi.2.1), .v, .v, .v, .v, .v, .v, .v, .e (v := .bool (decide (n > 1000))) (v' := .bool false) (bool_eq (decide_eq_false h1000)), .v, .l 3, .l 0, .v, .c (crashR_fn S k n zr hk), .o (ins := [((.tmp 180), dvV (S.extract 0 (leftM S k n)) (((leftM S k n) : Nat) : Int)), ((.tmp 183), dvV (S.extract 0 (leftM S k n)) (((leftM S k n) : Nat) : Int))]) (v := .bool true) (fun ρ o w ho hi => dv_eql (x := (.tmp 180)) (y := (.tmp 183)) (S.extract 0 (leftM S k n)) (((leftM S k n) : Nat) : Int) w ho hi.1 hi.2.1), .v, .v, .v] H13 kr fun w14 H14 => ?_
            exact rRe [.tmp 6] [] (v := .bool true) (v' := .bool true) H14 rfl kr
        · skip
          refine rS [.l 0, .v, .c (append_long S U ((k : Nat) : Int) hr hl), .v, .v, .v, .a, .s 1, .v] H2 kr fun gs3 w3 H3 => ?_
          refine rS [.l 0, .c (sync_ok S ((k : Nat) : Int) hr), .v, .v, .v, .a, .s 2, .v] H3 kr fun gs4 w4 H4 => ?_
          refine rS [.l 0, .v, .c (crash_ok S k n zr hk), .v, .v, .v, .a, .s 3, .v] H4 kr fun gs5 w5 H5 => ?_
          refine rS [.l 0, .v, .c (cut_no S ((k : Nat) : Int) n hr (.inr hb)), .v, .v, .v, .a, .s 4, .v] H5 kr fun gs6 w6 H6 => ?_
          refine rS [.v, .a, .s 5] H6 kr fun gs7 w7 H7 => ?_
          refine g_seq kr ?_
          refine dS [.l 0, .c (right_fn S ((k : Nat) : Int)), .l 0, .c (rightR_fn S ((k : Nat) : Int)), .e (v := .bool (!(rightM S ((k : Nat) : Int) == rightM S ((k : Nat) : Int)))) (v' := .bool false) (bool_eq (by rw [beq_self_eq_true]; rfl)), .v, .c alive_fn, .v, .v] H7 kr fun w8 H8 => ?_
          refine g_cond_f kr kr ?_
          refine g_skip kr ?_
          show WP _ _ _ _ _ _
          refine g_seq kr ?_
          refine rS [.l 0, .c (rightR_fn S ((k : Nat) : Int)), .e (v := .bool (!(rightM S ((k : Nat) : Int)))) (v' := .bool false) (bool_eq (by rw [hr]; rfl))] H8 kr fun gs9 w9 H9 => ?_
          refine g_cond_f kr kr ?_
          refine g_skip kr ?_
          show WP _ _ _ _ _ _
          refine g_seq kr ?_
          refine rS [.v, .l 0, .v, .v, .v, .e (v := .int .i64 (IntKind.i64.wrap (((S.size : Nat) : Int) + ((U.size : Nat) : Int)))) (v' := iN (S.size + U.size)) (int_eq (wrapAdd_i64 (by omega))), .e (v := .bool (decide (((S.size + U.size : Nat) : Int) > 200000))) (v' := .bool true) (bool_eq (decide_eq_true (by omega)))] H9 kr fun gs10 w10 H10 => ?_
          refine g_cond_t kr kr ?_
          refine rS [.v, .v, .v, .l 1, .l 5, .o (ins := [((.tmp 112), dvV em 0), ((.tmp 113), dvV em 0)]) (v := .bool false) (fun ρ o w ho hi => dv_neq (x := (.tmp 112)) (y := (.tmp 113)) em 0 w ho hi.1 hi.2.1), .v] H10 kr fun gs11 w11 H11 => ?_
          refine g_cond_f kr kr ?_
          refine g_skip kr ?_
          show WP _ _ _ _ _ _
          refine g_seq kr ?_
          refine rS [.v, .e (v := .bool (decide (n < 0))) (v' := .bool false) (bool_eq (decide_eq_false hn)), .v, .v, .v, .l 0, .v, .e (v := .bool (decide (n > ((S.size : Nat) : Int)))) (v' := .bool true) (bool_eq (decide_eq_true hb)), .v] H11 kr fun gs12 w12 H12 => ?_
          refine g_cond_t kr kr ?_
          refine rS [.v, .v, .v, .l 4, .l 5, .o (ins := [((.tmp 141), dvV em 0), ((.tmp 142), dvV em 0)]) (v := .bool false) (fun ρ o w ho hi => dv_neq (x := (.tmp 141)) (y := (.tmp 142)) em 0 w ho hi.1 hi.2.1), .v] H12 kr fun gs13 w13 H13 => ?_
          refine g_cond_f kr kr ?_
          refine g_skip kr ?_
          show WP _ _ _ _ _ _
          by_cases h1000 : n > 1000
          · skip
            refine dS [.v, .v, .v, .l 2, .v, .l 0, .v, .l 0, .v, .v, .o (ins := [((.tmp 163), dvV S ((S.size : Nat) : Int)), ((.tmp 169), dvV S ((S.size : Nat) : Int))]) (v := .bool true) (fun ρ o w ho hi => dv_eql (x := (.tmp 163)) (y := (.tmp 169)) S ((S.size : Nat) : Int) w ho hi.1 hi.2.1), .v, .v, .v, .v, .v, .v, .v, .e (v := .bool (decide (n > 1000))) (v' := .bool true) (bool_eq (decide_eq_true h1000)), .v, .n, .n, .n, .n, .n, .v, .v, .v] H13 kr fun w14 H14 => ?_
            exact rRe [.tmp 6] [] (v := .bool true) (v' := .bool true) H14 rfl kr
          · skip
            refine dS [.v, .v, .v, .l 2, .v, .l 0, .v, .l 0, .v, .v, .o (ins := [((.tmp 163), dvV S ((S.size : Nat) : Int)), ((.tmp 169), dvV S ((S.size : Nat) : Int))]) (v := .bool true) (fun ρ o w ho hi => dv_eql (x := (.tmp 163)) (y := (.tmp 169)) S ((S.size : Nat) : Int) w ho hi.1 hi.2.1), .v, .v, .v, .v, .v, .v, .v, .e (v := .bool (decide (n > 1000))) (v' := .bool false) (bool_eq (decide_eq_false h1000)), .v, .l 3, .l 0, .v, .c (crashR_fn S k n zr hk), .o (ins := [((.tmp 180), dvV (S.extract 0 (leftM S k n)) (((leftM S k n) : Nat) : Int)), ((.tmp 183), dvV (S.extract 0 (leftM S k n)) (((leftM S k n) : Nat) : Int))]) (v := .bool true) (fun ρ o w ho hi => dv_eql (x := (.tmp 180)) (y := (.tmp 183)) (S.extract 0 (leftM S k n)) (((leftM S k n) : Nat) : Int) w ho hi.1 hi.2.1), .v, .v, .v] H13 kr fun w14 H14 => ?_
            exact rRe [.tmp 6] [] (v := .bool true) (v' := .bool true) H14 rfl kr
      · skip
        obtain ⟨j, rfl⟩ : ∃ j : Nat, n = (j : Int) := ⟨n.toNat, by omega⟩
        have hj : j ≤ S.size := by omega
        by_cases hl : S.size + U.size ≤ 200000
        · skip
          refine rS [.l 0, .v, .c (append_ok S U ((k : Nat) : Int) hr hl), .v, .v, .v, .a, .s 1, .v] H2 kr fun gs3 w3 H3 => ?_
          refine rS [.l 0, .c (sync_ok S ((k : Nat) : Int) hr), .v, .v, .v, .a, .s 2, .v] H3 kr fun gs4 w4 H4 => ?_
          refine rS [.l 0, .v, .c (crash_ok S k ((j : Nat) : Int) zr hk), .v, .v, .v, .a, .s 3, .v] H4 kr fun gs5 w5 H5 => ?_
          refine rS [.l 0, .v, .c (cut_ok S k j zr hk hj), .v, .v, .v, .a, .s 4, .v] H5 kr fun gs6 w6 H6 => ?_
          refine rS [.v, .a, .s 5] H6 kr fun gs7 w7 H7 => ?_
          refine g_seq kr ?_
          refine dS [.l 0, .c (right_fn S ((k : Nat) : Int)), .l 0, .c (rightR_fn S ((k : Nat) : Int)), .e (v := .bool (!(rightM S ((k : Nat) : Int) == rightM S ((k : Nat) : Int)))) (v' := .bool false) (bool_eq (by rw [beq_self_eq_true]; rfl)), .v, .c alive_fn, .v, .v] H7 kr fun w8 H8 => ?_
          refine g_cond_f kr kr ?_
          refine g_skip kr ?_
          show WP _ _ _ _ _ _
          refine g_seq kr ?_
          refine rS [.l 0, .c (rightR_fn S ((k : Nat) : Int)), .e (v := .bool (!(rightM S ((k : Nat) : Int)))) (v' := .bool false) (bool_eq (by rw [hr]; rfl))] H8 kr fun gs9 w9 H9 => ?_
          refine g_cond_f kr kr ?_
          refine g_skip kr ?_
          show WP _ _ _ _ _ _
          refine g_seq kr ?_
          refine rS [.v, .l 0, .v, .v, .v, .e (v := .int .i64 (IntKind.i64.wrap (((S.size : Nat) : Int) + ((U.size : Nat) : Int)))) (v' := iN (S.size + U.size)) (int_eq (wrapAdd_i64 (by omega))), .e (v := .bool (decide (((S.size + U.size : Nat) : Int) > 200000))) (v' := .bool false) (bool_eq (decide_eq_false (by omega)))] H9 kr fun gs10 w10 H10 => ?_
          refine g_cond_f kr kr ?_
          refine rS [.v, .v, .v, .l 1, .v, .l 0, .v, .o (ins := [((.tmp 121), .string S), ((.tmp 122), .string U)]) (v := .string (S ++ U)) (fun ρ o w ho hi => sadd_run (t := 9) (t' := 9) (x := (.tmp 121)) (y := (.tmp 122)) S U w ho hi.1 hi.2.1 (by omega)), .v, .l 0, .v, .o (ins := [((.tmp 119), dvV (S ++ U) ((k : Nat) : Int)), ((.tmp 126), dvV (S ++ U) ((k : Nat) : Int))]) (v := .bool false) (fun ρ o w ho hi => dv_neq (x := (.tmp 119)) (y := (.tmp 126)) (S ++ U) ((k : Nat) : Int) w ho hi.1 hi.2.1), .v] H10 kr fun gs11 w11 H11 => ?_
          refine g_cond_f kr kr ?_
          refine g_skip kr ?_
          show WP _ _ _ _ _ _
          refine g_seq kr ?_
          refine rS [.v, .e (v := .bool (decide (((j : Nat) : Int) < 0))) (v' := .bool false) (bool_eq (decide_eq_false (by omega))), .v, .v, .v, .l 0, .v, .e (v := .bool (decide (((j : Nat) : Int) > ((S.size : Nat) : Int)))) (v' := .bool false) (bool_eq (decide_eq_false (by omega))), .v] H11 kr fun gs12 w12 H12 => ?_
          refine g_cond_f kr kr ?_
          refine dS [.v, .v, .v, .l 4, .v, .l 0, .v, .o (ins := [((.tmp 150), .string S), ((.tmp 151), iN j)]) (v := .string (S.extract 0 j)) (fun ρ o w ho hi => scut_run (t := 9) (kd := .i64) kr (x := (.tmp 150)) (y := (.tmp 151)) S j ho hi.1 hi.2.1 hj w), .v, .l 0, .v, .e (v := .int .i64 (if ((j : Nat) : Int) < ((k : Nat) : Int) then ((j : Nat) : Int) else ((k : Nat) : Int))) (v' := iN (min k j)) (int_eq (minN _ _)), .v, .o (ins := [((.tmp 148), dvV (S.extract 0 j) ((min k j : Nat) : Int)), ((.tmp 157), dvV (S.extract 0 j) ((min k j : Nat) : Int))]) (v := .bool false) (fun ρ o w ho hi => dv_neq (x := (.tmp 148)) (y := (.tmp 157)) (S.extract 0 j) ((min k j : Nat) : Int) w ho hi.1 hi.2.1), .v] H12 kr fun w13 H13 => ?_
          refine g_cond_f kr kr ?_
          refine g_skip kr ?_
          show WP _ _ _ _ _ _
          by_cases h1000 : ((j : Nat) : Int) > 1000
          · skip
            refine dS [.v, .v, .v, .l 2, .v, .l 0, .v, .l 0, .v, .v, .o (ins := [((.tmp 163), dvV S ((S.size : Nat) : Int)), ((.tmp 169), dvV S ((S.size : Nat) : Int))]) (v := .bool true) (fun ρ o w ho hi => dv_eql (x := (.tmp 163)) (y := (.tmp 169)) S ((S.size : Nat) : Int) w ho hi.1 hi.2.1), .v, .v, .v, .v, .v, .v, .v, .e (v := .bool (decide (((j : Nat) : Int) > 1000))) (v' := .bool true) (bool_eq (decide_eq_true h1000)), .v, .n, .n, .n, .n, .n, .v, .v, .v] H13 kr fun w14 H14 => ?_
            exact rRe [.tmp 6] [] (v := .bool true) (v' := .bool true) H14 rfl kr
          · skip
            refine dS [.v, .v, .v, .l 2, .v, .l 0, .v, .l 0, .v, .v, .o (ins := [((.tmp 163), dvV S ((S.size : Nat) : Int)), ((.tmp 169), dvV S ((S.size : Nat) : Int))]) (v := .bool true) (fun ρ o w ho hi => dv_eql (x := (.tmp 163)) (y := (.tmp 169)) S ((S.size : Nat) : Int) w ho hi.1 hi.2.1), .v, .v, .v, .v, .v, .v, .v, .e (v := .bool (decide (((j : Nat) : Int) > 1000))) (v' := .bool false) (bool_eq (decide_eq_false h1000)), .v, .l 3, .l 0, .v, .c (crashR_fn S k ((j : Nat) : Int) zr hk), .o (ins := [((.tmp 180), dvV (S.extract 0 (leftM S k ((j : Nat) : Int))) (((leftM S k ((j : Nat) : Int)) : Nat) : Int)), ((.tmp 183), dvV (S.extract 0 (leftM S k ((j : Nat) : Int))) (((leftM S k ((j : Nat) : Int)) : Nat) : Int))]) (v := .bool true) (fun ρ o w ho hi => dv_eql (x := (.tmp 180)) (y := (.tmp 183)) (S.extract 0 (leftM S k ((j : Nat) : Int))) (((leftM S k ((j : Nat) : Int)) : Nat) : Int) w ho hi.1 hi.2.1), .v, .v, .v] H13 kr fun w14 H14 => ?_
            exact rRe [.tmp 6] [] (v := .bool true) (v' := .bool true) H14 rfl kr
        · skip
          refine rS [.l 0, .v, .c (append_long S U ((k : Nat) : Int) hr hl), .v, .v, .v, .a, .s 1, .v] H2 kr fun gs3 w3 H3 => ?_
          refine rS [.l 0, .c (sync_ok S ((k : Nat) : Int) hr), .v, .v, .v, .a, .s 2, .v] H3 kr fun gs4 w4 H4 => ?_
          refine rS [.l 0, .v, .c (crash_ok S k ((j : Nat) : Int) zr hk), .v, .v, .v, .a, .s 3, .v] H4 kr fun gs5 w5 H5 => ?_
          refine rS [.l 0, .v, .c (cut_ok S k j zr hk hj), .v, .v, .v, .a, .s 4, .v] H5 kr fun gs6 w6 H6 => ?_
          refine rS [.v, .a, .s 5] H6 kr fun gs7 w7 H7 => ?_
          refine g_seq kr ?_
          refine dS [.l 0, .c (right_fn S ((k : Nat) : Int)), .l 0, .c (rightR_fn S ((k : Nat) : Int)), .e (v := .bool (!(rightM S ((k : Nat) : Int) == rightM S ((k : Nat) : Int)))) (v' := .bool false) (bool_eq (by rw [beq_self_eq_true]; rfl)), .v, .c alive_fn, .v, .v] H7 kr fun w8 H8 => ?_
          refine g_cond_f kr kr ?_
          refine g_skip kr ?_
          show WP _ _ _ _ _ _
          refine g_seq kr ?_
          refine rS [.l 0, .c (rightR_fn S ((k : Nat) : Int)), .e (v := .bool (!(rightM S ((k : Nat) : Int)))) (v' := .bool false) (bool_eq (by rw [hr]; rfl))] H8 kr fun gs9 w9 H9 => ?_
          refine g_cond_f kr kr ?_
          refine g_skip kr ?_
          show WP _ _ _ _ _ _
          refine g_seq kr ?_
          refine rS [.v, .l 0, .v, .v, .v, .e (v := .int .i64 (IntKind.i64.wrap (((S.size : Nat) : Int) + ((U.size : Nat) : Int)))) (v' := iN (S.size + U.size)) (int_eq (wrapAdd_i64 (by omega))), .e (v := .bool (decide (((S.size + U.size : Nat) : Int) > 200000))) (v' := .bool true) (bool_eq (decide_eq_true (by omega)))] H9 kr fun gs10 w10 H10 => ?_
          refine g_cond_t kr kr ?_
          refine rS [.v, .v, .v, .l 1, .l 5, .o (ins := [((.tmp 112), dvV em 0), ((.tmp 113), dvV em 0)]) (v := .bool false) (fun ρ o w ho hi => dv_neq (x := (.tmp 112)) (y := (.tmp 113)) em 0 w ho hi.1 hi.2.1), .v] H10 kr fun gs11 w11 H11 => ?_
          refine g_cond_f kr kr ?_
          refine g_skip kr ?_
          show WP _ _ _ _ _ _
          refine g_seq kr ?_
          refine rS [.v, .e (v := .bool (decide (((j : Nat) : Int) < 0))) (v' := .bool false) (bool_eq (decide_eq_false (by omega))), .v, .v, .v, .l 0, .v, .e (v := .bool (decide (((j : Nat) : Int) > ((S.size : Nat) : Int)))) (v' := .bool false) (bool_eq (decide_eq_false (by omega))), .v] H11 kr fun gs12 w12 H12 => ?_
          refine g_cond_f kr kr ?_
          refine dS [.v, .v, .v, .l 4, .v, .l 0, .v, .o (ins := [((.tmp 150), .string S), ((.tmp 151), iN j)]) (v := .string (S.extract 0 j)) (fun ρ o w ho hi => scut_run (t := 9) (kd := .i64) kr (x := (.tmp 150)) (y := (.tmp 151)) S j ho hi.1 hi.2.1 hj w), .v, .l 0, .v, .e (v := .int .i64 (if ((j : Nat) : Int) < ((k : Nat) : Int) then ((j : Nat) : Int) else ((k : Nat) : Int))) (v' := iN (min k j)) (int_eq (minN _ _)), .v, .o (ins := [((.tmp 148), dvV (S.extract 0 j) ((min k j : Nat) : Int)), ((.tmp 157), dvV (S.extract 0 j) ((min k j : Nat) : Int))]) (v := .bool false) (fun ρ o w ho hi => dv_neq (x := (.tmp 148)) (y := (.tmp 157)) (S.extract 0 j) ((min k j : Nat) : Int) w ho hi.1 hi.2.1), .v] H12 kr fun w13 H13 => ?_
          refine g_cond_f kr kr ?_
          refine g_skip kr ?_
          show WP _ _ _ _ _ _
          by_cases h1000 : ((j : Nat) : Int) > 1000
          · skip
            refine dS [.v, .v, .v, .l 2, .v, .l 0, .v, .l 0, .v, .v, .o (ins := [((.tmp 163), dvV S ((S.size : Nat) : Int)), ((.tmp 169), dvV S ((S.size : Nat) : Int))]) (v := .bool true) (fun ρ o w ho hi => dv_eql (x := (.tmp 163)) (y := (.tmp 169)) S ((S.size : Nat) : Int) w ho hi.1 hi.2.1), .v, .v, .v, .v, .v, .v, .v, .e (v := .bool (decide (((j : Nat) : Int) > 1000))) (v' := .bool true) (bool_eq (decide_eq_true h1000)), .v, .n, .n, .n, .n, .n, .v, .v, .v] H13 kr fun w14 H14 => ?_
            exact rRe [.tmp 6] [] (v := .bool true) (v' := .bool true) H14 rfl kr
          · skip
            refine dS [.v, .v, .v, .l 2, .v, .l 0, .v, .l 0, .v, .v, .o (ins := [((.tmp 163), dvV S ((S.size : Nat) : Int)), ((.tmp 169), dvV S ((S.size : Nat) : Int))]) (v := .bool true) (fun ρ o w ho hi => dv_eql (x := (.tmp 163)) (y := (.tmp 169)) S ((S.size : Nat) : Int) w ho hi.1 hi.2.1), .v, .v, .v, .v, .v, .v, .v, .e (v := .bool (decide (((j : Nat) : Int) > 1000))) (v' := .bool false) (bool_eq (decide_eq_false h1000)), .v, .l 3, .l 0, .v, .c (crashR_fn S k ((j : Nat) : Int) zr hk), .o (ins := [((.tmp 180), dvV (S.extract 0 (leftM S k ((j : Nat) : Int))) (((leftM S k ((j : Nat) : Int)) : Nat) : Int)), ((.tmp 183), dvV (S.extract 0 (leftM S k ((j : Nat) : Int))) (((leftM S k ((j : Nat) : Int)) : Nat) : Int))]) (v := .bool true) (fun ρ o w ho hi => dv_eql (x := (.tmp 180)) (y := (.tmp 183)) (S.extract 0 (leftM S k ((j : Nat) : Int))) (((leftM S k ((j : Nat) : Int)) : Nat) : Int) w ho hi.1 hi.2.1), .v, .v, .v] H13 kr fun w14 H14 => ?_
            exact rRe [.tmp 6] [] (v := .bool true) (v' := .bool true) H14 rfl kr
end Go.Proofs.Ytdlbhadadijoiaa
