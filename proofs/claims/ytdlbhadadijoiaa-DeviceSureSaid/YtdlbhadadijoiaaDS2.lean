/-
  Texts of the proof, part 2.
-/
import Derived.Test.YtdlbhadadijoiaaProg
import Derived.ChangeKeysEq
import Derived.Laws.StructEq
import Derived.Test.YtdlbhadadijoiaaChecked
import Derived.ChangeArms
import Derived.OpenShut
import Derived.ProofKit
import Derived.Test.YtdlbhadadijoiaaDS1

namespace Go.Proofs.Ytdlbhadadijoiaa
open Go Go.RowKit
set_option linter.unusedVariables false
abbrev pB (b : Nat) : Value := .pointer (some ⟨b, 0, none⟩)
abbrev stO (t : ByteArray) : Obj := .cells #[.string t] 9 (0, 0)
abbrev inO (n : Int) : Obj := .cells #[.int .i64 n] 3 (0, 0)
abbrev two (b1 : Nat) (o1 : Obj) (b2 : Nat) (o2 : Obj) : World → Prop := fun w => w.heap[b1]? = some o1 ∧ w.heap[b2]? = some o2
theorem two_st {b1 : Nat} {o1 : Obj} {b2 : Nat} {o2 : Obj} : ∀ w w', two b1 o1 b2 o2 w → Below w.heap.size w w' → two b1 o1 b2 o2 w' := fun w w' h hb => ⟨heap_old h.1 hb, heap_old h.2 hb⟩
/-! ### Append -/
theorem append1_ok (bs bd : Nat) (s t : ByteArray) (a : Int) (hs : s.size + t.size ≤ 200000) :
    FnP Try.prog 15 #[pB bs, pB bd] (two bs (stO t) bd (dvO s a)) (dvR (s ++ t) a 0) := by
  refine FnP.intro (c := codeOf Try.f15) [.cell 2 23, .tmp 3] 19 Try.func15 kr kr kr fun w hP => ?_
  have H0 := St.start w
  obtain ⟨h1, h2⟩ := hP
  refine rS [.a, .v] H0 kr fun gs1 w1 H1 => ?_
  refine g_seq kr ?_
  refine rS [.f h1 (lt_of_heap h1), .v, .v, .f h2 (lt_of_heap h2), .v, .e (v := .int .i64 (IntKind.i64.wrap (200000 - ((s.size : Nat) : Int)))) (v' := .int .i64 (200000 - ((s.size : Nat) : Int))) (int_eq (wrap_i64 (by omega) (by omega))), .e (v := .bool (decide (((t.size : Nat) : Int) > 200000 - ((s.size : Nat) : Int)))) (v' := .bool false) (bool_eq (decide_eq_false (by omega)))] H1 kr fun gs2 w2 H2 => ?_
  refine g_cond_f kr kr ?_
  refine g_skip kr ?_
  show WP _ _ _ _ _ _
  refine rS [.v, .f h2 (lt_of_heap h2), .f h1 (lt_of_heap h1), .o (ins := [((.tmp 13), .string s), ((.tmp 14), .string t)]) (v := .string (s ++ t)) (fun ρ o w ho hi => sadd_run (t := 9) (t' := 9) (x := (.tmp 13)) (y := (.tmp 14)) s t w ho hi.1 hi.2.1 (by omega)), .v, .f h2 (lt_of_heap h2), .v, .s 0, .v] H2 kr fun gs3 w3 H3 => ?_
  exact rRe [.cell 2 23, .tmp 3] [0] (v := dvR (s ++ t) a 0) (v' := dvR (s ++ t) a 0) H3 rfl kr
theorem append_of (s t r : ByteArray) (a q e : Int) (hr : rightM s a = true) (hc : ∀ bs bd, FnP Try.prog 15 #[pB bs, pB bd] (two bs (stO t) bd (dvO s a)) (dvR r q e)) : Fn Try.prog 6 #[dvV s a, .string t] (dvR r q e) := by
  refine Fn.intro (c := codeOf Try.f6) [.cell 4 23, .tmp 5] 11 Try.func6 kr kr kr fun w => ?_
  have H0 := St.start w
  refine rS [.b, .b, .a, .v] H0 kr fun gs1 w1 H1 => ?_
  refine rS [.l 0, .v, .cp (pre := two (gs1 1).b (stO t) (gs1 0).b (dvO s a)) (checked_append s a (pB (gs1 1).b) (pB (gs1 0).b) (two (gs1 1).b (stO t) (gs1 0).b (dvO s a)) r q e (hc (gs1 1).b (gs1 0).b) two_st hr) [(1, ((gs1 1).b, stO t)), (0, ((gs1 0).b, dvO s a))] (fun w' hb hd => ⟨hd.1, hd.2.1⟩), .v, .v, .s 2, .v] H1 kr fun gs2 w2 H2 => ?_
  exact rRe [.cell 4 23, .tmp 5] [2] (v := dvR r q e) (v' := dvR r q e) H2 rfl kr
theorem append_ok (s t : ByteArray) (a : Int) (hr : rightM s a = true) (hs : s.size + t.size ≤ 200000) : Fn Try.prog 6 #[dvV s a, .string t] (dvR (s ++ t) a 0) :=
  append_of s t _ a _ _ hr fun bs bd => append1_ok bs bd s t a hs
/-! ### Sync -/
theorem sync1_ok (bd : Nat) (s : ByteArray) (a : Int) : FnP Try.prog 16 #[pB bd] (fun w => w.heap[bd]? = some (dvO s a)) (dvR s ((s.size : Nat) : Int) 0) := by
  refine FnP.intro (c := codeOf Try.f16) [.cell 1 23, .tmp 2] 9 Try.func16 kr kr kr fun w h2 => ?_
  have H0 := St.start w
  refine rS [.a, .v] H0 kr fun gs1 w1 H1 => ?_
  refine rS [.v, .f h2 (lt_of_heap h2), .v, .f h2 (lt_of_heap h2), .v, .v, .s 0, .v] H1 kr fun gs2 w2 H2 => ?_
  exact rRe [.cell 1 23, .tmp 2] [0] (v := dvR s ((s.size : Nat) : Int) 0) (v' := dvR s ((s.size : Nat) : Int) 0) H2 rfl kr
theorem sync_ok (s : ByteArray) (a : Int) (hr : rightM s a = true) : Fn Try.prog 7 #[dvV s a] (dvR s ((s.size : Nat) : Int) 0) := by
  refine Fn.intro (c := codeOf Try.f7) [.cell 2 23, .tmp 3] 9 Try.func7 kr kr kr fun w => ?_
  have H0 := St.start w
  refine rS [.b, .a, .v] H0 kr fun gs1 w1 H1 => ?_
  refine rS [.l 0, .v, .cp (pre := fun w => w.heap[(gs1 0).b]? = some (dvO s a)) (checked_sync s a (pB (gs1 0).b) (fun w => w.heap[(gs1 0).b]? = some (dvO s a)) s ((s.size : Nat) : Int) 0 (sync1_ok (gs1 0).b s a) (fun w w' h hb => heap_old h hb) hr) [(0, ((gs1 0).b, dvO s a))] (fun w' hb hd => hd.1), .v, .v, .s 1, .v] H1 kr fun gs2 w2 H2 => ?_
  exact rRe [.cell 2 23, .tmp 3] [1] (v := dvR s ((s.size : Nat) : Int) 0) (v' := dvR s ((s.size : Nat) : Int) 0) H2 rfl kr
/-! ### Crash -/
/-- How much a crash leaves. -/
def leftM (s : ByteArray) (k : Nat) (m : Int) : Nat := k + min m.toNat (s.size - k)
theorem leftM_le {s : ByteArray} {k : Nat} {m : Int} (h : k ≤ s.size) : leftM s k m ≤ s.size := by unfold leftM; omega
theorem leftM_ge {s : ByteArray} {k : Nat} {m : Int} : k ≤ leftM s k m := by unfold leftM; omega
theorem crash1_ok (bd bm : Nat) (s : ByteArray) (k : Nat) (m : Int) (hs : s.size ≤ 200000) (hk : k ≤ s.size) :
    FnP Try.prog 17 #[pB bd, pB bm] (two bd (dvO s ((k : Nat) : Int)) bm (inO m)) (dvR (s.extract 0 (leftM s k m)) ((leftM s k m : Nat) : Int) 0) := by
  refine FnP.intro (c := codeOf Try.f17) [.cell 2 23, .tmp 3] 22 Try.func17 kr kr kr fun w hP => ?_
  have H0 := St.start w
  obtain ⟨h1, h2⟩ := hP
  refine rS [.a, .v] H0 kr fun gs1 w1 H1 => ?_
  refine rS [.v, .f h1 (lt_of_heap h1), .f h2 (lt_of_heap h2), .e (v := .int .i64 (if (0 : Int) > m then (0 : Int) else m)) (v' := iN m.toNat) (int_eq (by split <;> omega)), .v, .f h1 (lt_of_heap h1), .v, .v, .f h1 (lt_of_heap h1), .e (v := .int .i64 (IntKind.i64.wrap (((s.size : Nat) : Int) - ((k : Nat) : Int)))) (v' := iN (s.size - k)) (int_eq (wrapSub_i64 (by omega))), .e (v := .int .i64 (if ((s.size - k : Nat) : Int) < ((m.toNat : Nat) : Int) then ((s.size - k : Nat) : Int) else ((m.toNat : Nat) : Int))) (v' := iN (min m.toNat (s.size - k))) (int_eq (minN _ _)), .e (v := .int .i64 (IntKind.i64.wrap (((k : Nat) : Int) + ((min m.toNat (s.size - k) : Nat) : Int)))) (v' := iN (leftM s k m)) (int_eq (wrapAdd_i64 (by omega))), .v] H1 kr fun gs2 w2 H2 => ?_
  refine rS [.f h1 (lt_of_heap h1), .v, .c (first_fn s ((k : Nat) : Int) (leftM s k m) (by omega) (leftM_le hk)), .v, .v, .s 0, .v] H2 kr fun gs3 w3 H3 => ?_
  exact rRe [.cell 2 23, .tmp 3] [0] (v := dvR (s.extract 0 (leftM s k m)) ((leftM s k m : Nat) : Int) 0) (v' := dvR (s.extract 0 (leftM s k m)) ((leftM s k m : Nat) : Int) 0) H3 rfl kr
theorem crash_ok (s : ByteArray) (k : Nat) (m : Int) (hs : s.size ≤ 200000) (hk : k ≤ s.size) : Fn Try.prog 8 #[dvV s ((k : Nat) : Int), .int .i64 m] (dvR (s.extract 0 (leftM s k m)) ((leftM s k m : Nat) : Int) 0) := by
  refine Fn.intro (c := codeOf Try.f8) [.cell 4 23, .tmp 5] 11 Try.func8 kr kr kr fun w => ?_
  have H0 := St.start w
  have hr : rightM s ((k : Nat) : Int) = true := rightM_iff.2 ⟨hs, by omega, by omega⟩
  refine rS [.b, .b, .a, .v] H0 kr fun gs1 w1 H1 => ?_
  refine rS [.l 0, .v, .cp (pre := two (gs1 0).b (dvO s ((k : Nat) : Int)) (gs1 1).b (inO m)) (checked_crash s ((k : Nat) : Int) (pB (gs1 0).b) (pB (gs1 1).b) (two (gs1 0).b (dvO s ((k : Nat) : Int)) (gs1 1).b (inO m)) _ _ _ (crash1_ok (gs1 0).b (gs1 1).b s k m hs hk) two_st hr) [(0, ((gs1 0).b, dvO s ((k : Nat) : Int))), (1, ((gs1 1).b, inO m))] (fun w' hb hd => ⟨hd.1, hd.2.1⟩), .v, .v, .s 2, .v] H1 kr fun gs2 w2 H2 => ?_
  exact rRe [.cell 4 23, .tmp 5] [2] (v := dvR (s.extract 0 (leftM s k m)) ((leftM s k m : Nat) : Int) 0) (v' := dvR (s.extract 0 (leftM s k m)) ((leftM s k m : Nat) : Int) 0) H2 rfl kr
/-! ### Cut -/
end Go.Proofs.Ytdlbhadadijoiaa

namespace Go.Proofs.Ytdlbhadadijoiaa
open Go Go.RowKit
set_option linter.unusedVariables false
abbrev ab : ByteArray := ⟨#[97, 98]⟩
theorem append_ab : Fn Try.prog 6 #[dvV em 0, .string ab] (dvR ab 0 0) := by
  have h := append_ok em ab 0 (by decide) (by decide)
  rwa [show em ++ ab = ab from tl_inj (by rw [tl_add]; rfl)] at h
theorem alive_fn : Fn Try.prog 12 #[] (.bool true) := by
  refine Fn.intro (c := codeOf Try.f12) [.tmp 0] 24 Try.func12 kr kr kr fun w => ?_
  have H0 := St.start w
  refine rS [.v] H0 kr fun gs1 w1 H1 => ?_
  refine rS [.v, .c append_ab, .v, .v, .v, .a, .s 0, .v] H1 kr fun gs2 w2 H2 => ?_
  refine rS [.v, .v, .v, .v, .l 0, .e (v := .bool (ab.toList == ab.toList)) (v' := .bool true) (bool_eq (str_self ab)), .v, .v, .v, .l 0, .v, .v, .v, .l 0, .c (right_fn ab 0), .v, .v] H2 kr fun gs3 w3 H3 => ?_
  exact rRe [.tmp 0] [] (v := .bool (rightM ab 0)) (v' := .bool true) H3 (bool_eq (by decide)) kr
theorem eqF_cons {P : Program} {w : World} {d : Nat} {xs ys : Array Value} {f : Field} {fs : List Field} {a b : Value} {r : Bool} (hn : f.name ≠ "_") (ha : (part f.type xs f.offset).run P w = .ok a w) (hb : (part f.type ys f.offset).run P w = .ok b w) (hr : (Op.equalIn d f.type a b).run P w = .ok r w) {q : Bool} (hq : (Op.eqFields d xs ys fs).run P w = .ok q w) :
    (Op.eqFields d xs ys (f :: fs)).run P w = .ok (r && q) w := by
  unfold Op.eqFields
  rw [if_pos hn]
  simp only [Sem.run_bind, ha, hb, hr, Result.andThen_ok]
  cases r
  · simp
  · simpa using hq
theorem dv_eq (s : ByteArray) (a : Int) (w : World) : (Op.equalIn 10000 23 (dvV s a) (dvV s a)).run Try.prog w = .ok true w := by
  rw [run_equalIn_agg w 9999 23 _ _ kr kr]
  rw [show (Try.prog.fieldsOf 23).toList = [{ name := "Bytes", type := 9, offset := 0, embedded := false, tag := "", pkgPath := "", byteOffset := 0 }, { name := "Sure", type := 3, offset := 1, embedded := false, tag := "", pkgPath := "", byteOffset := 16 }] by kernel_rfl]
  have e4 : (Op.eqFields 9999 #[.string s, .int .i64 a] #[.string s, .int .i64 a] []).run Try.prog w = .ok true w := by simp [Op.eqFields]
  have h2 := eqF_cons (P := Try.prog) (w := w) (d := 9999) (xs := #[.string s, .int .i64 a]) (ys := #[.string s, .int .i64 a]) (f := { name := "Sure", type := 3, offset := 1, embedded := false, tag := "", pkgPath := "", byteOffset := 16 }) (a := .int .i64 a) (b := .int .i64 a) (by decide) (run_part_plain w kr rfl) (run_part_plain w kr rfl) (run_equalIn_int w 9998 3 .i64 .i64 _ _ Try.underlying3) e4
  have h3 := eqF_cons (P := Try.prog) (w := w) (d := 9999) (xs := #[.string s, .int .i64 a]) (ys := #[.string s, .int .i64 a]) (f := { name := "Bytes", type := 9, offset := 0, embedded := false, tag := "", pkgPath := "", byteOffset := 0 }) (a := .string s) (b := .string s) (by decide) (run_part_plain w kr rfl) (run_part_plain w kr rfl) (run_equalIn_string w 9998 _ _ _ Try.underlying9) h2
  rw [h3, str_self, beq_self_eq_true]; rfl
theorem dv_eql {ρ : Env} (s : ByteArray) (a : Int) {x y : Operand} {o : Oper} (w : World) (ho : o.op = .binOp .eql 23 x y 23) (hx : ev ρ x = dvV s a) (hy : ev ρ y = dvV s a) :
    (execOp (ev ρ) o).run Try.prog w = .ok (.value (.bool true)) w := by
  have q := dv_eq s a w
  have hg := fun X Y => run_eqGuard_agg (P := Try.prog) w .eql 23 x y X Y kr
  have hn := fun X Y => run_eql_struct (P := Try.prog) w 23 X Y
  unfold dvV at hx hy q
  generalize (#[.string s, .int .i64 a] : Array Value) = X at q hx hy
  unfold execOp
  simp only [ho, hx, hy, Sem.run_bind, hg, hn, q, Result.andThen_ok, Sem.run_pure]
end Go.Proofs.Ytdlbhadadijoiaa

namespace Go.Proofs.Ytdlbhadadijoiaa
open Go Go.ChangeShapes Go.WideShapes Go.ChangeAt Go.RowKit
set_option linter.unusedVariables false
theorem cellsDv : Try.prog.cellsOf 23 = 2 := kr
theorem cellsStD : Try.prog.cellsOf 9 = 1 := kr
theorem cellsInD : Try.prog.cellsOf 3 = 1 := kr
theorem openDev {H : Type} {enc : TypeId × Value → H} {W : World} {base b0 : Nat} {v : Value} {sp : Nat → Bool} {held : Bool} {d : DataW H} {p : List MemPlace}
    (hv : Value.okWide Try.prog W .any base 23 v) (h : DataW.Trod enc Try.prog W b0 sp held 23 v d p) : ∃ (s : ByteArray) (a : Int), v = dvV s a ∧ s.size ≤ maxLen ∧ (Lit.int .i64 a).wf = true := by
  obtain ⟨cs, rfl, hsz, _⟩ : ∃ cs, v = .agg cs ∧ cs.size = Try.prog.cellsOf 23 ∧ Row.okWide Try.prog W .any base 23 cs := by
    simpa [Value.okWide, Try.underlying23] using hv
  rw [cellsDv] at hsz
  obtain ⟨l⟩ := cs
  obtain ⟨c0, c1, rfl⟩ : ∃ c0 c1, l = [c0, c1] := by
    match l, hsz with
    | [c0, c1], _ => exact ⟨c0, c1, rfl⟩
  obtain ⟨fuel, hf⟩ := h
  obtain ⟨xs, m, rfl, hxx, hl, hlen, hff⟩ := DataW.trod_struct Try.underlying23 hf
  obtain ⟨y0, y1, rfl⟩ : ∃ y0 y1, xs = [y0, y1] := by
    match xs, hlen with
    | [y0, y1], _ => exact ⟨y0, y1, rfl⟩
  have g0 := hff 0 _ rfl
  have g1 := hff 1 _ rfl
  change DataW.trod enc Try.prog W b0 sp held m 9 (([c0, c1].drop 0).take (Try.prog.cellsOf 9)) = some y0 at g0
  change DataW.trod enc Try.prog W b0 sp held m 3 (([c0, c1].drop 1).take (Try.prog.cellsOf 3)) = some y1 at g1
  rw [cellsStD] at g0
  rw [cellsInD] at g1
  obtain ⟨s, e0, rfl, hs⟩ := DataW.trod_string Try.underlying9 (show DataW.trod enc Try.prog W b0 sp held m 9 [c0] = some y0 from g0)
  obtain ⟨a, e1, e1', hw⟩ := DataW.trod_int Try.underlying3 (show DataW.trod enc Try.prog W b0 sp held m 3 [c1] = some y1 from g1)
  obtain rfl : c0 = .string s := by simpa using e0
  obtain rfl : c1 = .int .i64 a := by simpa using e1
  exact ⟨s, a, rfl, hs, hw⟩
end Go.Proofs.Ytdlbhadadijoiaa

namespace Go.Proofs.Ytdlbhadadijoiaa
open Go Go.RowKit
set_option linter.unusedVariables false
theorem ext_sz (s : ByteArray) (n : Nat) : (s.extract 0 n).size = min n s.size := by rw [ByteArray.size_extract]; omega
theorem ext_all (s : ByteArray) : s.extract 0 s.size = s := tl_inj (by rw [tl_extract, List.drop_zero, List.take_of_length_le (by rw [tl_len]; exact Nat.le_refl _)])
theorem add_sz (s t : ByteArray) : (s ++ t).size = s.size + t.size := ByteArray.size_append
theorem right_nat {s : ByteArray} {a : Int} (h : rightM s a = true) : ∃ k : Nat, a = (k : Int) ∧ k ≤ s.size := ⟨a.toNat, by have := rightM_iff.1 h; omega, by have := rightM_iff.1 h; omega⟩
end Go.Proofs.Ytdlbhadadijoiaa

namespace Go.Proofs.Ytdlbhadadijoiaa
open Go Go.RowKit
set_option linter.unusedVariables false
set_option maxRecDepth 100000 in
set_option maxHeartbeats 2000000 in
theorem deviceSure_v (s0 : ByteArray) (a : Int) (u0 v0 : ByteArray) (m : Int) : Fn Try.prog 4 #[dvV s0 a, .string u0, .string v0, .int .i64 m] (.bool true) := by
  refine Fn.intro (c := codeOf Try.f4) [.tmp 8] 140 Try.func4 kr kr kr fun w => ?_
  have H0 := St.start w
  obtain ⟨S, hS⟩ : ∃ S, s0.extract 0 (min s0.size 3000) = S := ⟨_, rfl⟩
  obtain ⟨U, hU⟩ : ∃ U, u0.extract 0 (min u0.size 300) = U := ⟨_, rfl⟩
  obtain ⟨V, hV⟩ : ∃ V, v0.extract 0 (min v0.size 300) = V := ⟨_, rfl⟩
  have zS : S.size ≤ 3000 := by rw [← hS, ext_sz]; omega
  have zU : U.size ≤ 300 := by rw [← hU, ext_sz]; omega
  have zV : V.size ≤ 300 := by rw [← hV, ext_sz]; omega
  refine rS [.b, .v] H0 kr fun gs1 w1 H1 => ?_
  refine dS [.v, .l 0, .v, .l 0, .v, .e (v := .int .i64 (if (3000 : Int) < ((s0.size : Nat) : Int) then (3000 : Int) else ((s0.size : Nat) : Int))) (v' := iN (min s0.size 3000)) (int_eq (by split <;> omega)), .oe (ins := [((.tmp 22), .string s0), ((.tmp 26), iN (min s0.size 3000))]) (v := .string (s0.extract 0 (min s0.size 3000))) (v' := .string S) (fun ρ o w ho hi => scut_run (t := 9) (kd := .i64) kr (x := (.tmp 22)) (y := (.tmp 26)) s0 (min s0.size 3000) ho hi.1 hi.2.1 (Nat.min_le_left _ _) w) (congrArg Value.string hS), .v, .v, .v, .e (v := .int .i64 (if (300 : Int) < ((u0.size : Nat) : Int) then (300 : Int) else ((u0.size : Nat) : Int))) (v' := iN (min u0.size 300)) (int_eq (by split <;> omega)), .oe (ins := [((.tmp 28), .string u0), ((.tmp 31), iN (min u0.size 300))]) (v := .string (u0.extract 0 (min u0.size 300))) (v' := .string U) (fun ρ o w ho hi => scut_run (t := 9) (kd := .i64) kr (x := (.tmp 28)) (y := (.tmp 31)) u0 (min u0.size 300) ho hi.1 hi.2.1 (Nat.min_le_left _ _) w) (congrArg Value.string hU), .v, .v, .v, .e (v := .int .i64 (if (300 : Int) < ((v0.size : Nat) : Int) then (300 : Int) else ((v0.size : Nat) : Int))) (v' := iN (min v0.size 300)) (int_eq (by split <;> omega)), .oe (ins := [((.tmp 33), .string v0), ((.tmp 36), iN (min v0.size 300))]) (v := .string (v0.extract 0 (min v0.size 300))) (v' := .string V) (fun ρ o w ho hi => scut_run (t := 9) (kd := .i64) kr (x := (.tmp 33)) (y := (.tmp 36)) v0 (min v0.size 300) ho hi.1 hi.2.1 (Nat.min_le_left _ _) w) (congrArg Value.string hV), .v, .s 0, .v, .v] H1 kr fun w2 H2 => ?_
  refine g_seq kr ?_
  cases hr : rightM S a with
  | false =>
    refine rS [.l 0, .c (rightR_fn S a), .e (v := .bool (!(rightM S a))) (v' := .bool true) (bool_eq (by rw [hr]; rfl))] H2 kr fun gs3 w3 H3 => ?_
    refine g_cond_t kr kr ?_
    refine rS [.c alive_fn, .v] H3 kr fun gs4 w4 H4 => ?_
    exact rRe [.tmp 8] [] (v := .bool true) (v' := .bool true) H4 rfl kr
  | true =>
    refine rS [.l 0, .c (rightR_fn S a), .e (v := .bool (!(rightM S a))) (v' := .bool false) (bool_eq (by rw [hr]; rfl))] H2 kr fun gs3 w3 H3 => ?_
    refine g_cond_f kr kr ?_
    refine g_skip kr ?_
    show WP _ _ _ _ _ _
    obtain ⟨k, rfl, hk⟩ := right_nat hr
    have z1 : (S ++ U).size = S.size + U.size := add_sz S U
    have z2 : ((S ++ U) ++ V).size = S.size + U.size + V.size := by rw [add_sz, z1]
    have hr1 : rightM (S ++ U) ((k : Nat) : Int) = true := rightM_iff.2 ⟨by omega, by omega, by omega⟩
    have hr2 : rightM (S ++ U) (((S ++ U).size : Nat) : Int) = true := rightM_iff.2 ⟨by omega, by omega, by omega⟩
    have hl1 : (S ++ U).size ≤ (leftM ((S ++ U) ++ V) (S ++ U).size m) := leftM_ge
    have hl2 : (leftM ((S ++ U) ++ V) (S ++ U).size m) ≤ ((S ++ U) ++ V).size := leftM_le (by omega)
    obtain ⟨A, hA⟩ : ∃ A, (S ++ U) ++ V = A := ⟨_, rfl⟩
    have c1 := append_ok S U ((k : Nat) : Int) hr (by omega)
    have c2 := sync_ok (S ++ U) ((k : Nat) : Int) hr1
    have c3 := append_ok (S ++ U) V (((S ++ U).size : Nat) : Int) hr2 (by omega)
    have c4 := crash_ok ((S ++ U) ++ V) (S ++ U).size m (by omega) (by omega)
    rw [hA] at z2 hl1 hl2 c3 c4
    obtain ⟨L, hL⟩ : ∃ L, leftM A (S ++ U).size m = L := ⟨_, rfl⟩
    rw [hL] at hl1 hl2 c4
    have zX : (A.extract 0 L).size = L := by rw [ext_sz]; omega
    have c5 : Fn Try.prog 8 #[dvV (A.extract 0 L) ((L : Nat) : Int), .int .i64 (-1)] (dvR (A.extract 0 L) ((L : Nat) : Int) 0) := by
      have h := crash_ok (A.extract 0 L) L (-1) (by omega) (by omega)
      have e : leftM (A.extract 0 L) L (-1) = L := by unfold leftM; simp
      rw [e] at h
      have e2 : (A.extract 0 L).extract 0 L = A.extract 0 L := by
        have h2 := ext_all (A.extract 0 L)
        rwa [zX] at h2
      rwa [e2] at h
    refine rS [.l 0, .v, .c c1, .v, .v, .v, .a, .s 1, .v] H3 kr fun gs4 w4 H4 => ?_
    refine rS [.l 1, .c c2, .v, .v, .v, .a, .s 2, .v] H4 kr fun gs5 w5 H5 => ?_
    refine rS [.l 2, .v, .c c3, .v, .v, .v, .a, .s 3, .v] H5 kr fun gs6 w6 H6 => ?_
    refine rS [.l 3, .v, .c c4, .v, .v, .v, .a, .s 4, .v] H6 kr fun gs7 w7 H7 => ?_
    refine rS [.l 4, .c c5, .v, .v, .v, .a, .s 5, .v] H7 kr fun gs8 w8 H8 => ?_
    refine rS [.v, .l 0, .v, .o (ins := [((.tmp 72), .string S), ((.tmp 73), .string U)]) (v := .string (S ++ U)) (fun ρ o w ho hi => sadd_run (t := 9) (t' := 9) (x := (.tmp 72)) (y := (.tmp 73)) S U w ho hi.1 hi.2.1 (by omega)), .v, .oe (ins := [((.tmp 74), .string (S ++ U)), ((.tmp 75), .string V)]) (v := .string ((S ++ U) ++ V)) (v' := .string A) (fun ρ o w ho hi => sadd_run (t := 9) (t' := 9) (x := (.tmp 74)) (y := (.tmp 75)) (S ++ U) V w ho hi.1 hi.2.1 (by omega)) (congrArg Value.string hA), .v] H8 kr fun gs9 w9 H9 => ?_
    refine rS [.v, .l 4, .e (v := iN (A.extract 0 L).size) (v' := iN L) (by rw [zX]), .v] H9 kr fun gs10 w10 H10 => ?_
    refine dS [.c alive_fn, .v, .v, .v, .v, .v, .v, .v, .v, .v, .v, .v, .v, .v, .v, .v, .v, .v, .v, .v, .v, .v, .v, .v, .v, .v,
      .v, .v, .l 0, .v, .v, .v, .e (v := .int .i64 (IntKind.i64.wrap (((S.size : Nat) : Int) + ((U.size : Nat) : Int)))) (v' := iN (S.size + U.size)) (int_eq (wrapAdd_i64 (by omega))), .e (v := .bool (decide (((L : Nat) : Int) ≥ ((S.size + U.size : Nat) : Int)))) (v' := .bool true) (bool_eq (decide_eq_true (by omega))), .v, .v,
      .v, .v, .v, .e (v := .bool (decide (((L : Nat) : Int) ≤ ((A.size : Nat) : Int)))) (v' := .bool true) (bool_eq (decide_eq_true (by omega))), .v, .v,
      .v, .l 4, .v, .v, .o (ins := [((.tmp 124), .string A), ((.tmp 125), iN L)]) (v := .string (A.extract 0 L)) (fun ρ o w ho hi => scut_run (t := 9) (kd := .i64) kr (x := (.tmp 124)) (y := (.tmp 125)) A L ho hi.1 hi.2.1 hl2 w), .e (v := .bool ((A.extract 0 L).toList == (A.extract 0 L).toList)) (v' := .bool true) (bool_eq (str_self _)), .v, .v,
      .v, .l 4, .v, .e (v := .bool (((L : Nat) : Int) == ((L : Nat) : Int))) (v' := .bool true) (bool_eq (beq_self_eq_true _)), .v, .v,
      .l 5, .l 4, .o (ins := [((.tmp 136), dvV (A.extract 0 L) ((L : Nat) : Int)), ((.tmp 137), dvV (A.extract 0 L) ((L : Nat) : Int))]) (v := .bool true) (fun ρ o w ho hi => dv_eql (x := (.tmp 136)) (y := (.tmp 137)) (A.extract 0 L) ((L : Nat) : Int) w ho hi.1 hi.2.1), .v, .v] H10 kr fun w11 H11 => ?_
    exact rRe [.tmp 8] [] (v := .bool true) (v' := .bool true) H11 rfl kr
end Go.Proofs.Ytdlbhadadijoiaa
