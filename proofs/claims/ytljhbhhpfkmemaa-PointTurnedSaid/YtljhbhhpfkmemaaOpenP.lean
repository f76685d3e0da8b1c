/-
  What a number, a point is, read as data.
-/
import Derived.Test.YtljhbhhpfkmemaaChecked
import Derived.Laws.IdiomArrays
import Derived.Test.YtljhbhhpfkmemaaPtV
import Derived.Deep.Strs
namespace Go.Proofs.Ytljhbhhpfkmemaa
open Go Go.ChangeShapes Go.WideShapes Go.ChangeAt Go.RowKit
set_option linter.unusedVariables false
theorem cells22 : Try.prog.cellsOf 22 = 1 := by kernel_rfl
theorem cells24 : Try.prog.cellsOf 24 = 4 := by kernel_rfl

theorem list4 {α : Type} (l : List α) (h : (⟨l⟩ : Array α).size = 4) : ∃ a b c d, l = [a, b, c, d] := by
  match l, h with
  | [a, b, c, d], _ => exact ⟨a, b, c, d, rfl⟩

theorem wd_of_wf {x : Int} (h : (Lit.int .u64 x).wf = true) : Wd x := by
  have hmin : IntKind.u64.min = 0 := rfl
  have hmax : IntKind.u64.max = 18446744073709551615 := rfl
  simp only [Lit.wf, Bool.and_eq_true, decide_eq_true_eq] at h
  unfold Wd; omega

theorem openU {H : Type} {enc : TypeId × Value → H} {W : World} {base b0 : Nat} {v : Value} {sp : Nat → Bool} {held : Bool} {d : DataW H} {p : List MemPlace}
    (hv : Value.okWide Try.prog W .any base 24 v) (h : DataW.Trod enc Try.prog W b0 sp held 24 v d p) : ∃ n : Nat, n < big ∧ v = uv n := by
  obtain ⟨cs, rfl, hsz, _⟩ : ∃ cs, v = .agg cs ∧ cs.size = Try.prog.cellsOf 24 ∧ Row.okWide Try.prog W .any base 24 cs := by
    simpa [Value.okWide, Try.underlying24] using hv
  rw [cells24] at hsz
  obtain ⟨l⟩ := cs
  obtain ⟨c0, c1, c2, c3, rfl⟩ := list4 l hsz
  obtain ⟨fuel, hf⟩ := h
  obtain ⟨y0, y1, y2, y3, m, hx, hy0, hy1, hy2, hy3⟩ := trod_array4 Try.underlying24 cells22 hf
  obtain ⟨x0, e0, rfl, w0⟩ := DataW.trod_int Try.underlying22 hy0
  obtain ⟨x1, e1, rfl, w1⟩ := DataW.trod_int Try.underlying22 hy1
  obtain ⟨x2, e2, rfl, w2⟩ := DataW.trod_int Try.underlying22 hy2
  obtain ⟨x3, e3, rfl, w3⟩ := DataW.trod_int Try.underlying22 hy3
  simp at e0 e1 e2 e3
  subst e0 e1 e2 e3
  obtain ⟨n, hn, g0, g1, g2, g3⟩ := of_words (wd_of_wf w0) (wd_of_wf w1) (wd_of_wf w2) (wd_of_wf w3)
  exact ⟨n, hn, by rw [g0, g1, g2, g3]⟩
theorem cells26 : Try.prog.cellsOf 26 = 9 := by kernel_rfl
theorem cells4b : Try.prog.cellsOf 4 = 1 := by kernel_rfl
theorem list9 {α : Type} (l : List α) (h : (⟨l⟩ : Array α).size = 9) : ∃ a b c d e f g i j, l = [a, b, c, d, e, f, g, i, j] := by
  match l, h with
  | [a, b, c, d, e, f, g, i, j], _ => exact ⟨a, b, c, d, e, f, g, i, j, rfl⟩
theorem four_words {H : Type} {enc : TypeId × Value → H} {W : World} {b0 : Nat} {sp : Nat → Bool} {held : Bool} {x : DataW H × List MemPlace} {fuel : Nat} {c0 c1 c2 c3 : Value}
    (hf : DataW.trod enc Try.prog W b0 sp held fuel 24 [c0, c1, c2, c3] = some x) : ∃ n : Nat, n < big ∧ c0 = .int .u64 (w0 n) ∧ c1 = .int .u64 (w1 n) ∧ c2 = .int .u64 (w2 n) ∧ c3 = .int .u64 (w3 n) := by
  obtain ⟨y0, y1, y2, y3, m, hx, hy0, hy1, hy2, hy3⟩ := trod_array4 Try.underlying24 cells22 hf
  obtain ⟨x0, e0, rfl, w0⟩ := DataW.trod_int Try.underlying22 hy0
  obtain ⟨x1, e1, rfl, w1⟩ := DataW.trod_int Try.underlying22 hy1
  obtain ⟨x2, e2, rfl, w2⟩ := DataW.trod_int Try.underlying22 hy2
  obtain ⟨x3, e3, rfl, w3⟩ := DataW.trod_int Try.underlying22 hy3
  simp at e0 e1 e2 e3
  subst e0 e1 e2 e3
  obtain ⟨n, hn, g0, g1, g2, g3⟩ := of_words (wd_of_wf w0) (wd_of_wf w1) (wd_of_wf w2) (wd_of_wf w3)
  exact ⟨n, hn, by rw [g0], by rw [g1], by rw [g2], by rw [g3]⟩
theorem openP {H : Type} {enc : TypeId × Value → H} {W : World} {base b0 : Nat} {v : Value} {sp : Nat → Bool} {held : Bool} {d : DataW H} {p : List MemPlace}
    (hv : Value.okWide Try.prog W .any base 26 v) (h : DataW.Trod enc Try.prog W b0 sp held 26 v d p) : ∃ q : Ec.Pd, q.Ok ∧ v = pv q := by
  obtain ⟨cs, rfl, hsz, _⟩ : ∃ cs, v = .agg cs ∧ cs.size = Try.prog.cellsOf 26 ∧ Row.okWide Try.prog W .any base 26 cs := by
    simpa [Value.okWide, Try.underlying26] using hv
  rw [cells26] at hsz
  obtain ⟨l⟩ := cs
  obtain ⟨c0, c1, c2, c3, c4, c5, c6, c7, c8, rfl⟩ := list9 l hsz
  obtain ⟨fuel, hf⟩ := h
  obtain ⟨y0, y1, y2, m, hx, hl, hy0, hy1, hy2⟩ := Go.Deep.trod_struct3 Try.underlying26 hf
  rw [cells24] at hy0 hy1
  rw [cells4b] at hy2
  obtain ⟨n, hn, a0, a1, a2, a3⟩ := four_words (show DataW.trod enc Try.prog W b0 sp held m 24 [c0, c1, c2, c3] = some y0 from hy0)
  obtain ⟨k, hk, b0', b1, b2, b3⟩ := four_words (show DataW.trod enc Try.prog W b0 sp held m 24 [c4, c5, c6, c7] = some y1 from hy1)
  obtain ⟨b, hb, _⟩ := DataW.trod_bool Try.underlying4 (show DataW.trod enc Try.prog W b0 sp held m 4 [c8] = some y2 from hy2)
  have hb : c8 = .bool b := by simpa using hb
  exact ⟨⟨n, k, b⟩, ⟨hn, hk⟩, by rw [a0, a1, a2, a3, b0', b1, b2, b3, hb]; rfl⟩
end Go.Proofs.Ytljhbhhpfkmemaa
