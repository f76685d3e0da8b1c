/-
  What the condition gives a walk: arrays of numbers read as data; numbers as words.
-/
import Derived.Test.YthipcmpmfjeakaaRows
import Derived.Test.YthipcmpmfjeakaaArr
import Derived.Lib.LaidTab
import Derived.MakeChecks
import Derived.LaidLaws
import Derived.LaidHandle
import Derived.ProofKit
import Derived.Laws.IdiomArrays
namespace Go.Proofs.Ythipcmpmfjeakaa
open Go Go.ChangeShapes Go.WideShapes Go.ChangeAt Go.RowKit
set_option linter.unusedVariables false
theorem bv64_of_wf {a : Int} (h : (Lit.int .u64 a).wf = true) : ∃ x : BitVec 64, a = ((BitVec.toNat x : Nat) : Int) := by
  have hmin : IntKind.u64.min = 0 := rfl
  have hmax : IntKind.u64.max = 18446744073709551615 := rfl
  simp only [Lit.wf, Bool.and_eq_true, decide_eq_true_eq] at h
  exact ⟨BitVec.ofNat 64 a.toNat, by rw [BitVec.toNat_ofNat]; omega⟩
theorem bv32_of_wf {a : Int} (h : (Lit.int .u32 a).wf = true) : ∃ x : BitVec 32, a = ((BitVec.toNat x : Nat) : Int) := by
  have hmin : IntKind.u32.min = 0 := rfl
  have hmax : IntKind.u32.max = 4294967295 := rfl
  simp only [Lit.wf, Bool.and_eq_true, decide_eq_true_eq] at h
  exact ⟨BitVec.ofNat 32 a.toNat, by rw [BitVec.toNat_ofNat]; omega⟩
theorem bv8_of_wf {a : Int} (h : (Lit.int .u8 a).wf = true) : ∃ x : BitVec 8, a = ((BitVec.toNat x : Nat) : Int) := by
  have hmin : IntKind.u8.min = 0 := rfl
  have hmax : IntKind.u8.max = 255 := rfl
  simp only [Lit.wf, Bool.and_eq_true, decide_eq_true_eq] at h
  exact ⟨BitVec.ofNat 8 a.toNat, by rw [BitVec.toNat_ofNat]; omega⟩
/-- An array of numbers. -/
theorem openArr {P : Program} {H : Type} {enc : TypeId × Value → H} {W : World} {base b0 : Nat} {v : Value} {sp : Nat → Bool} {held : Bool} {d : DataW H} {p : List MemPlace} {t e : TypeId} {n : Nat} {k : IntKind}
    (ht : P.underlying t = some (.array n e)) (he : P.underlying e = some (.int k)) (hct : P.cellsOf t = n) (hce : P.cellsOf e = 1)
    (hv : Value.okWide P W .any base t v) (h : DataW.Trod enc P W b0 sp held t v d p) : ∃ f : Nat → Int, v = .agg (arrF n fun i => .int k (f i)).toArray ∧ ∀ i, i < n → (Lit.int k (f i)).wf = true := by
  obtain ⟨cs, rfl, hsz, _⟩ : ∃ cs, v = .agg cs ∧ cs.size = P.cellsOf t ∧ Row.okWide P W .any base t cs := by
    simpa [Value.okWide, ht] using hv
  rw [hct] at hsz
  obtain ⟨l⟩ := cs
  have hl : l.length = n := hsz
  obtain ⟨fuel, hf⟩ := h
  cases fuel with
  | zero => simp [DataW.trod] at hf
  | succ fuel =>
    simp only [DataW.trod, ht, hce, hct, Nat.mul_one] at hf
    split at hf
    · obtain ⟨xs, hm, hx⟩ := Option.map_eq_some_iff.1 hf
      have key : ∀ i, i < n → ∃ z, l[i]? = some (.int k z) ∧ (Lit.int k z).wf = true := fun i hi => by
        obtain ⟨b, hb, hg⟩ := Lib.mapM_at hm i i (by simp [hi])
        obtain ⟨z, hc, _, hw⟩ := DataW.trod_int he hg
        have h1 : l[i]? = some (.int k z) := by
          have := congrArg (·[0]?) hc
          simpa [List.getElem?_take, List.getElem?_drop, Value.cells] using this
        exact ⟨z, h1, hw⟩
      refine ⟨fun i => match l[i]? with | some (.int _ z) => z | _ => 0, ?_, fun i hi => ?_⟩
      · congr 2
        apply List.ext_getElem?
        intro i
        by_cases hi : i < n
        · obtain ⟨z, h1, _⟩ := key i hi
          rw [h1, arrF_get hi]; simp only [h1]
        · rw [List.getElem?_eq_none (by omega), List.getElem?_eq_none (by rw [arrF_len]; omega)]
      · obtain ⟨z, h1, hw⟩ := key i hi
        simp only [h1]; exact hw
    · cases hf
end Go.Proofs.Ythipcmpmfjeakaa
