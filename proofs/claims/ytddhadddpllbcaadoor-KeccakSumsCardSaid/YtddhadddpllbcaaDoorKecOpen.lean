/-
  What the condition gives a walk: the table's cells; what a state is, read as data: its twenty-five words.
-/
import Derived.Test.YtddhadddpllbcaaDoorRows
import Derived.Test.YtddhadddpllbcaaDoorKecX
import Derived.Lib.LaidTab
import Derived.MakeChecks
import Derived.LaidLaws
import Derived.LaidHandle
import Derived.ProofKit
import Derived.Laws.IdiomArrays
namespace Go.Proofs.YtddhadddpllbcaaDoor
open Go Go.ChangeShapes Go.WideShapes Go.ChangeAt Go.RowKit Go.Proofs.Kec
set_option linter.unusedVariables false

def marksL : List Int := [1, 32898, 9223372036854808714, 9223372039002292224, 32907, 2147483649, 9223372039002292353, 9223372036854808585, 138, 136, 2147516425, 2147483658, 2147516555, 9223372036854775947, 9223372036854808713, 9223372036854808579, 9223372036854808578, 9223372036854775936, 32778, 9223372039002259466, 9223372039002292353, 9223372036854808704, 2147483649, 9223372039002292232]
theorem gMarks : Tryd.prog.globalNamed "ecclesia/keccak.marks" = some 0 := by kernel_rfl
theorem marks_of_laid {W : World} (h : laidMetH Tryd.prog [("ecclesia/keccak.marks", Rows.laid_ecclesia_keccak_marks)] W) : Marks W := by
  rw [MakeChecks.laidMetH_plain _ _ _ (by kernel_rfl)] at h
  have t := Lib.tabIs_of_head (k := .u64) (zs := marksL) gMarks (show (Tryd.prog.globals[0]?).map (·.type) = some 35 by kernel_rfl) Tryd.underlying35 Tryd.underlying25 (by kernel_rfl) (by kernel_rfl) h
  unfold Lib.TabIs World.var? at t
  rw [gMarks] at t
  simp only [Option.bind_some] at t
  split at t
  · rename_i cs T fz hh
    exact ⟨T, fz, by rw [hh]; exact congrArg (fun c => some (Obj.cells c T fz)) (Option.some.inj t)⟩
  · cases t
/-- A world that meets the condition: the settled one, the table laid. -/
noncomputable def laidWorld (os : Os) : World :=
  let w0 := World.holding Tryd.prog os ⟨#[], #[], []⟩
  { w0 with heap := w0.heap.modify 0 fun
      | .cells _ t frozen => .cells marksC t frozen
      | o => o }
theorem laidWorld_met (os : Os) (args : Array Value) : laidMetH Tryd.prog [("ecclesia/keccak.marks", Rows.laid_ecclesia_keccak_marks)] ((laidWorld os).forCall (fun _ _ => 0) ⟨#[], args, []⟩).memory := by
  rw [MakeChecks.laidMetH_plain _ _ _ (by kernel_rfl)]
  exact laidMet_of_run' 8 (by kernel_rfl) (by kernel_rfl)

theorem bv_of_wf {a : Int} (h : (Lit.int .u64 a).wf = true) : ∃ x : BitVec 64, a = ((BitVec.toNat x : Nat) : Int) := by
  have hmin : IntKind.u64.min = 0 := rfl
  have hmax : IntKind.u64.max = 18446744073709551615 := rfl
  simp only [Lit.wf, Bool.and_eq_true, decide_eq_true_eq] at h
  exact ⟨BitVec.ofNat 64 a.toNat, by rw [BitVec.toNat_ofNat]; omega⟩
def wordOf (l : List Value) (i : Nat) : BitVec 64 := match l[i]? with | some (.int _ z) => BitVec.ofNat 64 z.toNat | _ => 0
theorem openS {H : Type} {enc : TypeId × Value → H} {W : World} {base b0 : Nat} {v : Value} {sp : Nat → Bool} {held : Bool} {d : DataW H} {p : List MemPlace}
    (hv : Value.okWide Tryd.prog W .any base 26 v) (h : DataW.Trod enc Tryd.prog W b0 sp held 26 v d p) : ∃ s : List (BitVec 64), s.length = 25 ∧ v = svn s := by
  obtain ⟨cs, rfl, hsz, _⟩ : ∃ cs, v = .agg cs ∧ cs.size = Tryd.prog.cellsOf 26 ∧ Row.okWide Tryd.prog W .any base 26 cs := by
    simpa [Value.okWide, Tryd.underlying26] using hv
  rw [show Tryd.prog.cellsOf 26 = 25 by kernel_rfl] at hsz
  obtain ⟨l⟩ := cs
  have hl : l.length = 25 := hsz
  obtain ⟨fuel, hf⟩ := h
  cases fuel with
  | zero => simp [DataW.trod] at hf
  | succ fuel =>
    simp only [DataW.trod, Tryd.underlying26, show Tryd.prog.cellsOf 25 = 1 by kernel_rfl, show Tryd.prog.cellsOf 26 = 25 by kernel_rfl, Nat.mul_one] at hf
    split at hf
    · obtain ⟨xs, hm, hx⟩ := Option.map_eq_some_iff.1 hf
      have key : ∀ i, i < 25 → l[i]? = some (.int .u64 ((BitVec.toNat (wordOf l i) : Nat) : Int)) := fun i hi => by
        obtain ⟨b, hb, hg⟩ := Lib.mapM_at hm i i (by simp [hi])
        obtain ⟨z, hc, _, hw⟩ := DataW.trod_int Tryd.underlying25 hg
        have h1 : l[i]? = some (.int .u64 z) := by
          have := congrArg (·[0]?) hc
          simpa [List.getElem?_take, List.getElem?_drop, Value.cells] using this
        have hmin : IntKind.u64.min = 0 := rfl
        have hmax : IntKind.u64.max = 18446744073709551615 := rfl
        simp only [Lit.wf, Bool.and_eq_true, decide_eq_true_eq] at hw
        rw [h1]
        unfold wordOf
        rw [h1]
        simp only [BitVec.toNat_ofNat]
        congr 2
        omega
      refine ⟨(List.range 25).map (wordOf l), by simp, ?_⟩
      show Value.agg ⟨l⟩ = .agg (((List.range 25).map fun k => Value.int .u64 ((BitVec.toNat (nth ((List.range 25).map (wordOf l)) k) : Nat) : Int)).toArray)
      congr 2
      apply List.ext_getElem?
      intro i
      by_cases hi : i < 25
      · rw [key i hi]
        simp [hi, nth]
      · rw [List.getElem?_eq_none (by omega), List.getElem?_eq_none (by simp; omega)]
    · cases hf
end Go.Proofs.YtddhadddpllbcaaDoor
