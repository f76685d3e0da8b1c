/-
  A slice of digits in memory; the contract of digit.
-/
import Derived.Test.YtiollplcmmlcgaaDigits
import Derived.Test.YtiollplcmmlcgaaCells
import Derived.Lib.Hide
namespace Go.Proofs.Ytiollplcmmlcgaa
open Go.ChangeShapes Go.WideShapes Go.ChangeAt Go.RowKit
set_option linter.unusedVariables false

/-- Digit i, as a number of the walk's. -/
def dAt (ds : List Nat) (i : Nat) : Int := ((ds.getD i 0 : Nat) : Int)

/-- The slice v holds the digits ds. -/
def Dig (W : World) (v : Value) (ds : List Nat) : Prop :=
  ∃ a cap, v = .slice a ds.length cap ∧ (ds = [] ∨ ∃ g o, a = some ⟨g, o, none⟩ ∧ g < W.heap.size ∧ ∀ i, i < ds.length → W.cell? ⟨g, o + i, none⟩ = some (.int .i64 (dAt ds i)))
theorem Dig.past {W w1 : World} {v : Value} {ds : List Nat} (h : Dig W v ds) (hb : Below W.heap.size W w1) : Dig w1 v ds := by
  obtain ⟨a, cap, rfl, h⟩ := h
  refine ⟨a, cap, rfl, h.imp id ?_⟩
  rintro ⟨g, o, rfl, hg, hc⟩
  exact ⟨g, o, rfl, Nat.lt_of_lt_of_le hg hb.size, fun i hi => (hb.cell (p := ⟨g, o + i, none⟩) hg).trans (hc i hi)⟩
theorem Dig.alloc {W : World} {v : Value} {ds : List Nat} (h : Dig W v ds) (o : Obj) : Dig (W.alloc o) v ds := h.past ((Below.refl _ _).alloc (Nat.le_refl _) o)
theorem Dig.drew {W : World} {v : Value} {ds : List Nat} (h : Dig W v ds) : Dig W.drew v ds := h

set_option maxHeartbeats 400000 in
theorem digit_nat (v : Value) (ds : List Nat) (i : Nat) (hl : ds.length ≤ 100000) (w : World) (hd : Dig w v ds) : Calls Try.prog 34 #[v, .int .i64 (i : Int)] w fun e w' => e = .returned (.int .i64 (dAt ds i)) ∧ w = w' := by
  obtain ⟨a, cap, rfl, hc⟩ := hd
  by_cases h : i < ds.length
  · rcases hc with hc | ⟨g, o, rfl, hg, hc⟩
    · subst hc; simp at h
    · have hc' := hc i h
      clear hc
      go_enter Try.func34, Try.ntmps34
      go_wp2
      go_ret
      exact ⟨rfl, rfl⟩
  · have e : dAt ds i = 0 := by unfold dAt; simp [List.getD, List.getElem?_eq_none (Nat.le_of_not_lt h)]
    rw [e]
    clear hc
    go_enter Try.func34, Try.ntmps34
    go_wp2
    go_ret
    exact ⟨rfl, rfl⟩

theorem digit_any (v : Value) (ds : List Nat) (i : Int) (h0 : 0 ≤ i) (hl : ds.length ≤ 100000) (w : World) (hd : Dig w v ds) : Calls Try.prog 34 #[v, .int .i64 i] w fun e w' => e = .returned (.int .i64 (dAt ds i.toNat)) ∧ w = w' := by
  obtain ⟨n, rfl⟩ := Int.eq_ofNat_of_zero_le h0
  rw [Int.toNat_natCast]
  exact digit_nat v ds n hl w hd

theorem info3 : (Try.prog.info? 3).map (fun i => (i.zero, i.size, i.bytes)) = some (some (.int .i64 0), 1, 8) := by kernel_rfl
theorem cells3 : Try.prog.cellsOf 3 = 1 := by kernel_rfl

/-- What an owned row of digits is as a slice of digits. -/
theorem Dig.of_owns {W : World} {base : Nat} {v : Value} {ds : List Nat} (h : W.ownsRow base 3 1 v ds.length (ds.map fun d => Value.int .i64 ((d : Nat) : Int))) : Dig W v ds := by
  have h' := h
  rcases h'.2 with ⟨rfl, hn⟩ | ⟨g, cap, cur, rfl, _, hg, _⟩
  · refine ⟨none, 0, by rw [hn], .inl (List.length_eq_zero_iff.1 hn)⟩
  · refine ⟨_, cap, rfl, .inr ⟨g, 0, rfl, ?_, fun i hi => ?_⟩⟩
    · rcases Nat.lt_or_ge g W.heap.size with k | k
      · exact k
      · rw [Array.getElem?_eq_none k] at hg; cases hg
    · rw [Nat.zero_add, h.cellAt i (by omega)]
      simp [dAt, List.getD, List.getElem?_eq_getElem hi]
end Go.Proofs.Ytiollplcmmlcgaa
