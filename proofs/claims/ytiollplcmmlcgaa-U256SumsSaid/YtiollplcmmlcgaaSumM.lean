/-
  Sums of digits: plain arithmetic; what an append does to a row of digits.
-/
import Derived.Test.YtiollplcmmlcgaaOf
namespace Go.Proofs.Ytiollplcmmlcgaa
open Go.RowKit

theorem dAt_lo {l : List Nat} (i : Nat) : 0 ≤ dAt l i := by unfold dAt; omega
theorem dAt_hi {l : List Nat} (h : Ok l) (i : Nat) : dAt l i ≤ 65535 := by have := ok_getD h i; unfold dAt; omega

/-- The row of the digits l, and nothing of old changed. -/
def Out (w : World) (v : Value) (l : List Nat) (wr : World) : Prop := (∃ B, w.heap.size ≤ B ∧ B ≤ wr.heap.size ∧ wr.ownsRow B 3 1 v l.length (cellsD l)) ∧ Below w.heap.size w wr
theorem out_next {w wr W1 : World} {B : Nat} {l : List Nat} {v v1 : Value} (hB : w.heap.size ≤ B) (hle : B ≤ wr.heap.size) (h1 : wr.ownsRow B 3 1 v l.length (cellsD l)) (h3 : Below w.heap.size w wr) {x : Value} (d : Nat) (hx : x = .int .i64 ((d : Nat) : Int))
    (ho : W1.ownsRow B 3 1 v1 (l.length + 1) (cellsD l ++ [x])) (hg : (wr.alloc (.cells #[x] 3)).grownBy W1 v.ownBlock) : Out w v1 (l ++ [d]) W1 := by
  subst hx
  have hob : ∀ j, v.ownBlock = some j → B ≤ j := by
    intro j hj
    rcases h1.2 with ⟨rfl, _⟩ | ⟨g, cap, cur, rfl, hb, _⟩
    · cases hj
    · injection hj with hj; subst hj; exact hb
  have B1 : Below B (wr.alloc (.cells #[.int .i64 ((d : Nat) : Int)] 3)) W1 := (Below.refl _ _).grown hg (by simp; omega) hob
  refine ⟨⟨B, hB, by have := hg.size; simp at this; omega, by rw [List.length_append, cellsD_snoc]; exact ho⟩, (below_laid h3 _).trans (B1.mono hB)⟩
theorem Out.dig {w wr : World} {v : Value} {l : List Nat} (h : Out w v l wr) : Dig wr v l := by
  obtain ⟨⟨B, _, _, h⟩, _⟩ := h
  exact Dig.of_owns h

/-- What the rounds of a sum keep. -/
structure SumI (x y l : List Nat) (k : Nat) (c : Int) : Prop where
  len : l.length = k
  ok : Ok l
  c0 : 0 ≤ c
  c1 : c ≤ 1
  val : (vl l : Int) + 65536 ^ k * c = vl (x.take k) + vl (y.take k)
  top : k ≤ max x.length y.length + 1
  last : k = max x.length y.length + 1 → c = 0

theorem SumI.start (x y : List Nat) : SumI x y [] 0 0 := ⟨rfl, (fun d h => by cases h), by omega, by omega, by simp [vl], by omega, by omega⟩
theorem SumI.next {x y l : List Nat} {k : Nat} {c : Int} (h : SumI x y l k c) (hx : Ok x) (hy : Ok y) (hgo : k < x.length ∨ k < y.length ∨ 0 < c) :
    SumI x y (l ++ [((dAt x k + dAt y k + c) % 65536).toNat]) (k + 1) ((dAt x k + dAt y k + c) / 65536) := by
  have x0 := dAt_lo (l := x) k; have x1 := dAt_hi hx k
  have y0 := dAt_lo (l := y) k; have y1 := dAt_hi hy k
  obtain ⟨e1, e2, c0, c1, ev, et, el⟩ := h
  have hend : k = max x.length y.length → dAt x k = 0 ∧ dAt y k = 0 := fun e => by
    unfold dAt; simp [List.getD, List.getElem?_eq_none (show x.length ≤ k by omega), List.getElem?_eq_none (show y.length ≤ k by omega)]
  refine ⟨by simp [e1], ok_append e2 (fun d hd => by simp at hd; omega), by omega, by omega, ?_, ?_, ?_⟩
  · rw [vl_snoc, e1, vl_take', vl_take', Int.pow_succ]
    have hdx : dAt x k = ((x.getD k 0 : Nat) : Int) := rfl
    have hdy : dAt y k = ((y.getD k 0 : Nat) : Int) := rfl
    have hs : (((dAt x k + dAt y k + c) % 65536).toNat : Int) = (dAt x k + dAt y k + c) % 65536 := by omega
    have hm : dAt x k + dAt y k + c = 65536 * ((dAt x k + dAt y k + c) / 65536) + (dAt x k + dAt y k + c) % 65536 := by omega
    generalize hq : (dAt x k + dAt y k + c) / 65536 = q at *
    generalize hr : (dAt x k + dAt y k + c) % 65536 = r at *
    have e3 : (65536 : Int) ^ k * dAt x k + 65536 ^ k * dAt y k + 65536 ^ k * c = 65536 ^ k * 65536 * q + 65536 ^ k * r := by
      rw [← Int.mul_add, ← Int.mul_add, hm, Int.mul_add, Int.mul_assoc]
    have g1 : ((vl l + 65536 ^ k * r.toNat : Nat) : Int) = (vl l : Int) + 65536 ^ k * r := by rw [Int.natCast_add, Int.natCast_mul, Int.natCast_pow, hs]; rfl
    have g2 : ((vl (x.take k) + 65536 ^ k * x.getD k 0 : Nat) : Int) = (vl (x.take k) : Int) + 65536 ^ k * dAt x k := by rw [Int.natCast_add, Int.natCast_mul, Int.natCast_pow]; rfl
    have g3 : ((vl (y.take k) + 65536 ^ k * y.getD k 0 : Nat) : Int) = (vl (y.take k) : Int) + 65536 ^ k * dAt y k := by rw [Int.natCast_add, Int.natCast_mul, Int.natCast_pow]; rfl
    rw [g1, g2, g3]
    omega
  · rcases Nat.lt_or_ge k (max x.length y.length + 1) with h | h
    · omega
    · have := el (by omega); omega
  · intro e
    have := hend (by omega)
    omega
theorem SumI.fin {x y l : List Nat} {k : Nat} {c : Int} (h : SumI x y l k c) (hx : ¬ k < x.length) (hy : ¬ k < y.length) (hc : ¬ 0 < c) : vl l = vl x + vl y := by
  obtain ⟨e1, e2, c0, c1, ev, et, el⟩ := h
  rw [show c = 0 by omega, List.take_of_length_le (by omega), List.take_of_length_le (by omega)] at ev
  simp at ev; omega
end Go.Proofs.Ytiollplcmmlcgaa
