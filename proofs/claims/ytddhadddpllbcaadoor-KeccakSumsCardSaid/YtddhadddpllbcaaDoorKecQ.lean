/-
  Equality of states.
-/
import Derived.Test.YtddhadddpllbcaaDoorProg
import Derived.ChangeKeysEq
import Derived.Laws.StructEq
import Derived.Test.YtddhadddpllbcaaDoorStr
import Derived.Test.YtddhadddpllbcaaDoorKecM
import Derived.Test.YtddhadddpllbcaaDoorKecL
namespace Go.Proofs.YtddhadddpllbcaaDoor
open Go Go.RowKit Go.Proofs.Kec
set_option linter.unusedVariables false
theorem items64 {P : Program} {w : World} (d e : Nat) (xs ys : Array Value) (f g : Nat → BitVec 64) (n : Nat) (he : P.underlying e = some (.int .u64)) (hk : P.plainKey e = true)
    (hx : ∀ i, i < n → xs[i]? = some (.int .u64 ((BitVec.toNat (f i) : Nat) : Int))) (hy : ∀ i, i < n → ys[i]? = some (.int .u64 ((BitVec.toNat (g i) : Nat) : Int))) :
    ∀ is : List Nat, (∀ i ∈ is, i < n) → (Op.eqItems (d + 1) e 1 xs ys is).run P w = .ok (is.all fun i => f i == g i) w
  | [], _ => by simp [Op.eqItems]
  | i :: is, h => by
    have p1 : (part e xs (i * 1)).run P w = .ok (.int .u64 ((BitVec.toNat (f i) : Nat) : Int)) w := by
      rw [Nat.mul_one]; exact run_part_plain w hk (hx i (h i (by simp)))
    have p2 : (part e ys (i * 1)).run P w = .ok (.int .u64 ((BitVec.toNat (g i) : Nat) : Int)) w := by
      rw [Nat.mul_one]; exact run_part_plain w hk (hy i (h i (by simp)))
    have p3 : (Op.equalIn (d + 1) e (.int .u64 ((BitVec.toNat (f i) : Nat) : Int)) (.int .u64 ((BitVec.toNat (g i) : Nat) : Int))).run P w = .ok (f i == g i) w := by
      rw [run_equalIn_int w d e .u64 .u64 _ _ he]
      congr 1
      rw [Bool.eq_iff_iff, beq_iff_eq, beq_iff_eq]
      exact ⟨fun q => BitVec.eq_of_toNat_eq (Int.ofNat_inj.1 q), fun q => by rw [q]⟩
    have ih := items64 (w := w) d e xs ys f g n he hk hx hy is (fun j hj => h j (by simp [hj]))
    simp only [Op.eqItems, Sem.run_bind, p1, p2, p3, Result.andThen_ok, List.all_cons]
    cases f i == g i
    · simp
    · simpa using ih
theorem nth_ext {s t : List (BitVec 64)} (hs : s.length = 25) (ht : t.length = 25) : ((List.range 25).all fun i => nth s i == nth t i) = decide (s = t) := by
  rw [Bool.eq_iff_iff, List.all_eq_true, decide_eq_true_iff]
  constructor
  · intro h
    apply List.ext_getElem (by rw [hs, ht])
    intro i h1 h2
    have := h i (by simp; omega)
    simpa [nth, h1, h2] using this
  · intro h; subst h; intro i _; exact beq_self_eq_true _
theorem eq25 (s t : List (BitVec 64)) (hs : s.length = 25) (ht : t.length = 25) (w : World) : (Op.equalIn 10000 26 (.agg (Value.cells (svn s))) (.agg (Value.cells (svn t)))).run Tryd.prog w = .ok (decide (s = t)) w := by
  obtain ⟨it, hi, hsz⟩ := Option.map_eq_some_iff.1 (show (Tryd.prog.info? 25).map (·.size) = some 1 by kernel_rfl)
  rw [run_equalIn_array w 9999 _ _ Tryd.underlying26 hi, show Tryd.prog.cellsOf 25 = 1 by kernel_rfl]
  rw [items64 9998 25 _ _ (nth s) (nth t) 25 Tryd.underlying25 (by kernel_rfl) (fun i h => svn_at s i i rfl h) (fun i h => svn_at t i i rfl h) _ (fun i h => by simpa using h), nth_ext hs ht]
theorem eq25_run {ρ : Env} (s t : List (BitVec 64)) (hs : s.length = 25) (ht : t.length = 25) {x y : Operand} {o : Oper} (w : World) (ho : o.op = .binOp .eql 26 x y 26) (hx : ev ρ x = .agg (Value.cells (svn s))) (hy : ev ρ y = .agg (Value.cells (svn t))) :
    (execOp (ev ρ) o).run Tryd.prog w = .ok (.value (.bool (decide (s = t)))) w := by
  have q := eq25 s t hs ht w
  generalize Value.cells (svn s) = X at q hx
  generalize Value.cells (svn t) = Y at q hy
  unfold execOp
  simp only [ho, hx, hy]
  go_simp
end Go.Proofs.YtddhadddpllbcaaDoor
