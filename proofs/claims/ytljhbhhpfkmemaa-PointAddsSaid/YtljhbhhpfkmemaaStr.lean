/-
  Texts: their bytes, parts, comparisons; bytes laid together as a text.
-/
import Derived.Test.YtljhbhhpfkmemaaNum
import Derived.Laws.BytesArg
namespace Go.Proofs.Ytljhbhhpfkmemaa
open Go Go.RowKit
set_option linter.unusedVariables false
/-- A text's bytes. -/
def tl (s : ByteArray) : List UInt8 := s.data.toList
theorem tl_len (s : ByteArray) : (tl s).length = s.size := rfl
theorem tl_extract (s : ByteArray) (a b : Nat) : tl (s.extract a b) = ((tl s).take b).drop a := by
  unfold tl
  rw [ByteArray.data_extract, Array.toList_extract, List.extract_eq_take_drop]
  rw [List.take_drop]
  rcases Nat.lt_or_ge b a with h | h
  · rw [show a + (b - a) = a by omega, List.drop_of_length_le (List.length_take_le _ _), List.drop_of_length_le (Nat.le_trans (List.length_take_le _ _) (by omega))]
  · rw [show a + (b - a) = b by omega]
/-- Byte i. -/
def by_ (s : ByteArray) (i : Nat) : Nat := ((tl s).getD i 0).toNat
theorem by_lt (s : ByteArray) (i : Nat) : by_ s i < 256 := UInt8.toNat_lt _
section
variable {P : Program} {ρ : Env}
theorem sindex_run {t : TypeId} (ht : P.underlying t = some .string) {x y : Operand} {o : Oper} {kd : IntKind} (s : ByteArray) (k : Nat) (ho : o.op = .index t x y) (hx : ev ρ x = .string s) (hy : ev ρ y = .int kd (k : Int)) (hk : k < s.size) :
    ∀ w, (execOp (ev ρ) o).run P w = .ok (.value (.int .u8 ((by_ s k : Nat) : Int))) w := fun w => by
  have hg : s[k]? = some ((tl s).getD k 0) := by
    have h1 : k < s.data.toList.length := hk
    have h2 : (tl s).getD k 0 = s.data[k]'hk := by unfold tl; rw [List.getD_eq_getElem?_getD, List.getElem?_eq_getElem h1]; rfl
    rw [h2]
    exact getElem?_pos s k hk
  unfold execOp
  simp [ho, hx, hy, Instr.index, asIntOf, run_underlying ht, hg, by_]
theorem scut_run {t : TypeId} (ht : P.underlying t = some .string) {x y : Operand} {o : Oper} {kd : IntKind} (s : ByteArray) (k : Nat) (ho : o.op = .slice t x none (some y) none) (hx : ev ρ x = .string s) (hy : ev ρ y = .int kd (k : Int)) (hk : k ≤ s.size) :
    ∀ w, (execOp (ev ρ) o).run P w = .ok (.value (.string (s.extract 0 k))) w := fun w => by
  have h1 : (0 : Int) ≤ (k : Int) ∧ (k : Int) ≤ (s.size : Int) := by omega
  unfold execOp
  simp [ho, hx, hy, Instr.sliceAt, Instr.slice, Instr.sliceBounds, Instr.sliceBound, asIntOf, run_underlying ht, hk]
theorem scut2_run {t : TypeId} (ht : P.underlying t = some .string) {x y z : Operand} {o : Oper} {kd kz : IntKind} (s : ByteArray) (j k : Nat) (ho : o.op = .slice t x (some z) (some y) none) (hx : ev ρ x = .string s) (hy : ev ρ y = .int kd (k : Int)) (hz : ev ρ z = .int kz (j : Int)) (hk : k ≤ s.size) (hj : j ≤ k) :
    ∀ w, (execOp (ev ρ) o).run P w = .ok (.value (.string (s.extract j k))) w := fun w => by
  unfold execOp
  simp [ho, hx, hy, hz, Instr.sliceAt, Instr.slice, Instr.sliceBounds, Instr.sliceBound, asIntOf, run_underlying ht, hk, hj]
theorem scut3_run {t : TypeId} (ht : P.underlying t = some .string) {x z : Operand} {o : Oper} {kz : IntKind} (s : ByteArray) (j : Nat) (ho : o.op = .slice t x (some z) none none) (hx : ev ρ x = .string s) (hz : ev ρ z = .int kz (j : Int)) (hj : j ≤ s.size) :
    ∀ w, (execOp (ev ρ) o).run P w = .ok (.value (.string (s.extract j s.size))) w := fun w => by
  unfold execOp
  simp [ho, hx, hz, Instr.sliceAt, Instr.slice, Instr.sliceBounds, Instr.sliceBound, asIntOf, run_underlying ht, hj]
end
theorem minN (a b : Nat) : (if (b : Int) < (a : Int) then (b : Int) else (a : Int)) = ((min a b : Nat) : Int) := by split <;> omega
theorem maxN (a b : Nat) : (if (b : Int) > (a : Int) then (b : Int) else (a : Int)) = ((max a b : Nat) : Int) := by split <;> omega
theorem str_self (s : ByteArray) : (s.toList == s.toList) = true := beq_self_eq_true _
theorem andN1 {a : Nat} (h : a < 18446744073709551616) : Go.bits .and .u64 (a : Int) (1 : Int) = ((a % 2 : Nat) : Int) := by
  have := u64_and_nat a 1 h (by omega)
  rw [nat_mask1] at this
  exact this
section
variable {P : Program} {N : Nat} {ops : Array Oper} {i : Nat} {r : List Nat} {K : Env → World → Prop} {ρ : Env} {w : World} {B : Nat} {w0 : World} {l : List (Nat × Obj)}
/-- 'string(b)', of bytes in a block of the list. -/
theorem s_bytesStr (HS : St B w0 w l) (d : Option Nat) (t t' e : TypeId) (x : Operand) (j b n cap : Nat) (cur : Array Value) (T : TypeId) (fz : Nat × Nat) (xs : List Int) (h : opk ops i ρ = some (d, true, .convert t t' x)) (hd : dOK d N = true)
    (ht : P.underlying t = some (.slice e)) (he : P.underlying e = some (.int .u8)) (ht' : P.underlying t' = some .string)
    (hx : ev ρ x = .slice (some ⟨b, 0, none⟩) n cap) (hj : l[j]? = some (b, .cells cur T fz)) (hr : Rw 1 cur cap n (xs.map (Value.int .u8)))
    (kk : WPs P N ops K r (updO ρ d (.string (strOfNums xs))) w) : WPs P N ops K (i :: r) ρ w := by
  refine s_genw d _ _ w h hd (fun o ho => ?_) kk
  have hlen : xs.length = n := by have := hr.len; simpa using this
  have hc := run_convert_bytes_arg (P := P) w t e ht he b 0 n cap xs hlen (fun q hq => by
    have h2 := hr.get q (by omega)
    simp [World.cell?, HS.get j hj, h2, hlen, hq]) t' ht'
  unfold execOp
  simp only [ho, hx, hc, Sem.run_bind, Result.andThen_ok]; rfl
end
end Go.Proofs.Ytljhbhhpfkmemaa
