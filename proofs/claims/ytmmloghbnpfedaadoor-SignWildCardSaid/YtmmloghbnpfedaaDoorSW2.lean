/-
  Texts of the proof, part 2.
-/
import Derived.Laws.BitsAllLaws
import Derived.Laws.MakeOwn
import Derived.Laws.BytesArg
import Derived.Laws.CopyRow
import Derived.Laws.Concat
import Derived.Lib.BufferWrite
import Derived.Laws.IdiomStrings
import Derived.Lib.UnsafeStr
import Derived.Below
import Derived.KernelRfl
import Derived.Test.YtmmloghbnpfedaaDoorProg
import Derived.WalkKit
import Derived.ProofKit
import Derived.OpenShut
import Derived.Handy
import Derived.WalkLawsBesides
import Derived.Shelf.Spec.BitsCarry
import Derived.Shelf.Bits.Mul64
import Derived.Laws.Bits64b
import Derived.Lib.BitFns
import Derived.Shelf.Strconv.Itoa0
import Derived.Lib.Hide
import Derived.Test.YtmmloghbnpfedaaDoorSW1

namespace Go.Proofs.YtmmloghbnpfedaaDoor
open Go Go.RowKit
set_option linter.unusedVariables false
theorem nat_tdiv (a b : Nat) : (a : Int).tdiv (b : Int) = ((a / b : Nat) : Int) := rfl
theorem nat_tmod (a b : Nat) : (a : Int).tmod (b : Int) = ((a % b : Nat) : Int) := rfl
theorem wrapAdd_i64 {a b : Nat} (h : a + b ≤ 9223372036854775807) : IntKind.i64.wrap ((a : Int) + (b : Int)) = ((a + b : Nat) : Int) := by rw [wrap_i64 (by omega) (by omega)]; omega
theorem wrapMul_i64 {a b : Nat} (h : a * b ≤ 9223372036854775807) : IntKind.i64.wrap ((a : Int) * (b : Int)) = ((a * b : Nat) : Int) := by
  rw [← Int.natCast_mul]; exact wrap_i64 (by omega) (by omega)
theorem wrapSub_i64 {a b : Nat} (h : b ≤ a ∧ a ≤ 9223372036854775807) : IntKind.i64.wrap ((a : Int) - (b : Int)) = ((a - b : Nat) : Int) := by rw [wrap_i64 (by omega) (by omega)]; omega
theorem wrapAdd_u64 {a b : Nat} (h : a + b ≤ 18446744073709551615) : IntKind.u64.wrap ((a : Int) + (b : Int)) = ((a + b : Nat) : Int) := by rw [wrap_u64 (by omega) (by omega)]; omega
theorem wrapSub_u64 {a b : Nat} (h : b ≤ a ∧ a ≤ 18446744073709551615) : IntKind.u64.wrap ((a : Int) - (b : Int)) = ((a - b : Nat) : Int) := by rw [wrap_u64 (by omega) (by omega)]; omega
theorem wrapMul_u64 {a b : Nat} (h : a * b ≤ 18446744073709551615) : IntKind.u64.wrap ((a : Int) * (b : Int)) = ((a * b : Nat) : Int) := by
  rw [← Int.natCast_mul]; exact wrap_u64 (by omega) (by omega)
theorem quoN_i64 {a b : Nat} (h : a ≤ 9223372036854775807) : IntKind.i64.wrap ((a : Int).tdiv (b : Int)) = ((a / b : Nat) : Int) := by
  rw [nat_tdiv]; have := Nat.div_le_self a b; generalize a / b = q at *; exact wrap_i64 (by omega) (by omega)
theorem remN (a b : Nat) : (a : Int).tmod (b : Int) = ((a % b : Nat) : Int) := nat_tmod a b
theorem shrN {k : Nat} (a p : Nat) (h : 2 ^ k = p) : Int.fdiv (a : Int) (2 ^ k) = ((a / p : Nat) : Int) := by
  subst h
  rw [Int.fdiv_eq_ediv_of_nonneg _ (by exact_mod_cast Nat.zero_le _)]
  push_cast; rfl
theorem wrapN_i64 {a : Nat} (h : a ≤ 9223372036854775807) : IntKind.i64.wrap (a : Int) = (a : Int) := wrap_i64 (by omega) (by omega)
theorem wrapN_u64 {a : Nat} (h : a ≤ 18446744073709551615) : IntKind.u64.wrap (a : Int) = (a : Int) := wrap_u64 (by omega) (by omega)
theorem shl_mod (x s n M : Nat) (hM : 2 ^ n = M) : (x : Int) * 2 ^ (min s n) % (M : Int) = ((x * 2 ^ s % 2 ^ n : Nat) : Int) := by
  subst hM
  rcases Nat.lt_or_ge s n with h | h
  · rw [Nat.min_eq_left (by omega)]; push_cast; rfl
  · rw [Nat.min_eq_right h]
    have e1 : x * 2 ^ s % 2 ^ n = 0 := by
      rw [show s = n + (s - n) by omega, Nat.pow_add, ← Nat.mul_assoc, Nat.mul_right_comm]; exact Nat.mul_mod_left _ _
    rw [e1]
    have : ((x * 2 ^ n % 2 ^ n : Nat) : Int) = 0 := by rw [Nat.mul_mod_left]; rfl
    push_cast at this ⊢; exact this
theorem shr_min (x s n : Nat) (h : x < 2 ^ n) : Int.fdiv (x : Int) (2 ^ (min s n)) = ((x / 2 ^ s : Nat) : Int) := by
  rw [Int.fdiv_eq_ediv_of_nonneg _ (by exact_mod_cast Nat.zero_le _)]
  rcases Nat.lt_or_ge s n with h2 | h2
  · rw [Nat.min_eq_left (by omega)]; push_cast; rfl
  · rw [Nat.min_eq_right h2, Nat.div_eq_of_lt (Nat.lt_of_lt_of_le h (Nat.pow_le_pow_right (by omega) h2))]
    have : ((x / 2 ^ n : Nat) : Int) = 0 := by rw [Nat.div_eq_of_lt h]; rfl
    push_cast at this ⊢; exact this
theorem wr_u64 (a : Int) : IntKind.u64.wrap a = a % 18446744073709551616 := by simp [IntKind.wrap, IntKind.bits, IntKind.signed]
theorem bv_xor_u64 (x y : BitVec 64) : Value.int .u64 (Go.bits .xor .u64 ((BitVec.toNat x : Nat) : Int) ((BitVec.toNat y : Nat) : Int)) = .int .u64 ((BitVec.toNat (x ^^^ y) : Nat) : Int) := by rw [u64_xor_nat _ _ x.isLt y.isLt, BitVec.toNat_xor]
theorem bv_and_u64 (x y : BitVec 64) : Value.int .u64 (Go.bits .and .u64 ((BitVec.toNat x : Nat) : Int) ((BitVec.toNat y : Nat) : Int)) = .int .u64 ((BitVec.toNat (x &&& y) : Nat) : Int) := by rw [u64_and_nat _ _ x.isLt y.isLt, BitVec.toNat_and]
theorem bv_or_u64 (x y : BitVec 64) : Value.int .u64 (Go.bits .or .u64 ((BitVec.toNat x : Nat) : Int) ((BitVec.toNat y : Nat) : Int)) = .int .u64 ((BitVec.toNat (x ||| y) : Nat) : Int) := by rw [u64_or_nat _ _ x.isLt y.isLt, BitVec.toNat_or]
theorem bv_andNot_u64 (x y : BitVec 64) : Value.int .u64 (Go.bits .andNot .u64 ((BitVec.toNat x : Nat) : Int) ((BitVec.toNat y : Nat) : Int)) = .int .u64 ((BitVec.toNat (x &&& ~~~y) : Nat) : Int) := by rw [u64_andNot_nat _ _ x.isLt y.isLt, BitVec.toNat_and, BitVec.toNat_not]
theorem bv_add_u64 (x y : BitVec 64) : Value.int .u64 (IntKind.u64.wrap (((BitVec.toNat x : Nat) : Int) + ((BitVec.toNat y : Nat) : Int))) = .int .u64 ((BitVec.toNat (x + y) : Nat) : Int) := by rw [wr_u64, BitVec.toNat_add]; congr 1
theorem bv_mul_u64 (x y : BitVec 64) : Value.int .u64 (IntKind.u64.wrap (((BitVec.toNat x : Nat) : Int) * ((BitVec.toNat y : Nat) : Int))) = .int .u64 ((BitVec.toNat (x * y) : Nat) : Int) := by rw [wr_u64, BitVec.toNat_mul, ← Int.natCast_mul]; congr 1
theorem bv_sub_u64 (x y : BitVec 64) : Value.int .u64 (IntKind.u64.wrap (((BitVec.toNat x : Nat) : Int) - ((BitVec.toNat y : Nat) : Int))) = .int .u64 ((BitVec.toNat (x - y) : Nat) : Int) := by
  rw [wr_u64, BitVec.toNat_sub]; have := x.isLt; have := y.isLt; congr 1; omega
theorem bv_shl_u64 (x : BitVec 64) (s : Nat) : Value.int .u64 (IntKind.u64.wrap (((BitVec.toNat x : Nat) : Int) * 2 ^ (min s 64))) = .int .u64 ((BitVec.toNat (x <<< s) : Nat) : Int) := by
  rw [wr_u64, BitVec.toNat_shiftLeft, Nat.shiftLeft_eq]; congr 1; exact shl_mod x.toNat s 64 18446744073709551616 rfl
theorem bv_shr_u64 (x : BitVec 64) (s : Nat) : Value.int .u64 (Int.fdiv ((BitVec.toNat x : Nat) : Int) (2 ^ (min s 64))) = .int .u64 ((BitVec.toNat (x >>> s) : Nat) : Int) := by
  rw [BitVec.toNat_ushiftRight, Nat.shiftRight_eq_div_pow]; congr 1; exact shr_min x.toNat s 64 x.isLt
theorem bv_rem_u64 (x y : BitVec 64) : Value.int .u64 (Int.tmod ((BitVec.toNat x : Nat) : Int) ((BitVec.toNat y : Nat) : Int)) = .int .u64 ((BitVec.toNat (x % y) : Nat) : Int) := by rw [BitVec.toNat_umod, nat_tmod]
theorem bv_ofNat_u64 (a : Nat) : Value.int .u64 (IntKind.u64.wrap ((a : Nat) : Int)) = .int .u64 ((BitVec.toNat (BitVec.ofNat 64 a) : Nat) : Int) := by rw [wr_u64, BitVec.toNat_ofNat]; congr 1
theorem wr_u8 (a : Int) : IntKind.u8.wrap a = a % 256 := by simp [IntKind.wrap, IntKind.bits, IntKind.signed]
theorem bv_add_u8 (x y : BitVec 8) : Value.int .u8 (IntKind.u8.wrap (((BitVec.toNat x : Nat) : Int) + ((BitVec.toNat y : Nat) : Int))) = .int .u8 ((BitVec.toNat (x + y) : Nat) : Int) := by rw [wr_u8, BitVec.toNat_add]; congr 1
theorem bv_conv_u8 {m : Nat} (x : BitVec m) : Value.int .u8 (IntKind.u8.wrap ((BitVec.toNat x : Nat) : Int)) = .int .u8 ((BitVec.toNat (BitVec.setWidth 8 x) : Nat) : Int) := by rw [wr_u8, BitVec.toNat_setWidth]; congr 1
section
variable {P : Program} {ρ : Env}
theorem cut_run {t e : TypeId} {size bytes : Nat} (ht : sliceOf P t = some (e, size, bytes)) {x y : Operand} {o : Oper} {kd : IntKind} (b n c k : Nat) (ho : o.op = .slice t x none (some y) none) (hx : ev ρ x = .slice (some ⟨b, 0, none⟩) n c) (hy : ev ρ y = .int kd (k : Int)) (hk : k ≤ c) :
    ∀ w, (execOp (ev ρ) o).run P w = .ok (.value (.slice (some ⟨b, 0, none⟩) k c)) w := fun w => by
  obtain ⟨it, z, hu, hi, hz, hsz, hby, hzs, h0⟩ := sliceOf_spec ht
  have hS : (sizeOf e).run P w = .ok size w := by simp [sizeOf, typeInfo, hi, hsz]
  have h1 : (0 : Int) ≤ (k : Int) ∧ (k : Int) ≤ (c : Int) := by omega
  unfold execOp
  simp [ho, hx, hy, Instr.sliceAt, Instr.slice, Instr.sliceBounds, Instr.sliceBound, asIntOf, run_underlying hu, hS, hk, addr_add]
end
namespace D2
theorem ent_get' {E : List Ent} {k : Nat} {p : Bool} {e : Nat × Obj} {b : Nat} {o : Obj} (h : E[k]? = some (p, e)) (hp : p = true) (he : e = (b, o)) : E[k]? = some (true, (b, o)) := by rw [h, hp, he]
theorem StE.old {B : Nat} {w0 w : World} {E : List Ent} (HS : StE B w0 w E) {b : Nat} {o : Obj} (h : w0.heap[b]? = some o) (hb : b < B) : w.heap[b]? = some o := by rw [HS.below.block b hb]; exact h
section
variable {P : Program} {ops : Array Oper} {R : (Nat → Gh) → Env} {i : Nat} {d : Option Nat}
variable {E : (Nat → Bool) → (Nat → Gh) → List Ent} {F : (Nat → Bool) → (Nat → Gh) → Prop} {B : Nat} {w0 : World}
end
end D2
section
variable {P : Program} {N : Nat} {ops : Array Oper} {i : Nat} {r : List Nat} {K : Env → World → Prop} {ρ : Env} {w : World} {B : Nat} {w0 : World} {l : List (Nat × Obj)}
/-- 'make([]T, n)', of elements of one cell. -/
theorem s_make (HS : St B w0 w l) (d : Option Nat) (t e : TypeId) (bytes : Nat) (z : Value) (x y : Operand) (kl kc : IntKind) (n : Nat) (h : opk ops i ρ = some (d, true, .makeSlice t x y)) (hd : dOK d N = true) (ht : sliceOf P t = some (e, 1, bytes)) (hz : (P.info? e).bind (·.zero) = some z) (hzz : z.cells = #[z])
    (hx : ev ρ x = .int kl (n : Int)) (hy : ev ρ y = .int kc (n : Int)) (hb : bytes * n ≤ 281474976710656) (hm : n ≤ maxLen)
    (kk : ∀ b cur w', St B w0 w' ((b, .cells cur e (0, 0)) :: l) → Rw 1 cur n n (List.replicate n z) → WPs P N ops K r (updO ρ d (.slice (some ⟨b, 0, none⟩) n n)) w') : WPs P N ops K (i :: r) ρ w := by
  obtain ⟨o, ho, rfl, hw, hop⟩ := opk_some h
  obtain ⟨it, z', hu, hi, hz', hsz, hby, hzs, h0⟩ := sliceOf_spec ht
  obtain rfl : z' = z := by rw [hi] at hz; simp [hz'] at hz; exact hz
  have hml : n ≤ 9223372036854775807 := by have := hm; simp only [maxLen] at this; omega
  have hbi : (it.bytes : Int) * (n : Int) ≤ 281474976710656 := by
    rw [hby, ← Int.natCast_mul]; omega
  have hr := run_make (P := P) w t e it z' hu hi hz' kl kc (n : Int) (n : Int) (by omega) (by omega) hbi (by omega)
  simp only [Int.toNat_natCast, hsz, Nat.mul_one] at hr
  have hmade : madeCells z'.cells n = Array.replicate n z' := by
    unfold madeCells
    apply Array.ext
    · simp
    · intro q h1 h2
      simp [hzz, Nat.mod_one]
  rw [hmade] at hr
  refine WPo.run ho hw fun a ha => ?_
  have hex : (execOp (ev ρ) o).run P w = .ok (.value (.slice (some ⟨w.heap.size, 0, none⟩) n n)) (w.alloc (.cells (Array.replicate n z') e)) := by
    unfold execOp
    simp only [hop, hx, hy, Sem.run_bind, hr, Result.andThen_ok]; rfl
  rw [hex, Oper.upon_value]
  exact ⟨_, ha.put _ (dOK_lt hd) _, kk _ _ _ (HS.alloc _) ⟨by simp, Nat.le_refl _, hm, by simp, by simp⟩⟩
end
/-- An element of a row, of one cell. -/
theorem Rw.at1 {cur : Array Value} {cap n : Nat} {xs : List Value} (h : Rw 1 cur cap n xs) {i : Nat} {v : Value} (hi : i < n) (hv : xs[i]? = some v) : cur[0 + i * 1]? = some v := by
  rw [Nat.zero_add, Nat.mul_one, h.get i (by omega)]; exact hv
theorem Rw.put {cur : Array Value} {cap n : Nat} {l : List Nat} (h : Rw 1 cur cap n (cellsD l)) (i v : Nat) (hi : i < n) :
    ∃ cur', (cur.toList.take (0 + i * 1) ++ (Value.int .i64 ((v : Nat) : Int)).cells.toList ++ cur.toList.drop (0 + i * 1 + (Value.int .i64 ((v : Nat) : Int)).cells.size)).toArray = cur' ∧ (0 + i * 1 + (Value.int .i64 ((v : Nat) : Int)).cells.size ≤ cur.size) ∧ Rw 1 cur' cap n (cellsD (l.set i v)) := by
  have h1 : (Value.int .i64 ((v : Nat) : Int)).cells = #[.int .i64 ((v : Nat) : Int)] := rfl
  have hsz := h.sz; have hle := h.le
  have hlt : i < cur.toList.length := by simp; omega
  have e : cur.toList.take (0 + i * 1) ++ (Value.int .i64 ((v : Nat) : Int)).cells.toList ++ cur.toList.drop (0 + i * 1 + (Value.int .i64 ((v : Nat) : Int)).cells.size) = cur.toList.set i (.int .i64 ((v : Nat) : Int)) := by
    rw [h1, Nat.zero_add, Nat.mul_one, List.set_eq_take_append_cons_drop, if_pos hlt]
    simp
  refine ⟨_, rfl, by rw [h1]; simp; omega, ?_⟩
  rw [e]
  refine ⟨?_, h.le, h.max, ?_, by simpa using hsz⟩
  · have := h.len; unfold cellsD at this ⊢; simpa using this
  · have := h.take
    simp only [List.take_set, Nat.mul_one] at this ⊢
    rw [this]; unfold cellsD; simp [List.map_set]
theorem Rw.atD {cur : Array Value} {cap n : Nat} {l : List Nat} (h : Rw 1 cur cap n (cellsD l)) {i : Nat} (hi : i < n) (hn : n = l.length) : cur[0 + i * 1]? = some (.int .i64 ((l.getD i 0 : Nat) : Int)) :=
  h.at1 hi (cellsD_get l i (by omega))
end Go.Proofs.YtmmloghbnpfedaaDoor

namespace Go.Proofs.YtmmloghbnpfedaaDoor
open Go Go.RowKit
set_option linter.unusedVariables false
/-- A text's bytes. -/
def tl (s : ByteArray) : List UInt8 := s.data.toList
theorem tl_len (s : ByteArray) : (tl s).length = s.size := rfl
theorem tl_extract (s : ByteArray) (a b : Nat) : tl (s.extract a b) = ((tl s).take b).drop a := by
  unfold tl
  rw [ByteArray.data_extract, Array.toList_extract, List.extract_eq_take_drop]
  rw [List.take_drop]
  rcases Nat.lt_or_ge b a with h | h
  · rw [show a + (b - a) = a by omega, List.drop_of_length_le (List.length_take_le _ _), List.drop_of_length_le (Nat.le_trans (List.length_take_le _ _) (by omega))]
  · rw [show a + (b - a) = b by omega]
/-- Byte i. -/
def by_ (s : ByteArray) (i : Nat) : Nat := ((tl s).getD i 0).toNat
theorem by_lt (s : ByteArray) (i : Nat) : by_ s i < 256 := UInt8.toNat_lt _
section
variable {P : Program} {ρ : Env}
theorem sindex_run {t : TypeId} (ht : P.underlying t = some .string) {x y : Operand} {o : Oper} {kd : IntKind} (s : ByteArray) (k : Nat) (ho : o.op = .index t x y) (hx : ev ρ x = .string s) (hy : ev ρ y = .int kd (k : Int)) (hk : k < s.size) :
    ∀ w, (execOp (ev ρ) o).run P w = .ok (.value (.int .u8 ((by_ s k : Nat) : Int))) w := fun w => by
  have hg : s[k]? = some ((tl s).getD k 0) := by
    have h1 : k < s.data.toList.length := hk
    have h2 : (tl s).getD k 0 = s.data[k]'hk := by unfold tl; rw [List.getD_eq_getElem?_getD, List.getElem?_eq_getElem h1]; rfl
    rw [h2]
    exact getElem?_pos s k hk
  unfold execOp
  simp [ho, hx, hy, Instr.index, asIntOf, run_underlying ht, hg, by_]
theorem scut_run {t : TypeId} (ht : P.underlying t = some .string) {x y : Operand} {o : Oper} {kd : IntKind} (s : ByteArray) (k : Nat) (ho : o.op = .slice t x none (some y) none) (hx : ev ρ x = .string s) (hy : ev ρ y = .int kd (k : Int)) (hk : k ≤ s.size) :
    ∀ w, (execOp (ev ρ) o).run P w = .ok (.value (.string (s.extract 0 k))) w := fun w => by
  have h1 : (0 : Int) ≤ (k : Int) ∧ (k : Int) ≤ (s.size : Int) := by omega
  unfold execOp
  simp [ho, hx, hy, Instr.sliceAt, Instr.slice, Instr.sliceBounds, Instr.sliceBound, asIntOf, run_underlying ht, hk]
theorem scut3_run {t : TypeId} (ht : P.underlying t = some .string) {x z : Operand} {o : Oper} {kz : IntKind} (s : ByteArray) (j : Nat) (ho : o.op = .slice t x (some z) none none) (hx : ev ρ x = .string s) (hz : ev ρ z = .int kz (j : Int)) (hj : j ≤ s.size) :
    ∀ w, (execOp (ev ρ) o).run P w = .ok (.value (.string (s.extract j s.size))) w := fun w => by
  unfold execOp
  simp [ho, hx, hz, Instr.sliceAt, Instr.slice, Instr.sliceBounds, Instr.sliceBound, asIntOf, run_underlying ht, hj]
end
theorem minN (a b : Nat) : (if (b : Int) < (a : Int) then (b : Int) else (a : Int)) = ((min a b : Nat) : Int) := by split <;> omega
theorem str_self (s : ByteArray) : (s.toList == s.toList) = true := beq_self_eq_true _
section
variable {P : Program} {N : Nat} {ops : Array Oper} {i : Nat} {r : List Nat} {K : Env → World → Prop} {ρ : Env} {w : World} {B : Nat} {w0 : World} {l : List (Nat × Obj)}
/-- 'string(b)', of bytes in a block of the list. -/
theorem s_bytesStr (HS : St B w0 w l) (d : Option Nat) (t t' e : TypeId) (x : Operand) (j b n cap : Nat) (cur : Array Value) (T : TypeId) (fz : Nat × Nat) (xs : List Int) (h : opk ops i ρ = some (d, true, .convert t t' x)) (hd : dOK d N = true)
    (ht : P.underlying t = some (.slice e)) (he : P.underlying e = some (.int .u8)) (ht' : P.underlying t' = some .string)
    (hx : ev ρ x = .slice (some ⟨b, 0, none⟩) n cap) (hj : l[j]? = some (b, .cells cur T fz)) (hr : Rw 1 cur cap n (xs.map (Value.int .u8)))
    (kk : WPs P N ops K r (updO ρ d (.string (strOfNums xs))) w) : WPs P N ops K (i :: r) ρ w := by
  refine s_genw d _ _ w h hd (fun o ho => ?_) kk
  have hlen : xs.length = n := by have := hr.len; simpa using this
  have hc := run_convert_bytes_arg (P := P) w t e ht he b 0 n cap xs hlen (fun q hq => by
    have h2 := hr.get q (by omega)
    simp [World.cell?, HS.get j hj, h2, hlen, hq]) t' ht'
  unfold execOp
  simp only [ho, hx, hc, Sem.run_bind, Result.andThen_ok]; rfl
end
end Go.Proofs.YtmmloghbnpfedaaDoor

namespace Go.Proofs.YtmmloghbnpfedaaDoor
open Go Go.RowKit
set_option linter.unusedVariables false
/-- n cells, each by its number. -/
def arrF (n : Nat) (f : Nat → Value) : List Value := (List.range n).map f
theorem arrF_len (n : Nat) (f : Nat → Value) : (arrF n f).length = n := by unfold arrF; simp
theorem arrF_get {n : Nat} {f : Nat → Value} {k : Nat} (h : k < n) : (arrF n f)[k]? = some (f k) := by unfold arrF; simp [h]
theorem arrF_set {n : Nat} {f g : Nat → Value} {k : Nat} {v : Value} (h : k < n) (hg : ∀ j, j < n → g j = if j = k then v else f j) : (arrF n f).set k v = arrF n g := by
  apply List.ext_getElem?
  intro j
  rw [List.getElem?_set]
  by_cases hj : j < n
  · rw [arrF_get hj, arrF_get hj, hg j hj]
    by_cases hkj : k = j
    · subst hkj; rw [if_pos rfl, if_pos (by rw [arrF_len]; exact hj), if_pos rfl]
    · rw [if_neg hkj, if_neg (fun e => hkj e.symm)]
  · have e1 : (arrF n f)[j]? = none := List.getElem?_eq_none (by rw [arrF_len]; omega)
    have e2 : (arrF n g)[j]? = none := List.getElem?_eq_none (by rw [arrF_len]; omega)
    rw [e1, e2, if_neg (by omega)]
theorem seg_at {C : Array Value} {pre post : List Value} {n : Nat} {f : Nat → Value} (hC : C.toList = pre ++ arrF n f ++ post) {off k : Nat} (ho : off = pre.length + k * 1) (hk : k < n) : C[off]? = some (f k) := by
  subst ho
  rw [← Array.getElem?_toList, hC, List.append_assoc, List.getElem?_append_right (by omega), show pre.length + k * 1 - pre.length = k by omega,
    List.getElem?_append_left (by rw [arrF_len]; exact hk), arrF_get hk]
theorem seg_put {C : Array Value} {pre post : List Value} {n : Nat} {f g : Nat → Value} (hC : C.toList = pre ++ arrF n f ++ post) {off k : Nat} {v : Value} (hv : v.cells = #[v]) (ho : off = pre.length + k * 1) (hk : k < n)
    (hg : ∀ j, j < n → g j = if j = k then v else f j) : (C.toList.take off ++ v.cells.toList ++ C.toList.drop (off + v.cells.size)).toArray = (pre ++ arrF n g ++ post).toArray := by
  subst ho
  congr 1
  have hlt : pre.length + k * 1 < C.toList.length := by rw [hC]; simp [arrF_len]; omega
  rw [hv]
  show List.take _ _ ++ [v] ++ List.drop (_ + 1) _ = _
  have e : List.take (pre.length + k * 1) C.toList ++ [v] ++ List.drop (pre.length + k * 1 + 1) C.toList = C.toList.set (pre.length + k * 1) v := by
    rw [List.set_eq_take_append_cons_drop, if_pos hlt, List.append_assoc]; rfl
  rw [e, hC, List.append_assoc, List.set_append_right _ _ (by omega), show pre.length + k * 1 - pre.length = k by omega, List.set_append_left _ _ (by rw [arrF_len]; exact hk), arrF_set hk hg, List.append_assoc]
theorem arr_index {P : Program} {ρ : Env} {t e : TypeId} {n : Nat} (ht : P.underlying t = some (.array n e)) (he : P.plainKey e = true) (hz : (P.info? e).map (·.size) = some 1) {x y : Operand} {o : Oper} {kd : IntKind} (C : Array Value) (k : Nat) (v : Value)
    (ho : o.op = .index t x y) (hx : ev ρ x = .agg C) (hy : ev ρ y = .int kd (k : Int)) (hk : k < n) (hv : C[0 + k * 1]? = some v) : ∀ w, (execOp (ev ρ) o).run P w = .ok (.value v) w := fun w => by
  obtain ⟨it, hi, hsz⟩ := Option.map_eq_some_iff.1 hz
  have hS : (sizeOf e).run P w = .ok 1 w := by simp [sizeOf, typeInfo, hi, hsz]
  have hp : (part e C (k * 1)).run P w = .ok v w := run_part_plain w he (by rw [Nat.zero_add] at hv; exact hv)
  have h1 : (0 : Int) ≤ (k : Int) ∧ (k : Int) < (n : Int) := by omega
  unfold execOp
  simp only [Nat.mul_one] at hp
  simp [ho, hx, hy, Instr.index, asIntOf, run_underlying ht, hS, hp, hk]
theorem sadd_run {P : Program} {ρ : Env} {t t' : TypeId} {x y : Operand} {o : Oper} (a b : ByteArray) (w : World) (ho : o.op = .binOp .add t x y t') (hx : ev ρ x = .string a) (hy : ev ρ y = .string b) (h : a.size + b.size ≤ 9223372036854775807) :
    (execOp (ev ρ) o).run P w = .ok (.value (.string (a ++ b))) w := by
  unfold execOp
  simp [ho, hx, hy, eqGuard, binOp, run_string_add_sum w a b h]
theorem tl_add (a b : ByteArray) : tl (a ++ b) = tl a ++ tl b := by unfold tl; simp
def copyOp (dT sT : TypeId) (x y : Operand) : Op := .call { callee := .builtin .copy, args := #[x, y], argTypes := #[dT, sT] }
/-- Bytes as cells. -/
def cellsB (l : List UInt8) : List Value := l.map fun b => Value.int .u8 ((b.toNat : Nat) : Int)
theorem cellsB_len (l : List UInt8) : (cellsB l).length = l.length := by unfold cellsB; simp
theorem cellsB_append (a b : List UInt8) : cellsB (a ++ b) = cellsB a ++ cellsB b := by unfold cellsB; simp
theorem cellsB_get (l : List UInt8) (i : Nat) (hi : i < l.length) : (cellsB l)[i]? = some (.int .u8 (((l.getD i 0).toNat : Nat) : Int)) := by
  unfold cellsB; simp [hi]
/-- Bytes laid together as a text. -/
def strB (l : List UInt8) : ByteArray := ⟨l.toArray⟩
theorem tl_strB (l : List UInt8) : tl (strB l) = l := rfl
theorem strB_tl (s : ByteArray) : strB (tl s) = s := rfl
theorem strB_size (l : List UInt8) : (strB l).size = l.length := rfl
theorem slArr_run {P : Program} {ρ : Env} {t e : TypeId} {n z : Nat} (ht : P.underlying t = some (.array n e)) (hz : (P.info? e).map (·.size) = some z) {x : Operand} {o : Oper} (b : Nat) (ho : o.op = .slice t x none none none) (hx : ev ρ x = .pointer (some ⟨b, 0, none⟩)) :
    ∀ w, (execOp (ev ρ) o).run P w = .ok (.value (.slice (some ⟨b, 0, none⟩) n n)) w := fun w => by
  obtain ⟨it, hi, hsz⟩ := Option.map_eq_some_iff.1 hz
  have hS : (sizeOf e).run P w = .ok z w := by simp [sizeOf, typeInfo, hi, hsz]
  unfold execOp
  simp [ho, hx, Instr.sliceAt, Instr.slice, Instr.sliceBounds, Instr.sureAddr, run_underlying ht, hS, addr_add]
theorem strOfNums_map (l : List UInt8) : strOfNums (l.map fun b => ((b.toNat : Nat) : Int)) = strB l := by
  unfold strOfNums strB
  refine congrArg (fun l : List UInt8 => ByteArray.mk l.toArray) ?_
  rw [List.map_map]
  conv => rhs; rw [← List.map_id l]
  refine List.map_congr_left fun b _ => ?_
  apply UInt8.toNat_inj.1
  simp
/-- A row of bytes. -/
theorem Rw.atB {cur : Array Value} {cap n : Nat} {l : List UInt8} (h : Rw 1 cur cap n (cellsB l)) {i : Nat} (hi : i < n) (hn : n = l.length) : cur[0 + i * 1]? = some (.int .u8 (((l.getD i 0).toNat : Nat) : Int)) :=
  h.at1 hi (cellsB_get l i (by omega))
/-- Words of 32 bits as cells. -/
def cellsW (l : List (BitVec 32)) : List Value := l.map fun b => Value.int .u32 ((b.toNat : Nat) : Int)
theorem cellsW_get (l : List (BitVec 32)) (i : Nat) (hi : i < l.length) : (cellsW l)[i]? = some (.int .u32 (((l.getD i 0).toNat : Nat) : Int)) := by
  unfold cellsW; simp [hi]
theorem Rw.atW {cur : Array Value} {cap n : Nat} {l : List (BitVec 32)} (h : Rw 1 cur cap n (cellsW l)) {i : Nat} (hi : i < n) (hn : n = l.length) : cur[0 + i * 1]? = some (.int .u32 (((l.getD i 0).toNat : Nat) : Int)) :=
  h.at1 hi (cellsW_get l i (by omega))
theorem Rw.putG {cur : Array Value} {cap n : Nat} {xs : List Value} {x : Value} (hx : x.cells = #[x]) (h : Rw 1 cur cap n xs) (i : Nat) (hi : i < n) :
    ∃ cur', (cur.toList.take (0 + i * 1) ++ x.cells.toList ++ cur.toList.drop (0 + i * 1 + x.cells.size)).toArray = cur' ∧ (0 + i * 1 + x.cells.size ≤ cur.size) ∧ Rw 1 cur' cap n (xs.set i x) := by
  have hsz := h.sz; have hle := h.le
  have hlt : i < cur.toList.length := by simp; omega
  have e : cur.toList.take (0 + i * 1) ++ x.cells.toList ++ cur.toList.drop (0 + i * 1 + x.cells.size) = cur.toList.set i x := by
    rw [hx, Nat.zero_add, Nat.mul_one, List.set_eq_take_append_cons_drop, if_pos hlt]
    simp
  refine ⟨_, rfl, by rw [hx]; simp; omega, ?_⟩
  rw [e]
  refine ⟨?_, h.le, h.max, ?_, by simpa using hsz⟩
  · have := h.len; simpa using this
  · have := h.take
    simp only [List.take_set, Nat.mul_one] at this ⊢
    rw [this]
theorem Rw.putW {cur : Array Value} {cap n : Nat} {l : List (BitVec 32)} (h : Rw 1 cur cap n (cellsW l)) (i : Nat) (v : BitVec 32) (hi : i < n) :
    ∃ cur', (cur.toList.take (0 + i * 1) ++ (Value.int .u32 ((v.toNat : Nat) : Int)).cells.toList ++ cur.toList.drop (0 + i * 1 + (Value.int .u32 ((v.toNat : Nat) : Int)).cells.size)).toArray = cur' ∧ (0 + i * 1 + (Value.int .u32 ((v.toNat : Nat) : Int)).cells.size ≤ cur.size) ∧ Rw 1 cur' cap n (cellsW (l.set i v)) := by
  obtain ⟨c, h1, h2, h3⟩ := Rw.putG (x := Value.int .u32 ((v.toNat : Nat) : Int)) rfl h i hi
  exact ⟨c, h1, h2, by unfold cellsW at h3 ⊢; rw [List.map_set]; exact h3⟩
theorem Rw.putB {cur : Array Value} {cap n : Nat} {l : List UInt8} (h : Rw 1 cur cap n (cellsB l)) (i : Nat) (v : UInt8) (hi : i < n) :
    ∃ cur', (cur.toList.take (0 + i * 1) ++ (Value.int .u8 ((v.toNat : Nat) : Int)).cells.toList ++ cur.toList.drop (0 + i * 1 + (Value.int .u8 ((v.toNat : Nat) : Int)).cells.size)).toArray = cur' ∧ (0 + i * 1 + (Value.int .u8 ((v.toNat : Nat) : Int)).cells.size ≤ cur.size) ∧ Rw 1 cur' cap n (cellsB (l.set i v)) := by
  have h1 : (Value.int .u8 ((v.toNat : Nat) : Int)).cells = #[.int .u8 ((v.toNat : Nat) : Int)] := rfl
  have hsz := h.sz; have hle := h.le
  have hlt : i < cur.toList.length := by simp; omega
  have e : cur.toList.take (0 + i * 1) ++ (Value.int .u8 ((v.toNat : Nat) : Int)).cells.toList ++ cur.toList.drop (0 + i * 1 + (Value.int .u8 ((v.toNat : Nat) : Int)).cells.size) = cur.toList.set i (.int .u8 ((v.toNat : Nat) : Int)) := by
    rw [h1, Nat.zero_add, Nat.mul_one, List.set_eq_take_append_cons_drop, if_pos hlt]
    simp
  refine ⟨_, rfl, by rw [h1]; simp; omega, ?_⟩
  rw [e]
  refine ⟨?_, h.le, h.max, ?_, by simpa using hsz⟩
  · have := h.len; unfold cellsB at this ⊢; simpa using this
  · have := h.take
    simp only [List.take_set, Nat.mul_one] at this ⊢
    rw [this]; unfold cellsB; simp [List.map_set]
theorem Rw.ints {cur : Array Value} {cap n : Nat} {l : List UInt8} (h : Rw 1 cur cap n (cellsB l)) : Rw 1 cur cap n ((l.map fun b => ((b.toNat : Nat) : Int)).map (Value.int .u8)) := by
  rw [List.map_map]; exact h
/-- An array of zeros. -/
def zeroV (k : IntKind) (n : Nat) : Value := .agg (Array.replicate n (.int k 0))
/-- An array of bytes by their places. -/
def arrB (n : Nat) (f : Nat → BitVec 8) : Value := .agg (arrF n fun j => .int .u8 ((BitVec.toNat (f j) : Nat) : Int)).toArray
theorem arrB_put {n : Nat} {f g : Nat → BitVec 8} {k off : Nat} {x : BitVec 8} (ho : off = 0 + k * 1) (hk : k < n) (hg : ∀ j, j < n → g j = if j = k then x else f j) :
    ((Value.cells (arrB n f)).toList.take off ++ (Value.int .u8 ((BitVec.toNat x : Nat) : Int)).cells.toList ++ (Value.cells (arrB n f)).toList.drop (off + (Value.int .u8 ((BitVec.toNat x : Nat) : Int)).cells.size)).toArray = Value.cells (arrB n g) := by
  rw [seg_put (pre := []) (post := []) (n := n) (f := fun j => .int .u8 ((BitVec.toNat (f j) : Nat) : Int)) (g := fun j => .int .u8 ((BitVec.toNat (g j) : Nat) : Int)) (by show arrF n _ = [] ++ arrF n _ ++ []; simp) rfl (by simpa using ho) hk (fun j hj => by rw [hg j hj]; split <;> rfl)]
  simp; rfl
theorem arrB_rw (n : Nat) (f : Nat → BitVec 8) (hn : n ≤ maxLen) : Rw 1 (Value.cells (arrB n f)) n n (cellsB ((List.range n).map fun i => UInt8.ofBitVec (f i))) := by
  have e : (Value.cells (arrB n f)).toList = cellsB ((List.range n).map fun i => UInt8.ofBitVec (f i)) := by
    show arrF n _ = _
    unfold arrF cellsB; rw [List.map_map]; rfl
  rw [← e]
  have h2 : (Value.cells (arrB n f)).size = n * 1 := by
    rw [← Array.length_toList, e, cellsB_len]; simp
  exact Rw.lit _ n h2 hn
section
variable {P : Program} {N : Nat} {ops : Array Oper} {i : Nat} {r : List Nat} {K : Env → World → Prop} {ρ : Env} {w : World} {B : Nat} {w0 : World} {l : List (Nat × Obj)}
/-- 'string(b)', of bytes in a block of the list. -/
theorem s_bytesStrB (HS : St B w0 w l) (d : Option Nat) (t t' e : TypeId) (x : Operand) (j b n cap : Nat) (cur : Array Value) (T : TypeId) (fz : Nat × Nat) (xs : List UInt8) (h : opk ops i ρ = some (d, true, .convert t t' x)) (hd : dOK d N = true)
    (ht : P.underlying t = some (.slice e)) (he : P.underlying e = some (.int .u8)) (ht' : P.underlying t' = some .string)
    (hx : ev ρ x = .slice (some ⟨b, 0, none⟩) n cap) (hj : l[j]? = some (b, .cells cur T fz)) (hr : Rw 1 cur cap n (cellsB xs))
    (kk : WPs P N ops K r (updO ρ d (.string (strB xs))) w) : WPs P N ops K (i :: r) ρ w :=
  s_bytesStr HS d t t' e x j b n cap cur T fz _ h hd ht he ht' hx hj hr.ints (by rw [strOfNums_map]; exact kk)
end
namespace D2
section
variable {P : Program} {ops : Array Oper} {R : (Nat → Gh) → Env} {i : Nat} {d : Option Nat}
variable {E : (Nat → Bool) → (Nat → Gh) → List Ent} {F : (Nat → Bool) → (Nat → Gh) → Prop} {B : Nat} {w0 : World}
end
end D2
end Go.Proofs.YtmmloghbnpfedaaDoor

namespace Go.Proofs.YtmmloghbnpfedaaDoor
open Go Go.RowKit
set_option linter.unusedVariables false
/-- No cell of the row is frozen. -/
def Clr (fz : Nat × Nat) (cur : Array Value) : Prop := fz.2 = 0 ∨ cur.size ≤ fz.1
theorem Clr.zero (cur : Array Value) : Clr (0, 0) cur := .inl rfl
theorem Clr.no {fz : Nat × Nat} {cur : Array Value} (h : Clr fz cur) {w : World} {g k : Nat} {t : TypeId} (hg : w.heap[g]? = some (.cells cur t fz)) (hk : k < cur.size) : w.frozen? ⟨g, k, none⟩ = false := by
  obtain ⟨lo, hi⟩ := fz
  simp only [World.frozen?, hg, Bool.and_eq_false_iff, decide_eq_false_iff_not]
  rcases h with h | h
  · right; simp only at h; omega
  · left; simp only at h; omega
theorem run_storeCells_atM (P : Program) (g o : Nat) (t : TypeId) (fz : Nat × Nat) : ∀ (vs : List Value) (i : Nat) (cur : Array Value) (w : World), w.heap[g]? = some (.cells cur t fz) → o + i + vs.length ≤ cur.size → Clr fz cur → (∀ v ∈ vs, v.oneCell' = true) →
    (storeCells ⟨g, o, none⟩ vs i).run P w = .ok () (w.setRow g (cur.toList.take (o + i) ++ vs ++ cur.toList.drop (o + i + vs.length)).toArray)
  | [], i, cur, w, hg, _, _, _ => by
    simp only [storeCells, List.append_nil, List.length_nil, Nat.add_zero, List.take_append_drop, Array.toArray_toList]
    rw [setRow_self w g cur t fz hg]
    rfl
  | v :: rest, i, cur, w, hg, hl, hfz, h1 => by
    have hi : o + i < cur.size := by simp at hl; omega
    have hadd : (⟨g, o, none⟩ : Addr).add i = ⟨g, o + i, none⟩ := by unfold Addr.add; split <;> simp_all
    have hcell : w.cell? ⟨g, o + i, none⟩ = some cur[o + i] := by simp [World.cell?, hg, hi]
    have hfro : w.frozen? ⟨g, o + i, none⟩ = false := hfz.no hg hi
    have hst : (store ((⟨g, o, none⟩ : Addr).add i) v).run P w = .ok () (w.setRow g (cur.setIfInBounds (o + i) v)) := by
      rw [hadd, run_store P w _ v _ (h1 v (by simp)), hcell]
      simp [hfro, setCell_eq_setRow w g (o + i) cur t fz v hg]
    have ih := run_storeCells_atM P g o t fz rest (i + 1) (cur.setIfInBounds (o + i) v) (w.setRow g (cur.setIfInBounds (o + i) v)) (setRow_heap w g cur _ t _ hg) (by simp at hl ⊢; omega) (by unfold Clr at hfz ⊢; simpa using hfz) (fun x hx => h1 x (by simp [hx]))
    simp only [storeCells, Sem.run_bind, hst, Result.andThen_ok, ih, setRow_setRow]
    congr 3
    have e := list_seg_step cur.toList (o + i) v rest (by simp at hl ⊢; omega)
    simpa [Array.toList_setIfInBounds, Nat.add_assoc] using e
/-- 'append(s, x...)' on a row that may bear the mark. -/
theorem run_appendM {P : Program} (w : World) (t ty e : TypeId) (i : TypeInfo) (z : Value) (size bytes : Nat) (ht : P.underlying t = some (.slice e)) (hi : P.info? e = some i) (hz : i.zero = some z)
    (hsize : i.size = size) (hby : i.bytes = bytes) (hzs : z.cells.size = size) (hsz : 0 < size)
    (g cap n : Nat) (cur : Array Value) (fz : Nat × Nat) (xs : List Value) (hg : w.heap[g]? = some (.cells cur e fz)) (hfz : Clr fz cur) (hr : Rw size cur cap n xs)
    (a : Addr) (m c : Nat) (news : List Value) (hl : news.length = m * size) (hnews : ∀ j u, news[j]? = some u → w.cell? (a.add j) = some u) (h1 : ∀ u ∈ news, u.oneCell' = true)
    (h63 : n + m ≤ maxLen) (hbytes : (n + m) * bytes ≤ 140737488355328) :
    ∃ g' cap' cur' fz' w', (Builtin.append_ #[t, t] ty #[.slice (some ⟨g, 0, none⟩) n cap, .slice (some a) m c]).run P w = .ok (.slice (some ⟨g', 0, none⟩) (n + m) cap') w' ∧ (g' = g ∨ g' = w.heap.size) ∧
      w'.heap[g']? = some (.cells cur' e fz') ∧ Clr fz' cur' ∧ Rw size cur' cap' (n + m) (xs ++ news) ∧ w.grownBy w' (some g) := by
  subst hsize
  subst hby
  have hlen : (xs ++ news).length = (n + m) * i.size := by rw [List.length_append, hr.len, hl, Nat.add_mul]
  have hnc := hr.le; have hcm := hr.max; have hcs := hr.sz; have htake := hr.take
  have hsmall : n + m ≤ 9223372036854775807 := by simp only [maxLen] at h63; omega
  by_cases hroom : n + m ≤ cap
  · have hfit : n * i.size + news.length ≤ cur.size := by rw [hl, hcs, ← Nat.add_mul]; exact Nat.mul_le_mul_right _ hroom
    have hf := run_firstCells_some (P := P) w i.size m a m c news hl hnews
    have hst := run_storeCells_atM P g (n * i.size) e fz news 0 cur w hg (by simpa using hfit) hfz h1
    simp only [Nat.add_zero] at hst
    have hrr : (Builtin.append_ #[t, t] ty #[.slice (some ⟨g, 0, none⟩) n cap, .slice (some a) m c]).run P w =
        .ok (.slice (some ⟨g, 0, none⟩) (n + m) cap) (w.setRow g (cur.toList.take (n * i.size) ++ news ++ cur.toList.drop (n * i.size + news.length)).toArray) := by
      simp [Builtin.append_, run_underlying ht, sizeOf, typeInfo, hi, Builtin.lenOf, hroom, hf, Addr.add_lit, hst]
    refine ⟨g, cap, _, fz, _, hrr, .inl rfl, setRow_heap w g cur _ e fz hg, ?_, ⟨hlen, hroom, hcm, ?_, ?_⟩, ⟨rfl, rfl, rfl, by simp, fun k _ hk => setRow_other w g k _ (fun e => hk (by simp [e]))⟩⟩
    · rcases hfz with h | h
      · exact .inl h
      · right
        simp only [List.size_toArray, List.length_append, List.length_take, List.length_drop, Array.length_toList]
        omega
    · rw [htake, ← hlen]
      exact List.take_left
    · simp only [List.size_toArray, List.length_append, List.length_take, List.length_drop, Array.length_toList]
      omega
  · have holds : ∀ j u, xs[j]? = some u → w.cell? ((⟨g, 0, none⟩ : Addr).add j) = some u := fun j u hj => by
      have hjl : j < n * i.size := by rw [← hr.len]; exact (List.getElem?_eq_some_iff.1 hj).1
      rw [addr_add, Nat.zero_add]
      simp [World.cell?, hg, hr.get j hjl, hj]
    have hr2 := run_append_grow (P := P) w t ty e i z ht hi hz ⟨g, 0, none⟩ n cap xs hr.len holds a m c news hl hnews (by omega) (by omega) (growslice_fits (by omega) hbytes)
    have hge := grownCap_ge w (n + m) cap e
    have hcm2 : grownCap w (n + m) cap e ≤ maxLen := grownCap_le_maxLen w (n + m) cap e h63
    refine ⟨w.heap.size, _, _, (0, 0), _, hr2, .inr rfl, heap_alloc_new w.drew _, Clr.zero _, ⟨hlen, hge, hcm2, ?_, ?_⟩, ⟨rfl, rfl, rfl, by simp, fun k hk _ => Go.heap_alloc_old w.drew _ hk⟩⟩
    · simp only [Array.toList_append, List.append_assoc]
      rw [← List.append_assoc, ← hlen]
      exact List.take_left
    · simp only [Array.size_append, List.size_toArray, size_zeroCells, hzs, hr.len, hl, ← Nat.add_mul]
      congr 1
      omega
theorem cut2_run {P : Program} {ρ : Env} {t e : TypeId} {size bytes : Nat} (ht : sliceOf P t = some (e, size, bytes)) {x y z : Operand} {o : Oper} {kd kz : IntKind} (b n c j k : Nat) (ho : o.op = .slice t x (some z) (some y) none) (hx : ev ρ x = .slice (some ⟨b, 0, none⟩) n c)
    (hy : ev ρ y = .int kd (k : Int)) (hz : ev ρ z = .int kz (j : Int)) (hk : k ≤ c) (hj : j ≤ k) (hjc : j < c) (off m : Nat) (ho' : j * size = off) (hm : k - j = m) :
    ∀ w, (execOp (ev ρ) o).run P w = .ok (.value (.slice (some ⟨b, off, none⟩) m (c - j))) w := fun w => by
  subst ho' hm
  obtain ⟨it, z', hu, hi, hz', hsz, hby, hzs, h0⟩ := sliceOf_spec ht
  have hS : (sizeOf e).run P w = .ok size w := by simp [sizeOf, typeInfo, hi, hsz]
  unfold execOp
  simp [ho, hx, hy, hz, Instr.sliceAt, Instr.slice, Instr.sliceBounds, Instr.sliceBound, asIntOf, run_underlying hu, hS, hk, hj, addr_add, show ¬ c = j by omega]
theorem bytesStr_run {P : Program} {w : World} {t t' e : TypeId} (ht : P.underlying t = some (.slice e)) (he : P.underlying e = some (.int .u8)) (ht' : P.underlying t' = some .string) {ρ : Env} {x : Operand} {b off n cap c0 n0 : Nat} {cur : Array Value} {T : TypeId} {fz : Nat × Nat} {xs : List UInt8}
    (hx : ev ρ x = .slice (some ⟨b, off, none⟩) n cap) (hb : w.heap[b]? = some (.cells cur T fz)) (hr : Rw 1 cur c0 n0 (cellsB xs)) (hfit : off + n ≤ n0) (o : Oper) (ho : o.op = .convert t t' x) :
    (execOp (ev ρ) o).run P w = .ok (.value (.string (strB ((xs.drop off).take n)))) w := by
  have hlen : xs.length = n0 := by have := hr.len; rw [cellsB_len] at this; omega
  have hc := run_convert_bytes_arg (P := P) w t e ht he b off n cap (((xs.drop off).take n).map fun b => ((b.toNat : Nat) : Int)) (by rw [List.length_map, List.length_take, List.length_drop]; omega) (fun q hq => by
    have h2 := hr.get (off + q) (by omega)
    have h3 := cellsB_get xs (off + q) (by omega)
    have e1 : w.cell? ⟨b, off + q, none⟩ = cur[off + q]? := by simp [World.cell?, hb]
    rw [e1, h2, h3]
    have h4 : off + q < xs.length := by omega
    simp [List.getD, hq, h4]) t' ht'
  unfold execOp
  simp only [ho, hx, hc, Sem.run_bind, Result.andThen_ok]
  rw [strOfNums_map]; rfl
section
variable {P : Program} {N : Nat} {ops : Array Oper} {i : Nat} {r : List Nat} {K : Env → World → Prop} {ρ : Env} {w : World} {B : Nat} {w0 : World} {l : List (Nat × Obj)}
/-- '[]byte(s)'. -/
theorem s_strBytes (HS : St B w0 w l) (d : Option Nat) (t t' e : TypeId) (x : Operand) (s : ByteArray) (h : opk ops i ρ = some (d, true, .convert t t' x)) (hd : dOK d N = true)
    (ht : P.underlying t = some .string) (ht' : P.underlying t' = some (.slice e)) (he : P.underlying e = some (.int .u8)) (hx : ev ρ x = .string s) (hm : s.size ≤ maxLen)
    (kk : ∀ b cap cur fz w', St B w0 w' ((b, .cells cur e fz) :: l) → Clr fz cur → Rw 1 cur cap s.size (cellsB (tl s)) → WPs P N ops K r (updO ρ d (.slice (some ⟨b, 0, none⟩) s.size cap)) w') : WPs P N ops K (i :: r) ρ w := by
  refine s_genw d _ (.slice (some ⟨w.drew.heap.size, 0, none⟩) s.size (grownCap w s.size 0 e)) _ h hd (fun o ho => ?_) (kk w.drew.heap.size (grownCap w s.size 0 e) _ _ _ (HS.drew.alloc (.cells (bytesRow s (grownCap w s.size 0 e)) e ((bytesRow s (grownCap w s.size 0 e)).size, (bytesRow s (grownCap w s.size 0 e)).size + 1))) (.inr (Nat.le_refl _)) ?_)
  · have hc := run_bytes_of_string (P := P) w t t' e s ht ht' he
    unfold execOp
    simp only [ho, hx, hc, Sem.run_bind, Result.andThen_ok]
    rfl
  · have hge := grownCap_ge w s.size 0 e
    have hcm := grownCap_le_maxLen w s.size 0 e hm
    have hsz : s.data.size = s.size := rfl
    refine ⟨by rw [cellsB_len, tl_len]; omega, hge, hcm, ?_, ?_⟩
    · have e1 : (bytesRow s (grownCap w s.size 0 e)).toList = cellsB (tl s) ++ List.replicate (grownCap w s.size 0 e - s.size) (.int .u8 0) := by
        unfold bytesRow cellsB tl; simp
      rw [e1, List.take_append_of_le_length (by rw [cellsB_len, tl_len]; omega), List.take_of_length_le (by rw [cellsB_len, tl_len]; omega)]
    · unfold bytesRow; simp; omega
/-- 'append(s, x...)' on a row that may bear the mark. -/
theorem s_appendM (HS : St B w0 w l) (d : Option Nat) (t e : TypeId) (size bytes : Nat) (s x : Operand) (j k b bx n m cap c : Nat) (cur CX : Array Value) (fzs : Nat × Nat) (TX : TypeId) (fz : Nat × Nat) (xs news : List Value) (l' : Nat → Array Value → Nat × Nat → List (Nat × Obj))
    (h : opk ops i ρ = some (d, true, appendOp t s x)) (hd : dOK d N = true) (ht : sliceOf P t = some (e, size, bytes))
    (hs : ev ρ s = .slice (some ⟨b, 0, none⟩) n cap) (hj : l[j]? = some (b, .cells cur e fzs)) (hfz : Clr fzs cur) (hr : Rw size cur cap n xs)
    (hx : ev ρ x = .slice (some ⟨bx, 0, none⟩) m c) (hk : l[k]? = some (bx, .cells CX TX fz)) (hn : CX.toList.take (m * size) = news) (hl : news.length = m * size) (h1 : ∀ u ∈ news, u.oneCell' = true)
    (hb : (n + m) * bytes ≤ 140737488355328) (hm : n + m ≤ maxLen)
    (hl' : ∀ b' cur' fz', l.set j (b', .cells cur' e fz') = l' b' cur' fz')
    (kk : ∀ b' cap' cur' fz' w', St B w0 w' (l' b' cur' fz') → Clr fz' cur' → Rw size cur' cap' (n + m) (xs ++ news) → WPs P N ops K r (updO ρ d (.slice (some ⟨b', 0, none⟩) (n + m) cap')) w') : WPs P N ops K (i :: r) ρ w := by
  obtain ⟨o, ho, rfl, hw, hop⟩ := opk_some h
  obtain ⟨it, z, hu, hi, hz, hsz, hby, hzs, h0⟩ := sliceOf_spec ht
  have hnews : ∀ q u, news[q]? = some u → w.cell? ((⟨bx, 0, none⟩ : Addr).add q) = some u := fun q u hq => by
    have hql : q < m * size := by rw [← hl]; exact (List.getElem?_eq_some_iff.1 hq).1
    rw [← hn, List.getElem?_take, if_pos hql, Array.getElem?_toList] at hq
    rw [addr_add, Nat.zero_add]
    simp [World.cell?, HS.get k hk, hq]
  obtain ⟨g', cap', cur', fz', w', hrun, hgb, hg, hclr, hrw, hgr⟩ := run_appendM (P := P) w t o.type e it z size bytes hu hi hz hsz hby hzs h0 b cap n cur fzs xs (HS.get j hj) hfz hr ⟨bx, 0, none⟩ m c news hl hnews h1 hm hb
  refine WPo.run ho hw fun a ha => ?_
  have hex : (execOp (ev ρ) o).run P w = .ok (.value (.slice (some ⟨g', 0, none⟩) (n + m) cap')) w' := by
    unfold execOp
    simp only [hop, appendOp, resolve, invoke, builtin, Sem.run_bind, Sem.run_pure, Result.andThen_ok, List.map_toArray, List.map_cons, List.map_nil, hs, hx, hrun]
  rw [hex, Oper.upon_value]
  have HS' := HS.grown j hj hgr hgb hg
  rw [hl'] at HS'
  exact ⟨_, ha.put _ (dOK_lt hd) _, kk g' cap' cur' fz' w' HS' hclr hrw⟩
/-- A store of one cell into a row that may bear the mark. -/
theorem s_storeM (HS : St B w0 w l) (j : Nat) (l' : List (Nat × Obj)) (t : TypeId) (x y : Operand) (b off : Nat) (C C' : Array Value) (T : TypeId) (fz : Nat × Nat) (v : Value)
    (h : opk ops i ρ = some (none, true, .store t x y)) (hx : ev ρ x = .pointer (some ⟨b, off, none⟩)) (hy : ev ρ y = v) (hk : l[j]? = some (b, .cells C T fz)) (hfz : Clr fz C) (hi : (P.info? t).map (·.size) = some v.cells.size) (h1 : v.cells.all (·.oneCell') = true)
    (hs : off + v.cells.size ≤ C.size) (hC : (C.toList.take off ++ v.cells.toList ++ C.toList.drop (off + v.cells.size)).toArray = C') (hl : l.set j (b, .cells C' T fz) = l')
    (kk : ∀ w', St B w0 w' l' → Clr fz C' → WPs P N ops K r ρ w') : WPs P N ops K (i :: r) ρ w := by
  subst hl
  have hcl : Clr fz C' := by
    rcases hfz with q | q
    · exact .inl q
    · right; rw [← hC]; simp only [List.size_toArray, List.length_append, List.length_take, List.length_drop, Array.length_toList]; omega
  refine o_genS none _ (w.setRow b C') h rfl (fun o ho => ?_) (kk _ (HS.store j hk) hcl)
  have hc := run_storeCells_atM P b off T fz v.cells.toList 0 C w (HS.get j hk) (by simpa using hs) hfz (fun x hx => (Array.all_eq_true_iff_forall_mem.1 h1) x (by simpa using hx))
  have hst : (storeVar t ⟨b, off, none⟩ v).run P w = .ok () (w.setRow b C') := by
    cases hq : P.info? t with
    | none => simp [hq] at hi
    | some it =>
      have hsz : v.cells.size = it.size := by simp [hq] at hi; omega
      rw [← hC]
      simp [storeVar, sizeOf, typeInfo, hq, hsz] at hc ⊢
      exact hc
  simp [execOp, ho, Instr.storeAt, Instr.sureAddr, hx, hy, hst]
end
namespace D2
section
variable {P : Program} {ops : Array Oper} {R : (Nat → Gh) → Env} {i : Nat} {d : Option Nat}
variable {E : (Nat → Bool) → (Nat → Gh) → List Ent} {F : (Nat → Bool) → (Nat → Gh) → Prop} {B : Nat} {w0 : World}
theorem gv_bytesCut (k : Nat) (t t' e : TypeId) (x : Operand) (b : (Nat → Gh) → Nat) (off n cap c0 n0 : Nat) (cur : Array Value) (T : TypeId) (fz : Nat × Nat) (xs : List UInt8) (hs : ∀ L g w, Pre B w0 E F L g w → Pre B w0 E F (put1 L i) g w)
    (h : ∀ g, opk ops i (R g) = some (d, true, .convert t t' x)) (ht : P.underlying t = some (.slice e)) (he : P.underlying e = some (.int .u8)) (ht' : P.underlying t' = some .string)
    (hx : ∀ g, ev (R g) x = .slice (some ⟨b g, off, none⟩) n cap) (hj : ∀ L g, Now ops i L → (E L g)[k]? = some (true, (b g, .cells cur T fz))) (hr : Rw 1 cur c0 n0 (cellsB xs)) (hfit : off + n ≤ n0) :
    Gives P ops R (Pre B w0 E F) i d (fun _ => .string (strB ((xs.drop off).take n))) := gives_of fun L g w hp hN => by
  obtain ⟨o, ho, hd, hw, hop⟩ := opk_some (h g)
  have e2 := bytesStr_run ht he ht' (hx g) (hp.1.get k (hj L g hN)) hr hfit o hop
  exact ⟨o, ho, hd, .inr ⟨hw, by rw [e2]; exact ⟨g i, rfl, by rw [setN_self]; exact hs _ _ _ hp⟩⟩⟩
end
end D2
end Go.Proofs.YtmmloghbnpfedaaDoor

namespace Go.Proofs.YtmmloghbnpfedaaDoor
open Go Go.RowKit
set_option linter.unusedVariables false
/-- Texts as cells. -/
def cellsS (l : List ByteArray) : List Value := l.map Value.string
theorem cellsS_get (l : List ByteArray) (i : Nat) (hi : i < l.length) : (cellsS l)[i]? = some (.string (l.getD i .empty)) := by
  unfold cellsS; simp [hi]
theorem Rw.atS {cur : Array Value} {cap n : Nat} {l : List ByteArray} (h : Rw 1 cur cap n (cellsS l)) {i : Nat} (hi : i < n) (hn : n = l.length) : cur[0 + i * 1]? = some (.string (l.getD i .empty)) :=
  h.at1 hi (cellsS_get l i (by omega))
theorem toList_eq (s : ByteArray) : s.toList = tl s := ByteArray.toList_eq s
/-- A row of texts, or none: what a value is. -/
def RetT (T : Nat) (S : List ByteArray → Nat → Prop) : Nat → Value → World → Prop := fun B v w' =>
  ∃ (rs : List ByteArray) (p : Nat), S rs p ∧ ((rs = [] ∧ v = .tuple #[.slice none 0 0, .int .i64 ((p : Nat) : Int)]) ∨
    ∃ (b cap n : Nat) (cur : Array Value), v = .tuple #[.slice (some ⟨b, 0, none⟩) n cap, .int .i64 ((p : Nat) : Int)] ∧ B ≤ b ∧ w'.heap[b]? = some (.cells cur T (0, 0)) ∧ n = rs.length ∧ Rw 1 cur cap n (cellsS rs))
section
variable {P : Program} {N : Nat} {ops : Array Oper} {i : Nat} {r : List Nat} {K : Env → World → Prop} {ρ : Env} {w : World} {B : Nat} {w0 : World} {l : List (Nat × Obj)}
def unsafeOp (t t' : TypeId) (x y : Operand) : Op := .call { callee := .builtin .unsafeString, args := #[x, y], argTypes := #[t, t'] }
end
end Go.Proofs.YtmmloghbnpfedaaDoor

namespace Go.Proofs.YtmmloghbnpfedaaDoor
open Go.RowKit
def Wd (x : Int) : Prop := 0 ≤ x ∧ x < 18446744073709551616
def Bt (c : Int) : Prop := 0 ≤ c ∧ c ≤ 1
def w0 (n : Nat) : Int := ((n % 18446744073709551616 : Nat) : Int)
def w1 (n : Nat) : Int := ((n / 18446744073709551616 % 18446744073709551616 : Nat) : Int)
def w2 (n : Nat) : Int := ((n / 340282366920938463463374607431768211456 % 18446744073709551616 : Nat) : Int)
def w3 (n : Nat) : Int := ((n / 6277101735386680763835789423207666416102355444464034512896 % 18446744073709551616 : Nat) : Int)
/-- 2^256. -/
def big : Nat := 115792089237316195423570985008687907853269984665640564039457584007913129639936
/-- What four words make. -/
def mk4 (a b c d : Int) : Nat := (a + 18446744073709551616 * b + 340282366920938463463374607431768211456 * c + 6277101735386680763835789423207666416102355444464034512896 * d).toNat
theorem wd0 (n : Nat) : Wd (w0 n) := by unfold Wd w0; omega
theorem wd1 (n : Nat) : Wd (w1 n) := by unfold Wd w1; omega
theorem wd2 (n : Nat) : Wd (w2 n) := by unfold Wd w2; omega
theorem wd3 (n : Nat) : Wd (w3 n) := by unfold Wd w3; omega
theorem mk4_lt {a b c d : Int} (ha : Wd a) (hb : Wd b) (hc : Wd c) (hd : Wd d) : mk4 a b c d < big := by
  unfold Wd at *; unfold mk4 big; omega
theorem w0_mk {a b c d : Int} (ha : Wd a) (hb : Wd b) (hc : Wd c) (hd : Wd d) : w0 (mk4 a b c d) = a := by
  unfold Wd at *; unfold mk4 w0; omega
theorem w1_mk {a b c d : Int} (ha : Wd a) (hb : Wd b) (hc : Wd c) (hd : Wd d) : w1 (mk4 a b c d) = b := by
  unfold Wd at *; unfold mk4 w1; omega
theorem w2_mk {a b c d : Int} (ha : Wd a) (hb : Wd b) (hc : Wd c) (hd : Wd d) : w2 (mk4 a b c d) = c := by
  unfold Wd at *; unfold mk4 w2; omega
theorem w3_mk {a b c d : Int} (ha : Wd a) (hb : Wd b) (hc : Wd c) (hd : Wd d) : w3 (mk4 a b c d) = d := by
  unfold Wd at *; unfold mk4 w3; omega
theorem mk4_w (n : Nat) (h : n < big) : (n : Int) = w0 n + 18446744073709551616 * w1 n + 340282366920938463463374607431768211456 * w2 n + 6277101735386680763835789423207666416102355444464034512896 * w3 n := by
  unfold big at h; unfold w0 w1 w2 w3; omega
/-- Any four words are those of a number. -/
theorem of_words {a b c d : Int} (ha : Wd a) (hb : Wd b) (hc : Wd c) (hd : Wd d) : ∃ n : Nat, n < big ∧ a = w0 n ∧ b = w1 n ∧ c = w2 n ∧ d = w3 n :=
  ⟨mk4 a b c d, mk4_lt ha hb hc hd, (w0_mk ha hb hc hd).symm, (w1_mk ha hb hc hd).symm, (w2_mk ha hb hc hd).symm, (w3_mk ha hb hc hd).symm⟩
/-- Four words whose sum is n are n's. -/
theorem words_eq {a b c d : Int} {n : Nat} (ha : Wd a) (hb : Wd b) (hc : Wd c) (hd : Wd d)
    (h : (n : Int) = a + 18446744073709551616 * b + 340282366920938463463374607431768211456 * c + 6277101735386680763835789423207666416102355444464034512896 * d) :
    a = w0 n ∧ b = w1 n ∧ c = w2 n ∧ d = w3 n := by
  have e : n = mk4 a b c d := by unfold mk4; omega
  subst e
  exact ⟨(w0_mk ha hb hc hd).symm, (w1_mk ha hb hc hd).symm, (w2_mk ha hb hc hd).symm, (w3_mk ha hb hc hd).symm⟩
theorem words_inj {n m : Nat} (hn : n < big) (hm : m < big) (h0 : w0 n = w0 m) (h1 : w1 n = w1 m) (h2 : w2 n = w2 m) (h3 : w3 n = w3 m) : n = m := by
  have a := mk4_w n hn; have b := mk4_w m hm; rw [h0, h1, h2, h3] at a; omega
/-- One word's sum and what is carried. -/
def AddS (x y c s d : Int) : Prop := x + y + c = s + 18446744073709551616 * d ∧ Wd s ∧ Bt d
/-- One word's difference and what is borrowed. -/
def SubS (x y c s d : Int) : Prop := x - y - c = s - 18446744073709551616 * d ∧ Wd s ∧ Bt d
def ov (a b : Nat) : Bool := decide (big ≤ a + b)
def sm (a b : Nat) : Nat := (a + b) % big
def lo (a b : Nat) : Bool := decide (a < b)
def df (a b : Nat) : Nat := (a + big - b) % big
theorem add_words {A B : Nat} (hA : A < big) (hB : B < big) {s0 c0 s1 c1 s2 c2 s3 c3 : Int} (h0 : AddS (w0 A) (w0 B) 0 s0 c0) (h1 : AddS (w1 A) (w1 B) c0 s1 c1) (h2 : AddS (w2 A) (w2 B) c1 s2 c2) (h3 : AddS (w3 A) (w3 B) c2 s3 c3) :
    (s0 = w0 (sm A B) ∧ s1 = w1 (sm A B) ∧ s2 = w2 (sm A B) ∧ s3 = w3 (sm A B)) ∧ (c3 == 1) = ov A B := by
  have a := mk4_w A hA; have b := mk4_w B hB
  obtain ⟨e0, d0, _⟩ := h0; obtain ⟨e1, d1, _⟩ := h1; obtain ⟨e2, d2, _⟩ := h2; obtain ⟨e3, d3, k3⟩ := h3
  have key : (A : Int) + B = s0 + 18446744073709551616 * s1 + 340282366920938463463374607431768211456 * s2 + 6277101735386680763835789423207666416102355444464034512896 * s3 + 115792089237316195423570985008687907853269984665640564039457584007913129639936 * c3 := by omega
  have lt := mk4_lt d0 d1 d2 d3
  have em : ((mk4 s0 s1 s2 s3 : Nat) : Int) = s0 + 18446744073709551616 * s1 + 340282366920938463463374607431768211456 * s2 + 6277101735386680763835789423207666416102355444464034512896 * s3 := by
    unfold Wd at *; unfold mk4; omega
  constructor
  · refine words_eq d0 d1 d2 d3 ?_
    rw [← em]; unfold sm; unfold big at *; unfold Bt at *; omega
  · unfold ov; rw [Bool.eq_iff_iff]; simp only [beq_iff_eq, decide_eq_true_eq]
    unfold big at *; unfold Bt at *; omega
theorem sub_words {A B : Nat} (hA : A < big) (hB : B < big) {s0 c0 s1 c1 s2 c2 s3 c3 : Int} (h0 : SubS (w0 A) (w0 B) 0 s0 c0) (h1 : SubS (w1 A) (w1 B) c0 s1 c1) (h2 : SubS (w2 A) (w2 B) c1 s2 c2) (h3 : SubS (w3 A) (w3 B) c2 s3 c3) :
    (s0 = w0 (df A B) ∧ s1 = w1 (df A B) ∧ s2 = w2 (df A B) ∧ s3 = w3 (df A B)) ∧ (c3 == 1) = lo A B := by
  have a := mk4_w A hA; have b := mk4_w B hB
  obtain ⟨e0, d0, _⟩ := h0; obtain ⟨e1, d1, _⟩ := h1; obtain ⟨e2, d2, _⟩ := h2; obtain ⟨e3, d3, k3⟩ := h3
  have key : (A : Int) - B = s0 + 18446744073709551616 * s1 + 340282366920938463463374607431768211456 * s2 + 6277101735386680763835789423207666416102355444464034512896 * s3 - 115792089237316195423570985008687907853269984665640564039457584007913129639936 * c3 := by omega
  have lt := mk4_lt d0 d1 d2 d3
  have em : ((mk4 s0 s1 s2 s3 : Nat) : Int) = s0 + 18446744073709551616 * s1 + 340282366920938463463374607431768211456 * s2 + 6277101735386680763835789423207666416102355444464034512896 * s3 := by
    unfold Wd at *; unfold mk4; omega
  constructor
  · refine words_eq d0 d1 d2 d3 ?_
    rw [← em]; unfold df; unfold big at *; unfold Bt at *; omega
  · unfold lo; rw [Bool.eq_iff_iff]; simp only [beq_iff_eq, decide_eq_true_eq]
    unfold big at *; unfold Bt at *; omega
end Go.Proofs.YtmmloghbnpfedaaDoor

namespace Go.Proofs.Ec
set_option linter.unusedVariables false
set_option linter.unusedSectionVars false
section
variable {F : Type} [Lean.Grind.Field F]
/-- A line y = k x + m meets the curve y y = x x x + b in three places. -/
structure Line (b k m x1 y1 x2 y2 x3 y3 : F) : Prop where
  e1 : x1 + x2 + x3 = k * k
  e2 : x1 * x2 + x1 * x3 + x2 * x3 = -2 * k * m
  e3 : x1 * x2 * x3 = m * m - b
  l1 : y1 = k * x1 + m
  l2 : y2 = k * x2 + m
  l3 : y3 = k * x3 + m
theorem Line.on1 {b k m x1 y1 x2 y2 x3 y3 : F} (h : Line b k m x1 y1 x2 y2 x3 y3) : y1 * y1 = x1 * x1 * x1 + b := by
  obtain ⟨e1, e2, e3, l1, l2, l3⟩ := h
  grind
theorem Line.swap {b k m x1 y1 x2 y2 x3 y3 : F} (h : Line b k m x1 y1 x2 y2 x3 y3) : Line b k m x2 y2 x1 y1 x3 y3 := by
  obtain ⟨e1, e2, e3, l1, l2, l3⟩ := h
  constructor <;> grind
theorem Line.rot {b k m x1 y1 x2 y2 x3 y3 : F} (h : Line b k m x1 y1 x2 y2 x3 y3) : Line b k m x2 y2 x3 y3 x1 y1 := by
  obtain ⟨e1, e2, e3, l1, l2, l3⟩ := h
  constructor <;> grind
theorem Line.neg {b k m x1 y1 x2 y2 x3 y3 : F} (h : Line b k m x1 y1 x2 y2 x3 y3) : Line b (-k) (-m) x1 (-y1) x2 (-y2) x3 (-y3) := by
  obtain ⟨e1, e2, e3, l1, l2, l3⟩ := h
  constructor <;> grind
theorem Line.third {b k m x1 y1 x2 x3 : F} (e1 : x1 + x2 + x3 = k * k) (e2 : x1 * x2 + x1 * x3 + x2 * x3 = -2 * k * m) (l1 : y1 = k * x1 + m) (h : y1 * y1 = x1 * x1 * x1 + b) : x1 * x2 * x3 = m * m - b := by
  grind
theorem diamond2 {b k m x1 y1 x2 y2 xs ys k' m' x3 y3 xt yt d v : F} (h : Line b k m x1 y1 x2 y2 xs ys) (h' : Line b k' m' x2 y2 x3 y3 xt yt) (hd : d = k - k') (hv : 2 * d * v = x1 + xt - xs - x3 - d * d) (h2 : 2 * d ≠ 0) :
    y3 = v * x3 + (-ys - v * xs) ∧ xs * x3 + xs * (v * v - xs - x3) + x3 * (v * v - xs - x3) = -2 * v * (-ys - v * xs) := by
  obtain ⟨e1, e2, e3, l1, l2, l3⟩ := h
  obtain ⟨f1, f2, f3, g1, g2, g3⟩ := h'
  have l : y3 = v * x3 + (-ys - v * xs) := by grind
  exact ⟨l, by grind⟩
theorem diamond {b k m x1 y1 x2 y2 xs ys k' m' x3 y3 xt yt d v : F} (h : Line b k m x1 y1 x2 y2 xs ys) (h' : Line b k' m' x2 y2 x3 y3 xt yt) (hd : d = k - k') (hv : 2 * d * v = x1 + xt - xs - x3 - d * d) (h2 : 2 * d ≠ 0) :
    Line b v (-ys - v * xs) xs (-ys) x3 y3 (v * v - xs - x3) (v * (v * v - xs - x3) + (-ys - v * xs)) := by
  obtain ⟨l, e2⟩ := diamond2 h h' hd hv h2
  have hs := h.rot.rot.on1
  have e1 : xs + x3 + (v * v - xs - x3) = v * v := by grind
  have l1 : -ys = v * xs + (-ys - v * xs) := by grind
  exact ⟨e1, e2, Line.third e1 e2 l1 (by grind), l1, l, rfl⟩
/-- The two ways meet in one point. -/
theorem diamond_same {b k m x1 y1 x2 y2 xs ys k' m' x3 y3 xt yt d v v' : F} (h : Line b k m x1 y1 x2 y2 xs ys) (h' : Line b k' m' x2 y2 x3 y3 xt yt) (hd : d = k - k') (hv : 2 * d * v = x1 + xt - xs - x3 - d * d) (hv' : 2 * (-d) * v' = x3 + xs - xt - x1 - d * d) (h2 : 2 * d ≠ 0) :
    v * v - xs - x3 = v' * v' - xt - x1 ∧ v * (v * v - xs - x3) + (-ys - v * xs) = v' * (v' * v' - xt - x1) + (-yt - v' * xt) := by
  have hdv : v' = v + d := by grind
  have hw : v' * v' - v * v = x1 + xt - xs - x3 := by grind
  have hx : v * v - xs - x3 = v' * v' - xt - x1 := by grind
  refine ⟨hx, ?_⟩
  rw [← hx]
  obtain ⟨e1, e2, e3, l1, l2, l3⟩ := h
  obtain ⟨f1, f2, f3, g1, g2, g3⟩ := h'
  grind
inductive Pt (F : Type) where
  | zero
  | pt (x y : F)
  deriving DecidableEq
def Pt.On (b : F) : Pt F → Prop
  | .zero => True
  | .pt x y => y * y = x * x * x + b
def Pt.neg : Pt F → Pt F
  | .zero => .zero
  | .pt x y => .pt x (-y)
def slope [DecidableEq F] (x1 y1 x2 y2 : F) : F := if x1 = x2 then (x1 * x1 + x1 * x1 + x1 * x1) / (y1 + y1) else (y2 - y1) / (x2 - x1)
def Pt.add [DecidableEq F] : Pt F → Pt F → Pt F
  | .zero, q => q
  | .pt x1 y1, .zero => .pt x1 y1
  | .pt x1 y1, .pt x2 y2 => if x2 = x1 ∧ y2 = -y1 then .zero else
    .pt (slope x1 y1 x2 y2 * slope x1 y1 x2 y2 - x1 - x2) (slope x1 y1 x2 y2 * (x1 - (slope x1 y1 x2 y2 * slope x1 y1 x2 y2 - x1 - x2)) - y1)
theorem Pt.neg_neg (p : Pt F) : p.neg.neg = p := by
  cases p with
  | zero => rfl
  | pt x y => show Pt.pt x (- -y) = _; congr 1; grind
theorem Pt.neg_on {b : F} {p : Pt F} (h : p.On b) : p.neg.On b := by
  cases p with
  | zero => trivial
  | pt x y => show -y * -y = _; have h : y * y = x * x * x + b := h; grind
variable [DecidableEq F]
theorem slope_ne {x1 y1 x2 y2 : F} (h : x1 ≠ x2) : slope x1 y1 x2 y2 * (x2 - x1) = y2 - y1 := by
  unfold slope; rw [if_neg h]
  have : x2 - x1 ≠ 0 := by grind
  grind
theorem slope_eq {x1 y1 x2 y2 : F} (h : x1 = x2) (hy : y1 + y1 ≠ 0) : slope x1 y1 x2 y2 * (y1 + y1) = x1 * x1 + x1 * x1 + x1 * x1 := by
  unfold slope; rw [if_pos h]
  grind
/-- Two points of the curve that are not turned ones of each other lie on a line. -/
theorem add_line {b : F} (h2 : (2 : F) ≠ 0) {x1 y1 x2 y2 : F} (o1 : y1 * y1 = x1 * x1 * x1 + b) (o2 : y2 * y2 = x2 * x2 * x2 + b) (hn : ¬ (x2 = x1 ∧ y2 = -y1)) :
    ∃ k m x3 y3, Line b k m x1 y1 x2 y2 x3 y3 ∧ Pt.add (.pt x1 y1) (.pt x2 y2) = .pt x3 (-y3) := by
  have hadd : Pt.add (.pt x1 y1) (.pt x2 y2) = .pt (slope x1 y1 x2 y2 * slope x1 y1 x2 y2 - x1 - x2) (slope x1 y1 x2 y2 * (x1 - (slope x1 y1 x2 y2 * slope x1 y1 x2 y2 - x1 - x2)) - y1) := if_neg hn
  rw [hadd]
  by_cases hx : x1 = x2
  · subst hx
    have hyy : y2 = y1 := by
      have : (y2 - y1) * (y2 + y1) = 0 := by grind
      have h3 : y2 + y1 ≠ 0 := fun q => hn ⟨rfl, by grind⟩
      grind
    subst hyy
    have hy0 : y2 + y2 ≠ 0 := fun q => hn ⟨rfl, by grind⟩
    have hs := slope_eq (x2 := x1) (y2 := y2) (rfl : x1 = x1) hy0
    generalize slope x1 y2 x1 y2 = k at *
    refine ⟨k, y2 - k * x1, k * k - x1 - x1, k * (k * k - x1 - x1) + (y2 - k * x1), ?_, ?_⟩
    · have e1 : x1 + x1 + (k * k - x1 - x1) = k * k := by grind
      have e2 : x1 * x1 + x1 * (k * k - x1 - x1) + x1 * (k * k - x1 - x1) = -2 * k * (y2 - k * x1) := by grind
      have l1 : y2 = k * x1 + (y2 - k * x1) := by grind
      exact ⟨e1, e2, Line.third e1 e2 l1 o1, l1, l1, rfl⟩
    · congr 1; grind
  · have hs := slope_ne (y1 := y1) (y2 := y2) hx
    generalize slope x1 y1 x2 y2 = k at *
    refine ⟨k, y1 - k * x1, k * k - x1 - x2, k * (k * k - x1 - x2) + (y1 - k * x1), ?_, ?_⟩
    · have hd : x2 - x1 ≠ 0 := by grind
      have e1 : x1 + x2 + (k * k - x1 - x2) = k * k := by grind
      have l1 : y1 = k * x1 + (y1 - k * x1) := by grind
      have l2 : y2 = k * x2 + (y1 - k * x1) := by grind
      have e2 : x1 * x2 + x1 * (k * k - x1 - x2) + x2 * (k * k - x1 - x2) = -2 * k * (y1 - k * x1) := by
        have : (x2 - x1) * (x1 * x2 + x1 * (k * k - x1 - x2) + x2 * (k * k - x1 - x2) + 2 * k * (y1 - k * x1)) = 0 := by grind
        grind
      exact ⟨e1, e2, Line.third e1 e2 l1 o1, l1, l2, rfl⟩
    · congr 1; grind
theorem line_add {b : F} (h2 : (2 : F) ≠ 0) (h3 : (3 : F) ≠ 0) (hb : b ≠ 0) {k m x1 y1 x2 y2 x3 y3 : F} (h : Line b k m x1 y1 x2 y2 x3 y3) : Pt.add (.pt x1 y1) (.pt x2 y2) = .pt x3 (-y3) := by
  have o1 := h.on1
  have o2 := h.swap.on1
  have tang : x1 = x2 → y1 = y2 ∧ 2 * k * y1 = 3 * x1 * x1 ∧ y1 ≠ 0 := by
    intro e
    obtain ⟨e1, e2, e3, l1, l2, l3⟩ := h
    subst e
    have hy : y1 = y2 := by grind
    have ht : 2 * k * y1 = 3 * x1 * x1 := by grind
    refine ⟨hy, ht, fun q => ?_⟩
    have : x1 = 0 := by grind
    grind
  have hn : ¬ (x2 = x1 ∧ y2 = -y1) := by
    rintro ⟨e, q⟩
    obtain ⟨hy, _, h0⟩ := tang e.symm
    apply h0
    have : 2 * y1 = 0 := by grind
    grind
  obtain ⟨k', m', x3', y3', h', ha⟩ := add_line h2 o1 o2 hn
  rw [ha]
  have hk : k' = k := by
    by_cases e : x1 = x2
    · obtain ⟨hy, ht, h0⟩ := tang e
      obtain ⟨e1, e2, e3, l1, l2, l3⟩ := h'
      subst e
      have ht' : 2 * k' * y1 = 3 * x1 * x1 := by grind
      grind
    · have l1 := h.l1; have l2 := h.l2; have l1' := h'.l1; have l2' := h'.l2
      have : (k' - k) * (x1 - x2) = 0 := by grind
      have : x1 - x2 ≠ 0 := by grind
      grind
  subst hk
  have hx : x3' = x3 := by have := h.e1; have := h'.e1; grind
  have hy : y3' = y3 := by have := h.l3; have := h'.l3; have := h.l1; have := h'.l1; grind
  rw [hx, hy]
theorem add_comm' {b : F} (h2 : (2 : F) ≠ 0) (h3 : (3 : F) ≠ 0) (hb : b ≠ 0) {p q : Pt F} (hp : p.On b) (hq : q.On b) : p.add q = q.add p := by
  cases p with
  | zero => cases q <;> rfl
  | pt x1 y1 =>
    cases q with
    | zero => rfl
    | pt x2 y2 =>
      by_cases hn : x2 = x1 ∧ y2 = -y1
      · have hm : x1 = x2 ∧ y1 = -y2 := ⟨hn.1.symm, by have := hn.2; grind⟩
        show (if _ then _ else _) = (if _ then _ else _)
        rw [if_pos hn, if_pos hm]
      · obtain ⟨k, m, x3, y3, h, ha⟩ := add_line h2 hp hq hn
        rw [ha, line_add h2 h3 hb h.swap]
theorem add_neg (p : Pt F) : p.add p.neg = .zero := by
  cases p with
  | zero => rfl
  | pt x y => show (if _ then _ else _) = _; rw [if_pos ⟨rfl, rfl⟩]
theorem add_zero (p : Pt F) : p.add .zero = p := by cases p <;> rfl
theorem zero_add (p : Pt F) : Pt.add .zero p = p := rfl
theorem add_on {b : F} (h2 : (2 : F) ≠ 0) {p q : Pt F} (hp : p.On b) (hq : q.On b) : (p.add q).On b := by
  cases p with
  | zero => exact hq
  | pt x1 y1 =>
    cases q with
    | zero => exact hp
    | pt x2 y2 =>
      by_cases hn : x2 = x1 ∧ y2 = -y1
      · show Pt.On b (if _ then _ else _); rw [if_pos hn]; trivial
      · obtain ⟨k, m, x3, y3, h, ha⟩ := add_line h2 hp hq hn
        rw [ha]; have := h.rot.rot.on1; show -y3 * -y3 = _; grind
/-- A turned one goes back. -/
theorem neg_add_cancel {b : F} (h2 : (2 : F) ≠ 0) (h3 : (3 : F) ≠ 0) (hb : b ≠ 0) {q r : Pt F} (hq : q.On b) (hr : r.On b) : q.neg.add (q.add r) = r := by
  cases q with
  | zero => rfl
  | pt x2 y2 =>
    cases r with
    | zero => rw [add_zero, add_comm' h2 h3 hb (Pt.neg_on hq) hq, add_neg]
    | pt x3 y3 =>
      by_cases hn : x3 = x2 ∧ y3 = -y2
      · show Pt.add _ (if _ then _ else _) = _
        rw [if_pos hn, add_zero]
        obtain ⟨rfl, rfl⟩ := hn; rfl
      · obtain ⟨k, m, xt, yt, h, ha⟩ := add_line h2 hq hr hn
        rw [ha]
        have := line_add h2 h3 hb (h.neg.rot.rot.swap)
        show Pt.add (.pt x2 (-y2)) (.pt xt (-yt)) = _
        rw [this]; congr 1; grind
theorem add_assoc' {b : F} (h2 : (2 : F) ≠ 0) (h3 : (3 : F) ≠ 0) (hb : b ≠ 0) {p q r : Pt F} (hp : p.On b) (hq : q.On b) (hr : r.On b) : (p.add q).add r = p.add (q.add r) := by
  cases p with
  | zero => rfl
  | pt x1 y1 =>
    cases q with
    | zero => rfl
    | pt x2 y2 =>
      cases r with
      | zero => rw [add_zero, add_zero]
      | pt x3 y3 =>
        by_cases hn : x2 = x1 ∧ y2 = -y1
        · obtain ⟨rfl, rfl⟩ := hn
          have := neg_add_cancel h2 h3 hb hq hr
          have e : Pt.neg (.pt x2 (-y1)) = Pt.pt x2 y1 := by show Pt.pt x2 (- -y1) = _; congr 1; grind
          rw [e] at this
          rw [this]
          have : Pt.add (.pt x2 y1) (.pt x2 (-y1)) = Pt.zero := add_neg (.pt x2 y1)
          rw [this]; rfl
        · by_cases hm : x3 = x2 ∧ y3 = -y2
          · obtain ⟨rfl, rfl⟩ := hm
            have e0 : Pt.add (.pt x3 y2) (.pt x3 (-y2)) = Pt.zero := add_neg (.pt x3 y2)
            rw [e0, add_zero, add_comm' h2 h3 hb hp hq, add_comm' h2 h3 hb (add_on h2 hq hp) hr]
            exact neg_add_cancel h2 h3 hb hq hp
          · obtain ⟨k, m, xs, ys, h, ha⟩ := add_line h2 hp hq hn
            obtain ⟨k', m', xt, yt, h', ha'⟩ := add_line h2 hq hr hm
            rw [ha, ha']
            by_cases hk : k = k'
            · subst hk
              have hmm : m = m' := by have := h.l2; have := h'.l1; grind
              subst hmm
              have hxx : (x3 - x1) * (x3 - xs) = 0 := by
                have a1 := h.e1; have a2 := h.e2; have b1 := h'.e1; have b2 := h'.e2
                grind
              have hcase : x3 = x1 ∨ x3 = xs := by
                by_cases q : x3 = x1
                · exact Or.inl q
                · right
                  have : x3 - x1 ≠ 0 := by grind
                  grind
              rcases hcase with q | q
              · have hy : y3 = y1 := by have := h.l1; have := h'.l2; grind
                have ht : xt = xs := by have := h.e1; have := h'.e1; grind
                have hty : yt = ys := by have := h.l3; have := h'.l3; grind
                subst q hy ht hty
                have ons : (Pt.pt xt (-yt)).On b := by have := h.rot.rot.on1; show -yt * -yt = _; grind
                exact add_comm' h2 h3 hb ons hp
              · have hy : y3 = ys := by have := h.l3; have := h'.l2; grind
                have ht : xt = x1 := by have := h.e1; have := h'.e1; grind
                have hty : yt = y1 := by have := h.l1; have := h'.l3; grind
                subst q hy ht hty
                have e1 : Pt.add (.pt xt yt) (.pt xt (-yt)) = Pt.zero := add_neg (.pt xt yt)
                rw [e1]
                have ons : (Pt.pt x3 (-y3)).On b := by have := h.rot.rot.on1; show -y3 * -y3 = _; grind
                rw [add_comm' h2 h3 hb ons hr]
                exact add_neg (.pt x3 y3)
            · have hd : k - k' ≠ 0 := by grind
              have h2d : 2 * (k - k') ≠ 0 := by grind
              have h2d' : 2 * (k' - k) ≠ 0 := by grind
              obtain ⟨v, hv⟩ : ∃ v, 2 * (k - k') * v = x1 + xt - xs - x3 - (k - k') * (k - k') := ⟨(x1 + xt - xs - x3 - (k - k') * (k - k')) / (2 * (k - k')), by grind⟩
              obtain ⟨v', hv'⟩ : ∃ v, 2 * (k' - k) * v = x3 + xs - xt - x1 - (k' - k) * (k' - k) := ⟨(x3 + xs - xt - x1 - (k' - k) * (k' - k)) / (2 * (k' - k)), by grind⟩
              have D1 := diamond h h' rfl hv h2d
              have D2 := diamond h'.swap h.swap rfl hv' h2d'
              have A1 := line_add h2 h3 hb D1
              have A2 := line_add h2 h3 hb D2
              obtain ⟨s1, s2⟩ := diamond_same h h' rfl hv (v' := v') (by grind) h2d
              have ont : (Pt.pt xt (-yt)).On b := by have := h'.rot.rot.on1; show -yt * -yt = _; grind
              rw [A1, add_comm' h2 h3 hb hp ont, A2, s1, ← s2, s1]
end
end Go.Proofs.Ec

namespace Go.Proofs.YtmmloghbnpfedaaDoor
set_option linter.unusedVariables false
def Pr (p : Nat) : Prop := 1 < p ∧ ∀ d, d ∣ p → d = 1 ∨ d = p
theorem Pr.coprime {p a : Nat} (hp : Pr p) (h : ¬ p ∣ a) : Nat.Coprime p a := by
  rcases hp.2 (Nat.gcd p a) (Nat.gcd_dvd_left p a) with h1 | h1
  · exact h1
  · exact absurd (h1 ▸ Nat.gcd_dvd_right p a) h
theorem Pr.mul {p a b : Nat} (hp : Pr p) (h : p ∣ a * b) : p ∣ a ∨ p ∣ b := by
  by_cases ha : p ∣ a
  · exact .inl ha
  · exact .inr ((hp.coprime ha).dvd_of_dvd_mul_left h)
theorem Pr.pow {p a : Nat} (hp : Pr p) : ∀ {n : Nat}, p ∣ a ^ n → p ∣ a
  | 0, h => by
    rw [Nat.pow_zero, Nat.dvd_one] at h
    have := hp.1; omega
  | n + 1, h => by
    rw [Nat.pow_succ] at h
    rcases hp.mul h with h | h
    · exact Pr.pow hp h
    · exact h
/-! ### A least divisor -/
theorem least {n : Nat} : ∀ k, (∃ d, 1 < d ∧ d ≤ k ∧ d ∣ n) → ∃ r, 1 < r ∧ r ∣ n ∧ ∀ d, 1 < d → d ∣ n → r ≤ d
  | 0, ⟨d, h1, h2, _⟩ => by omega
  | k + 1, ⟨d, h1, h2, h3⟩ => by
    by_cases h : ∃ d, 1 < d ∧ d ≤ k ∧ d ∣ n
    · exact least k h
    · have hd : d = k + 1 := by
        rcases Nat.lt_or_ge k d with h' | h'
        · omega
        · exact absurd ⟨d, h1, h', h3⟩ h
      refine ⟨d, h1, h3, fun e he hen => ?_⟩
      rcases Nat.lt_or_ge e d with h' | h'
      · exact absurd ⟨e, he, by omega, hen⟩ h
      · exact h'
theorem least_prime {n : Nat} (hn : 1 < n) : ∃ r, Pr r ∧ r ∣ n ∧ ∀ d, 1 < d → d ∣ n → r ≤ d := by
  obtain ⟨r, h1, h2, h3⟩ := least n ⟨n, hn, Nat.le_refl _, Nat.dvd_refl _⟩
  refine ⟨r, ⟨h1, fun d hd => ?_⟩, h2, h3⟩
  have hpos : 0 < d := Nat.pos_of_dvd_of_pos hd (by omega)
  have hle : d ≤ r := Nat.le_of_dvd (by omega) hd
  by_cases h : d = 1
  · exact .inl h
  · exact .inr (Nat.le_antisymm hle (h3 d (by omega) (Nat.dvd_trans hd h2)))
/-- A number without a divisor up to its root is a prime. -/
theorem Pr.of_root {n : Nat} (hn : 1 < n) (h : ∀ r, Pr r → r ∣ n → n < r * r) : Pr n := by
  obtain ⟨r, hr, hrn, hmin⟩ := least_prime hn
  refine ⟨hn, fun d hd => ?_⟩
  by_cases h1 : d = 1
  · exact .inl h1
  by_cases h2 : d = n
  · exact .inr h2
  obtain ⟨e, he⟩ := hd
  have hdpos : 0 < d := Nat.pos_of_ne_zero fun h => by subst h; omega
  have hepos : 0 < e := Nat.pos_of_ne_zero fun h => by subst h; omega
  have he1 : e ≠ 1 := fun h => h2 (by rw [he, h, Nat.mul_one])
  have a := hmin d (by omega) ⟨e, he⟩
  have b := hmin e (by omega) ⟨d, by rw [he, Nat.mul_comm]⟩
  have c := h r hr hrn
  have : r * r ≤ d * e := Nat.mul_le_mul a b
  omega
/-! ### Fermat -/
def prd : List Nat → Nat
  | [] => 1
  | x :: l => x * prd l
def fct : Nat → Nat
  | 0 => 1
  | n + 1 => (n + 1) * fct n
theorem prd_perm {l m : List Nat} (h : l.Perm m) : prd l = prd m := by
  induction h with
  | nil => rfl
  | cons x _ ih => simp only [prd, ih]
  | swap x y l => simp only [prd]; rw [← Nat.mul_assoc, ← Nat.mul_assoc, Nat.mul_comm x y]
  | trans _ _ h1 h2 => exact h1.trans h2
theorem pigeon : ∀ (n : Nat) (l : List Nat), l.Nodup → (∀ x ∈ l, 1 ≤ x ∧ x ≤ n) → l.length ≤ n
  | 0, [], _, _ => Nat.le_refl _
  | 0, x :: l, _, h => by have := h x List.mem_cons_self; omega
  | n + 1, l, hn, h => by
    by_cases hm : n + 1 ∈ l
    · have hl := List.length_erase_of_mem hm
      have := pigeon n (l.erase (n + 1)) (hn.erase _) (fun x hx => by
        have h1 := h x (List.mem_of_mem_erase hx)
        have h2 : x ≠ n + 1 := fun he => (hn.not_mem_erase) (he ▸ hx)
        omega)
      have hpos := List.length_pos_of_mem hm
      omega
    · have := pigeon n l hn (fun x hx => by
        have h1 := h x hx
        have h2 : x ≠ n + 1 := fun he => hm (he ▸ hx)
        omega)
      omega
theorem prd_all : ∀ (n : Nat) (l : List Nat), l.Nodup → (∀ x ∈ l, 1 ≤ x ∧ x ≤ n) → l.length = n → prd l = fct n
  | 0, [], _, _, _ => rfl
  | 0, x :: l, _, _, h => by simp at h
  | n + 1, l, hn, h, hl => by
    by_cases hm : n + 1 ∈ l
    · have hle := List.length_erase_of_mem hm
      have := prd_all n (l.erase (n + 1)) (hn.erase _) (fun x hx => by
        have h1 := h x (List.mem_of_mem_erase hx)
        have h2 : x ≠ n + 1 := fun he => (hn.not_mem_erase) (he ▸ hx)
        omega) (by omega)
      rw [prd_perm (List.perm_cons_erase hm), prd, this, fct]
    · have := pigeon n l hn (fun x hx => by
        have h1 := h x hx
        have h2 : x ≠ n + 1 := fun he => hm (he ▸ hx)
        omega)
      omega
theorem fct_free {r : Nat} (hr : Pr r) : ∀ n, n < r → ¬ r ∣ fct n
  | 0, _, h => by rw [fct, Nat.dvd_one] at h; have := hr.1; omega
  | n + 1, hn, h => by
    rw [fct] at h
    rcases hr.mul h with h | h
    · have := Nat.le_of_dvd (by omega) h; omega
    · exact fct_free hr n (by omega) h
def row (a r : Nat) : Nat → List Nat
  | 0 => []
  | n + 1 => a * (n + 1) % r :: row a r n
theorem row_length (a r : Nat) : ∀ n, (row a r n).length = n
  | 0 => rfl
  | n + 1 => by rw [row, List.length_cons, row_length a r n]
theorem row_mem {a r x : Nat} : ∀ {n}, x ∈ row a r n → ∃ i, 1 ≤ i ∧ i ≤ n ∧ x = a * i % r
  | 0, h => by cases h
  | n + 1, h => by
    rcases List.mem_cons.1 h with h | h
    · exact ⟨n + 1, by omega, by omega, h⟩
    · obtain ⟨i, h1, h2, h3⟩ := row_mem h; exact ⟨i, h1, by omega, h3⟩
theorem mul_mod_inj {r a i j : Nat} (hr : Pr r) (ha : ¬ r ∣ a) (hij : i ≤ j) (hj : j < r) (h : a * i % r = a * j % r) : i = j := by
  have hd : r ∣ a * (j - i) := by
    have : a * j = a * i + a * (j - i) := by rw [← Nat.mul_add]; congr 1; omega
    rw [this] at h
    have h3 := Nat.sub_mod_eq_zero_of_mod_eq h.symm
    rw [Nat.add_sub_cancel_left] at h3
    exact Nat.dvd_of_mod_eq_zero h3
  rcases hr.mul hd with h' | h'
  · exact absurd h' ha
  · by_cases h0 : j - i = 0
    · omega
    · have := Nat.le_of_dvd (by omega) h'; omega
theorem row_nodup {a r : Nat} (hr : Pr r) (ha : ¬ r ∣ a) : ∀ n, n < r → (row a r n).Nodup
  | 0, _ => List.nodup_nil
  | n + 1, hn => by
    rw [row, List.nodup_cons]
    refine ⟨fun h => ?_, row_nodup hr ha n (by omega)⟩
    obtain ⟨i, h1, h2, h3⟩ := row_mem h
    have := mul_mod_inj hr ha (by omega : i ≤ n + 1) hn h3.symm
    omega
theorem row_prd (a r : Nat) : ∀ n, prd (row a r n) % r = a ^ n * fct n % r
  | 0 => rfl
  | n + 1 => by
    rw [row, prd, fct, Nat.mul_mod, Nat.mod_mod, row_prd a r n, ← Nat.mul_mod]
    congr 1
    rw [Nat.pow_succ]
    simp only [Nat.mul_assoc, Nat.mul_comm, Nat.mul_left_comm]
theorem fermat {r a : Nat} (hr : Pr r) (ha : ¬ r ∣ a) : a ^ (r - 1) % r = 1 := by
  have h1 := hr.1
  have hp := prd_all (r - 1) (row a r (r - 1)) (row_nodup hr ha _ (by omega)) (fun x hx => by
    obtain ⟨i, hi1, hi2, hx⟩ := row_mem hx
    have hlt : x < r := by rw [hx]; exact Nat.mod_lt _ (by omega)
    refine ⟨?_, by omega⟩
    rcases Nat.eq_zero_or_pos x with h0 | h0
    · rw [h0] at hx
      have := Nat.dvd_of_mod_eq_zero hx.symm
      rcases hr.mul this with h | h
      · exact absurd h ha
      · have := Nat.le_of_dvd (by omega) h; omega
    · exact h0) (row_length a r _)
  have hq := row_prd a r (r - 1)
  rw [hp] at hq
  have hf := fct_free hr (r - 1) (by omega)
  have hc : fct (r - 1) * 1 % r = fct (r - 1) * (a ^ (r - 1) % r) % r := by
    rw [Nat.mul_one, Nat.mul_mod_mod, hq, Nat.mul_comm]
  exact (mul_mod_inj hr hf (by
    rcases Nat.eq_zero_or_pos (a ^ (r - 1) % r) with h0 | h0
    · exact absurd (hr.pow (Nat.dvd_of_mod_eq_zero h0)) ha
    · exact h0) (Nat.mod_lt _ (by omega)) hc).symm
theorem dvd_pow {a : Nat} : ∀ {n : Nat}, 0 < n → a ∣ a ^ n
  | n + 1, _ => by rw [Nat.pow_succ]; exact Nat.dvd_mul_left a _
/-! ### Orders -/
theorem pow_one {b r m : Nat} (hr : 1 < r) (h : b ^ m % r = 1) (k : Nat) : b ^ (m * k) % r = 1 := by
  rw [Nat.pow_mul, Nat.pow_mod, h, Nat.one_pow, Nat.mod_eq_of_lt hr]
theorem pow_gcd {b r : Nat} (hr : 1 < r) : ∀ (m n : Nat), b ^ m % r = 1 → b ^ n % r = 1 → b ^ (Nat.gcd m n) % r = 1 := by
  intro m n
  induction m, n using Nat.gcd.induction with
  | H0 n => intro _ h; rw [Nat.gcd_zero_left]; exact h
  | H1 m n hm ih =>
    intro h1 h2
    rw [Nat.gcd_rec]
    refine ih ?_ h1
    have : b ^ n = b ^ (m * (n / m)) * b ^ (n % m) := by rw [← Nat.pow_add, Nat.div_add_mod]
    rw [this, Nat.mul_mod, pow_one hr h1, Nat.one_mul, Nat.mod_mod] at h2
    exact h2
/-- Powers modulo N, bit by bit. -/
def pm (a N : Nat) : Nat → Nat → Nat
  | 0, _ => 1 % N
  | f + 1, n => bif Nat.beq (n % 2) 1 then pm a N f (n / 2) * pm a N f (n / 2) % N * a % N else pm a N f (n / 2) * pm a N f (n / 2) % N
theorem pm_eq (a N : Nat) : ∀ f n, n < 2 ^ f → pm a N f n = a ^ n % N
  | 0, n, h => by
    have : n = 0 := by rw [Nat.pow_zero] at h; omega
    subst this; rfl
  | f + 1, n, h => by
    have ih := pm_eq a N f (n / 2) (by rw [Nat.pow_succ] at h; omega)
    rw [pm, ih]
    cases hb : Nat.beq (n % 2) 1 with
    | true =>
      have h1 := Nat.eq_of_beq_eq_true hb
      rw [cond_true, ← Nat.mul_mod, ← Nat.pow_add, Nat.mod_mul_mod, ← Nat.pow_succ]
      congr 2; omega
    | false =>
      have h1 : n % 2 ≠ 1 := fun h => by rw [h] at hb; cases hb
      rw [cond_false, ← Nat.mul_mod, ← Nat.pow_add]
      congr 2; omega
theorem Pock.step {N r q a : Nat} (hN : 1 < N) (hr : Pr r) (hrN : r ∣ N) (hq : Pr q) (hqN : q ∣ N - 1) (h1 : a ^ (N - 1) % N = 1) (h2 : Nat.gcd (a ^ ((N - 1) / q) % N - 1) N = 1) : q ∣ r - 1 := by
  have hmod : ∀ x, x % N = 1 → x % r = 1 := fun x hx => by
    have := Nat.mod_mod_of_dvd x hrN
    rw [hx, Nat.mod_eq_of_lt hr.1] at this; exact this.symm
  have ha : ¬ r ∣ a := fun h => by
    have h3 := hmod _ h1
    have : r ∣ a ^ (N - 1) := Nat.dvd_trans h (dvd_pow (by omega))
    rw [Nat.mod_eq_zero_of_dvd this] at h3; cases h3
  by_cases hd : q ∣ r - 1
  · exact hd
  exfalso
  have hb : (a ^ ((N - 1) / q)) ^ q % r = 1 := by rw [← Nat.pow_mul, Nat.div_mul_cancel hqN]; exact hmod _ h1
  have hf : (a ^ ((N - 1) / q)) ^ (r - 1) % r = 1 := fermat hr (fun h => ha (hr.pow h))
  have hg := pow_gcd hr.1 _ _ hb hf
  rw [hq.coprime hd, Nat.pow_one] at hg
  have hc : (a ^ ((N - 1) / q) % N) % r = 1 := by rw [Nat.mod_mod_of_dvd _ hrN]; exact hg
  have hdv : r ∣ a ^ ((N - 1) / q) % N - 1 := by
    have h3 := Nat.sub_mod_eq_zero_of_mod_eq (hc.trans (Nat.mod_eq_of_lt hr.1).symm)
    exact Nat.dvd_of_mod_eq_zero h3
  have := Nat.dvd_gcd hdv hrN
  rw [h2, Nat.dvd_one] at this
  have := hr.1; omega
/-- What is checked of one prime divisor q of N - 1 with a witness a. -/
def pk (N f : Nat) (q a : Nat) : Bool := Nat.beq ((N - 1) % q) 0 && Nat.beq (pm a N f (N - 1)) 1 && Nat.beq (Nat.gcd (pm a N f ((N - 1) / q) - 1) N) 1
theorem pk_step {N f q a r : Nat} (hN : 1 < N) (hf : N < 2 ^ f) (hq : Pr q) (h : pk N f q a = true) (hr : Pr r) (hrN : r ∣ N) : q ∣ r - 1 := by
  simp only [pk, Bool.and_eq_true] at h
  obtain ⟨⟨h1, h2⟩, h3⟩ := h
  have h2 := Nat.eq_of_beq_eq_true h2
  have h3 := Nat.eq_of_beq_eq_true h3
  rw [pm_eq _ _ _ _ (by omega)] at h2
  rw [pm_eq _ _ _ _ (Nat.lt_of_le_of_lt (Nat.div_le_self _ _) (by omega))] at h3
  exact Pock.step hN hr hrN hq (Nat.dvd_of_mod_eq_zero (Nat.eq_of_beq_eq_true h1)) h2 h3
theorem Pock1 {N f q a : Nat} (hq : Pr q) (hf : Nat.blt N (2 ^ f) = true) (h : pk N f q a = true) (hbig : (Nat.blt 1 N && Nat.blt N (q * q)) = true) : Pr N := by
  simp only [Bool.and_eq_true] at hbig
  have hN : 1 < N := Nat.le_of_ble_eq_true hbig.1
  have hb : N < q * q := Nat.le_of_ble_eq_true hbig.2
  refine Pr.of_root hN fun r hr hrN => ?_
  have := Nat.le_of_dvd (by have := hr.1; omega) (pk_step hN (Nat.le_of_ble_eq_true hf) hq h hr hrN)
  exact Nat.lt_of_lt_of_le hb (Nat.mul_le_mul (by omega) (by omega))
theorem Pock2 {N f q1 a1 q2 a2 : Nat} (hq1 : Pr q1) (hq2 : Pr q2) (hf : Nat.blt N (2 ^ f) = true) (h1 : pk N f q1 a1 = true) (h2 : pk N f q2 a2 = true) (hbig : (Nat.blt 1 N && Nat.blt N (q1 * q2 * (q1 * q2)) && Nat.beq (Nat.gcd q1 q2) 1) = true) : Pr N := by
  simp only [Bool.and_eq_true] at hbig
  have hN : 1 < N := Nat.le_of_ble_eq_true hbig.1.1
  have hb : N < q1 * q2 * (q1 * q2) := Nat.le_of_ble_eq_true hbig.1.2
  have hc : Nat.Coprime q1 q2 := Nat.eq_of_beq_eq_true hbig.2
  refine Pr.of_root hN fun r hr hrN => ?_
  have := Nat.le_of_dvd (by have := hr.1; omega) (hc.mul_dvd_of_dvd_of_dvd (pk_step hN (Nat.le_of_ble_eq_true hf) hq1 h1 hr hrN) (pk_step hN (Nat.le_of_ble_eq_true hf) hq2 h2 hr hrN))
  exact Nat.lt_of_lt_of_le hb (Nat.mul_le_mul (by omega) (by omega))
theorem Pock3 {N f q1 a1 q2 a2 q3 a3 : Nat} (hq1 : Pr q1) (hq2 : Pr q2) (hq3 : Pr q3) (hf : Nat.blt N (2 ^ f) = true) (h1 : pk N f q1 a1 = true) (h2 : pk N f q2 a2 = true) (h3 : pk N f q3 a3 = true) (hbig : (Nat.blt 1 N && Nat.blt N (q1 * q2 * q3 * (q1 * q2 * q3)) && Nat.beq (Nat.gcd q1 q2) 1 && Nat.beq (Nat.gcd (q1 * q2) q3) 1) = true) : Pr N := by
  simp only [Bool.and_eq_true] at hbig
  have hN : 1 < N := Nat.le_of_ble_eq_true hbig.1.1.1
  have hb : N < q1 * q2 * q3 * (q1 * q2 * q3) := Nat.le_of_ble_eq_true hbig.1.1.2
  have hc : Nat.Coprime q1 q2 := Nat.eq_of_beq_eq_true hbig.1.2
  have hc3 : Nat.Coprime (q1 * q2) q3 := Nat.eq_of_beq_eq_true hbig.2
  refine Pr.of_root hN fun r hr hrN => ?_
  have s := fun {q a} hq h => pk_step (q := q) (a := a) hN (Nat.le_of_ble_eq_true hf) hq h hr hrN
  have := Nat.le_of_dvd (by have := hr.1; omega) (hc3.mul_dvd_of_dvd_of_dvd (hc.mul_dvd_of_dvd_of_dvd (s hq1 h1) (s hq2 h2)) (s hq3 h3))
  exact Nat.lt_of_lt_of_le hb (Nat.mul_le_mul (by omega) (by omega))
/-- No number from 2 to n + 1 divides p. -/
def nodivs (p : Nat) : Nat → Bool
  | 0 => true
  | n + 1 => bif Nat.beq (p % (n + 2)) 0 then false else nodivs p n
theorem nodivs_spec {p : Nat} : ∀ {n}, nodivs p n = true → ∀ d, 2 ≤ d → d ≤ n + 1 → ¬ d ∣ p
  | 0, _, d, h1, h2, _ => by omega
  | n + 1, h, d, h1, h2, hd => by
    rw [nodivs] at h
    cases hb : Nat.beq (p % (n + 2)) 0 with
    | true => rw [hb] at h; cases h
    | false =>
      rw [hb, cond_false] at h
      by_cases hdn : d = n + 2
      · subst hdn
        rw [Nat.mod_eq_zero_of_dvd hd] at hb; cases hb
      · exact nodivs_spec h d h1 (by omega) hd
theorem small_prime {p : Nat} (n : Nat) (h : nodivs p n = true) (hb : (Nat.blt 1 p && Nat.blt p ((n + 2) * (n + 2))) = true) : Pr p := by
  simp only [Bool.and_eq_true] at hb
  refine Pr.of_root (Nat.le_of_ble_eq_true hb.1) fun r hr hrp => ?_
  have h2 : p < (n + 2) * (n + 2) := Nat.le_of_ble_eq_true hb.2
  rcases Nat.lt_or_ge r (n + 2) with h' | h'
  · exact absurd hrp (nodivs_spec h r hr.1 (by omega))
  · exact Nat.lt_of_lt_of_le h2 (Nat.mul_le_mul h' h')
end Go.Proofs.YtmmloghbnpfedaaDoor

namespace Go.Proofs.Zm
open Go.Proofs.YtmmloghbnpfedaaDoor
set_option linter.unusedVariables false
class PrM (M : Nat) : Prop where
  pr : Pr M
  two : 2 < M
structure Zm (M : Nat) where
  v : Nat
  lt : v < M
theorem Zm.ext {M : Nat} {a b : Zm M} (h : a.v = b.v) : a = b := by cases a; cases b; cases h; rfl
section
variable {M : Nat} [hM : PrM M]
theorem pos : 0 < M := Nat.lt_trans (by decide) (hM.pr).1
def mk (n : Nat) : Zm M := ⟨n % M, Nat.mod_lt _ pos⟩
theorem mk_v (a : Zm M) : mk a.v = a := Zm.ext (Nat.mod_eq_of_lt a.lt)
theorem mk_eq {m n : Nat} (h : m % M = n % M) : (mk m : Zm M) = mk n := Zm.ext h
theorem mk_iff {m n : Nat} : (mk m : Zm M) = mk n ↔ m % M = n % M := ⟨fun h => congrArg Zm.v h, mk_eq⟩
instance : DecidableEq (Zm M) := fun a b => if h : a.v = b.v then .isTrue (Zm.ext h) else .isFalse fun e => h (congrArg Zm.v e)
instance iAdd : Add (Zm M) := ⟨fun a b => mk (a.v + b.v)⟩
instance iMul : Mul (Zm M) := ⟨fun a b => mk (a.v * b.v)⟩
instance iNeg : Neg (Zm M) := ⟨fun a => mk (M - a.v)⟩
instance iSub : Sub (Zm M) := ⟨fun a b => mk (a.v + (M - b.v))⟩
instance iInv : Inv (Zm M) := ⟨fun a => mk (a.v ^ (M - 2))⟩
theorem mk_add (a b : Nat) : (mk a : Zm M) + mk b = mk (a + b) := Zm.ext (by show (a % M + b % M) % M = (a + b) % M; rw [← Nat.add_mod])
theorem mk_mul (a b : Nat) : (mk a : Zm M) * mk b = mk (a * b) := Zm.ext (by show (a % M * (b % M)) % M = (a * b) % M; rw [← Nat.mul_mod])
theorem rep (a : Zm M) : ∃ n, a = mk n := ⟨a.v, (mk_v a).symm⟩
def npow (a : Zm M) : Nat → Zm M
  | 0 => mk 1
  | n + 1 => npow a n * a
theorem mk_pow (a : Nat) : ∀ n, npow (mk a : Zm M) n = mk (a ^ n)
  | 0 => rfl
  | n + 1 => by show npow (mk a) n * mk a = _; rw [mk_pow a n, mk_mul, Nat.pow_succ]
theorem inv_of {a : Zm M} (h : a ≠ mk 0) : a * a⁻¹ = mk 1 := by
  obtain ⟨n, rfl⟩ := rep a
  have hd : ¬ M ∣ n := fun q => h (mk_eq (by rw [Nat.mod_eq_zero_of_dvd q, Nat.zero_mod]))
  have h1 := (hM.pr).1
  show mk n * mk ((n % M) ^ (M - 2)) = _
  rw [mk_mul]
  apply mk_eq
  rw [Nat.mul_mod, ← Nat.pow_mod, ← Nat.mul_mod, show n * n ^ (M - 2) = n ^ (M - 1) by rw [Nat.mul_comm, ← Nat.pow_succ]; congr 1; omega, fermat hM.pr hd, Nat.mod_eq_of_lt h1]
theorem neg_cancel (a : Zm M) : -a + a = mk 0 := by
  show mk (M - a.v) + a = _
  have e : a = mk a.v := (mk_v a).symm
  conv => lhs; rhs; rw [e]
  rw [mk_add]
  apply mk_eq
  have := a.lt
  rw [show M - a.v + a.v = M by omega, Nat.mod_self, Nat.zero_mod]
theorem a_zero (a : Zm M) : a + mk 0 = a := by obtain ⟨n, rfl⟩ := rep a; rw [mk_add]; rfl
theorem a_comm (a b : Zm M) : a + b = b + a := by obtain ⟨n, rfl⟩ := rep a; obtain ⟨m, rfl⟩ := rep b; rw [mk_add, mk_add, Nat.add_comm]
theorem a_assoc (a b c : Zm M) : a + b + c = a + (b + c) := by obtain ⟨n, rfl⟩ := rep a; obtain ⟨m, rfl⟩ := rep b; obtain ⟨k, rfl⟩ := rep c; rw [mk_add, mk_add, mk_add, mk_add, Nat.add_assoc]
theorem m_comm (a b : Zm M) : a * b = b * a := by obtain ⟨n, rfl⟩ := rep a; obtain ⟨m, rfl⟩ := rep b; rw [mk_mul, mk_mul, Nat.mul_comm]
theorem m_assoc (a b c : Zm M) : a * b * c = a * (b * c) := by obtain ⟨n, rfl⟩ := rep a; obtain ⟨m, rfl⟩ := rep b; obtain ⟨k, rfl⟩ := rep c; rw [mk_mul, mk_mul, mk_mul, mk_mul, Nat.mul_assoc]
theorem m_one (a : Zm M) : a * mk 1 = a := by obtain ⟨n, rfl⟩ := rep a; rw [mk_mul, Nat.mul_one]
theorem m_zero (a : Zm M) : mk 0 * a = mk 0 := by obtain ⟨n, rfl⟩ := rep a; rw [mk_mul, Nat.zero_mul]
theorem dist (a b c : Zm M) : a * (b + c) = a * b + a * c := by obtain ⟨n, rfl⟩ := rep a; obtain ⟨m, rfl⟩ := rep b; obtain ⟨k, rfl⟩ := rep c; rw [mk_add, mk_mul, mk_mul, mk_mul, mk_add, Nat.mul_add]
theorem sub_neg (a b : Zm M) : a - b = a + -b := by
  show mk (a.v + (M - b.v)) = a + mk (M - b.v)
  have e : a = mk a.v := (mk_v a).symm
  conv => rhs; lhs; rw [e]
  rw [mk_add]
theorem one_ne : (mk 0 : Zm M) ≠ mk 1 := fun h => by
  have := mk_iff.1 h
  have h1 := (hM.pr).1
  rw [Nat.zero_mod, Nat.mod_eq_of_lt h1] at this
  cases this
theorem neg_uniq {a b : Zm M} (h : b + a = mk 0) : b = -a := by
  have : b + a + -a = mk 0 + -a := by rw [h]
  rw [a_assoc, a_comm a, neg_cancel, a_zero, a_comm, a_zero] at this
  exact this
theorem neg_neg' (a : Zm M) : - -a = a := (neg_uniq (by rw [a_comm]; exact neg_cancel a)).symm
theorem neg_zero' : -(mk 0 : Zm M) = mk 0 := (neg_uniq (a_zero _)).symm
theorem neg_mul' (a b : Zm M) : -a * b = -(a * b) := neg_uniq (by rw [m_comm, m_comm a, ← dist, neg_cancel, m_comm, m_zero])
def icast : Int → Zm M
  | .ofNat n => mk n
  | .negSucc n => -mk (n + 1)
theorem icast_neg : ∀ i : Int, icast (-i) = -(icast i : Zm M)
  | .ofNat 0 => neg_zero'.symm
  | .ofNat (n + 1) => rfl
  | .negSucc n => (neg_neg' _).symm
theorem inv_zero' : (mk 0 : Zm M)⁻¹ = mk 0 := by
  show mk ((0 % M) ^ (M - 2)) = _
  have h := hM.two
  rw [Nat.zero_mod, Nat.zero_pow (by omega)]
theorem inv_inv' (a : Zm M) : a⁻¹⁻¹ = a := by
  by_cases h : a = mk 0
  · rw [h, inv_zero', inv_zero']
  · have h1 := inv_of h
    have h2 : a⁻¹ ≠ mk 0 := fun q => by rw [q, m_comm, m_zero] at h1; exact one_ne h1
    have h3 := inv_of h2
    have : a * (a⁻¹ * a⁻¹⁻¹) = a * mk 1 := by rw [h3]
    rw [← m_assoc, h1, m_one, m_comm, m_one] at this
    exact this
def zpow (a : Zm M) : Int → Zm M
  | .ofNat n => npow a n
  | .negSucc n => (npow a (n + 1))⁻¹
theorem one_inv : (mk 1 : Zm M)⁻¹ = mk 1 := by
  have h := inv_of (a := (mk 1 : Zm M)) (fun q => one_ne q.symm)
  rw [m_comm, m_one] at h; exact h
theorem zpow_neg' (a : Zm M) : ∀ i : Int, zpow a (-i) = (zpow a i)⁻¹
  | .ofNat 0 => one_inv.symm
  | .ofNat (n + 1) => rfl
  | .negSucc n => (inv_inv' _).symm
instance iField : Lean.Grind.Field (Zm M) where
  natCast := ⟨fun n => mk n⟩
  ofNat n := ⟨mk n⟩
  nsmul := ⟨fun n a => mk n * a⟩
  npow := ⟨fun a n => npow a n⟩
  add_zero := a_zero
  add_comm := a_comm
  add_assoc := a_assoc
  mul_assoc := m_assoc
  mul_one := m_one
  one_mul a := by rw [m_comm]; exact m_one a
  left_distrib := dist
  right_distrib a b c := by rw [m_comm, dist, m_comm c, m_comm c]
  zero_mul := m_zero
  mul_zero a := by rw [m_comm]; exact m_zero a
  pow_zero _ := rfl
  pow_succ _ _ := rfl
  ofNat_succ n := (mk_add n 1).symm
  ofNat_eq_natCast _ := rfl
  nsmul_eq_natCast_mul _ _ := rfl
  intCast := ⟨icast⟩
  zsmul := ⟨fun i a => icast i * a⟩
  neg_add_cancel := neg_cancel
  sub_eq_add_neg := sub_neg
  neg_zsmul i a := by show icast (-i) * a = -(icast i * a); rw [icast_neg, neg_mul']
  zsmul_natCast_eq_nsmul _ _ := rfl
  intCast_ofNat _ := rfl
  intCast_neg := icast_neg
  mul_comm := m_comm
  div a b := a * b⁻¹
  zpow := ⟨zpow⟩
  div_eq_mul_inv _ _ := rfl
  zero_ne_one := one_ne
  inv_zero := inv_zero'
  mul_inv_cancel h := inv_of h
  zpow_zero _ := rfl
  zpow_succ _ _ := rfl
  zpow_neg := zpow_neg'
/-- What the program's formulas are. -/
theorem mk_sub (a b : Nat) : (mk a : Zm M) - mk b = mk (a % M + (M - b % M)) := rfl
theorem mk_inv (a : Nat) : (mk a : Zm M)⁻¹ = mk (a ^ (M - 2)) := by show mk ((a % M) ^ (M - 2)) = _; exact mk_eq (Nat.pow_mod a (M - 2) M).symm
end
end Go.Proofs.Zm

namespace Go.Proofs.YtmmloghbnpfedaaDoor
open Go.ChangeShapes Go.WideShapes Go.ChangeAt Go.RowKit
set_option linter.unusedVariables false
@[reducible] def uv (n : Nat) : Value := .agg #[.int .u64 (w0 n), .int .u64 (w1 n), .int .u64 (w2 n), .int .u64 (w3 n)]
theorem add64_ex {x y c : Int} (hx : Wd x) (hy : Wd y) (hc : Bt c) : ∃ s d, (∀ w, (callFunc 95 #[.int .u64 x, .int .u64 y, .int .u64 c]).run Tryd.prog w = .ok (.value (.tuple #[.int .u64 s, .int .u64 d])) w) ∧ AddS x y c s d := by
  obtain ⟨hx0, hx1⟩ := hx; obtain ⟨hy0, hy1⟩ := hy; obtain ⟨hc0, hc1⟩ := hc
  obtain ⟨X, rfl⟩ := Int.eq_ofNat_of_zero_le hx0
  obtain ⟨Y, rfl⟩ := Int.eq_ofNat_of_zero_le hy0
  obtain ⟨C, rfl⟩ := Int.eq_ofNat_of_zero_le hc0
  refine ⟨(((X + Y + C) % 18446744073709551616 : Nat) : Int), (((X + Y + C) / 18446744073709551616 : Nat) : Int), fun w => ?_, ?_⟩
  · rw [run_callFunc_extern Tryd.func95 (by kernel_rfl) (by kernel_rfl) (by kernel_rfl) (e := add64Entry) (by kernel_rfl), run_add64 X Y C (by omega) (by omega) (by omega) (by omega)]
    simp only [Result.andThen]
    congr 5 <;> omega
  · unfold AddS Wd Bt; omega
theorem sub64_ex {x y c : Int} (hx : Wd x) (hy : Wd y) (hc : Bt c) : ∃ s d, (∀ w, (callFunc 85 #[.int .u64 x, .int .u64 y, .int .u64 c]).run Tryd.prog w = .ok (.value (.tuple #[.int .u64 s, .int .u64 d])) w) ∧ SubS x y c s d := by
  obtain ⟨hx0, hx1⟩ := hx; obtain ⟨hy0, hy1⟩ := hy; obtain ⟨hc0, hc1⟩ := hc
  obtain ⟨X, rfl⟩ := Int.eq_ofNat_of_zero_le hx0
  obtain ⟨Y, rfl⟩ := Int.eq_ofNat_of_zero_le hy0
  obtain ⟨C, rfl⟩ := Int.eq_ofNat_of_zero_le hc0
  refine ⟨(((X + 18446744073709551616 - Y - C) % 18446744073709551616 : Nat) : Int), ((if X < Y + C then 1 else 0 : Nat) : Int), fun w => ?_, ?_⟩
  · rw [run_callFunc_extern Tryd.func85 (by kernel_rfl) (by kernel_rfl) (by kernel_rfl) (e := sub64Entry) (by kernel_rfl), run_sub64 X Y C (by omega)]
    rfl
  · unfold SubS Wd Bt; split <;> omega
theorem ix0 (x0 x1 x2 x3 : Value) (w : World) : (Instr.index 24 (.agg #[x0, x1, x2, x3]) (.int .i64 0)).run Tryd.prog w = .ok x0 w := by kernel_rfl
theorem ix1 (x0 x1 x2 x3 : Value) (w : World) : (Instr.index 24 (.agg #[x0, x1, x2, x3]) (.int .i64 1)).run Tryd.prog w = .ok x1 w := by kernel_rfl
theorem ix2 (x0 x1 x2 x3 : Value) (w : World) : (Instr.index 24 (.agg #[x0, x1, x2, x3]) (.int .i64 2)).run Tryd.prog w = .ok x2 w := by kernel_rfl
theorem ix3 (x0 x1 x2 x3 : Value) (w : World) : (Instr.index 24 (.agg #[x0, x1, x2, x3]) (.int .i64 3)).run Tryd.prog w = .ok x3 w := by kernel_rfl
set_option maxHeartbeats 400000 in
theorem small_any (n : Int) (w : World) : Calls Tryd.prog 55 #[.int .u64 n] w fun e w' => e = .returned (.agg #[.int .u64 n, .int .u64 0, .int .u64 0, .int .u64 0]) ∧ Below w.heap.size w w' := by
  go_enter Tryd.func55, Tryd.ntmps55
  go_wp2
  go_returns
  exact ⟨rfl, by go_grown⟩
set_option maxHeartbeats 1000000 in
theorem add_any (A B : Nat) (hA : A < big) (hB : B < big) (w : World) : Calls Tryd.prog 84 #[uv A, uv B] w fun e w' => e = .returned (.tuple #[uv (sm A B), .bool (ov A B)]) ∧ Below w.heap.size w w' := by
  obtain ⟨s0, c0, r0, e0⟩ := add64_ex (wd0 A) (wd0 B) (c := 0) (by unfold Bt; omega)
  obtain ⟨s1, c1, r1, e1⟩ := add64_ex (wd1 A) (wd1 B) e0.2.2
  obtain ⟨s2, c2, r2, e2⟩ := add64_ex (wd2 A) (wd2 B) e1.2.2
  obtain ⟨s3, c3, r3, e3⟩ := add64_ex (wd3 A) (wd3 B) e2.2.2
  obtain ⟨⟨q0, q1, q2, q3⟩, q4⟩ := add_words hA hB e0 e1 e2 e3
  clear e0 e1 e2 e3
  unfold uv
  rw [← q0, ← q1, ← q2, ← q3, ← q4]
  clear q0 q1 q2 q3 q4
  have i0 := ix0; have i1 := ix1; have i2 := ix2; have i3 := ix3
  go_enter Tryd.func84, Tryd.ntmps84
  go_wp2
  go_rounds 5
  go_returns
  exact ⟨rfl, by go_grown⟩
set_option maxHeartbeats 1000000 in
theorem sub_any (A B : Nat) (hA : A < big) (hB : B < big) (w : World) : Calls Tryd.prog 54 #[uv A, uv B] w fun e w' => e = .returned (.tuple #[uv (df A B), .bool (lo A B)]) ∧ Below w.heap.size w w' := by
  obtain ⟨s0, c0, r0, e0⟩ := sub64_ex (wd0 A) (wd0 B) (c := 0) (by unfold Bt; omega)
  obtain ⟨s1, c1, r1, e1⟩ := sub64_ex (wd1 A) (wd1 B) e0.2.2
  obtain ⟨s2, c2, r2, e2⟩ := sub64_ex (wd2 A) (wd2 B) e1.2.2
  obtain ⟨s3, c3, r3, e3⟩ := sub64_ex (wd3 A) (wd3 B) e2.2.2
  obtain ⟨⟨q0, q1, q2, q3⟩, q4⟩ := sub_words hA hB e0 e1 e2 e3
  clear e0 e1 e2 e3
  unfold uv
  rw [← q0, ← q1, ← q2, ← q3, ← q4]
  clear q0 q1 q2 q3 q4
  have i0 := ix0; have i1 := ix1; have i2 := ix2; have i3 := ix3
  go_enter Tryd.func54, Tryd.ntmps54
  go_wp2
  go_rounds 5
  go_returns
  exact ⟨rfl, by go_grown⟩
end Go.Proofs.YtmmloghbnpfedaaDoor

namespace Go.Proofs.YtmmloghbnpfedaaDoor
open Go.ChangeShapes Go.WideShapes Go.ChangeAt Go.RowKit
set_option linter.unusedVariables false
def mH (x y : Int) : Int := x * y / 18446744073709551616
def mL (x y : Int) : Int := x * y % 18446744073709551616
set_option maxHeartbeats 1000000 in
theorem mul64_nat (x y : Nat) (hx : x < 18446744073709551616) (hy : y < 18446744073709551616) (w : World) :
    Calls Tryd.prog 94 #[.int .u64 x, .int .u64 y] w fun e w' => e = .returned (.tuple #[.int .u64 ((x * y / 18446744073709551616 : Nat) : Int), .int .u64 ((x * y % 18446744073709551616 : Nat) : Int)]) ∧ w = w' := by
  obtain ⟨bd, bt, bw, hhi⟩ := Lib.mul64_hi x y hx hy
  have ba := Lib.half_mul_le (a := x / 4294967296) (b := y / 4294967296) (by omega) (by omega)
  have bb := Lib.half_mul_le (a := x / 4294967296) (b := y % 4294967296) (by omega) (by omega)
  have bc := Lib.half_mul_le (a := x % 4294967296) (b := y / 4294967296) (by omega) (by omega)
  have ba' : x / 4294967296 * (y / 4294967296) < 18446744073709551616 := by omega
  have bb' : x / 4294967296 * (y % 4294967296) < 18446744073709551616 := by omega
  have bc' : x % 4294967296 * (y / 4294967296) < 18446744073709551616 := by omega
  have bh1 : x / 4294967296 * (y / 4294967296) + (x / 4294967296 * (y % 4294967296) + x % 4294967296 * (y % 4294967296) / 4294967296) / 4294967296 < 18446744073709551616 := by omega
  have bh : x / 4294967296 * (y / 4294967296) + (x / 4294967296 * (y % 4294967296) + x % 4294967296 * (y % 4294967296) / 4294967296) / 4294967296 + ((x / 4294967296 * (y % 4294967296) + x % 4294967296 * (y % 4294967296) / 4294967296) % 4294967296 + x % 4294967296 * (y / 4294967296)) / 4294967296 < 18446744073709551616 := by omega
  go_enter Tryd.func94, Tryd.ntmps94
  go_wp2
  simp only [Mul64.maskN x hx, Mul64.maskN y hy, Mul64.divN, Mul64.mulN, Mul64.addN, Mul64.wrapN _ bd, Mul64.wrapN _ bb', Mul64.wrapN _ bt, Mul64.maskN _ bt, Mul64.wrapN _ bc', Mul64.wrapN _ bw, Mul64.wrapN _ ba', Mul64.wrapN _ bh1, Mul64.wrapN _ bh, Mul64.wrapM (x * y)]
  rw [hhi]
  go_ret2
  exact ⟨rfl, rfl⟩
theorem mul64_any {x y : Int} (hx : Wd x) (hy : Wd y) (w : World) :
    Calls Tryd.prog 94 #[.int .u64 x, .int .u64 y] w fun e w' => e = .returned (.tuple #[.int .u64 (mH x y), .int .u64 (mL x y)]) ∧ w = w' := by
  obtain ⟨hx0, hx1⟩ := hx; obtain ⟨hy0, hy1⟩ := hy
  obtain ⟨X, rfl⟩ := Int.eq_ofNat_of_zero_le hx0
  obtain ⟨Y, rfl⟩ := Int.eq_ofNat_of_zero_le hy0
  have e1 : mH X Y = ((X * Y / 18446744073709551616 : Nat) : Int) := by unfold mH; omega
  have e2 : mL X Y = ((X * Y % 18446744073709551616 : Nat) : Int) := by unfold mL; omega
  rw [e1, e2]
  exact mul64_nat X Y (by omega) (by omega) w
/-- One step of the school's product. -/
def MacS (x y p c s d : Int) : Prop := x * y + p + c = s + 18446744073709551616 * d ∧ Wd s ∧ Wd d
theorem mac_ex {x y p c : Int} (hx : Wd x) (hy : Wd y) (hp : Wd p) (hc : Wd c) : ∃ l1 o1 l2 o2,
    (∀ w, (callFunc 95 #[.int .u64 (mL x y), .int .u64 p, .int .u64 0]).run Tryd.prog w = .ok (.value (.tuple #[.int .u64 l1, .int .u64 o1])) w) ∧
    (∀ w, (callFunc 95 #[.int .u64 l1, .int .u64 c, .int .u64 0]).run Tryd.prog w = .ok (.value (.tuple #[.int .u64 l2, .int .u64 o2])) w) ∧
    IntKind.u64.wrap (mH x y + o1) = mH x y + o1 ∧ IntKind.u64.wrap (mH x y + o1 + o2) = mH x y + o1 + o2 ∧ MacS x y p c l2 (mH x y + o1 + o2) := by
  have hm : 0 ≤ x * y ∧ x * y ≤ 340282366920938463426481119284349108225 := by
    obtain ⟨hx0, hx1⟩ := hx; obtain ⟨hy0, hy1⟩ := hy
    refine ⟨Int.mul_nonneg hx0 hy0, ?_⟩
    have := Int.mul_le_mul (show x ≤ 18446744073709551615 by omega) (show y ≤ 18446744073709551615 by omega) hy0 (by omega)
    omega
  have hL : Wd (mL x y) := by unfold Wd mL; omega
  obtain ⟨l1, o1, r1, e1, d1, b1⟩ := add64_ex hL hp (c := 0) (by unfold Bt; omega)
  obtain ⟨l2, o2, r2, e2, d2, b2⟩ := add64_ex d1 hc (c := 0) (by unfold Bt; omega)
  have k1 : 0 ≤ mH x y + o1 ∧ mH x y + o1 + o2 ≤ 18446744073709551615 := by
    unfold Wd Bt at *; unfold mH mL at *
    omega
  have k2 : 0 ≤ o2 := b2.1
  refine ⟨l1, o1, l2, o2, r1, r2, ?_, ?_, ?_⟩
  · rw [IntKind.wrap_u64]; omega
  · rw [IntKind.wrap_u64]; omega
  · refine ⟨?_, d2, ?_⟩
    · unfold mH mL at *; omega
    · unfold Wd; omega
def pl (A B : Nat) : Nat := A * B % big
def ph (A B : Nat) : Nat := A * B / big
theorem row_words {a b0 b1 b2 b3 p0 p1 p2 p3 q0 q1 q2 q3 c0 c1 c2 c3 : Int} (h0 : MacS a b0 p0 0 q0 c0) (h1 : MacS a b1 p1 c0 q1 c1) (h2 : MacS a b2 p2 c1 q2 c2) (h3 : MacS a b3 p3 c2 q3 c3) :
    a * (b0 + 18446744073709551616 * b1 + 340282366920938463463374607431768211456 * b2 + 6277101735386680763835789423207666416102355444464034512896 * b3) + p0 + 18446744073709551616 * p1 + 340282366920938463463374607431768211456 * p2 + 6277101735386680763835789423207666416102355444464034512896 * p3 = q0 + 18446744073709551616 * q1 + 340282366920938463463374607431768211456 * q2 + 6277101735386680763835789423207666416102355444464034512896 * q3 + 115792089237316195423570985008687907853269984665640564039457584007913129639936 * c3 := by
  have e : a * (b0 + 18446744073709551616 * b1 + 340282366920938463463374607431768211456 * b2 + 6277101735386680763835789423207666416102355444464034512896 * b3) = a * b0 + 18446744073709551616 * (a * b1) + 340282366920938463463374607431768211456 * (a * b2) + 6277101735386680763835789423207666416102355444464034512896 * (a * b3) := by
    rw [Int.mul_add, Int.mul_add, Int.mul_add, Int.mul_left_comm a, Int.mul_left_comm a, Int.mul_left_comm a]
  obtain ⟨e0, _, _⟩ := h0; obtain ⟨e1, _, _⟩ := h1; obtain ⟨e2, _, _⟩ := h2; obtain ⟨e3, _, _⟩ := h3
  rw [e]
  omega
theorem mul_words {A B : Nat} (hA : A < big) (hB : B < big) {q00 c00 q01 c01 q02 c02 q03 c03 q10 c10 q11 c11 q12 c12 q13 c13 q20 c20 q21 c21 q22 c22 q23 c23 q30 c30 q31 c31 q32 c32 q33 c33 : Int} (m00 : MacS (w0 A) (w0 B) 0 0 q00 c00) (m01 : MacS (w0 A) (w1 B) 0 c00 q01 c01) (m02 : MacS (w0 A) (w2 B) 0 c01 q02 c02) (m03 : MacS (w0 A) (w3 B) 0 c02 q03 c03) (m10 : MacS (w1 A) (w0 B) q01 0 q10 c10) (m11 : MacS (w1 A) (w1 B) q02 c10 q11 c11) (m12 : MacS (w1 A) (w2 B) q03 c11 q12 c12) (m13 : MacS (w1 A) (w3 B) c03 c12 q13 c13) (m20 : MacS (w2 A) (w0 B) q11 0 q20 c20) (m21 : MacS (w2 A) (w1 B) q12 c20 q21 c21) (m22 : MacS (w2 A) (w2 B) q13 c21 q22 c22) (m23 : MacS (w2 A) (w3 B) c13 c22 q23 c23) (m30 : MacS (w3 A) (w0 B) q21 0 q30 c30) (m31 : MacS (w3 A) (w1 B) q22 c30 q31 c31) (m32 : MacS (w3 A) (w2 B) q23 c31 q32 c32) (m33 : MacS (w3 A) (w3 B) c23 c32 q33 c33) :
    (q00 = w0 (pl A B) ∧ q10 = w1 (pl A B) ∧ q20 = w2 (pl A B) ∧ q30 = w3 (pl A B)) ∧ q31 = w0 (ph A B) ∧ q32 = w1 (ph A B) ∧ q33 = w2 (ph A B) ∧ c33 = w3 (ph A B) := by
  have a := mk4_w A hA; have b := mk4_w B hB
  have r0 := row_words m00 m01 m02 m03
  have r1 := row_words m10 m11 m12 m13
  have r2 := row_words m20 m21 m22 m23
  have r3 := row_words m30 m31 m32 m33
  rw [← b] at r0 r1 r2 r3
  have e : (A : Int) * B = w0 A * B + 18446744073709551616 * (w1 A * B) + 340282366920938463463374607431768211456 * (w2 A * B) + 6277101735386680763835789423207666416102355444464034512896 * (w3 A * B) := by
    conv => lhs; rw [a]
    rw [Int.add_mul, Int.add_mul, Int.add_mul, Int.mul_assoc, Int.mul_assoc, Int.mul_assoc]
  have d0 : Wd q00 := m00.2.1
  have d1 : Wd q10 := m10.2.1
  have d2 : Wd q20 := m20.2.1
  have d3 : Wd q30 := m30.2.1
  have d4 : Wd q31 := m31.2.1
  have d5 : Wd q32 := m32.2.1
  have d6 : Wd q33 := m33.2.1
  have d7 : Wd c33 := m33.2.2
  have key : (A : Int) * B = q00 + 18446744073709551616 * q10 + 340282366920938463463374607431768211456 * q20 + 6277101735386680763835789423207666416102355444464034512896 * q30 + 115792089237316195423570985008687907853269984665640564039457584007913129639936 * q31 + 2135987035920910082395021706169552114602704522356652769947041607822219725780640550022962086936576 * q32 + 39402006196394479212279040100143613805079739270465446667948293404245721771497210611414266254884915640806627990306816 * q33 + 726838724295606890549323807888004534353641360687318060281490199180639288113397923326191050713763565560762521606266177933534601628614656 * c33 := by omega
  clear r0 r1 r2 r3 e
  have lt1 := mk4_lt d0 d1 d2 d3
  have lt2 := mk4_lt d4 d5 d6 d7
  have em1 : ((mk4 q00 q10 q20 q30 : Nat) : Int) = q00 + 18446744073709551616 * q10 + 340282366920938463463374607431768211456 * q20 + 6277101735386680763835789423207666416102355444464034512896 * q30 := by unfold Wd at d0 d1 d2 d3; unfold mk4; omega
  have em2 : ((mk4 q31 q32 q33 c33 : Nat) : Int) = q31 + 18446744073709551616 * q32 + 340282366920938463463374607431768211456 * q33 + 6277101735386680763835789423207666416102355444464034512896 * c33 := by unfold Wd at d4 d5 d6 d7; unfold mk4; omega
  have kn : A * B = mk4 q00 q10 q20 q30 + 115792089237316195423570985008687907853269984665640564039457584007913129639936 * mk4 q31 q32 q33 c33 := by
    have : ((A * B : Nat) : Int) = (A : Int) * B := Int.natCast_mul A B
    omega
  have k1 : pl A B = mk4 q00 q10 q20 q30 := by unfold pl; unfold big at *; omega
  have k2 : ph A B = mk4 q31 q32 q33 c33 := by unfold ph; unfold big at *; omega
  rw [k1, k2]
  exact ⟨⟨(w0_mk d0 d1 d2 d3).symm, (w1_mk d0 d1 d2 d3).symm, (w2_mk d0 d1 d2 d3).symm, (w3_mk d0 d1 d2 d3).symm⟩, (w0_mk d4 d5 d6 d7).symm, (w1_mk d4 d5 d6 d7).symm, (w2_mk d4 d5 d6 d7).symm, (w3_mk d4 d5 d6 d7).symm⟩
end Go.Proofs.YtmmloghbnpfedaaDoor

namespace Go.Proofs.YtmmloghbnpfedaaDoor
set_option linter.unusedVariables false
def PR : Nat := 115792089237316195423570985008687907853269984665640564039457584007908834671663
def NR : Nat := 115792089237316195423570985008687907852837564279074904382605163141518161494337
/-- A modulus a little below 2^256. -/
def MOK (M : Nat) : Prop := M < big ∧ big < 2 * M
theorem pr_ok : MOK PR := by unfold MOK PR big; omega
theorem nr_ok : MOK NR := by unfold MOK NR big; omega
/-- What L and 2^256 H leave. -/
def rs (L H M : Nat) : Nat := (L + big * H) % M
theorem rs_lt {L H M : Nat} (h : MOK M) : rs L H M < big := Nat.lt_trans (Nat.mod_lt _ (by unfold MOK big at h; omega)) h.1
theorem rs_ltM {L H M : Nat} (h : MOK M) : rs L H M < M := Nat.mod_lt _ (by unfold MOK big at h; omega)
theorem sm_lt (A B : Nat) : sm A B < big := Nat.mod_lt _ (by decide)
theorem df_lt (A B : Nat) : df A B < big := Nat.mod_lt _ (by decide)
theorem pl_lt (A B : Nat) : pl A B < big := Nat.mod_lt _ (by decide)
theorem ph_lt {A B : Nat} (hA : A < big) (hB : B < big) : ph A B < big := by
  unfold ph
  exact Nat.div_lt_of_lt_mul (Nat.mul_lt_mul'' hA hB)
theorem mul_split (A B : Nat) : A * B = pl A B + big * ph A B := by unfold pl ph; exact (Nat.mod_add_div _ _).symm
/-- One round of the folding. -/
theorem fold_next {l h M : Nat} (hM : MOK M) (hl : l < big) (hh : h < big) (h0 : h ≠ 0) :
    ∃ h', (h' = if ov l (pl h (df 0 M)) then sm (ph h (df 0 M)) 1 else ph h (df 0 M)) ∧ h' < big ∧
      sm l (pl h (df 0 M)) + big * h' + h * M = l + big * h := by
  have hs : df 0 M = big - M := by unfold df; unfold MOK at hM; rw [Nat.zero_add, Nat.mod_eq_of_lt]; omega
  have hk := mul_split h (df 0 M)
  have hph : ph h (df 0 M) + 1 < big := by
    have : ph h (df 0 M) < big - M := by
      rw [hs]; unfold ph
      refine Nat.div_lt_of_lt_mul ?_
      exact Nat.mul_lt_mul_of_pos_right hh (by unfold MOK at hM; omega)
    unfold MOK at hM; omega
  have hp := pl_lt h (df 0 M)
  have hmul : h * (big - M) + h * M = big * h := by rw [← Nat.mul_add, Nat.sub_add_cancel (Nat.le_of_lt hM.1), Nat.mul_comm]
  rw [← hs] at hmul
  refine ⟨_, rfl, ?_, ?_⟩
  · split
    · exact sm_lt _ _
    · omega
  · generalize df 0 M = s at *
    generalize pl h s = p at *
    generalize ph h s = q at *
    generalize h * s = hs2 at *
    unfold ov sm
    by_cases ho : big ≤ l + p
    · rw [decide_eq_true ho]
      simp only [if_true]
      rw [Nat.mod_eq_of_lt hph]
      have : (l + p) % big = l + p - big := by rw [Nat.mod_eq_sub_mod ho, Nat.mod_eq_of_lt (by omega)]
      rw [this, Nat.mul_add, Nat.mul_one]
      omega
    · rw [decide_eq_false ho]
      simp only [Bool.false_eq_true, if_false]
      rw [Nat.mod_eq_of_lt (by omega)]
      omega
theorem fold_mod {l h l' h' M L H : Nat} (he : l' + big * h' + h * M = l + big * h) (hm : (l + big * h) % M = rs L H M) : (l' + big * h') % M = rs L H M := by
  rw [← hm, ← he, Nat.add_mul_mod_self_right]
theorem fold_less {l h l' h' M : Nat} (hM : MOK M) (h0 : h ≠ 0) (he : l' + big * h' + h * M = l + big * h) : l' + big * h' < l + big * h := by
  have : 0 < h * M := Nat.mul_pos (by omega) (by unfold MOK big at hM; omega)
  omega
theorem fold_end1 {l M L H : Nat} (hM : MOK M) (hl : l < big) (hm : (l + big * 0) % M = rs L H M) (hc : M ≤ l) : df l M = rs L H M := by
  rw [← hm]; unfold df MOK at *
  have h1 : (l + big - M) % big = l - M := by
    have : l + big - M = (l - M) + big := by omega
    rw [this, Nat.add_mod_right, Nat.mod_eq_of_lt (by omega)]
  rw [h1, Nat.mul_zero, Nat.add_zero, Nat.mod_eq_sub_mod hc, Nat.mod_eq_of_lt (by omega)]
theorem fold_end2 {l M L H : Nat} (hm : (l + big * 0) % M = rs L H M) (hc : ¬ M ≤ l) : l = rs L H M := by
  rw [← hm, Nat.mul_zero, Nat.add_zero, Nat.mod_eq_of_lt (by omega)]
/-- What is reckoned, modulo M. -/
def fAdd (A B M : Nat) : Nat := (A + B) % M
def fMul (A B M : Nat) : Nat := A * B % M
def fSub (A B M : Nat) : Nat := (A % M + (M - B % M)) % M
def fRed (L H M : Nat) : Nat := rs L H M
theorem fAdd_of {A B M : Nat} (hA : A < big) (hB : B < big) : rs (sm A B) (if ov A B then 1 else 0) M = fAdd A B M := by
  unfold rs fAdd sm ov
  by_cases ho : big ≤ A + B
  · rw [decide_eq_true ho]
    simp only [if_true, Nat.mul_one]
    have : (A + B) % big = A + B - big := by rw [Nat.mod_eq_sub_mod ho, Nat.mod_eq_of_lt (by omega)]
    rw [this, Nat.sub_add_cancel ho]
  · rw [decide_eq_false ho]
    simp only [Bool.false_eq_true, if_false, Nat.mul_zero, Nat.add_zero]
    rw [Nat.mod_eq_of_lt (show A + B < big by omega)]
theorem fMul_of (A B M : Nat) : rs (pl A B) (ph A B) M = fMul A B M := by unfold rs fMul; rw [← mul_split]
theorem fSub_of1 {A B M : Nat} (hM : MOK M) (h : lo (rs A 0 M) (rs B 0 M) = true) : sm (df (rs A 0 M) (rs B 0 M)) M = fSub A B M := by
  have ha := rs_ltM (L := A) (H := 0) hM
  have hb := rs_ltM (L := B) (H := 0) hM
  unfold lo at h
  have h := of_decide_eq_true h
  have e1 : rs A 0 M = A % M := by unfold rs; rw [Nat.mul_zero, Nat.add_zero]
  have e2 : rs B 0 M = B % M := by unfold rs; rw [Nat.mul_zero, Nat.add_zero]
  rw [e1] at ha h ⊢; rw [e2] at hb h ⊢
  unfold fSub sm df
  unfold MOK at hM
  rw [Nat.mod_eq_of_lt (show A % M + big - B % M < big by omega)]
  have : A % M + big - B % M + M = (A % M + (M - B % M)) + big := by omega
  rw [this, Nat.add_mod_right, Nat.mod_eq_of_lt (show A % M + (M - B % M) < big by omega), Nat.mod_eq_of_lt (show A % M + (M - B % M) < M by omega)]
theorem fSub_of2 {A B M : Nat} (hM : MOK M) (h : lo (rs A 0 M) (rs B 0 M) = false) : df (rs A 0 M) (rs B 0 M) = fSub A B M := by
  have ha := rs_ltM (L := A) (H := 0) hM
  have hb := rs_ltM (L := B) (H := 0) hM
  unfold lo at h
  have h := of_decide_eq_false h
  have e1 : rs A 0 M = A % M := by unfold rs; rw [Nat.mul_zero, Nat.add_zero]
  have e2 : rs B 0 M = B % M := by unfold rs; rw [Nat.mul_zero, Nat.add_zero]
  rw [e1] at ha h ⊢; rw [e2] at hb h ⊢
  unfold fSub df
  unfold MOK at hM
  have t1 : A % M + big - B % M = (A % M - B % M) + big := by omega
  have t2 : A % M + (M - B % M) = (A % M - B % M) + M := by omega
  rw [t1, t2, Nat.add_mod_right, Nat.add_mod_right, Nat.mod_eq_of_lt (show A % M - B % M < big by omega), Nat.mod_eq_of_lt (show A % M - B % M < M by omega)]
theorem fAdd_lt {A B M : Nat} (h : MOK M) : fAdd A B M < big := Nat.lt_trans (Nat.mod_lt _ (by unfold MOK big at h; omega)) h.1
theorem fMul_lt {A B M : Nat} (h : MOK M) : fMul A B M < big := Nat.lt_trans (Nat.mod_lt _ (by unfold MOK big at h; omega)) h.1
theorem fSub_lt {A B M : Nat} (h : MOK M) : fSub A B M < big := Nat.lt_trans (Nat.mod_lt _ (by unfold MOK big at h; omega)) h.1
/-- x, behind a test that no one can reckon while A is a letter. -/
def veil (A x : Nat) : Nat := bif Nat.beq A A then x else 0
theorem veil_eq (A x : Nat) : veil A x = x := by unfold veil; rw [Nat.beq_refl]; rfl
/-- A power. -/
def fpw (A n M : Nat) : Nat := veil A (A ^ n % M)
theorem fpw_eq (A n M : Nat) : fpw A n M = A ^ n % M := veil_eq _ _
theorem fpw_lt {A n M : Nat} (h : MOK M) : fpw A n M < big := by rw [fpw_eq]; exact Nat.lt_trans (Nat.mod_lt _ (by unfold MOK big at h; omega)) h.1
theorem fpw_zero {A M : Nat} (h : MOK M) : fpw A 0 M = 1 := by rw [fpw_eq, Nat.pow_zero, Nat.mod_eq_of_lt (by unfold MOK big at h; omega)]
theorem fpw_start {A n l M : Nat} (h : MOK M) (hl : n < 2 ^ l) : 1 = fpw A (n / 2 ^ l) M := by rw [Nat.div_eq_of_lt hl, fpw_zero h]
theorem rs_mul (X Y M : Nat) : rs (pl X Y) (ph X Y) M = X * Y % M := fMul_of X Y M
theorem half_bit (n k : Nat) (hk : 1 ≤ k) : n / 2 ^ (k - 1) = 2 * (n / 2 ^ k) + (if n.testBit (k - 1) then 1 else 0) := by
  obtain ⟨j, rfl⟩ : ∃ j, k = j + 1 := ⟨k - 1, by omega⟩
  rw [Nat.add_sub_cancel, Nat.pow_succ, ← Nat.div_div_eq_div_mul, Nat.testBit_eq_decide_div_mod_eq]
  generalize n / 2 ^ j = q
  by_cases h : q % 2 = 1
  · rw [decide_eq_true h]; simp only [if_true]; omega
  · rw [decide_eq_false h]; simp only [Bool.false_eq_true, if_false]; omega
theorem fpw_double {A n k M : Nat} (hk : 1 ≤ k) (hb : n.testBit (k - 1) = false) : rs (pl (fpw A (n / 2 ^ k) M) (fpw A (n / 2 ^ k) M)) (ph (fpw A (n / 2 ^ k) M) (fpw A (n / 2 ^ k) M)) M = fpw A (n / 2 ^ (k - 1)) M := by
  rw [rs_mul, half_bit n k hk, hb]
  simp only [fpw_eq]
  simp only [Bool.false_eq_true, if_false, Nat.add_zero]
  rw [← Nat.mul_mod, ← Nat.pow_add, show n / 2 ^ k + n / 2 ^ k = 2 * (n / 2 ^ k) by omega]
theorem fpw_odd {A n k M : Nat} (hk : 1 ≤ k) (hb : n.testBit (k - 1) = true) :
    rs (pl (rs (pl (fpw A (n / 2 ^ k) M) (fpw A (n / 2 ^ k) M)) (ph (fpw A (n / 2 ^ k) M) (fpw A (n / 2 ^ k) M)) M) A) (ph (rs (pl (fpw A (n / 2 ^ k) M) (fpw A (n / 2 ^ k) M)) (ph (fpw A (n / 2 ^ k) M) (fpw A (n / 2 ^ k) M)) M) A) M = fpw A (n / 2 ^ (k - 1)) M := by
  rw [rs_mul, rs_mul, half_bit n k hk, hb]
  simp only [fpw_eq]
  simp only [if_true]
  rw [← Nat.mul_mod, ← Nat.pow_add, show n / 2 ^ k + n / 2 ^ k = 2 * (n / 2 ^ k) by omega, Nat.pow_succ, Nat.mul_mod, Nat.mod_mod, ← Nat.mul_mod]
end Go.Proofs.YtmmloghbnpfedaaDoor

namespace Go.Proofs.YtmmloghbnpfedaaDoor
set_option linter.unusedVariables false
set_option maxRecDepth 100000
theorem p107590001 : Pr 107590001 := small_prime 10373 (by kernel_rfl) (by kernel_rfl)
theorem p7240687 : Pr 7240687 := small_prime 2691 (by kernel_rfl) (by kernel_rfl)
theorem p96557 : Pr 96557 := small_prime 311 (by kernel_rfl) (by kernel_rfl)
theorem p545358713 : Pr 545358713 := small_prime 23353 (by kernel_rfl) (by kernel_rfl)
theorem p1627771 : Pr 1627771 := small_prime 1276 (by kernel_rfl) (by kernel_rfl)
theorem q0 : Pr 255515944373312847190720520512484175977 := Pock3 (f := 128) (a1 := 2) (a2 := 2) (a3 := 2) p107590001 p7240687 p96557 (by kernel_rfl) (by kernel_rfl) (by kernel_rfl) (by kernel_rfl) (by kernel_rfl)
theorem q1 : Pr 205115282021455665897114700593932402728804164701536103180137503955397371 := Pock1 (f := 237) (a := 2) q0 (by kernel_rfl) (by kernel_rfl) (by kernel_rfl)
theorem pr_prime0 : Pr 115792089237316195423570985008687907853269984665640564039457584007908834671663 := Pock1 (f := 256) (a := 2) q1 (by kernel_rfl) (by kernel_rfl) (by kernel_rfl)
theorem q3 : Pr 297159362677 := Pock1 (f := 39) (a := 2) p1627771 (by kernel_rfl) (by kernel_rfl) (by kernel_rfl)
theorem q4 : Pr 29047611873442575647497758179 := Pock2 (f := 95) (a1 := 2) (a2 := 2) q3 p545358713 (by kernel_rfl) (by kernel_rfl) (by kernel_rfl) (by kernel_rfl)
theorem pr_prime : Pr PR := pr_prime0
end Go.Proofs.YtmmloghbnpfedaaDoor

namespace Go.Proofs.Ec
open Go.Proofs.YtmmloghbnpfedaaDoor Go.Proofs.Zm
set_option linter.unusedVariables false
section
variable {F : Type} [Lean.Grind.Field F] [DecidableEq F]
def mulP (p : Pt F) : Nat → Pt F
  | 0 => .zero
  | n + 1 => (mulP p n).add p
/-- The curve's premises. -/
structure Good (b : F) : Prop where
  two : (2 : F) ≠ 0
  three : (3 : F) ≠ 0
  b : b ≠ 0
variable {b : F} (g : Good b)
include g
theorem mulP_on {p : Pt F} (hp : p.On b) : ∀ n, (mulP p n).On b
  | 0 => trivial
  | n + 1 => add_on g.two (mulP_on hp n) hp
theorem mulP_add {p : Pt F} (hp : p.On b) (m : Nat) : ∀ n, mulP p (m + n) = (mulP p m).add (mulP p n)
  | 0 => (add_zero _).symm
  | n + 1 => by
    show (mulP p (m + n)).add p = (mulP p m).add ((mulP p n).add p)
    rw [mulP_add hp m n, add_assoc' g.two g.three g.b (mulP_on g hp m) (mulP_on g hp n) hp]
theorem mulP_mul {p : Pt F} (hp : p.On b) (m : Nat) : ∀ n, mulP p (m * n) = mulP (mulP p m) n
  | 0 => rfl
  | n + 1 => by show mulP p (m * n + m) = (mulP (mulP p m) n).add (mulP p m); rw [mulP_add g hp, mulP_mul hp m n]
omit g in
theorem mulP_zero : ∀ n, mulP (.zero : Pt F) n = .zero
  | 0 => rfl
  | n + 1 => by show (mulP .zero n).add .zero = _; rw [add_zero, mulP_zero n]
/-- By halves. -/
def bin (p : Pt F) : Nat → Nat → Pt F
  | 0, _ => .zero
  | f + 1, n => bif Nat.beq (n % 2) 1 then ((bin p f (n / 2)).add (bin p f (n / 2))).add p else (bin p f (n / 2)).add (bin p f (n / 2))
theorem bin_eq {p : Pt F} (hp : p.On b) : ∀ f n, n < 2 ^ f → bin p f n = mulP p n
  | 0, n, h => by
    obtain rfl : n = 0 := by omega
    rfl
  | f + 1, n, h => by
    have ih := bin_eq hp f (n / 2) (by rw [Nat.pow_succ] at h; omega)
    unfold bin
    rw [ih, ← mulP_add g hp]
    cases hb : Nat.beq (n % 2) 1
    · have : n % 2 ≠ 1 := fun e => by rw [e] at hb; cases hb
      show mulP p (n / 2 + n / 2) = _
      congr 1; omega
    · have := Nat.eq_of_beq_eq_true hb
      show mulP p (n / 2 + n / 2 + 1) = _
      congr 1; omega
end
/-! ### The curve of the document -/
theorem pr_two : 2 < PR := by decide +kernel
instance : PrM PR := ⟨pr_prime, pr_two⟩
abbrev Fp := Zm PR
/-- A point by two numbers: how it is reckoned. -/
def invN (a : Nat) : Nat := pm a PR 256 (PR - 2)
def subN (a b : Nat) : Nat := (a + (PR - b)) % PR
def slopeN (x1 y1 x2 y2 : Nat) : Nat := bif Nat.beq x1 x2 then ((x1 * x1 % PR + x1 * x1 % PR) % PR + x1 * x1 % PR) % PR * invN ((y1 + y1) % PR) % PR else subN y2 y1 * invN (subN x2 x1) % PR
def thirdN (k x1 x2 : Nat) : Nat := subN (subN (k * k % PR) x1) x2
def addK (k x1 y1 x2 : Nat) (f : Nat → Nat → Option (Nat × Nat)) : Option (Nat × Nat) := f (thirdN k x1 x2) (subN (k * subN x1 (thirdN k x1 x2) % PR) y1)
def addN : Option (Nat × Nat) → Option (Nat × Nat) → Option (Nat × Nat)
  | none, q => q
  | some p, none => some p
  | some (x1, y1), some (x2, y2) => bif Nat.beq x2 x1 && Nat.beq y2 ((PR - y1) % PR) then none else some (thirdN (slopeN x1 y1 x2 y2) x1 x2, subN (slopeN x1 y1 x2 y2 * subN x1 (thirdN (slopeN x1 y1 x2 y2) x1 x2) % PR) y1)
def toP : Option (Nat × Nat) → Pt Fp
  | none => .zero
  | some (x, y) => .pt (mk x) (mk y)
def okN : Option (Nat × Nat) → Prop
  | none => True
  | some (x, y) => x < PR ∧ y < PR
theorem prpos : 0 < PR := Nat.lt_trans (by decide) pr_two
theorem mk_inj {a b : Nat} (ha : a < PR) (hb : b < PR) : (mk a : Fp) = mk b ↔ a = b := by rw [mk_iff, Nat.mod_eq_of_lt ha, Nat.mod_eq_of_lt hb]
theorem mk_subN {a b : Nat} (ha : a < PR) (hb : b < PR) : (mk (subN a b) : Fp) = mk a - mk b := by
  rw [mk_sub, Nat.mod_eq_of_lt ha, Nat.mod_eq_of_lt hb]
  exact mk_eq (Nat.mod_mod _ _)
theorem mk_mod (a : Nat) : (mk (a % PR) : Fp) = mk a := mk_eq (Nat.mod_mod _ _)
theorem mk_negN {a : Nat} (ha : a < PR) : (mk ((PR - a) % PR) : Fp) = -mk a := by
  rw [mk_mod]
  show mk (PR - a) = mk (PR - a % PR)
  rw [Nat.mod_eq_of_lt ha]
theorem pr_256 : PR - 2 < 2 ^ 256 := by decide +kernel
theorem mk_invN (a : Nat) : (mk (invN a) : Fp) = (mk a)⁻¹ := by
  unfold invN
  rw [pm_eq a PR 256 (PR - 2) pr_256, mk_mod, mk_inv]
theorem slopeN_eq {x1 y1 x2 y2 : Nat} (h1 : x1 < PR) (h2 : y1 < PR) (h3 : x2 < PR) (h4 : y2 < PR) : (mk (slopeN x1 y1 x2 y2) : Fp) = slope (mk x1) (mk y1) (mk x2) (mk y2) := by
  unfold slopeN slope
  cases hb : Nat.beq x1 x2
  · have hn : x1 ≠ x2 := fun e => by subst e; rw [Nat.beq_refl] at hb; cases hb
    rw [if_neg (fun q => hn ((mk_inj h1 h3).1 q))]
    show mk (subN y2 y1 * invN (subN x2 x1) % PR) = _
    rw [mk_mod, ← mk_mul, mk_invN, mk_subN h4 h2, mk_subN h3 h1]; rfl
  · have hn := Nat.eq_of_beq_eq_true hb
    rw [if_pos (by rw [hn])]
    show mk (((x1 * x1 % PR + x1 * x1 % PR) % PR + x1 * x1 % PR) % PR * invN ((y1 + y1) % PR) % PR) = _
    rw [mk_mod, ← mk_mul, mk_invN, mk_mod, mk_mod, ← mk_add, ← mk_add, mk_mod, ← mk_add, mk_mod, ← mk_mul]; rfl
theorem subN_lt (a b : Nat) : subN a b < PR := Nat.mod_lt _ prpos
theorem thirdN_lt (k x1 x2 : Nat) : thirdN k x1 x2 < PR := subN_lt _ _
theorem thirdN_eq {k x1 x2 : Nat} (h1 : x1 < PR) (h2 : x2 < PR) : (mk (thirdN k x1 x2) : Fp) = mk k * mk k - mk x1 - mk x2 := by
  unfold thirdN
  rw [mk_subN (subN_lt _ _) h2, mk_subN (Nat.mod_lt _ prpos) h1, mk_mod, ← mk_mul]
theorem addN_ok {p q : Option (Nat × Nat)} (hp : okN p) (hq : okN q) : okN (addN p q) := by
  cases p with
  | none => exact hq
  | some p =>
    cases q with
    | none => exact hp
    | some q =>
      show okN (bif _ then _ else _)
      cases (Nat.beq q.1 p.1 && Nat.beq q.2 ((PR - p.2) % PR))
      · exact ⟨subN_lt _ _, subN_lt _ _⟩
      · trivial
theorem addN_eq {p q : Option (Nat × Nat)} (hp : okN p) (hq : okN q) : toP (addN p q) = (toP p).add (toP q) := by
  cases p with
  | none => rfl
  | some p =>
    cases q with
    | none => rfl
    | some q =>
      obtain ⟨x1, y1⟩ := p
      obtain ⟨x2, y2⟩ := q
      obtain ⟨h1, h2⟩ := hp
      obtain ⟨h3, h4⟩ := hq
      show toP (bif Nat.beq x2 x1 && Nat.beq y2 ((PR - y1) % PR) then none else _) = if mk x2 = mk x1 ∧ mk y2 = -mk y1 then _ else _
      rw [← mk_negN h2]
      have hr : (PR - y1) % PR < PR := Nat.mod_lt _ prpos
      cases hb : (Nat.beq x2 x1 && Nat.beq y2 ((PR - y1) % PR))
      · rw [if_neg]
        · rw [← slopeN_eq h1 h2 h3 h4]
          show Pt.pt (mk (thirdN (slopeN x1 y1 x2 y2) x1 x2)) (mk (subN (slopeN x1 y1 x2 y2 * subN x1 (thirdN (slopeN x1 y1 x2 y2) x1 x2) % PR) y1)) = _
          rw [mk_subN (Nat.mod_lt _ prpos) h2, mk_mod, ← mk_mul, mk_subN h1 (thirdN_lt _ _ _), thirdN_eq h1 h3]
        · rintro ⟨e1, e2⟩
          have e1 := (mk_inj h3 h1).1 e1
          have e2 := (mk_inj h4 hr).1 e2
          rw [← e2, e1, Nat.beq_refl, Nat.beq_refl] at hb
          cases hb
      · rw [Bool.and_eq_true] at hb
        rw [if_pos ⟨by rw [Nat.eq_of_beq_eq_true hb.1], by rw [Nat.eq_of_beq_eq_true hb.2]⟩]; rfl
def gX : Nat := 0x79BE667EF9DCBBAC55A06295CE870B07029BFCDB2DCE28D959F2815B16F81798
def gY : Nat := 0x483ADA7726A3C4655DA4FBFC0E1108A8FD17B448A68554199C47D08FFB10D4B8
def G : Pt Fp := .pt (mk gX) (mk gY)
abbrev seven : Fp := mk 7
theorem good : Good seven := ⟨by decide +kernel, by decide +kernel, by decide +kernel⟩
theorem G_on : G.On seven := by
  show mk gY * mk gY = mk gX * mk gX * mk gX + mk 7
  rw [mk_mul, mk_mul, mk_mul, mk_add]
  exact mk_eq (by decide +kernel)
/-- By halves, from the highest bit on. -/
def binN (p : Option (Nat × Nat)) : Nat → Nat → Option (Nat × Nat)
  | 0, _ => none
  | f + 1, n => (fun d => bif Nat.beq (n % 2) 1 then addN d p else d) ((fun h => addN h h) (binN p f (n / 2)))
theorem binN_ok {p : Option (Nat × Nat)} (hp : okN p) : ∀ f n, okN (binN p f n)
  | 0, _ => trivial
  | f + 1, n => by
    have ih := addN_ok (binN_ok hp f (n / 2)) (binN_ok hp f (n / 2))
    show okN (bif _ then _ else _)
    cases Nat.beq (n % 2) 1
    · exact ih
    · exact addN_ok ih hp
theorem binN_eq {p : Option (Nat × Nat)} (hp : okN p) : ∀ f n, toP (binN p f n) = bin (toP p) f n
  | 0, _ => rfl
  | f + 1, n => by
    have h0 := binN_ok hp f (n / 2)
    have h1 := addN_ok h0 h0
    show toP (bif _ then addN (addN (binN p f (n / 2)) (binN p f (n / 2))) p else _) = bif _ then _ else _
    cases Nat.beq (n % 2) 1
    · show toP (addN _ _) = _; rw [addN_eq h0 h0, binN_eq hp f]; rfl
    · show toP (addN _ _) = _; rw [addN_eq h1 hp, addN_eq h0 h0, binN_eq hp f]; rfl
end Go.Proofs.Ec

namespace Go.Proofs.Ec
open Go.Proofs.YtmmloghbnpfedaaDoor Go.Proofs.Zm
set_option linter.unusedVariables false
theorem mk_ml (a b : Nat) : (mk (fMul a b PR) : Fp) = mk a * mk b := by unfold fMul; rw [mk_mod, mk_mul]
theorem mk_ad (a b : Nat) : (mk (fAdd a b PR) : Fp) = mk a + mk b := by unfold fAdd; rw [mk_mod, mk_add]
theorem mk_su (a b : Nat) : (mk (fSub a b PR) : Fp) = mk a - mk b := by unfold fSub; rw [mk_mod]; exact (mk_sub a b).symm
theorem mlP (a b : Nat) : fMul a b PR < PR := Nat.mod_lt _ prpos
theorem adP (a b : Nat) : fAdd a b PR < PR := Nat.mod_lt _ prpos
theorem suP (a b : Nat) : fSub a b PR < PR := Nat.mod_lt _ prpos
theorem zero_iff {a : Nat} (h : a < PR) : a = 0 ↔ (mk a : Fp) = mk 0 := (mk_inj h prpos).symm
theorem P_big {a : Nat} (h : a < PR) : a < big := Nat.lt_trans h pr_ok.1
/-- A point with a third number. -/
structure Wp where
  X : Nat
  Y : Nat
  b : Bool
  Z : Nat
structure Wp.Ok (a : Wp) : Prop where
  X : a.X < big
  Y : a.Y < big
  Z : a.Z < big
def zeroW : Wp := ⟨0, 0, true, 0⟩
def thirdW (rise x ox y z : Nat) : Wp :=
  ⟨fSub (fSub (fMul rise rise PR) x PR) ox PR, fSub (fMul rise (fSub x (fSub (fSub (fMul rise rise PR) x PR) ox PR) PR) PR) y PR, false, z⟩
def dblF (p : Wp) : Wp :=
  thirdW (fAdd (fAdd (fMul p.X p.X PR) (fMul p.X p.X PR) PR) (fMul p.X p.X PR) PR)
    (fMul p.X (fAdd (fMul (fAdd p.Y p.Y PR) p.Y PR) (fMul (fAdd p.Y p.Y PR) p.Y PR) PR) PR)
    (fMul p.X (fAdd (fMul (fAdd p.Y p.Y PR) p.Y PR) (fMul (fAdd p.Y p.Y PR) p.Y PR) PR) PR)
    (fMul (fAdd (fMul (fAdd p.Y p.Y PR) p.Y PR) (fMul (fAdd p.Y p.Y PR) p.Y PR) PR) (fMul (fAdd p.Y p.Y PR) p.Y PR) PR)
    (fMul (fAdd p.Y p.Y PR) p.Z PR)
def dblW (p : Wp) : Wp := bif p.b then p else dblF p
def runW (p q : Wp) : Nat := fSub (fMul q.X (fMul p.Z p.Z PR) PR) (fMul p.X (fMul q.Z q.Z PR) PR) PR
def riseW (p q : Wp) : Nat := fSub (fMul q.Y (fMul (fMul p.Z p.Z PR) p.Z PR) PR) (fMul p.Y (fMul (fMul q.Z q.Z PR) q.Z PR) PR) PR
def sumW (p q : Wp) : Wp :=
  thirdW (riseW p q) (fMul (fMul p.X (fMul q.Z q.Z PR) PR) (fMul (runW p q) (runW p q) PR) PR)
    (fAdd (fMul (fMul p.X (fMul q.Z q.Z PR) PR) (fMul (runW p q) (runW p q) PR) PR) (fMul (fMul (runW p q) (runW p q) PR) (runW p q) PR) PR)
    (fMul (fMul p.Y (fMul (fMul q.Z q.Z PR) q.Z PR) PR) (fMul (fMul (runW p q) (runW p q) PR) (runW p q) PR) PR)
    (fMul (fMul p.Z q.Z PR) (runW p q) PR)
def plusF (p q : Wp) : Wp := if runW p q = 0 then (if riseW p q = 0 then dblW p else zeroW) else sumW p q
def plusW (p q : Wp) : Wp := bif p.b then q else bif q.b then p else plusF p q
theorem plusW_1 {p q : Wp} (h : p.b = true) : plusW p q = q := by unfold plusW; rw [h]; rfl
theorem plusW_2 {p q : Wp} (h : p.b = false) (h2 : q.b = true) : plusW p q = p := by unfold plusW; rw [h, h2]; rfl
theorem plusW_3 {p q : Wp} (h : p.b = false) (h2 : q.b = false) (h3 : runW p q ≠ 0) : plusW p q = sumW p q := by unfold plusW plusF; rw [h, h2, if_neg h3]; rfl
theorem plusW_4 {p q : Wp} (h : p.b = false) (h2 : q.b = false) (h3 : runW p q = 0) (h4 : riseW p q ≠ 0) : plusW p q = zeroW := by unfold plusW plusF; rw [h, h2, if_pos h3, if_neg h4]; rfl
theorem plusW_5 {p q : Wp} (h : p.b = false) (h2 : q.b = false) (h3 : runW p q = 0) (h4 : riseW p q = 0) : plusW p q = dblW p := by unfold plusW plusF; rw [h, h2, if_pos h3, if_pos h4]; rfl
theorem dblW_1 {p : Wp} (h : p.b = true) : dblW p = p := by unfold dblW; rw [h]; rfl
theorem dblW_2 {p : Wp} (h : p.b = false) : dblW p = dblF p := by unfold dblW; rw [h]; rfl
theorem zeroW_ok : zeroW.Ok := ⟨by show 0 < big; unfold big; omega, by show 0 < big; unfold big; omega, by show 0 < big; unfold big; omega⟩
theorem thirdW_ok {rise x ox y z : Nat} (hz : z < big) : (thirdW rise x ox y z).Ok := ⟨P_big (suP _ _), P_big (suP _ _), hz⟩
theorem dblW_ok {p : Wp} (h : p.Ok) : (dblW p).Ok := by
  cases hb : p.b
  · rw [dblW_2 hb]; exact thirdW_ok (P_big (mlP _ _))
  · rw [dblW_1 hb]; exact h
theorem plusW_ok {p q : Wp} (h : p.Ok) (h2 : q.Ok) : (plusW p q).Ok := by
  unfold plusW
  cases p.b
  · cases q.b
    · show (plusF p q).Ok
      unfold plusF
      split
      · split
        · exact dblW_ok h
        · exact zeroW_ok
      · exact thirdW_ok (P_big (mlP _ _))
    · exact h
  · exact h2
/-- It stands for a point. -/
def Stands (a : Wp) : Pt Fp → Prop
  | .zero => a.b = true ∧ a.X = 0 ∧ a.Y = 0
  | .pt x y => a.b = false ∧ a.X < PR ∧ a.Y < PR ∧ a.Z < PR ∧ (mk a.Z : Fp) ≠ 0 ∧ mk a.X = x * (mk a.Z * mk a.Z) ∧ mk a.Y = y * (mk a.Z * mk a.Z * mk a.Z)
theorem third_rep {rise x ox y z : Nat} {k x1 x2 y1 : Fp} (hz : z < PR) (h0 : (mk z : Fp) ≠ 0) (hr : mk rise = k * mk z) (hx : mk x = x1 * (mk z * mk z)) (ho : mk ox = x2 * (mk z * mk z)) (hy : mk y = y1 * (mk z * mk z * mk z)) :
    Stands (thirdW rise x ox y z) (.pt (k * k - x1 - x2) (k * (x1 - (k * k - x1 - x2)) - y1)) := by
  refine ⟨rfl, suP _ _, suP _ _, hz, h0, ?_, ?_⟩
  · show mk (fSub (fSub (fMul rise rise PR) x PR) ox PR) = _
    rw [mk_su, mk_su, mk_ml, hr, hx, ho]; show _ = _ * (mk z * mk z)
    grind
  · show mk (fSub (fMul rise (fSub x (fSub (fSub (fMul rise rise PR) x PR) ox PR) PR) PR) y PR) = _
    rw [mk_su, mk_ml, mk_su, mk_su, mk_su, mk_ml, hr, hx, ho, hy]; show _ = _ * (mk z * mk z * mk z)
    grind
/-- No point has the second number 0. -/
theorem nocube {p e c n : Nat} (hp : Pr p) (he : 3 * e = p - 1) (hc : n ^ 3 % p = c) (hd : ¬ p ∣ n) : c ^ e % p = 1 := by
  rw [← hc, ← Nat.pow_mod, ← Nat.pow_mul, he, fermat hp hd]
def ER : Nat := (PR - 1) / 3
theorem er_3 : 3 * ER = PR - 1 := by decide +kernel
theorem er_256 : ER < 2 ^ 256 := by decide +kernel
theorem cube_pm : pm (PR - 7) PR 256 ER ≠ 1 := by decide +kernel
theorem seven_lt : 7 < PR := by decide +kernel
theorem seven_up {t p : Nat} (h7 : 7 < p) (h2 : (t + 7) % p = 0) (hm : t < p) : t = p - 7 := by
  rcases Nat.lt_or_ge (t + 7) p with q | q
  · rw [Nat.mod_eq_of_lt q] at h2; omega
  · rw [Nat.mod_eq_sub_mod q, Nat.mod_eq_of_lt (by omega)] at h2; omega
theorem noy {x y : Fp} (h : y * y = x * x * x + seven) : y ≠ 0 := fun hy => by
  obtain ⟨n, rfl⟩ := rep x
  rw [hy] at h
  have h1 : (mk (n * n * n + 7) : Fp) = mk 0 := by rw [← mk_add, ← mk_mul, ← mk_mul]; show _ + seven = (0 : Fp); rw [← h]; grind
  have h2 := mk_iff.1 h1
  rw [Nat.zero_mod] at h2
  have h3 : n ^ 3 % PR = PR - 7 := by
    rw [show n ^ 3 = n * n * n by rw [Nat.pow_succ, Nat.pow_succ, Nat.pow_succ, Nat.pow_zero, Nat.one_mul]]
    rw [Nat.add_mod, Nat.mod_eq_of_lt seven_lt] at h2
    exact seven_up seven_lt h2 (Nat.mod_lt (n * n * n) prpos)
  have hd : ¬ PR ∣ n := fun q => by
    have : n ^ 3 % PR = 0 := Nat.mod_eq_zero_of_dvd (Nat.dvd_trans q ⟨n ^ 2, by rw [Nat.pow_succ, Nat.mul_comm]⟩)
    have h7 := seven_lt
    omega
  have := nocube pr_prime er_3 h3 hd
  rw [← pm_eq (PR - 7) PR 256 ER er_256] at this
  exact cube_pm this
theorem dbl_rep {a : Wp} {P : Pt Fp} (ha : Stands a P) (hP : P.On seven) : Stands (dblW a) (P.add P) := by
  cases P with
  | zero => rw [dblW_1 ha.1]; exact ha
  | pt x y =>
    obtain ⟨hb, hx, hy, hz, h0, ex, ey⟩ := ha
    rw [dblW_2 hb]
    have hy0 := noy hP
    have h2 := good.two
    have hyy : y + y ≠ 0 := by grind
    have hn : ¬ (x = x ∧ y = -y) := fun q => hyy (by have := q.2; grind)
    show Stands _ (if _ then _ else _)
    rw [if_neg hn]
    have hk := slope_eq (x1 := x) (x2 := x) (y2 := y) rfl hyy
    generalize slope x y x y = k at *
    have e2 : (mk (fMul (fAdd a.Y a.Y PR) a.Z PR) : Fp) = (y + y) * (mk a.Z * mk a.Z * mk a.Z * mk a.Z) := by rw [mk_ml, mk_ad, ey]; grind
    refine third_rep (mlP _ _) ?_ ?_ ?_ ?_ ?_
    · rw [e2]; grind
    · rw [e2, mk_ad, mk_ad, mk_ml, ex]; grind
    · rw [e2]; simp only [mk_ad, mk_ml]; rw [ex, ey]; grind
    · rw [e2]; simp only [mk_ad, mk_ml]; rw [ex, ey]; grind
    · rw [e2]; simp only [mk_ad, mk_ml]; rw [ey]; grind
theorem mul_ne {a b : Fp} (ha : a ≠ 0) (hb : b ≠ 0) : a * b ≠ 0 := by grind
theorem plus_rep {a b : Wp} {P Q : Pt Fp} (ha : Stands a P) (hb : Stands b Q) (hP : P.On seven) (hQ : Q.On seven) : Stands (plusW a b) (P.add Q) := by
  cases P with
  | zero => rw [plusW_1 ha.1]; exact hb
  | pt x1 y1 =>
    cases Q with
    | zero => rw [plusW_2 ha.1 hb.1]; exact ha
    | pt x2 y2 =>
      have ha0 := ha
      obtain ⟨ab, ax, ay, az, a0, aex, aey⟩ := ha
      obtain ⟨bb, bx, by_, bz, b0, bex, bey⟩ := hb
      have hP' : y1 * y1 = x1 * x1 * x1 + seven := hP
      have hQ' : y2 * y2 = x2 * x2 * x2 + seven := hQ
      have er : (mk (runW a b) : Fp) = (x2 - x1) * (mk a.Z * mk a.Z * (mk b.Z * mk b.Z)) := by
        unfold runW; simp only [mk_su, mk_ml]; rw [aex, bex]; grind
      have es : (mk (riseW a b) : Fp) = (y2 - y1) * (mk a.Z * mk a.Z * mk a.Z * (mk b.Z * mk b.Z * mk b.Z)) := by
        unfold riseW; simp only [mk_su, mk_ml]; rw [aey, bey]; grind
      have n2 : (mk a.Z * mk a.Z * (mk b.Z * mk b.Z) : Fp) ≠ 0 := mul_ne (mul_ne a0 a0) (mul_ne b0 b0)
      have n3 : (mk a.Z * mk a.Z * mk a.Z * (mk b.Z * mk b.Z * mk b.Z) : Fp) ≠ 0 := mul_ne (mul_ne (mul_ne a0 a0) a0) (mul_ne (mul_ne b0 b0) b0)
      by_cases hr : runW a b = 0
      · have hx : x2 = x1 := by
          rw [hr] at er
          have er : (x2 - x1) * (mk a.Z * mk a.Z * (mk b.Z * mk b.Z)) = 0 := er.symm
          grind
        subst hx
        by_cases hs : riseW a b = 0
        · have hy : y2 = y1 := by
            rw [hs] at es
            have es : (y2 - y1) * (mk a.Z * mk a.Z * mk a.Z * (mk b.Z * mk b.Z * mk b.Z)) = 0 := es.symm
            grind
          subst hy
          rw [plusW_5 ab bb hr hs]
          exact dbl_rep ha0 hP
        · have hy : y2 ≠ y1 := fun q => hs ((zero_iff (suP _ _)).2 (by show (mk (riseW a b) : Fp) = (0 : Fp); rw [es, q]; grind))
          have hy2 : y2 = -y1 := by
            have q1 : (y2 - y1) * (y2 + y1) = 0 := by grind
            have q2 : y2 - y1 ≠ 0 := by grind
            grind
          rw [plusW_4 ab bb hr hs]
          show Stands _ (if _ then _ else _)
          rw [if_pos ⟨rfl, hy2⟩]
          exact ⟨rfl, rfl, rfl⟩
      · have hx : x1 ≠ x2 := fun q => hr ((zero_iff (suP _ _)).2 (by show (mk (runW a b) : Fp) = (0 : Fp); rw [er, q]; grind))
        rw [plusW_3 ab bb hr]
        have hn : ¬ (x2 = x1 ∧ y2 = -y1) := fun q => hx q.1.symm
        show Stands _ (if _ then _ else _)
        rw [if_neg hn]
        have hk := slope_ne (y1 := y1) (y2 := y2) hx
        generalize slope x1 y1 x2 y2 = k at *
        have hx' : x2 - x1 ≠ 0 := by grind
        have ez : (mk (fMul (fMul a.Z b.Z PR) (runW a b) PR) : Fp) = mk a.Z * mk b.Z * mk (runW a b) := by rw [mk_ml, mk_ml]
        have r0 : (mk (runW a b) : Fp) ≠ 0 := by rw [er]; exact mul_ne hx' n2
        unfold sumW
        generalize runW a b = r at *
        generalize riseW a b = s at *
        refine third_rep (mlP _ _) ?_ ?_ ?_ ?_ ?_
        · rw [ez]; exact mul_ne (mul_ne a0 b0) r0
        · rw [ez, es, er, ← hk]; grind
        · rw [ez]; simp only [mk_ml]; rw [aex]; grind
        · rw [ez]; simp only [mk_ad, mk_ml]; rw [aex, er]; grind
        · rw [ez]; simp only [mk_ml]; rw [aey]; grind
/-- A point as it is handed over. -/
structure Pd where
  X : Nat
  Y : Nat
  b : Bool
  deriving DecidableEq
structure Pd.Ok (p : Pd) : Prop where
  X : p.X < big
  Y : p.Y < big
def ofPt : Pt Fp → Pd
  | .zero => ⟨0, 0, true⟩
  | .pt x y => ⟨x.v, y.v, false⟩
theorem big_0 : 0 < big := by unfold big; omega
theorem ofPt_ok (P : Pt Fp) : (ofPt P).Ok := by
  cases P with
  | zero => exact ⟨big_0, big_0⟩
  | pt x y => exact ⟨P_big x.lt, P_big y.lt⟩
def sqN (x : Nat) : Nat := fAdd (fMul (fMul x x PR) x PR) 7 PR
theorem mk_sqN (x : Nat) : (mk (sqN x) : Fp) = mk x * mk x * mk x + seven := by unfold sqN; rw [mk_ad, mk_ml, mk_ml]
def onB (p : Pd) : Bool := bif p.b then (decide (p.X = 0) && decide (p.Y = 0)) else (decide (p.X < PR) && (decide (p.Y < PR) && decide (fMul p.Y p.Y PR = sqN p.X)))
theorem onB_1 {p : Pd} (h : p.b = true) : onB p = decide (p = ⟨0, 0, true⟩) := by
  obtain ⟨X, Y, b⟩ := p
  obtain rfl : b = true := h
  show (decide (X = 0) && decide (Y = 0)) = _
  rw [Bool.eq_iff_iff, Bool.and_eq_true, decide_eq_true_iff, decide_eq_true_iff, decide_eq_true_iff]
  exact ⟨fun ⟨a, b⟩ => by rw [a, b], fun q => by injection q with a b; exact ⟨a, b⟩⟩
theorem onB_x {p : Pd} (h : p.b = false) (hx : ¬ p.X < PR) : onB p = false := by unfold onB; rw [h, decide_eq_false hx]; rfl
theorem onB_y {p : Pd} (h : p.b = false) (hx : p.X < PR) (hy : ¬ p.Y < PR) : onB p = false := by unfold onB; rw [h, decide_eq_true hx, decide_eq_false hy]; rfl
theorem onB_e {p : Pd} (h : p.b = false) (hx : p.X < PR) (hy : p.Y < PR) : onB p = decide (fMul p.Y p.Y PR = sqN p.X) := by unfold onB; rw [h, decide_eq_true hx, decide_eq_true hy]; rfl
theorem sqN_lt (x : Nat) : sqN x < PR := adP _ _
theorem onB_of {p : Pd} (h : onB p = true) : ∃ P : Pt Fp, P.On seven ∧ p = ofPt P := by
  obtain ⟨X, Y, b⟩ := p
  cases b
  · unfold onB at h
    simp only [cond_false, Bool.and_eq_true, decide_eq_true_iff] at h
    obtain ⟨hx, hy, he⟩ := h
    refine ⟨.pt (mk X) (mk Y), ?_, ?_⟩
    · show mk Y * mk Y = mk X * mk X * mk X + seven
      rw [← mk_ml, ← mk_sqN, he]
    · show _ = Pd.mk (X % PR) (Y % PR) false
      rw [Nat.mod_eq_of_lt hx, Nat.mod_eq_of_lt hy]
  · rw [onB_1 rfl, decide_eq_true_iff] at h
    exact ⟨.zero, trivial, h⟩
theorem onB_pt {P : Pt Fp} (h : P.On seven) : onB (ofPt P) = true := by
  cases P with
  | zero => rfl
  | pt x y =>
    rw [onB_e rfl x.lt y.lt, decide_eq_true_iff]
    refine (mk_inj (mlP _ _) (adP _ _)).1 ?_
    show (mk (fMul y.v y.v PR) : Fp) = mk (sqN x.v)
    rw [mk_ml, mk_sqN, mk_v, mk_v]; exact h
/-- With and without a third number. -/
def widenW (p : Pd) : Wp := ⟨p.X, p.Y, p.b, 1⟩
theorem widen_rep (P : Pt Fp) : Stands (widenW (ofPt P)) P := by
  cases P with
  | zero => exact ⟨rfl, rfl, rfl⟩
  | pt x y =>
    refine ⟨rfl, x.lt, y.lt, Nat.lt_trans (show 1 < 2 by decide) pr_two, ?_, ?_, ?_⟩
    · exact fun q => one_ne q.symm
    · show mk x.v = x * (mk 1 * mk 1); rw [mk_v]; show x = x * ((1 : Fp) * 1); grind
    · show mk y.v = y * (mk 1 * mk 1 * mk 1); rw [mk_v]; show y = y * ((1 : Fp) * 1 * 1); grind
theorem widenW_ok {p : Pd} (h : p.Ok) : (widenW p).Ok := ⟨h.X, h.Y, by show 1 < big; unfold big; omega⟩
def invF (a : Nat) : Nat := fpw a (df PR 2) PR
theorem df_pr : df PR 2 = PR - 2 := by
  have h := pr_ok
  unfold df MOK big at *
  rw [show PR + 115792089237316195423570985008687907853269984665640564039457584007913129639936 - 2 = (PR - 2) + 115792089237316195423570985008687907853269984665640564039457584007913129639936 by omega, Nat.add_mod_right, Nat.mod_eq_of_lt (by omega)]
theorem mk_invF (a : Nat) : (mk (invF a) : Fp) = (mk a)⁻¹ := by unfold invF; rw [fpw_eq, mk_mod, df_pr, mk_inv]
def narrowF (a : Wp) : Pd := ⟨fMul a.X (fMul (invF a.Z) (invF a.Z) PR) PR, fMul a.Y (fMul (fMul (invF a.Z) (invF a.Z) PR) (invF a.Z) PR) PR, false⟩
def narrowW (a : Wp) : Pd := bif a.b then ⟨a.X, a.Y, true⟩ else narrowF a
theorem narrow_rep {a : Wp} {P : Pt Fp} (h : Stands a P) : narrowW a = ofPt P := by
  cases P with
  | zero => obtain ⟨hb, hx, hy⟩ := h; unfold narrowW; rw [hb, hx, hy]; rfl
  | pt x y =>
    obtain ⟨hb, hx, hy, hz, h0, ex, ey⟩ := h
    unfold narrowW
    rw [hb]
    have e1 : fMul a.X (fMul (invF a.Z) (invF a.Z) PR) PR = x.v := by
      refine (mk_inj (mlP _ _) x.lt).1 ?_
      rw [mk_v, mk_ml, mk_ml, mk_invF, ex]; grind
    have e2 : fMul a.Y (fMul (fMul (invF a.Z) (invF a.Z) PR) (invF a.Z) PR) PR = y.v := by
      refine (mk_inj (mlP _ _) y.lt).1 ?_
      rw [mk_v, mk_ml, mk_ml, mk_ml, mk_invF, ey]; grind
    show Pd.mk _ _ false = Pd.mk x.v y.v false
    rw [e1, e2]
theorem stands_nz {a : Wp} {P : Pt Fp} (h : Stands a P) (hb : a.b = false) : rs a.Z 0 PR ≠ 0 := by
  cases P with
  | zero => rw [h.1] at hb; cases hb
  | pt x y =>
    intro q
    have h0 := h.2.2.2.2.1
    apply h0
    show mk a.Z = mk 0
    refine mk_iff.2 ?_
    unfold rs at q
    rw [Nat.mul_zero, Nat.add_zero] at q
    rw [q, Nat.zero_mod]
/-- A point's multiples. -/
def mults (p : Wp) : Nat → Wp
  | 0 => zeroW
  | k + 1 => plusW (mults p k) p
theorem mults_ok {p : Wp} (h : p.Ok) : ∀ k, (mults p k).Ok
  | 0 => zeroW_ok
  | k + 1 => plusW_ok (mults_ok h k) h
theorem mults_rep {p : Wp} {P : Pt Fp} (h : Stands p P) (hP : P.On seven) : ∀ k, Stands (mults p k) (mulP P k)
  | 0 => ⟨rfl, rfl, rfl⟩
  | k + 1 => plus_rep (mults_rep h hP k) h (mulP_on good hP k) hP
/-- The digit that comes after k others. -/
def dig (n k : Nat) : Nat := n / 16 ^ (63 - k) % 16
def quad (t : Wp) : Wp := dblW (dblW (dblW (dblW t)))
theorem quad_ok {t : Wp} (h : t.Ok) : (quad t).Ok := dblW_ok (dblW_ok (dblW_ok (dblW_ok h)))
theorem quad_rep {t : Wp} {P : Pt Fp} {q : Nat} (hP : P.On seven) (h : Stands t (mulP P q)) : Stands (quad t) (mulP P (16 * q)) := by
  have s : ∀ {u m}, Stands u (mulP P m) → Stands (dblW u) (mulP P (2 * m)) := fun {u m} hu => by
    have := dbl_rep hu (mulP_on good hP m)
    rwa [← mulP_add good hP, show m + m = 2 * m by omega] at this
  have := s (s (s (s h)))
  rwa [show 2 * (2 * (2 * (2 * q))) = 16 * q by omega] at this
def tog (n : Nat) (p : Wp) : Nat → Wp
  | 0 => zeroW
  | k + 1 => plusW (quad (tog n p k)) (mults p (dig n k))
theorem tog_ok {n : Nat} {p : Wp} (h : p.Ok) : ∀ k, (tog n p k).Ok
  | 0 => zeroW_ok
  | k + 1 => plusW_ok (quad_ok (tog_ok h k)) (mults_ok h _)
theorem dig_next (n k : Nat) (hk : k < 64) : 16 * (n / 16 ^ (64 - k)) + dig n k = n / 16 ^ (64 - (k + 1)) := by
  unfold dig
  rw [show 64 - k = (63 - k) + 1 by omega, show 64 - (k + 1) = 63 - k by omega, Nat.pow_succ, ← Nat.div_div_eq_div_mul]
  generalize n / 16 ^ (63 - k) = m
  omega
theorem big_16 : big = 16 ^ 64 := by decide +kernel
theorem tog_rep {n : Nat} {p : Wp} {P : Pt Fp} (hn : n < big) (h : Stands p P) (hP : P.On seven) : ∀ k, k ≤ 64 → Stands (tog n p k) (mulP P (n / 16 ^ (64 - k)))
  | 0, _ => by
    rw [big_16] at hn
    rw [show 64 - 0 = 64 from rfl, Nat.div_eq_of_lt hn]; exact ⟨rfl, rfl, rfl⟩
  | k + 1, hk => by
    have ih := quad_rep hP (tog_rep hn h hP k (by omega))
    have := plus_rep ih (mults_rep h hP (dig n k)) (mulP_on good hP _) (mulP_on good hP _)
    rwa [← mulP_add good hP, dig_next n k (by omega)] at this
theorem tog_end {n : Nat} {P : Pt Fp} (hn : n < big) (hP : P.On seven) : Stands (tog n (widenW (ofPt P)) 64) (mulP P n) := by
  have := tog_rep hn (widen_rep P) hP 64 (Nat.le_refl _)
  rwa [Nat.sub_self, Nat.pow_zero, Nat.div_one] at this
/-- Two together. -/
def tog2 (n : Nat) (p : Wp) (m : Nat) (q : Wp) : Nat → Wp
  | 0 => zeroW
  | k + 1 => plusW (plusW (quad (tog2 n p m q k)) (mults p (dig n k))) (mults q (dig m k))
theorem tog2_ok {n m : Nat} {p q : Wp} (h : p.Ok) (hq : q.Ok) : ∀ k, (tog2 n p m q k).Ok
  | 0 => zeroW_ok
  | k + 1 => plusW_ok (plusW_ok (quad_ok (tog2_ok h hq k)) (mults_ok h _)) (mults_ok hq _)
theorem quad_rep2 {t : Wp} {R : Pt Fp} (hR : R.On seven) (h : Stands t R) : Stands (quad t) (mulP R 16) := by
  have := quad_rep (q := 1) hR (by show Stands t (Pt.add .zero R); exact h)
  exact this
theorem four_swap {A B r t : Pt Fp} (hA : A.On seven) (hB : B.On seven) (hr : r.On seven) (ht : t.On seven) : ((A.add B).add r).add t = (A.add r).add (B.add t) := by
  have g := good
  rw [add_assoc' g.two g.three g.b hA hB hr, add_comm' g.two g.three g.b hB hr, ← add_assoc' g.two g.three g.b hA hr hB, add_assoc' g.two g.three g.b (add_on g.two hA hr) hB ht]
theorem tog2_rep {n m : Nat} {p q : Wp} {P Q : Pt Fp} (hn : n < big) (hm : m < big) (h : Stands p P) (hq : Stands q Q) (hP : P.On seven) (hQ : Q.On seven) :
    ∀ k, k ≤ 64 → Stands (tog2 n p m q k) ((mulP P (n / 16 ^ (64 - k))).add (mulP Q (m / 16 ^ (64 - k))))
  | 0, _ => by
    rw [big_16] at hn hm
    rw [show 64 - 0 = 64 from rfl, Nat.div_eq_of_lt hn, Nat.div_eq_of_lt hm]; exact ⟨rfl, rfl, rfl⟩
  | k + 1, hk => by
    have oP := fun a => mulP_on good hP a
    have oQ := fun a => mulP_on good hQ a
    have g := good
    have ih := quad_rep2 (add_on g.two (oP _) (oQ _)) (tog2_rep hn hm h hq hP hQ k (by omega))
    have o16 := mulP_on g (add_on g.two (oP (n / 16 ^ (64 - k))) (oQ (m / 16 ^ (64 - k)))) 16
    have h1 := plus_rep ih (mults_rep h hP (dig n k)) o16 (oP _)
    have h2 := plus_rep h1 (mults_rep hq hQ (dig m k)) (add_on g.two o16 (oP _)) (oQ _)
    have key : ∀ (A B : Pt Fp) (hA : A.On seven) (hB : B.On seven) (j : Nat), mulP (A.add B) j = (mulP A j).add (mulP B j) := fun A B hA hB j => by
      induction j with
      | zero => rfl
      | succ j ih =>
        have oa := mulP_on g hA j; have ob := mulP_on g hB j
        show (mulP (A.add B) j).add (A.add B) = ((mulP A j).add A).add ((mulP B j).add B)
        rw [ih, add_assoc' g.two g.three g.b oa ob (add_on g.two hA hB), add_assoc' g.two g.three g.b oa hA (add_on g.two ob hB), ← add_assoc' g.two g.three g.b ob hA hB, ← add_assoc' g.two g.three g.b hA ob hB, add_comm' g.two g.three g.b hA ob]
    have e1 := dig_next n k (by omega)
    have e2 := dig_next m k (by omega)
    have e : ((mulP ((mulP P (n / 16 ^ (64 - k))).add (mulP Q (m / 16 ^ (64 - k)))) 16).add (mulP P (dig n k))).add (mulP Q (dig m k)) = (mulP P (n / 16 ^ (64 - (k + 1)))).add (mulP Q (m / 16 ^ (64 - (k + 1)))) := by
      rw [key _ _ (oP _) (oQ _), ← mulP_mul g hP, ← mulP_mul g hQ, Nat.mul_comm _ 16, Nat.mul_comm _ 16, ← e1, ← e2, mulP_add g hP, mulP_add g hQ]
      exact four_swap (oP _) (oQ _) (oP _) (oQ _)
    rw [e] at h2
    exact h2
end Go.Proofs.Ec

namespace Go.Proofs.YtmmloghbnpfedaaDoor
open Go.ChangeShapes Go.WideShapes Go.ChangeAt Go.RowKit
set_option linter.unusedVariables false
set_option maxHeartbeats 4000000 in
set_option maxRecDepth 100000 in
theorem mul_any (A B : Nat) (hA : A < big) (hB : B < big) (w : World) : Calls Tryd.prog 83 #[uv A, uv B] w fun e w' => e = .returned (.tuple #[uv (pl A B), uv (ph A B)]) ∧ Below w.heap.size w w' := by
  have z : Wd 0 := by unfold Wd; omega
  have a0 := wd0 A
  have b0 := wd0 B
  have a1 := wd1 A
  have b1 := wd1 B
  have a2 := wd2 A
  have b2 := wd2 B
  have a3 := wd3 A
  have b3 := wd3 B
  obtain ⟨l00, o00, q00, u00, r00, t00, v00, x00, m00⟩ := mac_ex a0 b0 z z
  have dq00 := m00.2.1
  have dc00 := m00.2.2
  obtain ⟨l01, o01, q01, u01, r01, t01, v01, x01, m01⟩ := mac_ex a0 b1 z dc00
  have dq01 := m01.2.1
  have dc01 := m01.2.2
  obtain ⟨l02, o02, q02, u02, r02, t02, v02, x02, m02⟩ := mac_ex a0 b2 z dc01
  have dq02 := m02.2.1
  have dc02 := m02.2.2
  obtain ⟨l03, o03, q03, u03, r03, t03, v03, x03, m03⟩ := mac_ex a0 b3 z dc02
  have dq03 := m03.2.1
  have dc03 := m03.2.2
  obtain ⟨l10, o10, q10, u10, r10, t10, v10, x10, m10⟩ := mac_ex a1 b0 dq01 z
  have dq10 := m10.2.1
  have dc10 := m10.2.2
  obtain ⟨l11, o11, q11, u11, r11, t11, v11, x11, m11⟩ := mac_ex a1 b1 dq02 dc10
  have dq11 := m11.2.1
  have dc11 := m11.2.2
  obtain ⟨l12, o12, q12, u12, r12, t12, v12, x12, m12⟩ := mac_ex a1 b2 dq03 dc11
  have dq12 := m12.2.1
  have dc12 := m12.2.2
  obtain ⟨l13, o13, q13, u13, r13, t13, v13, x13, m13⟩ := mac_ex a1 b3 dc03 dc12
  have dq13 := m13.2.1
  have dc13 := m13.2.2
  obtain ⟨l20, o20, q20, u20, r20, t20, v20, x20, m20⟩ := mac_ex a2 b0 dq11 z
  have dq20 := m20.2.1
  have dc20 := m20.2.2
  obtain ⟨l21, o21, q21, u21, r21, t21, v21, x21, m21⟩ := mac_ex a2 b1 dq12 dc20
  have dq21 := m21.2.1
  have dc21 := m21.2.2
  obtain ⟨l22, o22, q22, u22, r22, t22, v22, x22, m22⟩ := mac_ex a2 b2 dq13 dc21
  have dq22 := m22.2.1
  have dc22 := m22.2.2
  obtain ⟨l23, o23, q23, u23, r23, t23, v23, x23, m23⟩ := mac_ex a2 b3 dc13 dc22
  have dq23 := m23.2.1
  have dc23 := m23.2.2
  obtain ⟨l30, o30, q30, u30, r30, t30, v30, x30, m30⟩ := mac_ex a3 b0 dq21 z
  have dq30 := m30.2.1
  have dc30 := m30.2.2
  obtain ⟨l31, o31, q31, u31, r31, t31, v31, x31, m31⟩ := mac_ex a3 b1 dq22 dc30
  have dq31 := m31.2.1
  have dc31 := m31.2.2
  obtain ⟨l32, o32, q32, u32, r32, t32, v32, x32, m32⟩ := mac_ex a3 b2 dq23 dc31
  have dq32 := m32.2.1
  have dc32 := m32.2.2
  obtain ⟨l33, o33, q33, u33, r33, t33, v33, x33, m33⟩ := mac_ex a3 b3 dc23 dc32
  have dq33 := m33.2.1
  have dc33 := m33.2.2
  obtain ⟨⟨g0, g1, g2, g3⟩, g4, g5, g6, g7⟩ := mul_words hA hB m00 m01 m02 m03 m10 m11 m12 m13 m20 m21 m22 m23 m30 m31 m32 m33
  clear m00 m01 m02 m03 m10 m11 m12 m13 m20 m21 m22 m23 m30 m31 m32 m33
  unfold uv
  rw [← g0, ← g1, ← g2, ← g3, ← g4, ← g5, ← g6, ← g7]
  clear g0 g1 g2 g3 g4 g5 g6 g7
  have i0 := ix0; have i1 := ix1; have i2 := ix2; have i3 := ix3
  go_enter Tryd.func83, Tryd.ntmps83
  go_wp2
  refine wp_loop_rounds 5 ?_
  rw [rounds_succ]
  go_wp2
  refine wp_loop_rounds 5 ?_
  rw [rounds_succ]
  go_wp2_with (go_at_call 94; refine (mul64_any (by assumption) (by assumption) _).mono ?_; rintro e w' ⟨rfl, rfl⟩)
  rw [rounds_succ]
  go_wp2_with (go_at_call 94; refine (mul64_any (by assumption) (by assumption) _).mono ?_; rintro e w' ⟨rfl, rfl⟩)
  rw [rounds_succ]
  go_wp2_with (go_at_call 94; refine (mul64_any (by assumption) (by assumption) _).mono ?_; rintro e w' ⟨rfl, rfl⟩)
  rw [rounds_succ]
  go_wp2_with (go_at_call 94; refine (mul64_any (by assumption) (by assumption) _).mono ?_; rintro e w' ⟨rfl, rfl⟩)
  rw [rounds_succ]
  go_wp2_with (go_at_call 94; refine (mul64_any (by assumption) (by assumption) _).mono ?_; rintro e w' ⟨rfl, rfl⟩)
  rw [rounds_succ]
  go_wp2
  refine wp_loop_rounds 5 ?_
  rw [rounds_succ]
  go_wp2_with (go_at_call 94; refine (mul64_any (by assumption) (by assumption) _).mono ?_; rintro e w' ⟨rfl, rfl⟩)
  rw [rounds_succ]
  go_wp2_with (go_at_call 94; refine (mul64_any (by assumption) (by assumption) _).mono ?_; rintro e w' ⟨rfl, rfl⟩)
  rw [rounds_succ]
  go_wp2_with (go_at_call 94; refine (mul64_any (by assumption) (by assumption) _).mono ?_; rintro e w' ⟨rfl, rfl⟩)
  rw [rounds_succ]
  go_wp2_with (go_at_call 94; refine (mul64_any (by assumption) (by assumption) _).mono ?_; rintro e w' ⟨rfl, rfl⟩)
  rw [rounds_succ]
  go_wp2_with (go_at_call 94; refine (mul64_any (by assumption) (by assumption) _).mono ?_; rintro e w' ⟨rfl, rfl⟩)
  rw [rounds_succ]
  go_wp2
  refine wp_loop_rounds 5 ?_
  rw [rounds_succ]
  go_wp2_with (go_at_call 94; refine (mul64_any (by assumption) (by assumption) _).mono ?_; rintro e w' ⟨rfl, rfl⟩)
  rw [rounds_succ]
  go_wp2_with (go_at_call 94; refine (mul64_any (by assumption) (by assumption) _).mono ?_; rintro e w' ⟨rfl, rfl⟩)
  rw [rounds_succ]
  go_wp2_with (go_at_call 94; refine (mul64_any (by assumption) (by assumption) _).mono ?_; rintro e w' ⟨rfl, rfl⟩)
  rw [rounds_succ]
  go_wp2_with (go_at_call 94; refine (mul64_any (by assumption) (by assumption) _).mono ?_; rintro e w' ⟨rfl, rfl⟩)
  rw [rounds_succ]
  go_wp2_with (go_at_call 94; refine (mul64_any (by assumption) (by assumption) _).mono ?_; rintro e w' ⟨rfl, rfl⟩)
  rw [rounds_succ]
  go_wp2
  refine wp_loop_rounds 5 ?_
  rw [rounds_succ]
  go_wp2_with (go_at_call 94; refine (mul64_any (by assumption) (by assumption) _).mono ?_; rintro e w' ⟨rfl, rfl⟩)
  rw [rounds_succ]
  go_wp2_with (go_at_call 94; refine (mul64_any (by assumption) (by assumption) _).mono ?_; rintro e w' ⟨rfl, rfl⟩)
  rw [rounds_succ]
  go_wp2_with (go_at_call 94; refine (mul64_any (by assumption) (by assumption) _).mono ?_; rintro e w' ⟨rfl, rfl⟩)
  rw [rounds_succ]
  go_wp2_with (go_at_call 94; refine (mul64_any (by assumption) (by assumption) _).mono ?_; rintro e w' ⟨rfl, rfl⟩)
  rw [rounds_succ]
  go_wp2_with (go_at_call 94; refine (mul64_any (by assumption) (by assumption) _).mono ?_; rintro e w' ⟨rfl, rfl⟩)
  rw [rounds_succ]
  go_wp2
  go_region
  all_goals (go_wp2; go_returns; exact ⟨rfl, by go_grown⟩)
end Go.Proofs.YtmmloghbnpfedaaDoor

namespace Go.Proofs.YtmmloghbnpfedaaDoor
open Go.RowKit
theorem testBit_word (A n m : Nat) (k : Nat) (hn : n = 64 * k + m) (hm : m < 64) (v : Nat) (hv : v = A / 2 ^ (64 * k) % 18446744073709551616) : A.testBit n = (v / 2 ^ m % 2 == 1) := by
  subst hv hn
  rw [Nat.testBit_eq_decide_div_mod_eq, Nat.pow_add, ← Nat.div_div_eq_div_mul]
  generalize A / 2 ^ (64 * k) = x
  have e : x % 18446744073709551616 / 2 ^ m % 2 = x / 2 ^ m % 2 := by
    have e1 : 18446744073709551616 = 2 ^ m * 2 ^ (64 - m) := by rw [← Nat.pow_add, show m + (64 - m) = 64 by omega]
    have e2 : 2 ^ (64 - m) = 2 * 2 ^ (63 - m) := by rw [show 64 - m = (63 - m) + 1 by omega, Nat.pow_succ, Nat.mul_comm]
    rw [e1, Nat.mod_mul_right_div_self, e2, Nat.mod_mul_right_mod]
  rw [e, Bool.eq_iff_iff]; simp
theorem and_one (v m : Nat) (hv : v < 18446744073709551616) : (bits BinOp.and IntKind.u64 ((v : Int) / 2 ^ m) 1 == 1) = (v / 2 ^ m % 2 == 1) := by
  have h1 : ((v : Int) / 2 ^ m) = ((v / 2 ^ m : Nat) : Int) := by push_cast; rfl
  have h2 : v / 2 ^ m < 18446744073709551616 := Nat.lt_of_le_of_lt (Nat.div_le_self _ _) hv
  have h3 := bits_and_u64_nat (v / 2 ^ m) 1 h2 (by omega)
  rw [h1]
  have h4 : (v / 2 ^ m) &&& 1 = v / 2 ^ m % 2 := Nat.and_one_is_mod _
  rw [h4] at h3
  have h5 : bits BinOp.and IntKind.u64 ((v / 2 ^ m : Nat) : Int) 1 = ((v / 2 ^ m % 2 : Nat) : Int) := h3
  rw [h5, Bool.eq_iff_iff]; simp; omega
theorem bit_word0 (A n : Nat) (h : n / 64 = 0) : (bits BinOp.and IntKind.u64 (w0 A / 2 ^ (n % 64)) 1 == 1) = A.testBit n := by
  unfold w0
  rw [and_one _ _ (Nat.mod_lt _ (by omega)), testBit_word A n (n % 64) 0 (by omega) (by omega) (A % 18446744073709551616) (by simp)]
theorem bit_word1 (A n : Nat) (h : n / 64 = 1) : (bits BinOp.and IntKind.u64 (w1 A / 2 ^ (n % 64)) 1 == 1) = A.testBit n := by
  unfold w1
  rw [and_one _ _ (Nat.mod_lt _ (by omega)), testBit_word A n (n % 64) 1 (by omega) (by omega) _ rfl]
theorem bit_word2 (A n : Nat) (h : n / 64 = 2) : (bits BinOp.and IntKind.u64 (w2 A / 2 ^ (n % 64)) 1 == 1) = A.testBit n := by
  unfold w2
  rw [and_one _ _ (Nat.mod_lt _ (by omega)), testBit_word A n (n % 64) 2 (by omega) (by omega) _ rfl]
theorem bit_word3 (A n : Nat) (h : n / 64 = 3) : (bits BinOp.and IntKind.u64 (w3 A / 2 ^ (n % 64)) 1 == 1) = A.testBit n := by
  unfold w3
  rw [and_one _ _ (Nat.mod_lt _ (by omega)), testBit_word A n (n % 64) 3 (by omega) (by omega) _ rfl]
end Go.Proofs.YtmmloghbnpfedaaDoor

namespace Go.Proofs.YtmmloghbnpfedaaDoor
open Go.ChangeShapes Go.WideShapes Go.ChangeAt Go.RowKit Go.Shelf
set_option linter.unusedVariables false
def lays129_ren : Go.Shelf.Ren := ⟨fun | 129 => 96 | n => n, fun | 53 => 22 | 3 => 3 | 4 => 4 | 46 => 92 | 5 => 5 | 9 => 9 | n => n, fun | n => n⟩
theorem lays129 : Go.Proofs.Lays.n129 Tryd.prog lays129_ren := {
  mixed := by kernel_rfl
  f129 := Tryd.func96.trans (congrArg some (by kernel_rfl))
  t3 := Tryd.underlying3
  a3 := Tryd.isAgg3
  z3 := Tryd.sizeOf3
  v3 := Tryd.zeroValue3
  t4 := Tryd.underlying4
  a4 := Tryd.isAgg4
  z4 := Tryd.sizeOf4
  v4 := Tryd.zeroValue4
  t5 := Tryd.underlying5
  a5 := Tryd.isAgg5
  z5 := Tryd.sizeOf5
  v5 := Tryd.zeroValue5
  t9 := Tryd.underlying9
  a9 := Tryd.isAgg9
  z9 := Tryd.sizeOf9
  v9 := Tryd.zeroValue9
  t46 := Tryd.underlying92
  a46 := Tryd.isAgg92
  z46 := Tryd.sizeOf92
  v46 := Tryd.zeroValue92
  t53 := Tryd.underlying22
  a53 := Tryd.isAgg22
  z53 := Tryd.sizeOf22
  v53 := Tryd.zeroValue22 }
def lw (x : Int) : Int := (Lib.bitLen x.toNat : Int)
theorem len64_any {x : Int} (hx : Wd x) (w : World) :
    Calls Tryd.prog 96 #[.int .u64 x] w fun e w' => e = .returned (.int .i64 (lw x)) ∧ w = w' :=
  (Any.bits_Len64 lays129 x w hx.1 (by have := hx.2; omega)).mono fun e w' ⟨he, hw⟩ => ⟨he, hw.symm⟩
/-- Bit i of A, of i below 0 or above 255 none. -/
def bt (A : Nat) (i : Int) : Bool := decide (0 ≤ i) && (decide (i < 256) && A.testBit i.toNat)
set_option maxHeartbeats 400000 in
theorem bit_in (A : Nat) (n : Nat) (h : n < 256) (w : World) : Calls Tryd.prog 81 #[uv A, .int .i64 n] w fun e w' => e = .returned (.bool (A.testBit n)) ∧ Below w.heap.size w w' := by
  have hq : n / 64 = 0 ∨ n / 64 = 1 ∨ n / 64 = 2 ∨ n / 64 = 3 := by omega
  unfold uv
  rcases hq with hq | hq | hq | hq
  · have F := Lib.hid (bit_word0 A n hq)
    go_enter Tryd.func81, Tryd.ntmps81
    go_wp2
    go_returns
    exact ⟨by rw [F.out]; rfl, by go_grown⟩
  · have F := Lib.hid (bit_word1 A n hq)
    go_enter Tryd.func81, Tryd.ntmps81
    go_wp2
    go_returns
    exact ⟨by rw [F.out]; rfl, by go_grown⟩
  · have F := Lib.hid (bit_word2 A n hq)
    go_enter Tryd.func81, Tryd.ntmps81
    go_wp2
    go_returns
    exact ⟨by rw [F.out]; rfl, by go_grown⟩
  · have F := Lib.hid (bit_word3 A n hq)
    go_enter Tryd.func81, Tryd.ntmps81
    go_wp2
    go_returns
    exact ⟨by rw [F.out]; rfl, by go_grown⟩
set_option maxHeartbeats 400000 in
theorem bit_out (A : Nat) (i : Int) (h : i < 0 ∨ 256 ≤ i) (w : World) : Calls Tryd.prog 81 #[uv A, .int .i64 i] w fun e w' => e = .returned (.bool false) ∧ Below w.heap.size w w' := by
  unfold uv
  rcases h with h | h
  · go_enter Tryd.func81, Tryd.ntmps81
    go_wp2
    go_returns
    exact ⟨rfl, by go_grown⟩
  · have h' : ¬ i < 0 := by omega
    go_enter Tryd.func81, Tryd.ntmps81
    go_wp2
    go_returns
    exact ⟨rfl, by go_grown⟩
theorem bit_any (A : Nat) (i : Int) (w : World) : Calls Tryd.prog 81 #[uv A, .int .i64 i] w fun e w' => e = .returned (.bool (bt A i)) ∧ Below w.heap.size w w' := by
  by_cases h0 : 0 ≤ i
  · by_cases h1 : i < 256
    · obtain ⟨n, rfl⟩ := Int.eq_ofNat_of_zero_le h0
      have e : bt A n = A.testBit n := by unfold bt; simp; omega
      rw [e]
      exact bit_in A n (by omega) w
    · have e : bt A i = false := by unfold bt; simp; omega
      rw [e]
      exact bit_out A i (.inr (by omega)) w
  · have e : bt A i = false := by unfold bt; simp; omega
    rw [e]
    exact bit_out A i (.inl (by omega)) w
/-- The length that the words' loop comes to. -/
def lenOf (A : Nat) : Int :=
  if w3 A != 0 then 192 + lw (w3 A) else if w2 A != 0 then 128 + lw (w2 A) else if w1 A != 0 then 64 + lw (w1 A) else if w0 A != 0 then lw (w0 A) else 0
theorem lw_le (x : Int) (h : Wd x) : 0 ≤ lw x ∧ lw x ≤ 64 := by
  refine ⟨by unfold lw; omega, ?_⟩
  unfold lw Lib.bitLen
  have : ∀ f y, Lib.bitLenAux f y ≤ f := by
    intro f
    induction f with
    | zero => intro y; simp [Lib.bitLenAux]
    | succ f ih => intro y; simp only [Lib.bitLenAux]; have := ih (y / 2); split <;> omega
  have := this 64 x.toNat
  omega
set_option maxHeartbeats 1000000 in
theorem len_any (A : Nat) (w : World) : Calls Tryd.prog 87 #[uv A] w fun e w' => e = .returned (.int .i64 (lenOf A)) ∧ Below w.heap.size w w' := by
  have i0 := ix0; have i1 := ix1; have i2 := ix2; have i3 := ix3
  have d0 := wd0 A; have d1 := wd1 A; have d2 := wd2 A; have d3 := wd3 A
  obtain ⟨l0, u0⟩ := lw_le _ d0; obtain ⟨l1, u1⟩ := lw_le _ d1; obtain ⟨l2, u2⟩ := lw_le _ d2; obtain ⟨l3, u3⟩ := lw_le _ d3
  have fin : True := trivial
  unfold uv
  cases c0 : (w0 A != 0) <;> cases c1 : (w1 A != 0) <;> cases c2 : (w2 A != 0) <;> cases c3 : (w3 A != 0)
  all_goals
    have e : lenOf A = lenOf A := rfl
    conv at e => rhs; unfold lenOf
    simp only [c0, c1, c2, c3, if_true, if_false, Bool.false_eq_true] at e
    rw [e]
    clear e fin
    go_enter Tryd.func87, Tryd.ntmps87
    go_wp2
    refine wp_loop_rounds 5 ?_
    rw [rounds_succ]
    go_wp2_with (go_at_call 96; refine (len64_any (by assumption) _).mono ?_; rintro e w' ⟨rfl, rfl⟩)
    rw [rounds_succ]
    go_wp2_with (go_at_call 96; refine (len64_any (by assumption) _).mono ?_; rintro e w' ⟨rfl, rfl⟩)
    rw [rounds_succ]
    go_wp2_with (go_at_call 96; refine (len64_any (by assumption) _).mono ?_; rintro e w' ⟨rfl, rfl⟩)
    rw [rounds_succ]
    go_wp2_with (go_at_call 96; refine (len64_any (by assumption) _).mono ?_; rintro e w' ⟨rfl, rfl⟩)
    rw [rounds_succ]
    go_wp2
    go_returns
    exact ⟨rfl, by go_grown⟩
end Go.Proofs.YtmmloghbnpfedaaDoor

namespace Go.Proofs.YtmmloghbnpfedaaDoor
open Go.RowKit
theorem bitLen_spec : ∀ f x, x < 2 ^ f → f ≤ 64 → (x < 2 ^ Lib.bitLen x) ∧ (x ≠ 0 → 2 ^ (Lib.bitLen x - 1) ≤ x ∧ 1 ≤ Lib.bitLen x) := by
  intro f
  induction f with
  | zero =>
    intro x hx _
    have : x = 0 := by simpa using hx
    subst this
    exact ⟨by decide, fun h => absurd rfl h⟩
  | succ f ih =>
    intro x hx hf
    by_cases h0 : x = 0
    · subst h0; exact ⟨by decide, fun h => absurd rfl h⟩
    · have hx64 : x < 2 ^ 64 := Nat.lt_of_lt_of_le hx (Nat.pow_le_pow_right (by omega) hf)
      have e := Lib.bitLen_half x h0 hx64
      have hy : x / 2 < 2 ^ f := by rw [Nat.pow_succ] at hx; omega
      obtain ⟨a, b⟩ := ih (x / 2) hy (by omega)
      rw [e]
      have e2 : 2 ^ (1 + Lib.bitLen (x / 2)) = 2 * 2 ^ Lib.bitLen (x / 2) := by rw [Nat.add_comm, Nat.pow_succ, Nat.mul_comm]
      refine ⟨by omega, fun _ => ⟨?_, by omega⟩⟩
      by_cases hz : x / 2 = 0
      · have : x = 1 := by omega
        subst this; decide
      · obtain ⟨b1, b2⟩ := b hz
        have e3 : 2 ^ (1 + Lib.bitLen (x / 2) - 1) = 2 * 2 ^ (Lib.bitLen (x / 2) - 1) := by
          rw [show 1 + Lib.bitLen (x / 2) - 1 = (Lib.bitLen (x / 2) - 1) + 1 by omega, Nat.pow_succ, Nat.mul_comm]
        omega
/-- How many bits a number has. -/
def len (A : Nat) : Nat := if A = 0 then 0 else Nat.log2 A + 1
theorem len_of {A k : Nat} (h1 : 2 ^ (k - 1) ≤ A) (h2 : A < 2 ^ k) (hk : 1 ≤ k) : len A = k := by
  have h0 : A ≠ 0 := by have := Nat.two_pow_pos (k - 1); omega
  unfold len
  rw [if_neg h0]
  have a := (Nat.le_log2 h0).2 h1
  have b := (Nat.log2_lt h0).2 h2
  omega
theorem len_word {A v k : Nat} (hv : v < 18446744073709551616) (h0 : v ≠ 0) (hA1 : 2 ^ k * v ≤ A) (hA2 : A < 2 ^ k * (v + 1)) : len A = k + Lib.bitLen v := by
  obtain ⟨a, b⟩ := bitLen_spec 64 v hv (Nat.le_refl _)
  obtain ⟨b1, b2⟩ := b h0
  refine len_of ?_ ?_ (by omega)
  · rw [show k + Lib.bitLen v - 1 = k + (Lib.bitLen v - 1) by omega, Nat.pow_add]
    exact Nat.le_trans (Nat.mul_le_mul_left _ b1) hA1
  · rw [Nat.pow_add]
    exact Nat.lt_of_lt_of_le hA2 (Nat.mul_le_mul_left _ a)
theorem lenOf_eq (A : Nat) (hA : A < big) : lenOf A = (len A : Int) := by
  unfold big at hA
  have e0 : w0 A = ((A % 18446744073709551616 : Nat) : Int) := rfl
  have e1 : w1 A = ((A / 18446744073709551616 % 18446744073709551616 : Nat) : Int) := rfl
  have e2 : w2 A = ((A / 340282366920938463463374607431768211456 % 18446744073709551616 : Nat) : Int) := rfl
  have e3 : w3 A = ((A / 6277101735386680763835789423207666416102355444464034512896 % 18446744073709551616 : Nat) : Int) := rfl
  unfold lenOf
  by_cases c3 : w3 A = 0
  · rw [if_neg (by simp [c3])]
    by_cases c2 : w2 A = 0
    · rw [if_neg (by simp [c2])]
      by_cases c1 : w1 A = 0
      · rw [if_neg (by simp [c1])]
        by_cases c0 : w0 A = 0
        · rw [if_neg (by simp [c0])]
          have : A = 0 := by omega
          subst this; rfl
        · rw [if_pos (by simpa using c0)]
          have hw : (w0 A).toNat = A := by omega
          unfold lw; rw [hw]
          rw [len_word (A := A) (v := A) (k := 0) (by omega) (by omega) (by simp) (by simp)]
          simp
      · rw [if_pos (by simpa using c1)]
        have hw : (w1 A).toNat = A / 18446744073709551616 := by omega
        unfold lw; rw [hw]
        rw [len_word (A := A) (v := A / 18446744073709551616) (k := 64) (by omega) (by omega) (by rw [show 2 ^ 64 = 18446744073709551616 from rfl]; omega) (by rw [show 2 ^ 64 = 18446744073709551616 from rfl]; omega)]
        omega
    · rw [if_pos (by simpa using c2)]
      have hw : (w2 A).toNat = A / 340282366920938463463374607431768211456 := by omega
      unfold lw; rw [hw]
      rw [len_word (A := A) (v := A / 340282366920938463463374607431768211456) (k := 128) (by omega) (by omega) (by rw [show 2 ^ 128 = 340282366920938463463374607431768211456 from rfl]; omega) (by rw [show 2 ^ 128 = 340282366920938463463374607431768211456 from rfl]; omega)]
      omega
  · rw [if_pos (by simpa using c3)]
    have hw : (w3 A).toNat = A / 6277101735386680763835789423207666416102355444464034512896 := by omega
    unfold lw; rw [hw]
    rw [len_word (A := A) (v := A / 6277101735386680763835789423207666416102355444464034512896) (k := 192) (by omega) (by omega) (by rw [show 2 ^ 192 = 6277101735386680763835789423207666416102355444464034512896 from rfl]; omega) (by rw [show 2 ^ 192 = 6277101735386680763835789423207666416102355444464034512896 from rfl]; omega)]
    omega
theorem len_le {A : Nat} (hA : A < big) : len A ≤ 256 := by
  unfold len; split
  · omega
  · have h : A < 2 ^ 256 := hA
    have := (Nat.log2_lt ‹_›).2 h
    omega
theorem lt_two_pow_len (A : Nat) : A < 2 ^ len A := by
  unfold len; split
  · omega
  · exact Nat.lt_log2_self
end Go.Proofs.YtmmloghbnpfedaaDoor

namespace Go.Proofs.YtmmloghbnpfedaaDoor
open Go.ChangeShapes Go.WideShapes Go.ChangeAt Go.RowKit
set_option linter.unusedVariables false
def cm (A B : Nat) : Int := if A = B then 0 else if A < B then -1 else 1
/-- How the first k words stand. -/
def cmK (A B k : Nat) : Int := cm (A % 18446744073709551616 ^ k) (B % 18446744073709551616 ^ k)
theorem cmK_0 (A B : Nat) : cmK A B 0 = 0 := by unfold cmK cm; simp [Nat.mod_one]
theorem cm_next (a b x y W : Nat) (hx : x < W) (hy : y < W) : cm (x + W * a) (y + W * b) = if a < b then -1 else if b < a then 1 else cm x y := by
  unfold cm
  rcases Nat.lt_trichotomy a b with h | h | h
  · have : W * (a + 1) ≤ W * b := Nat.mul_le_mul_left _ h
    rw [Nat.mul_add] at this
    rw [if_pos h, if_neg (by omega), if_pos (by omega)]
  · subst h
    have h1 : (x + W * a = y + W * a) = (x = y) := by rw [eq_iff_iff]; omega
    have h2 : (x + W * a < y + W * a) = (x < y) := by rw [eq_iff_iff]; omega
    simp only [h1, h2, Nat.lt_irrefl, if_false]
  · have : W * (b + 1) ≤ W * a := Nat.mul_le_mul_left _ h
    rw [Nat.mul_add] at this
    rw [if_neg (by omega), if_pos h, if_neg (by omega), if_neg (by omega)]
/-- Word k of a number. -/
def wk (A k : Nat) : Nat := A / 18446744073709551616 ^ k % 18446744073709551616
theorem cmK_next (A B k : Nat) : cmK A B (k + 1) = if wk A k < wk B k then -1 else if wk B k < wk A k then 1 else cmK A B k := by
  unfold cmK wk
  rw [Nat.pow_succ, Nat.mod_mul, Nat.mod_mul, cm_next _ _ _ _ _ (Nat.mod_lt _ (Nat.pow_pos (by omega))) (Nat.mod_lt _ (Nat.pow_pos (by omega)))]
theorem cmK_fin (A B : Nat) (hA : A < big) (hB : B < big) : cmK A B 4 = cm A B := by
  unfold cmK
  have e : 18446744073709551616 ^ 4 = big := rfl
  rw [e, Nat.mod_eq_of_lt hA, Nat.mod_eq_of_lt hB]
theorem wk0 (A : Nat) : w0 A = ((wk A 0 : Nat) : Int) := by unfold w0 wk; simp
theorem wk1 (A : Nat) : w1 A = ((wk A 1 : Nat) : Int) := rfl
theorem wk2 (A : Nat) : w2 A = ((wk A 2 : Nat) : Int) := rfl
theorem wk3 (A : Nat) : w3 A = ((wk A 3 : Nat) : Int) := rfl
set_option maxHeartbeats 2000000 in
set_option maxRecDepth 100000 in
theorem cmp_any (A B : Nat) (hA : A < big) (hB : B < big) (w : World) : Calls Tryd.prog 61 #[uv A, uv B] w fun e w' => e = .returned (.int .i64 (cm A B)) ∧ Below w.heap.size w w' := by
  have i0 := ix0; have i1 := ix1; have i2 := ix2; have i3 := ix3
  have HF := Lib.hid (cmK_fin A B hA hB)
  unfold uv
  go_enter Tryd.func61, Tryd.ntmps61
  go_wp2
  go_loop [5, 9] (fun r i => ∃ k : Nat, k ≤ 4 ∧ i = .int .i64 k ∧ r = .int .i64 (cmK A B k)) (fun _ i => 4 - (intOf i).toNat)
  case atStart => exact ⟨0, by omega, rfl, by rw [cmK_0]⟩
  case round =>
    obtain ⟨k, hk, rfl, rfl⟩ := hrel
    have hn := cmK_next A B k
    have hk5 : k = 0 ∨ k = 1 ∨ k = 2 ∨ k = 3 ∨ k = 4 := by omega
    rcases hk5 with rfl | rfl | rfl | rfl | rfl
    · rcases Nat.lt_trichotomy (wk A 0) (wk B 0) with h | h | h
      · rw [if_pos h] at hn
        have HN := Lib.hid hn
        have h1 : w0 A < w0 B := by rw [wk0, wk0]; omega
        clear hn h
        go_wp2
        go_round
        case rel => exact ⟨1, by omega, by go_num, by rw [HN.out]⟩
        case measure => simp [intOf]
      · rw [if_neg (by omega), if_neg (by omega)] at hn
        have HN := Lib.hid hn
        have h1 : ¬ w0 A < w0 B := by rw [wk0, wk0]; omega
        have h2 : ¬ w0 B < w0 A := by rw [wk0, wk0]; omega
        clear hn h
        go_wp2
        go_round
        case rel => exact ⟨1, by omega, by go_num, by rw [HN.out]⟩
        case measure => simp [intOf]
      · rw [if_neg (by omega), if_pos h] at hn
        have HN := Lib.hid hn
        have h1 : ¬ w0 A < w0 B := by rw [wk0, wk0]; omega
        have h2 : w0 B < w0 A := by rw [wk0, wk0]; omega
        clear hn h
        go_wp2
        go_round
        case rel => exact ⟨1, by omega, by go_num, by rw [HN.out]⟩
        case measure => simp [intOf]
    · rcases Nat.lt_trichotomy (wk A 1) (wk B 1) with h | h | h
      · rw [if_pos h] at hn
        have HN := Lib.hid hn
        have h1 : w1 A < w1 B := by rw [wk1, wk1]; omega
        clear hn h
        go_wp2
        go_round
        case rel => exact ⟨2, by omega, by go_num, by rw [HN.out]⟩
        case measure => simp [intOf]
      · rw [if_neg (by omega), if_neg (by omega)] at hn
        have HN := Lib.hid hn
        have h1 : ¬ w1 A < w1 B := by rw [wk1, wk1]; omega
        have h2 : ¬ w1 B < w1 A := by rw [wk1, wk1]; omega
        clear hn h
        go_wp2
        go_round
        case rel => exact ⟨2, by omega, by go_num, by rw [HN.out]⟩
        case measure => simp [intOf]
      · rw [if_neg (by omega), if_pos h] at hn
        have HN := Lib.hid hn
        have h1 : ¬ w1 A < w1 B := by rw [wk1, wk1]; omega
        have h2 : w1 B < w1 A := by rw [wk1, wk1]; omega
        clear hn h
        go_wp2
        go_round
        case rel => exact ⟨2, by omega, by go_num, by rw [HN.out]⟩
        case measure => simp [intOf]
    · rcases Nat.lt_trichotomy (wk A 2) (wk B 2) with h | h | h
      · rw [if_pos h] at hn
        have HN := Lib.hid hn
        have h1 : w2 A < w2 B := by rw [wk2, wk2]; omega
        clear hn h
        go_wp2
        go_round
        case rel => exact ⟨3, by omega, by go_num, by rw [HN.out]⟩
        case measure => simp [intOf]
      · rw [if_neg (by omega), if_neg (by omega)] at hn
        have HN := Lib.hid hn
        have h1 : ¬ w2 A < w2 B := by rw [wk2, wk2]; omega
        have h2 : ¬ w2 B < w2 A := by rw [wk2, wk2]; omega
        clear hn h
        go_wp2
        go_round
        case rel => exact ⟨3, by omega, by go_num, by rw [HN.out]⟩
        case measure => simp [intOf]
      · rw [if_neg (by omega), if_pos h] at hn
        have HN := Lib.hid hn
        have h1 : ¬ w2 A < w2 B := by rw [wk2, wk2]; omega
        have h2 : w2 B < w2 A := by rw [wk2, wk2]; omega
        clear hn h
        go_wp2
        go_round
        case rel => exact ⟨3, by omega, by go_num, by rw [HN.out]⟩
        case measure => simp [intOf]
    · rcases Nat.lt_trichotomy (wk A 3) (wk B 3) with h | h | h
      · rw [if_pos h] at hn
        have HN := Lib.hid hn
        have h1 : w3 A < w3 B := by rw [wk3, wk3]; omega
        clear hn h
        go_wp2
        go_round
        case rel => exact ⟨4, by omega, by go_num, by rw [HN.out]⟩
        case measure => simp [intOf]
      · rw [if_neg (by omega), if_neg (by omega)] at hn
        have HN := Lib.hid hn
        have h1 : ¬ w3 A < w3 B := by rw [wk3, wk3]; omega
        have h2 : ¬ w3 B < w3 A := by rw [wk3, wk3]; omega
        clear hn h
        go_wp2
        go_round
        case rel => exact ⟨4, by omega, by go_num, by rw [HN.out]⟩
        case measure => simp [intOf]
      · rw [if_neg (by omega), if_pos h] at hn
        have HN := Lib.hid hn
        have h1 : ¬ w3 A < w3 B := by rw [wk3, wk3]; omega
        have h2 : w3 B < w3 A := by rw [wk3, wk3]; omega
        clear hn h
        go_wp2
        go_round
        case rel => exact ⟨4, by omega, by go_num, by rw [HN.out]⟩
        case measure => simp [intOf]
    · clear hn
      go_wp2
      go_ret
      exact ⟨by rw [← HF.out]; rfl, by go_grown⟩
end Go.Proofs.YtmmloghbnpfedaaDoor

namespace Go.Proofs.YtmmloghbnpfedaaDoor
open Go.ChangeShapes Go.WideShapes Go.ChangeAt Go.RowKit
set_option linter.unusedVariables false
theorem eqU_any (d : Nat) (a0 a1 a2 a3 b0 b1 b2 b3 : Int) (w : World) :
    (Op.equalIn (d + 2) 24 (.agg #[.int .u64 a0, .int .u64 a1, .int .u64 a2, .int .u64 a3]) (.agg #[.int .u64 b0, .int .u64 b1, .int .u64 b2, .int .u64 b3])).run Tryd.prog w
      = .ok (a0 == b0 && (a1 == b1 && (a2 == b2 && a3 == b3))) w := by
  have e : ∀ x y : Int, (Op.equalIn (d + 1) 22 (.int .u64 x) (.int .u64 y)).run Tryd.prog w = .ok (x == y) w := fun x y => run_equalIn_int w d 22 .u64 .u64 x y Tryd.underlying22
  have s : (sizeOf 22).run Tryd.prog w = .ok 1 w := by kernel_rfl
  have p0 : ∀ x y z u : Int, (part 22 #[.int .u64 x, .int .u64 y, .int .u64 z, .int .u64 u] 0).run Tryd.prog w = .ok (.int .u64 x) w := fun x y z u => by kernel_rfl
  have p1 : ∀ x y z u : Int, (part 22 #[.int .u64 x, .int .u64 y, .int .u64 z, .int .u64 u] 1).run Tryd.prog w = .ok (.int .u64 y) w := fun x y z u => by kernel_rfl
  have p2 : ∀ x y z u : Int, (part 22 #[.int .u64 x, .int .u64 y, .int .u64 z, .int .u64 u] 2).run Tryd.prog w = .ok (.int .u64 z) w := fun x y z u => by kernel_rfl
  have p3 : ∀ x y z u : Int, (part 22 #[.int .u64 x, .int .u64 y, .int .u64 z, .int .u64 u] 3).run Tryd.prog w = .ok (.int .u64 u) w := fun x y z u => by kernel_rfl
  rw [Op.equalIn]
  simp only [Sem.run_bind, run_underlying Tryd.underlying24, Result.andThen_ok, s, Std.Legacy.Range.forIn_eq_forIn_range', Std.Legacy.Range.size]
  simp only [show (4 - 0 + 1 - 1) / 1 = 4 from rfl, List.range', List.forIn_cons, List.forIn_nil]
  cases c0 : (a0 == b0)
  · simp [p0, e, c0]
  · cases c1 : (a1 == b1)
    · simp [p0, p1, e, c0, c1]
    · cases c2 : (a2 == b2)
      · simp [p0, p1, p2, e, c0, c1, c2]
      · cases c3 : (a3 == b3)
        · simp [p0, p1, p2, p3, e, c0, c1, c2, c3]
        · simp [p0, p1, p2, p3, e, c0, c1, c2, c3]
/-- In the form in which the walk asks it. -/
theorem eqU (a0 a1 a2 a3 b0 b1 b2 b3 : Int) (w : World) :
    (Op.equalIn 10000 24 (.agg #[.int .u64 a0, .int .u64 a1, .int .u64 a2, .int .u64 a3]) (.agg #[.int .u64 b0, .int .u64 b1, .int .u64 b2, .int .u64 b3])).run Tryd.prog w
      = .ok (a0 == b0 && (a1 == b1 && (a2 == b2 && a3 == b3))) w := eqU_any 9998 a0 a1 a2 a3 b0 b1 b2 b3 w
end Go.Proofs.YtmmloghbnpfedaaDoor

namespace Go.Proofs.YtmmloghbnpfedaaDoor
open Go Go.RowKit
set_option linter.unusedVariables false
theorem add_fn (A B : Nat) (hA : A < big) (hB : B < big) : Fn Tryd.prog 84 #[uv A, uv B] (.tuple #[uv (sm A B), .bool (ov A B)]) := add_any A B hA hB
theorem sub_fn (A B : Nat) (hA : A < big) (hB : B < big) : Fn Tryd.prog 54 #[uv A, uv B] (.tuple #[uv (df A B), .bool (lo A B)]) := sub_any A B hA hB
theorem mul_fn (A B : Nat) (hA : A < big) (hB : B < big) : Fn Tryd.prog 83 #[uv A, uv B] (.tuple #[uv (pl A B), uv (ph A B)]) := mul_any A B hA hB
theorem cmp_fn (A B : Nat) (hA : A < big) (hB : B < big) : Fn Tryd.prog 61 #[uv A, uv B] (.int .i64 (cm A B)) := cmp_any A B hA hB
theorem small_fn (n : Nat) (h : n < 18446744073709551616) : Fn Tryd.prog 55 #[.int .u64 (n : Int)] (uv n) := fun w => (small_any n w).mono fun e w' ⟨he, hb⟩ => ⟨by
  rw [he]
  have e0 : w0 n = (n : Int) := by unfold w0; omega
  have e1 : w1 n = 0 := by unfold w1; omega
  have e2 : w2 n = 0 := by unfold w2; omega
  have e3 : w3 n = 0 := by unfold w3; omega
  unfold uv; rw [e0, e1, e2, e3], hb⟩
theorem bit_fn (A : Nat) (i : Int) : Fn Tryd.prog 81 #[uv A, .int .i64 i] (.bool (bt A i)) := bit_any A i
theorem len_fn (A : Nat) (hA : A < big) : Fn Tryd.prog 87 #[uv A] (.int .i64 (len A : Int)) := fun w => by
  have := len_any A w
  rwa [lenOf_eq A hA] at this
theorem uv_words {A B : Nat} (hA : A < big) (hB : B < big) : (w0 A == w0 B && (w1 A == w1 B && (w2 A == w2 B && w3 A == w3 B))) = decide (A = B) := by
  rw [Bool.eq_iff_iff]
  simp only [Bool.and_eq_true, beq_iff_eq, decide_eq_true_eq]
  exact ⟨fun ⟨a, b, c, d⟩ => words_inj hA hB a b c d, fun h => by subst h; exact ⟨rfl, rfl, rfl, rfl⟩⟩
/-- '==' of two numbers. -/
theorem eqU_run {ρ : Env} (A B : Nat) (hA : A < big) (hB : B < big) {x y : Operand} {o : Oper} (w : World) (ho : o.op = .binOp .eql 24 x y 24) (hx : ev ρ x = uv A) (hy : ev ρ y = uv B) :
    (execOp (ev ρ) o).run Tryd.prog w = .ok (.value (.bool (decide (A = B)))) w := by
  have q := eqU
  unfold execOp
  simp only [ho, hx, hy]
  go_simp
  exact uv_words hA hB
theorem neU_run {ρ : Env} (A B : Nat) (hA : A < big) (hB : B < big) {x y : Operand} {o : Oper} (w : World) (ho : o.op = .binOp .neq 24 x y 24) (hx : ev ρ x = uv A) (hy : ev ρ y = uv B) :
    (execOp (ev ρ) o).run Tryd.prog w = .ok (.value (.bool (!decide (A = B)))) w := by
  have q := eqU
  have e := uv_words hA hB
  unfold execOp
  simp only [ho, hx, hy]
  go_simp
end Go.Proofs.YtmmloghbnpfedaaDoor

namespace Go.Proofs.YtmmloghbnpfedaaDoor
open Go Go.RowKit
set_option linter.unusedVariables false
theorem cm_ge {A B : Nat} (h : B ≤ A) : cm A B ≥ 0 := by unfold cm; split <;> (try split) <;> omega
theorem cm_nge {A B : Nat} (h : ¬ B ≤ A) : ¬ cm A B ≥ 0 := by unfold cm; split <;> (try split) <;> omega
set_option maxRecDepth 100000 in
theorem rest_fn (L H M : Nat) (hL : L < big) (hH : H < big) (hM : MOK M) : Fn Tryd.prog 53 #[uv L, uv H, uv M] (uv (rs L H M)) := by
  refine Fn.intro (c := codeOf Tryd.f53) [.cell 6 24] 54 Tryd.func53 kr kr kr fun w => ?_
  have H0 := St.start w
  refine g_sreg [0, 1, 2, 3] kr kr ?_
  refine s_box H0 (some 3) 24 (.tmp 0) (uv L) kr kr kr ?_
  intro b1 w1 H1; clear H0
  refine s_box H1 (some 4) 24 (.tmp 1) (uv H) kr kr kr ?_
  intro b2 w2 H2; clear H1
  refine s_box H2 (some 5) 24 (.tmp 2) (uv M) kr kr kr ?_
  intro b3 w3 H3; clear H2
  refine s_alloc H3 (some 6) 24 (.agg #[.int .u64 0, .int .u64 0, .int .u64 0, .int .u64 0]) kr kr kr ?_
  intro b4 w4 H4; clear H3
  refine s_nil ?_
  refine g_sreg [0, 1, 2, 3, 4, 5, 6, 7, 8] kr kr ?_
  refine s_val (some 14) (.agg #[.int .u64 0, .int .u64 0, .int .u64 0, .int .u64 0]) (fun w => by kernel_rfl) kr ?_
  refine s_load H4 (some 15) 24 (.tmp 5) 1 b3 (Value.cells (uv M)) 24 (0, 0) kr kr kr kr kr ?_
  refine s_call H4 (some 16) 54 #[.agg #[.int .u64 0, .int .u64 0, .int .u64 0, .int .u64 0], uv M] (.tuple #[uv (df 0 M), .bool (lo 0 M)]) (sub_fn 0 M (by unfold big; omega) hM.1) (fun w => by kernel_rfl) kr ?_
  intro w5 H5; clear H4
  refine s_val (some 13) (.tuple #[uv (df 0 M), .bool (lo 0 M)]) (fun w => by kernel_rfl) kr ?_
  refine s_val (some 17) (uv (df 0 M)) (fun w => by kernel_rfl) kr ?_
  refine s_val (some 18) (.bool (lo 0 M)) (fun w => by kernel_rfl) kr ?_
  refine s_alloc H5 (some 7) 24 (.agg #[.int .u64 0, .int .u64 0, .int .u64 0, .int .u64 0]) kr kr kr ?_
  intro b5 w6 H6; clear H5
  refine s_store H6 0 [(b5, Obj.cells (Value.cells (uv (df 0 M))) 24 (0, 0)), (b4, Obj.cells #[.int .u64 0, .int .u64 0, .int .u64 0, .int .u64 0] 24 (0, 0)), (b3, Obj.cells (Value.cells (uv M)) 24 (0, 0)), (b2, Obj.cells (Value.cells (uv H)) 24 (0, 0)), (b1, Obj.cells (Value.cells (uv L)) 24 (0, 0))] 24 (.tmp 7) (.tmp 17) b5 0 #[.int .u64 0, .int .u64 0, .int .u64 0, .int .u64 0] (Value.cells (uv (df 0 M))) 24 (uv (df 0 M)) kr kr kr kr kr kr (of_decide_eq_true kr) kr kr ?_
  intro w7 H7; clear H6
  refine s_val (some 8) (.bool (lo 0 M)) (fun w => by kernel_rfl) kr ?_
  refine s_nil ?_
  refine g_seq kr ?_
  refine g_block 0 kr ?_
  refine g_loop kr (fun m ρ x => ∃ (l : Nat) (h : Nat), l + big * h = m ∧ (l < big) ∧ (h < big) ∧ ((l + big * h) % M = rs L H M) ∧ St w.heap.size w x [(b5, Obj.cells (Value.cells (uv (df 0 M))) 24 (0, 0)), (b4, Obj.cells #[.int .u64 0, .int .u64 0, .int .u64 0, .int .u64 0] 24 (0, 0)), (b3, Obj.cells (Value.cells (uv M)) 24 (0, 0)), (b2, Obj.cells (Value.cells (uv h)) 24 (0, 0)), (b1, Obj.cells (Value.cells (uv l)) 24 (0, 0))] ∧ Is [(0, uv L), (1, uv H), (2, uv M), (3, .pointer (some ⟨b1, 0, none⟩)), (4, .pointer (some ⟨b2, 0, none⟩)), (5, .pointer (some ⟨b3, 0, none⟩)), (6, .pointer (some ⟨b4, 0, none⟩)), (7, .pointer (some ⟨b5, 0, none⟩))] ρ) (L + big * H) ⟨L, H, rfl, hL, hH, rfl, H7, (Is.of ⟨kr, kr, kr, kr, kr, kr, kr, kr, trivial⟩)⟩ ?_
  clear H7
  rintro _ _ w8 ⟨l, h, rfl, hl, hh, hm, H8, _, rfl⟩
  refine g_seq kr ?_
  refine g_sreg [0, 1, 2] kr kr ?_
  refine s_load H8 (some 19) 24 (.tmp 4) 3 b2 (Value.cells (uv h)) 24 (0, 0) kr kr kr kr kr ?_
  refine s_val (some 20) (.agg #[.int .u64 0, .int .u64 0, .int .u64 0, .int .u64 0]) (fun w => by kernel_rfl) kr ?_
  by_cases hne : h = 0
  · skip
    refine s_opE (some 21) _ (.bool (!decide (h = 0))) (.bool false) kr (fun o w ho => neU_run (x := (.tmp 19)) (y := (.tmp 20)) h 0 hh (by unfold big; omega) w ho kr kr) (by rw [decide_eq_true hne]; rfl) kr ?_
    have hm0 : (l + big * 0) % M = rs L H M := by rw [hne] at hm; exact hm
    refine s_nil ?_
    refine g_cond_f kr kr ?_
    refine g_exit 0 kr ?_
    show WP _ _ _ _ _ _
    refine g_seq kr ?_
    refine g_sreg [0, 1, 2, 3] kr kr ?_
    refine s_load H8 (some 43) 24 (.tmp 3) 4 b1 (Value.cells (uv l)) 24 (0, 0) kr kr kr kr kr ?_
    refine s_load H8 (some 44) 24 (.tmp 5) 2 b3 (Value.cells (uv M)) 24 (0, 0) kr kr kr kr kr ?_
    refine s_call H8 (some 45) 61 #[uv l, uv M] (.int .i64 (cm l M)) (cmp_fn l M hl hM.1) (fun w => by kernel_rfl) kr ?_
    intro w9 H9; clear H8
    by_cases hc : M ≤ l
    · skip
      refine s_valE (some 46) (.bool (decide (0 ≤ cm l M))) (.bool true) (fun w => by kernel_rfl) (bool_eq (decide_eq_true (cm_ge hc))) kr ?_
      refine s_nil ?_
      refine g_cond_t kr kr ?_
      refine g_reg0 [0, 1, 2, 3, 4, 5, 6] kr ?_
      refine s_load H9 (some 48) 24 (.tmp 3) 4 b1 (Value.cells (uv l)) 24 (0, 0) kr kr kr kr kr ?_
      refine s_load H9 (some 49) 24 (.tmp 5) 2 b3 (Value.cells (uv M)) 24 (0, 0) kr kr kr kr kr ?_
      refine s_call H9 (some 50) 54 #[uv l, uv M] (.tuple #[uv (df l M), .bool (lo l M)]) (sub_fn l M hl hM.1) (fun w => by kernel_rfl) kr ?_
      intro w10 H10; clear H9
      refine s_val (some 47) (.tuple #[uv (df l M), .bool (lo l M)]) (fun w => by kernel_rfl) kr ?_
      refine s_val (some 51) (uv (df l M)) (fun w => by kernel_rfl) kr ?_
      refine s_val (some 52) (.bool (lo l M)) (fun w => by kernel_rfl) kr ?_
      refine s_store H10 4 [(b5, Obj.cells (Value.cells (uv (df 0 M))) 24 (0, 0)), (b4, Obj.cells #[.int .u64 0, .int .u64 0, .int .u64 0, .int .u64 0] 24 (0, 0)), (b3, Obj.cells (Value.cells (uv M)) 24 (0, 0)), (b2, Obj.cells (Value.cells (uv h)) 24 (0, 0)), (b1, Obj.cells (Value.cells (uv (df l M))) 24 (0, 0))] 24 (.tmp 3) (.tmp 51) b1 0 (Value.cells (uv l)) (Value.cells (uv (df l M))) 24 (uv (df l M)) kr kr kr kr kr kr (of_decide_eq_true kr) kr kr ?_
      intro w11 H11; clear H10
      refine s_nil ?_
      show WP _ _ _ _ _ _
      refine g_sreg [0, 1] kr kr ?_
      refine s_load H11 (some 53) 24 (.tmp 3) 4 b1 (Value.cells (uv (df l M))) 24 (0, 0) kr kr kr kr kr ?_
      refine s_store H11 1 [(b5, Obj.cells (Value.cells (uv (df 0 M))) 24 (0, 0)), (b4, Obj.cells (Value.cells (uv (df l M))) 24 (0, 0)), (b3, Obj.cells (Value.cells (uv M)) 24 (0, 0)), (b2, Obj.cells (Value.cells (uv h)) 24 (0, 0)), (b1, Obj.cells (Value.cells (uv (df l M))) 24 (0, 0))] 24 (.tmp 6) (.tmp 53) b4 0 #[.int .u64 0, .int .u64 0, .int .u64 0, .int .u64 0] (Value.cells (uv (df l M))) 24 (uv (df l M)) kr kr kr kr kr kr (of_decide_eq_true kr) kr kr ?_
      intro w12 H12; clear H11
      refine s_nil ?_
      refine g_ret kr ?_
      show ∃ vs, Res _ _ _ _ vs ∧ _
      refine ⟨[uv (df l M)], (.agg (b := b4) (Value.cells (uv (df l M))) 24 (0, 0) kr (H12.get 1 kr) kr .nil), ?_, H12.below⟩
      exact congrArg uv (fold_end1 hM hl hm0 hc)
    · skip
      refine s_valE (some 46) (.bool (decide (0 ≤ cm l M))) (.bool false) (fun w => by kernel_rfl) (bool_eq (decide_eq_false (cm_nge hc))) kr ?_
      refine s_nil ?_
      refine g_cond_f kr kr ?_
      refine g_skip kr ?_
      show WP _ _ _ _ _ _
      refine g_sreg [0, 1] kr kr ?_
      refine s_load H9 (some 53) 24 (.tmp 3) 4 b1 (Value.cells (uv l)) 24 (0, 0) kr kr kr kr kr ?_
      refine s_store H9 1 [(b5, Obj.cells (Value.cells (uv (df 0 M))) 24 (0, 0)), (b4, Obj.cells (Value.cells (uv l)) 24 (0, 0)), (b3, Obj.cells (Value.cells (uv M)) 24 (0, 0)), (b2, Obj.cells (Value.cells (uv h)) 24 (0, 0)), (b1, Obj.cells (Value.cells (uv l)) 24 (0, 0))] 24 (.tmp 6) (.tmp 53) b4 0 #[.int .u64 0, .int .u64 0, .int .u64 0, .int .u64 0] (Value.cells (uv l)) 24 (uv l) kr kr kr kr kr kr (of_decide_eq_true kr) kr kr ?_
      intro w13 H13; clear H9
      refine s_nil ?_
      refine g_ret kr ?_
      show ∃ vs, Res _ _ _ _ vs ∧ _
      refine ⟨[uv l], (.agg (b := b4) (Value.cells (uv l)) 24 (0, 0) kr (H13.get 1 kr) kr .nil), ?_, H13.below⟩
      exact congrArg uv (fold_end2 hm0 hc)
  · skip
    refine s_opE (some 21) _ (.bool (!decide (h = 0))) (.bool true) kr (fun o w ho => neU_run (x := (.tmp 19)) (y := (.tmp 20)) h 0 hh (by unfold big; omega) w ho kr kr) (by rw [decide_eq_false hne]; rfl) kr ?_
    refine s_nil ?_
    refine g_cond_t kr kr ?_
    refine g_skip kr ?_
    show WP _ _ _ _ _ _
    refine g_block 1 kr ?_
    refine g_sreg [0, 1, 2, 3, 4, 5, 6, 7, 8, 9] kr kr ?_
    refine s_load H8 (some 23) 24 (.tmp 4) 3 b2 (Value.cells (uv h)) 24 (0, 0) kr kr kr kr kr ?_
    refine s_load H8 (some 24) 24 (.tmp 7) 0 b5 (Value.cells (uv (df 0 M))) 24 (0, 0) kr kr kr kr kr ?_
    refine s_call H8 (some 25) 83 #[uv h, uv (df 0 M)] (.tuple #[uv (pl h (df 0 M)), uv (ph h (df 0 M))]) (mul_fn h (df 0 M) hh (df_lt _ _)) (fun w => by kernel_rfl) kr ?_
    intro w14 H14; clear H8
    refine s_val (some 22) (.tuple #[uv (pl h (df 0 M)), uv (ph h (df 0 M))]) (fun w => by kernel_rfl) kr ?_
    refine s_val (some 26) (uv (pl h (df 0 M))) (fun w => by kernel_rfl) kr ?_
    refine s_val (some 27) (uv (ph h (df 0 M))) (fun w => by kernel_rfl) kr ?_
    refine s_alloc H14 (some 9) 24 (.agg #[.int .u64 0, .int .u64 0, .int .u64 0, .int .u64 0]) kr kr kr ?_
    intro b6 w15 H15; clear H14
    refine s_alloc H15 (some 10) 24 (.agg #[.int .u64 0, .int .u64 0, .int .u64 0, .int .u64 0]) kr kr kr ?_
    intro b7 w16 H16; clear H15
    refine s_store H16 1 [(b7, Obj.cells #[.int .u64 0, .int .u64 0, .int .u64 0, .int .u64 0] 24 (0, 0)), (b6, Obj.cells (Value.cells (uv (pl h (df 0 M)))) 24 (0, 0)), (b5, Obj.cells (Value.cells (uv (df 0 M))) 24 (0, 0)), (b4, Obj.cells #[.int .u64 0, .int .u64 0, .int .u64 0, .int .u64 0] 24 (0, 0)), (b3, Obj.cells (Value.cells (uv M)) 24 (0, 0)), (b2, Obj.cells (Value.cells (uv h)) 24 (0, 0)), (b1, Obj.cells (Value.cells (uv l)) 24 (0, 0))] 24 (.tmp 9) (.tmp 26) b6 0 #[.int .u64 0, .int .u64 0, .int .u64 0, .int .u64 0] (Value.cells (uv (pl h (df 0 M)))) 24 (uv (pl h (df 0 M))) kr kr kr kr kr kr (of_decide_eq_true kr) kr kr ?_
    intro w17 H17; clear H16
    refine s_store H17 0 [(b7, Obj.cells (Value.cells (uv (ph h (df 0 M)))) 24 (0, 0)), (b6, Obj.cells (Value.cells (uv (pl h (df 0 M)))) 24 (0, 0)), (b5, Obj.cells (Value.cells (uv (df 0 M))) 24 (0, 0)), (b4, Obj.cells #[.int .u64 0, .int .u64 0, .int .u64 0, .int .u64 0] 24 (0, 0)), (b3, Obj.cells (Value.cells (uv M)) 24 (0, 0)), (b2, Obj.cells (Value.cells (uv h)) 24 (0, 0)), (b1, Obj.cells (Value.cells (uv l)) 24 (0, 0))] 24 (.tmp 10) (.tmp 27) b7 0 #[.int .u64 0, .int .u64 0, .int .u64 0, .int .u64 0] (Value.cells (uv (ph h (df 0 M)))) 24 (uv (ph h (df 0 M))) kr kr kr kr kr kr (of_decide_eq_true kr) kr kr ?_
    intro w18 H18; clear H17
    refine s_nil ?_
    refine g_sreg [0, 1, 2, 3, 4, 5, 6, 7, 8] kr kr ?_
    refine s_load H18 (some 29) 24 (.tmp 3) 6 b1 (Value.cells (uv l)) 24 (0, 0) kr kr kr kr kr ?_
    refine s_load H18 (some 30) 24 (.tmp 9) 1 b6 (Value.cells (uv (pl h (df 0 M)))) 24 (0, 0) kr kr kr kr kr ?_
    refine s_call H18 (some 31) 84 #[uv l, uv (pl h (df 0 M))] (.tuple #[uv (sm l (pl h (df 0 M))), .bool (ov l (pl h (df 0 M)))]) (add_fn l (pl h (df 0 M)) hl (pl_lt _ _)) (fun w => by kernel_rfl) kr ?_
    intro w19 H19; clear H18
    refine s_val (some 28) (.tuple #[uv (sm l (pl h (df 0 M))), .bool (ov l (pl h (df 0 M)))]) (fun w => by kernel_rfl) kr ?_
    refine s_val (some 32) (uv (sm l (pl h (df 0 M)))) (fun w => by kernel_rfl) kr ?_
    refine s_val (some 33) (.bool (ov l (pl h (df 0 M)))) (fun w => by kernel_rfl) kr ?_
    refine s_alloc H19 (some 11) 24 (.agg #[.int .u64 0, .int .u64 0, .int .u64 0, .int .u64 0]) kr kr kr ?_
    intro b8 w20 H20; clear H19
    refine s_store H20 0 [(b8, Obj.cells (Value.cells (uv (sm l (pl h (df 0 M))))) 24 (0, 0)), (b7, Obj.cells (Value.cells (uv (ph h (df 0 M)))) 24 (0, 0)), (b6, Obj.cells (Value.cells (uv (pl h (df 0 M)))) 24 (0, 0)), (b5, Obj.cells (Value.cells (uv (df 0 M))) 24 (0, 0)), (b4, Obj.cells #[.int .u64 0, .int .u64 0, .int .u64 0, .int .u64 0] 24 (0, 0)), (b3, Obj.cells (Value.cells (uv M)) 24 (0, 0)), (b2, Obj.cells (Value.cells (uv h)) 24 (0, 0)), (b1, Obj.cells (Value.cells (uv l)) 24 (0, 0))] 24 (.tmp 11) (.tmp 32) b8 0 #[.int .u64 0, .int .u64 0, .int .u64 0, .int .u64 0] (Value.cells (uv (sm l (pl h (df 0 M))))) 24 (uv (sm l (pl h (df 0 M)))) kr kr kr kr kr kr (of_decide_eq_true kr) kr kr ?_
    intro w21 H21; clear H20
    refine s_val (some 12) (.bool (ov l (pl h (df 0 M)))) (fun w => by kernel_rfl) kr ?_
    refine s_nil ?_
    refine g_sdraw [0, 1, 2, 3] [((some 34), fun _ => uv (sm l (pl h (df 0 M)))), ((some 35), fun _ => uv (ph h (df 0 M))), (none, fun _ => undef), (none, fun _ => undef)] (fun L g x => St w.heap.size w x ([(b8, Obj.cells (Value.cells (uv (sm l (pl h (df 0 M))))) 24 (0, 0)), (b7, Obj.cells (Value.cells (uv (ph h (df 0 M)))) 24 (0, 0)), (b6, Obj.cells (Value.cells (uv (pl h (df 0 M)))) 24 (0, 0)), (b5, Obj.cells (Value.cells (uv (df 0 M))) 24 (0, 0)), (b4, Obj.cells #[.int .u64 0, .int .u64 0, .int .u64 0, .int .u64 0] 24 (0, 0)), (b3, Obj.cells (Value.cells (uv M)) 24 (0, 0)), (b2, (bif L 3 then Obj.cells (Value.cells (uv (ph h (df 0 M)))) 24 (0, 0) else Obj.cells (Value.cells (uv h)) 24 (0, 0))), (b1, (bif L 2 then Obj.cells (Value.cells (uv (sm l (pl h (df 0 M))))) 24 (0, 0) else Obj.cells (Value.cells (uv l)) 24 (0, 0)))])) kr kr kr kr (H21.drew) ⟨?_, ?_, ?_, ?_, trivial⟩ ?_
    · exact gv_load 24 (.tmp 11) (fun _ => 0) (fun g => b8) (Value.cells (uv (sm l (pl h (df 0 M))))) 24 (0, 0) (fun _ _ _ h => h) (fun g => by kernel_rfl) (fun g => by kernel_rfl) (fun L g _ => by kernel_rfl) kr
    · exact gv_load 24 (.tmp 10) (fun _ => 1) (fun g => b7) (Value.cells (uv (ph h (df 0 M)))) 24 (0, 0) (fun _ _ _ h => h) (fun g => by kernel_rfl) (fun g => by kernel_rfl) (fun L g _ => by kernel_rfl) kr
    · exact gv_store (fun _ => 7) 24 (.tmp 3) (.tmp 34) (fun g => b1) 0 (Value.cells (uv l)) (Value.cells (uv (sm l (pl h (df 0 M))))) 24 (uv (sm l (pl h (df 0 M)))) (fun g => by kernel_rfl) (fun g => by kernel_rfl) (fun g => by kernel_rfl) kr kr (of_decide_eq_true kr) kr (fun L g hN => by (have hs2 : L 2 = false := hN.1; show ([(b8, Obj.cells (Value.cells (uv (sm l (pl h (df 0 M))))) 24 (0, 0)), (b7, Obj.cells (Value.cells (uv (ph h (df 0 M)))) 24 (0, 0)), (b6, Obj.cells (Value.cells (uv (pl h (df 0 M)))) 24 (0, 0)), (b5, Obj.cells (Value.cells (uv (df 0 M))) 24 (0, 0)), (b4, Obj.cells #[.int .u64 0, .int .u64 0, .int .u64 0, .int .u64 0] 24 (0, 0)), (b3, Obj.cells (Value.cells (uv M)) 24 (0, 0)), (b2, (bif L 3 then Obj.cells (Value.cells (uv (ph h (df 0 M)))) 24 (0, 0) else Obj.cells (Value.cells (uv h)) 24 (0, 0))), (b1, (bif L 2 then Obj.cells (Value.cells (uv (sm l (pl h (df 0 M))))) 24 (0, 0) else Obj.cells (Value.cells (uv l)) 24 (0, 0)))])[(fun _ => 7) L]? = some (b1, Obj.cells (Value.cells (uv l)) 24 (0, 0)) ∧ ([(b8, Obj.cells (Value.cells (uv (sm l (pl h (df 0 M))))) 24 (0, 0)), (b7, Obj.cells (Value.cells (uv (ph h (df 0 M)))) 24 (0, 0)), (b6, Obj.cells (Value.cells (uv (pl h (df 0 M)))) 24 (0, 0)), (b5, Obj.cells (Value.cells (uv (df 0 M))) 24 (0, 0)), (b4, Obj.cells #[.int .u64 0, .int .u64 0, .int .u64 0, .int .u64 0] 24 (0, 0)), (b3, Obj.cells (Value.cells (uv M)) 24 (0, 0)), (b2, (bif L 3 then Obj.cells (Value.cells (uv (ph h (df 0 M)))) 24 (0, 0) else Obj.cells (Value.cells (uv h)) 24 (0, 0))), (b1, (bif L 2 then Obj.cells (Value.cells (uv (sm l (pl h (df 0 M))))) 24 (0, 0) else Obj.cells (Value.cells (uv l)) 24 (0, 0)))]).set ((fun _ => 7) L) (b1, Obj.cells (Value.cells (uv (sm l (pl h (df 0 M))))) 24 (0, 0)) = ([(b8, Obj.cells (Value.cells (uv (sm l (pl h (df 0 M))))) 24 (0, 0)), (b7, Obj.cells (Value.cells (uv (ph h (df 0 M)))) 24 (0, 0)), (b6, Obj.cells (Value.cells (uv (pl h (df 0 M)))) 24 (0, 0)), (b5, Obj.cells (Value.cells (uv (df 0 M))) 24 (0, 0)), (b4, Obj.cells #[.int .u64 0, .int .u64 0, .int .u64 0, .int .u64 0] 24 (0, 0)), (b3, Obj.cells (Value.cells (uv M)) 24 (0, 0)), (b2, (bif L 3 then Obj.cells (Value.cells (uv (ph h (df 0 M)))) 24 (0, 0) else Obj.cells (Value.cells (uv h)) 24 (0, 0))), (b1, (bif true then Obj.cells (Value.cells (uv (sm l (pl h (df 0 M))))) 24 (0, 0) else Obj.cells (Value.cells (uv l)) 24 (0, 0)))]); rw [hs2]; exact ⟨rfl, rfl⟩))
    · exact gv_store (fun _ => 6) 24 (.tmp 4) (.tmp 35) (fun g => b2) 0 (Value.cells (uv h)) (Value.cells (uv (ph h (df 0 M)))) 24 (uv (ph h (df 0 M))) (fun g => by kernel_rfl) (fun g => by kernel_rfl) (fun g => by kernel_rfl) kr kr (of_decide_eq_true kr) kr (fun L g hN => by (have hs3 : L 3 = false := hN.1; show ([(b8, Obj.cells (Value.cells (uv (sm l (pl h (df 0 M))))) 24 (0, 0)), (b7, Obj.cells (Value.cells (uv (ph h (df 0 M)))) 24 (0, 0)), (b6, Obj.cells (Value.cells (uv (pl h (df 0 M)))) 24 (0, 0)), (b5, Obj.cells (Value.cells (uv (df 0 M))) 24 (0, 0)), (b4, Obj.cells #[.int .u64 0, .int .u64 0, .int .u64 0, .int .u64 0] 24 (0, 0)), (b3, Obj.cells (Value.cells (uv M)) 24 (0, 0)), (b2, (bif L 3 then Obj.cells (Value.cells (uv (ph h (df 0 M)))) 24 (0, 0) else Obj.cells (Value.cells (uv h)) 24 (0, 0))), (b1, (bif L 2 then Obj.cells (Value.cells (uv (sm l (pl h (df 0 M))))) 24 (0, 0) else Obj.cells (Value.cells (uv l)) 24 (0, 0)))])[(fun _ => 6) L]? = some (b2, Obj.cells (Value.cells (uv h)) 24 (0, 0)) ∧ ([(b8, Obj.cells (Value.cells (uv (sm l (pl h (df 0 M))))) 24 (0, 0)), (b7, Obj.cells (Value.cells (uv (ph h (df 0 M)))) 24 (0, 0)), (b6, Obj.cells (Value.cells (uv (pl h (df 0 M)))) 24 (0, 0)), (b5, Obj.cells (Value.cells (uv (df 0 M))) 24 (0, 0)), (b4, Obj.cells #[.int .u64 0, .int .u64 0, .int .u64 0, .int .u64 0] 24 (0, 0)), (b3, Obj.cells (Value.cells (uv M)) 24 (0, 0)), (b2, (bif L 3 then Obj.cells (Value.cells (uv (ph h (df 0 M)))) 24 (0, 0) else Obj.cells (Value.cells (uv h)) 24 (0, 0))), (b1, (bif L 2 then Obj.cells (Value.cells (uv (sm l (pl h (df 0 M))))) 24 (0, 0) else Obj.cells (Value.cells (uv l)) 24 (0, 0)))]).set ((fun _ => 6) L) (b2, Obj.cells (Value.cells (uv (ph h (df 0 M)))) 24 (0, 0)) = ([(b8, Obj.cells (Value.cells (uv (sm l (pl h (df 0 M))))) 24 (0, 0)), (b7, Obj.cells (Value.cells (uv (ph h (df 0 M)))) 24 (0, 0)), (b6, Obj.cells (Value.cells (uv (pl h (df 0 M)))) 24 (0, 0)), (b5, Obj.cells (Value.cells (uv (df 0 M))) 24 (0, 0)), (b4, Obj.cells #[.int .u64 0, .int .u64 0, .int .u64 0, .int .u64 0] 24 (0, 0)), (b3, Obj.cells (Value.cells (uv M)) 24 (0, 0)), (b2, (bif true then Obj.cells (Value.cells (uv (ph h (df 0 M)))) 24 (0, 0) else Obj.cells (Value.cells (uv h)) 24 (0, 0))), (b1, (bif L 2 then Obj.cells (Value.cells (uv (sm l (pl h (df 0 M))))) 24 (0, 0) else Obj.cells (Value.cells (uv l)) 24 (0, 0)))]); rw [hs3]; exact ⟨rfl, rfl⟩))
    intro L0 g22 w22 hall HL; clear H21
    have H22 : St w.heap.size w w22 [(b8, Obj.cells (Value.cells (uv (sm l (pl h (df 0 M))))) 24 (0, 0)), (b7, Obj.cells (Value.cells (uv (ph h (df 0 M)))) 24 (0, 0)), (b6, Obj.cells (Value.cells (uv (pl h (df 0 M)))) 24 (0, 0)), (b5, Obj.cells (Value.cells (uv (df 0 M))) 24 (0, 0)), (b4, Obj.cells #[.int .u64 0, .int .u64 0, .int .u64 0, .int .u64 0] 24 (0, 0)), (b3, Obj.cells (Value.cells (uv M)) 24 (0, 0)), (b2, Obj.cells (Value.cells (uv (ph h (df 0 M)))) 24 (0, 0)), (b1, Obj.cells (Value.cells (uv (sm l (pl h (df 0 M))))) 24 (0, 0))] := by have e2 := hall 2 (Nat.le_of_ble_eq_true kr); have e3 := hall 3 (Nat.le_of_ble_eq_true kr); simp only [e2, e3, cond_true] at HL; exact HL
    clear HL hall
    refine g_sreg [0] kr kr ?_
    obtain ⟨h', hh1, hh2, hfold⟩ := fold_next hM hl hh hne
    cases hov : ov l (pl h (df 0 M))
    · skip
      rw [hov] at hh1; simp only [Bool.false_eq_true, if_false] at hh1; subst hh1
      refine s_val (some 36) (.bool false) (fun w => by kernel_rfl) kr ?_
      refine s_nil ?_
      refine g_cond_f kr kr ?_
      refine g_skip kr ?_
      have HD1 : St w.heap.size w w22 [(b5, Obj.cells (Value.cells (uv (df 0 M))) 24 (0, 0)), (b4, Obj.cells #[.int .u64 0, .int .u64 0, .int .u64 0, .int .u64 0] 24 (0, 0)), (b3, Obj.cells (Value.cells (uv M)) 24 (0, 0)), (b2, Obj.cells (Value.cells (uv (ph h (df 0 M)))) 24 (0, 0)), (b1, Obj.cells (Value.cells (uv (sm l (pl h (df 0 M))))) 24 (0, 0))] := H22.sub (List.Sublist.cons _ (List.Sublist.cons _ (List.Sublist.cons _ (List.Sublist.cons_cons _ (List.Sublist.cons_cons _ (List.Sublist.cons_cons _ (List.Sublist.cons_cons _ (List.Sublist.cons_cons _ List.Sublist.slnil))))))))
      show ∃ m, _ ∧ _
      exact ⟨_, (fold_less hM hne hfold), (sm l (pl h (df 0 M))), (ph h (df 0 M)), rfl, (sm_lt _ _), hh2, (fold_mod hfold hm), HD1, (Is.of ⟨kr, kr, kr, kr, kr, kr, kr, kr, trivial⟩)⟩
    · skip
      rw [hov] at hh1; simp only [if_true] at hh1; subst hh1
      refine s_val (some 36) (.bool true) (fun w => by kernel_rfl) kr ?_
      refine s_nil ?_
      refine g_cond_t kr kr ?_
      refine g_draw0 [0, 1, 2, 3, 4, 5, 6] [((some 38), fun _ => uv (ph h (df 0 M))), ((some 39), fun _ => uv 1), ((some 40), fun _ => .tuple #[uv (sm (ph h (df 0 M)) 1), .bool (ov (ph h (df 0 M)) 1)]), ((some 37), fun _ => .tuple #[uv (sm (ph h (df 0 M)) 1), .bool (ov (ph h (df 0 M)) 1)]), ((some 41), fun _ => uv (sm (ph h (df 0 M)) 1)), ((some 42), fun _ => .bool (ov (ph h (df 0 M)) 1)), (none, fun _ => undef)] (fun L g x => St w.heap.size w x ([(b8, Obj.cells (Value.cells (uv (sm l (pl h (df 0 M))))) 24 (0, 0)), (b7, Obj.cells (Value.cells (uv (ph h (df 0 M)))) 24 (0, 0)), (b6, Obj.cells (Value.cells (uv (pl h (df 0 M)))) 24 (0, 0)), (b5, Obj.cells (Value.cells (uv (df 0 M))) 24 (0, 0)), (b4, Obj.cells #[.int .u64 0, .int .u64 0, .int .u64 0, .int .u64 0] 24 (0, 0)), (b3, Obj.cells (Value.cells (uv M)) 24 (0, 0)), (b2, (bif L 6 then Obj.cells (Value.cells (uv (sm (ph h (df 0 M)) 1))) 24 (0, 0) else Obj.cells (Value.cells (uv (ph h (df 0 M)))) 24 (0, 0))), (b1, Obj.cells (Value.cells (uv (sm l (pl h (df 0 M))))) 24 (0, 0))])) kr kr kr (H22.drew) ⟨?_, ?_, ?_, ?_, ?_, ?_, ?_, trivial⟩ ?_
      · exact gv_load 24 (.tmp 10) (fun _ => 1) (fun g => b7) (Value.cells (uv (ph h (df 0 M)))) 24 (0, 0) (fun _ _ _ h => h) (fun g => by kernel_rfl) (fun g => by kernel_rfl) (fun L g _ => by kernel_rfl) kr
      · exact gv_call 55 #[.int .u64 1] (fun _ _ _ h => h) (small_fn 1 (by omega)) (fun g w => by kernel_rfl)
      · exact gv_call 84 #[uv (ph h (df 0 M)), uv 1] (fun _ _ _ h => h) (add_fn (ph h (df 0 M)) 1 (ph_lt hh (df_lt _ _)) (by unfold big; omega)) (fun g w => by kernel_rfl)
      · exact gv_val (fun _ _ _ h => h) (fun g w => by kernel_rfl)
      · exact gv_val (fun _ _ _ h => h) (fun g w => by kernel_rfl)
      · exact gv_val (fun _ _ _ h => h) (fun g w => by kernel_rfl)
      · exact gv_store (fun _ => 6) 24 (.tmp 4) (.tmp 41) (fun g => b2) 0 (Value.cells (uv (ph h (df 0 M)))) (Value.cells (uv (sm (ph h (df 0 M)) 1))) 24 (uv (sm (ph h (df 0 M)) 1)) (fun g => by kernel_rfl) (fun g => by kernel_rfl) (fun g => by kernel_rfl) kr kr (of_decide_eq_true kr) kr (fun L g hN => by (have hs6 : L 6 = false := hN.1; show ([(b8, Obj.cells (Value.cells (uv (sm l (pl h (df 0 M))))) 24 (0, 0)), (b7, Obj.cells (Value.cells (uv (ph h (df 0 M)))) 24 (0, 0)), (b6, Obj.cells (Value.cells (uv (pl h (df 0 M)))) 24 (0, 0)), (b5, Obj.cells (Value.cells (uv (df 0 M))) 24 (0, 0)), (b4, Obj.cells #[.int .u64 0, .int .u64 0, .int .u64 0, .int .u64 0] 24 (0, 0)), (b3, Obj.cells (Value.cells (uv M)) 24 (0, 0)), (b2, (bif L 6 then Obj.cells (Value.cells (uv (sm (ph h (df 0 M)) 1))) 24 (0, 0) else Obj.cells (Value.cells (uv (ph h (df 0 M)))) 24 (0, 0))), (b1, Obj.cells (Value.cells (uv (sm l (pl h (df 0 M))))) 24 (0, 0))])[(fun _ => 6) L]? = some (b2, Obj.cells (Value.cells (uv (ph h (df 0 M)))) 24 (0, 0)) ∧ ([(b8, Obj.cells (Value.cells (uv (sm l (pl h (df 0 M))))) 24 (0, 0)), (b7, Obj.cells (Value.cells (uv (ph h (df 0 M)))) 24 (0, 0)), (b6, Obj.cells (Value.cells (uv (pl h (df 0 M)))) 24 (0, 0)), (b5, Obj.cells (Value.cells (uv (df 0 M))) 24 (0, 0)), (b4, Obj.cells #[.int .u64 0, .int .u64 0, .int .u64 0, .int .u64 0] 24 (0, 0)), (b3, Obj.cells (Value.cells (uv M)) 24 (0, 0)), (b2, (bif L 6 then Obj.cells (Value.cells (uv (sm (ph h (df 0 M)) 1))) 24 (0, 0) else Obj.cells (Value.cells (uv (ph h (df 0 M)))) 24 (0, 0))), (b1, Obj.cells (Value.cells (uv (sm l (pl h (df 0 M))))) 24 (0, 0))]).set ((fun _ => 6) L) (b2, Obj.cells (Value.cells (uv (sm (ph h (df 0 M)) 1))) 24 (0, 0)) = ([(b8, Obj.cells (Value.cells (uv (sm l (pl h (df 0 M))))) 24 (0, 0)), (b7, Obj.cells (Value.cells (uv (ph h (df 0 M)))) 24 (0, 0)), (b6, Obj.cells (Value.cells (uv (pl h (df 0 M)))) 24 (0, 0)), (b5, Obj.cells (Value.cells (uv (df 0 M))) 24 (0, 0)), (b4, Obj.cells #[.int .u64 0, .int .u64 0, .int .u64 0, .int .u64 0] 24 (0, 0)), (b3, Obj.cells (Value.cells (uv M)) 24 (0, 0)), (b2, (bif true then Obj.cells (Value.cells (uv (sm (ph h (df 0 M)) 1))) 24 (0, 0) else Obj.cells (Value.cells (uv (ph h (df 0 M)))) 24 (0, 0))), (b1, Obj.cells (Value.cells (uv (sm l (pl h (df 0 M))))) 24 (0, 0))]); rw [hs6]; exact ⟨rfl, rfl⟩))
      intro L0 g23 w23 hall HL; clear H22
      have H23 : St w.heap.size w w23 [(b8, Obj.cells (Value.cells (uv (sm l (pl h (df 0 M))))) 24 (0, 0)), (b7, Obj.cells (Value.cells (uv (ph h (df 0 M)))) 24 (0, 0)), (b6, Obj.cells (Value.cells (uv (pl h (df 0 M)))) 24 (0, 0)), (b5, Obj.cells (Value.cells (uv (df 0 M))) 24 (0, 0)), (b4, Obj.cells #[.int .u64 0, .int .u64 0, .int .u64 0, .int .u64 0] 24 (0, 0)), (b3, Obj.cells (Value.cells (uv M)) 24 (0, 0)), (b2, Obj.cells (Value.cells (uv (sm (ph h (df 0 M)) 1))) 24 (0, 0)), (b1, Obj.cells (Value.cells (uv (sm l (pl h (df 0 M))))) 24 (0, 0))] := by have e6 := hall 6 (Nat.le_of_ble_eq_true kr); simp only [e6, cond_true] at HL; exact HL
      clear HL hall
      have HD2 : St w.heap.size w w23 [(b5, Obj.cells (Value.cells (uv (df 0 M))) 24 (0, 0)), (b4, Obj.cells #[.int .u64 0, .int .u64 0, .int .u64 0, .int .u64 0] 24 (0, 0)), (b3, Obj.cells (Value.cells (uv M)) 24 (0, 0)), (b2, Obj.cells (Value.cells (uv (sm (ph h (df 0 M)) 1))) 24 (0, 0)), (b1, Obj.cells (Value.cells (uv (sm l (pl h (df 0 M))))) 24 (0, 0))] := H23.sub (List.Sublist.cons _ (List.Sublist.cons _ (List.Sublist.cons _ (List.Sublist.cons_cons _ (List.Sublist.cons_cons _ (List.Sublist.cons_cons _ (List.Sublist.cons_cons _ (List.Sublist.cons_cons _ List.Sublist.slnil))))))))
      show ∃ m, _ ∧ _
      exact ⟨_, (fold_less hM hne hfold), (sm l (pl h (df 0 M))), (sm (ph h (df 0 M)) 1), rfl, (sm_lt _ _), hh2, (fold_mod hfold hm), HD2, (Is.of ⟨kr, kr, kr, kr, kr, kr, kr, kr, trivial⟩)⟩
set_option maxRecDepth 100000 in
theorem prime0_fn  : Fn Tryd.prog 52 #[.int .i64 0] (.tuple #[uv PR, .int .i64 0]) := by
  refine Fn.intro (c := codeOf Tryd.f52) [.cell 2 24, .tmp 3] 12 Tryd.func52 kr kr kr fun w => ?_
  have H0 := St.start w
  refine g_sreg [0, 1] kr kr ?_
  refine s_alloc H0 (some 2) 24 (.agg #[.int .u64 0, .int .u64 0, .int .u64 0, .int .u64 0]) kr kr kr ?_
  intro b1 w1 H1; clear H0
  refine s_val (some 3) (.int .i64 0) (fun w => by kernel_rfl) kr ?_
  refine s_nil ?_
  refine g_seq kr ?_
  refine g_sreg [0] kr kr ?_
  refine s_val (some 4) (.int .i64 0) (fun w => by kernel_rfl) kr ?_
  refine s_nil ?_
  refine g_block 0 kr ?_
  refine g_sreg [0, 1] kr kr ?_
  refine s_val (some 6) (.bool true) (fun w => by kernel_rfl) kr ?_
  refine s_val (some 5) (.bool true) (fun w => by kernel_rfl) kr ?_
  refine s_nil ?_
  refine g_cond_t kr kr ?_
  refine g_sreg [0, 1, 2] kr kr ?_
  refine s_val (some 7) (.agg #[.int .u64 18446744069414583343, .int .u64 18446744073709551615, .int .u64 18446744073709551615, .int .u64 18446744073709551615]) (fun w => by kernel_rfl) kr ?_
  refine s_store H1 0 [(b1, Obj.cells #[.int .u64 18446744069414583343, .int .u64 18446744073709551615, .int .u64 18446744073709551615, .int .u64 18446744073709551615] 24 (0, 0))] 24 (.tmp 2) (.tmp 7) b1 0 #[.int .u64 0, .int .u64 0, .int .u64 0, .int .u64 0] #[.int .u64 18446744069414583343, .int .u64 18446744073709551615, .int .u64 18446744073709551615, .int .u64 18446744073709551615] 24 (.agg #[.int .u64 18446744069414583343, .int .u64 18446744073709551615, .int .u64 18446744073709551615, .int .u64 18446744073709551615]) kr kr kr kr kr kr (of_decide_eq_true kr) kr kr ?_
  intro w2 H2; clear H1
  refine s_val (some 3) (.int .i64 0) (fun w => by kernel_rfl) kr ?_
  refine s_nil ?_
  refine g_ret kr ?_
  show ∃ vs, Res _ _ _ _ vs ∧ _
  refine ⟨[.agg #[.int .u64 18446744069414583343, .int .u64 18446744073709551615, .int .u64 18446744073709551615, .int .u64 18446744073709551615], .int .i64 0], (.agg (b := b1) #[.int .u64 18446744069414583343, .int .u64 18446744073709551615, .int .u64 18446744073709551615, .int .u64 18446744073709551615] 24 (0, 0) kr (H2.get 0 kr) kr (.tmp (.int .i64 0) kr .nil)), ?_, H2.below⟩
  kernel_rfl
set_option maxRecDepth 100000 in
theorem prime1_fn  : Fn Tryd.prog 52 #[.int .i64 1] (.tuple #[uv NR, .int .i64 0]) := by
  refine Fn.intro (c := codeOf Tryd.f52) [.cell 2 24, .tmp 3] 12 Tryd.func52 kr kr kr fun w => ?_
  have H0 := St.start w
  refine g_sreg [0, 1] kr kr ?_
  refine s_alloc H0 (some 2) 24 (.agg #[.int .u64 0, .int .u64 0, .int .u64 0, .int .u64 0]) kr kr kr ?_
  intro b1 w1 H1; clear H0
  refine s_val (some 3) (.int .i64 0) (fun w => by kernel_rfl) kr ?_
  refine s_nil ?_
  refine g_seq kr ?_
  refine g_sreg [0] kr kr ?_
  refine s_val (some 4) (.int .i64 1) (fun w => by kernel_rfl) kr ?_
  refine s_nil ?_
  refine g_block 0 kr ?_
  refine g_sreg [0, 1] kr kr ?_
  refine s_val (some 6) (.bool false) (fun w => by kernel_rfl) kr ?_
  refine s_val (some 5) (.bool false) (fun w => by kernel_rfl) kr ?_
  refine s_nil ?_
  refine g_cond_f kr kr ?_
  refine g_sreg [0, 1] kr kr ?_
  refine s_val (some 9) (.bool true) (fun w => by kernel_rfl) kr ?_
  refine s_val (some 8) (.bool true) (fun w => by kernel_rfl) kr ?_
  refine s_nil ?_
  refine g_cond_t kr kr ?_
  refine g_sreg [0, 1, 2] kr kr ?_
  refine s_val (some 10) (.agg #[.int .u64 13822214165235122497, .int .u64 13451932020343611451, .int .u64 18446744073709551614, .int .u64 18446744073709551615]) (fun w => by kernel_rfl) kr ?_
  refine s_store H1 0 [(b1, Obj.cells #[.int .u64 13822214165235122497, .int .u64 13451932020343611451, .int .u64 18446744073709551614, .int .u64 18446744073709551615] 24 (0, 0))] 24 (.tmp 2) (.tmp 10) b1 0 #[.int .u64 0, .int .u64 0, .int .u64 0, .int .u64 0] #[.int .u64 13822214165235122497, .int .u64 13451932020343611451, .int .u64 18446744073709551614, .int .u64 18446744073709551615] 24 (.agg #[.int .u64 13822214165235122497, .int .u64 13451932020343611451, .int .u64 18446744073709551614, .int .u64 18446744073709551615]) kr kr kr kr kr kr (of_decide_eq_true kr) kr kr ?_
  intro w2 H2; clear H1
  refine s_val (some 3) (.int .i64 0) (fun w => by kernel_rfl) kr ?_
  refine s_nil ?_
  refine g_ret kr ?_
  show ∃ vs, Res _ _ _ _ vs ∧ _
  refine ⟨[.agg #[.int .u64 13822214165235122497, .int .u64 13451932020343611451, .int .u64 18446744073709551614, .int .u64 18446744073709551615], .int .i64 0], (.agg (b := b1) #[.int .u64 13822214165235122497, .int .u64 13451932020343611451, .int .u64 18446744073709551614, .int .u64 18446744073709551615] 24 (0, 0) kr (H2.get 0 kr) kr (.tmp (.int .i64 0) kr .nil)), ?_, H2.below⟩
  kernel_rfl
set_option maxRecDepth 100000 in
theorem reduce0_fn (A B : Nat) (hA : A < big) (hB : B < big) : Fn Tryd.prog 78 #[uv A, uv B, .int .i64 0] (.tuple #[uv (rs A B PR), .int .i64 0]) := by
  refine Fn.intro (c := codeOf Tryd.f78) [.cell 6 24, .tmp 7] 23 Tryd.func78 kr kr kr fun w => ?_
  have H0 := St.start w
  refine g_sreg [0, 1, 2, 3] kr kr ?_
  refine s_box H0 (some 3) 24 (.tmp 0) (uv A) kr kr kr ?_
  intro b1 w1 H1; clear H0
  refine s_box H1 (some 4) 24 (.tmp 1) (uv B) kr kr kr ?_
  intro b2 w2 H2; clear H1
  refine s_alloc H2 (some 6) 24 (.agg #[.int .u64 0, .int .u64 0, .int .u64 0, .int .u64 0]) kr kr kr ?_
  intro b3 w3 H3; clear H2
  refine s_val (some 7) (.int .i64 0) (fun w => by kernel_rfl) kr ?_
  refine s_nil ?_
  refine g_sreg [0, 1, 2, 3, 4, 5, 6, 7] kr kr ?_
  refine s_val (some 11) (.int .i64 0) (fun w => by kernel_rfl) kr ?_
  refine s_call H3 (some 12) 52 #[.int .i64 0] (.tuple #[uv PR, .int .i64 0]) prime0_fn (fun w => by kernel_rfl) kr ?_
  intro w4 H4; clear H3
  refine s_val (some 10) (.tuple #[uv PR, .int .i64 0]) (fun w => by kernel_rfl) kr ?_
  refine s_val (some 13) (uv PR) (fun w => by kernel_rfl) kr ?_
  refine s_val (some 14) (.int .i64 0) (fun w => by kernel_rfl) kr ?_
  refine s_alloc H4 (some 8) 24 (.agg #[.int .u64 0, .int .u64 0, .int .u64 0, .int .u64 0]) kr kr kr ?_
  intro b4 w5 H5; clear H4
  refine s_store H5 0 [(b4, Obj.cells (Value.cells (uv PR)) 24 (0, 0)), (b3, Obj.cells #[.int .u64 0, .int .u64 0, .int .u64 0, .int .u64 0] 24 (0, 0)), (b2, Obj.cells (Value.cells (uv B)) 24 (0, 0)), (b1, Obj.cells (Value.cells (uv A)) 24 (0, 0))] 24 (.tmp 8) (.tmp 13) b4 0 #[.int .u64 0, .int .u64 0, .int .u64 0, .int .u64 0] (Value.cells (uv PR)) 24 (uv PR) kr kr kr kr kr kr (of_decide_eq_true kr) kr kr ?_
  intro w6 H6; clear H5
  refine s_val (some 9) (.int .i64 0) (fun w => by kernel_rfl) kr ?_
  refine s_nil ?_
  refine g_seq kr ?_
  refine g_sreg [0, 1] kr kr ?_
  refine s_val (some 15) (.int .i64 0) (fun w => by kernel_rfl) kr ?_
  refine s_val (some 16) (.bool false) (fun w => by kernel_rfl) kr ?_
  refine s_nil ?_
  refine g_cond_f kr kr ?_
  refine g_skip kr ?_
  show WP _ _ _ _ _ _
  refine g_sreg [0, 1, 2, 3, 4, 5] kr kr ?_
  refine s_load H6 (some 19) 24 (.tmp 3) 3 b1 (Value.cells (uv A)) 24 (0, 0) kr kr kr kr kr ?_
  refine s_load H6 (some 20) 24 (.tmp 4) 2 b2 (Value.cells (uv B)) 24 (0, 0) kr kr kr kr kr ?_
  refine s_load H6 (some 21) 24 (.tmp 8) 0 b4 (Value.cells (uv PR)) 24 (0, 0) kr kr kr kr kr ?_
  refine s_call H6 (some 22) 53 #[uv A, uv B, uv PR] (uv (rs A B PR)) (rest_fn A B PR hA hB pr_ok) (fun w => by kernel_rfl) kr ?_
  intro w7 H7; clear H6
  refine s_store H7 1 [(b4, Obj.cells (Value.cells (uv PR)) 24 (0, 0)), (b3, Obj.cells (Value.cells (uv (rs A B PR))) 24 (0, 0)), (b2, Obj.cells (Value.cells (uv B)) 24 (0, 0)), (b1, Obj.cells (Value.cells (uv A)) 24 (0, 0))] 24 (.tmp 6) (.tmp 22) b3 0 #[.int .u64 0, .int .u64 0, .int .u64 0, .int .u64 0] (Value.cells (uv (rs A B PR))) 24 (uv (rs A B PR)) kr kr kr kr kr kr (of_decide_eq_true kr) kr kr ?_
  intro w8 H8; clear H7
  refine s_val (some 7) (.int .i64 0) (fun w => by kernel_rfl) kr ?_
  refine s_nil ?_
  refine g_ret kr ?_
  show ∃ vs, Res _ _ _ _ vs ∧ _
  refine ⟨[uv (rs A B PR), .int .i64 0], (.agg (b := b3) (Value.cells (uv (rs A B PR))) 24 (0, 0) kr (H8.get 1 kr) kr (.tmp (.int .i64 0) kr .nil)), ?_, H8.below⟩
  rfl
set_option maxRecDepth 100000 in
theorem reduce1_fn (A B : Nat) (hA : A < big) (hB : B < big) : Fn Tryd.prog 78 #[uv A, uv B, .int .i64 1] (.tuple #[uv (rs A B NR), .int .i64 0]) := by
  refine Fn.intro (c := codeOf Tryd.f78) [.cell 6 24, .tmp 7] 23 Tryd.func78 kr kr kr fun w => ?_
  have H0 := St.start w
  refine g_sreg [0, 1, 2, 3] kr kr ?_
  refine s_box H0 (some 3) 24 (.tmp 0) (uv A) kr kr kr ?_
  intro b1 w1 H1; clear H0
  refine s_box H1 (some 4) 24 (.tmp 1) (uv B) kr kr kr ?_
  intro b2 w2 H2; clear H1
  refine s_alloc H2 (some 6) 24 (.agg #[.int .u64 0, .int .u64 0, .int .u64 0, .int .u64 0]) kr kr kr ?_
  intro b3 w3 H3; clear H2
  refine s_val (some 7) (.int .i64 0) (fun w => by kernel_rfl) kr ?_
  refine s_nil ?_
  refine g_sreg [0, 1, 2, 3, 4, 5, 6, 7] kr kr ?_
  refine s_val (some 11) (.int .i64 1) (fun w => by kernel_rfl) kr ?_
  refine s_call H3 (some 12) 52 #[.int .i64 1] (.tuple #[uv NR, .int .i64 0]) prime1_fn (fun w => by kernel_rfl) kr ?_
  intro w4 H4; clear H3
  refine s_val (some 10) (.tuple #[uv NR, .int .i64 0]) (fun w => by kernel_rfl) kr ?_
  refine s_val (some 13) (uv NR) (fun w => by kernel_rfl) kr ?_
  refine s_val (some 14) (.int .i64 0) (fun w => by kernel_rfl) kr ?_
  refine s_alloc H4 (some 8) 24 (.agg #[.int .u64 0, .int .u64 0, .int .u64 0, .int .u64 0]) kr kr kr ?_
  intro b4 w5 H5; clear H4
  refine s_store H5 0 [(b4, Obj.cells (Value.cells (uv NR)) 24 (0, 0)), (b3, Obj.cells #[.int .u64 0, .int .u64 0, .int .u64 0, .int .u64 0] 24 (0, 0)), (b2, Obj.cells (Value.cells (uv B)) 24 (0, 0)), (b1, Obj.cells (Value.cells (uv A)) 24 (0, 0))] 24 (.tmp 8) (.tmp 13) b4 0 #[.int .u64 0, .int .u64 0, .int .u64 0, .int .u64 0] (Value.cells (uv NR)) 24 (uv NR) kr kr kr kr kr kr (of_decide_eq_true kr) kr kr ?_
  intro w6 H6; clear H5
  refine s_val (some 9) (.int .i64 0) (fun w => by kernel_rfl) kr ?_
  refine s_nil ?_
  refine g_seq kr ?_
  refine g_sreg [0, 1] kr kr ?_
  refine s_val (some 15) (.int .i64 0) (fun w => by kernel_rfl) kr ?_
  refine s_val (some 16) (.bool false) (fun w => by kernel_rfl) kr ?_
  refine s_nil ?_
  refine g_cond_f kr kr ?_
  refine g_skip kr ?_
  show WP _ _ _ _ _ _
  refine g_sreg [0, 1, 2, 3, 4, 5] kr kr ?_
  refine s_load H6 (some 19) 24 (.tmp 3) 3 b1 (Value.cells (uv A)) 24 (0, 0) kr kr kr kr kr ?_
  refine s_load H6 (some 20) 24 (.tmp 4) 2 b2 (Value.cells (uv B)) 24 (0, 0) kr kr kr kr kr ?_
  refine s_load H6 (some 21) 24 (.tmp 8) 0 b4 (Value.cells (uv NR)) 24 (0, 0) kr kr kr kr kr ?_
  refine s_call H6 (some 22) 53 #[uv A, uv B, uv NR] (uv (rs A B NR)) (rest_fn A B NR hA hB nr_ok) (fun w => by kernel_rfl) kr ?_
  intro w7 H7; clear H6
  refine s_store H7 1 [(b4, Obj.cells (Value.cells (uv NR)) 24 (0, 0)), (b3, Obj.cells (Value.cells (uv (rs A B NR))) 24 (0, 0)), (b2, Obj.cells (Value.cells (uv B)) 24 (0, 0)), (b1, Obj.cells (Value.cells (uv A)) 24 (0, 0))] 24 (.tmp 6) (.tmp 22) b3 0 #[.int .u64 0, .int .u64 0, .int .u64 0, .int .u64 0] (Value.cells (uv (rs A B NR))) 24 (uv (rs A B NR)) kr kr kr kr kr kr (of_decide_eq_true kr) kr kr ?_
  intro w8 H8; clear H7
  refine s_val (some 7) (.int .i64 0) (fun w => by kernel_rfl) kr ?_
  refine s_nil ?_
  refine g_ret kr ?_
  show ∃ vs, Res _ _ _ _ vs ∧ _
  refine ⟨[uv (rs A B NR), .int .i64 0], (.agg (b := b3) (Value.cells (uv (rs A B NR))) 24 (0, 0) kr (H8.get 1 kr) kr (.tmp (.int .i64 0) kr .nil)), ?_, H8.below⟩
  rfl
set_option maxRecDepth 100000 in
theorem fadd0_fn (A B : Nat) (hA : A < big) (hB : B < big) : Fn Tryd.prog 93 #[uv A, uv B, .int .i64 0] (.tuple #[uv (fAdd A B PR), .int .i64 0]) := by
  refine Fn.intro (c := codeOf Tryd.f93) [.cell 6 24, .tmp 7] 25 Tryd.func93 kr kr kr fun w => ?_
  have H0 := St.start w
  refine g_sreg [0, 1, 2, 3] kr kr ?_
  refine s_box H0 (some 3) 24 (.tmp 0) (uv A) kr kr kr ?_
  intro b1 w1 H1; clear H0
  refine s_box H1 (some 4) 24 (.tmp 1) (uv B) kr kr kr ?_
  intro b2 w2 H2; clear H1
  refine s_alloc H2 (some 6) 24 (.agg #[.int .u64 0, .int .u64 0, .int .u64 0, .int .u64 0]) kr kr kr ?_
  intro b3 w3 H3; clear H2
  refine s_val (some 7) (.int .i64 0) (fun w => by kernel_rfl) kr ?_
  refine s_nil ?_
  refine g_sreg [0, 1, 2, 3, 4, 5, 6, 7, 8] kr kr ?_
  refine s_load H3 (some 12) 24 (.tmp 3) 2 b1 (Value.cells (uv A)) 24 (0, 0) kr kr kr kr kr ?_
  refine s_load H3 (some 13) 24 (.tmp 4) 1 b2 (Value.cells (uv B)) 24 (0, 0) kr kr kr kr kr ?_
  refine s_call H3 (some 14) 84 #[uv A, uv B] (.tuple #[uv (sm A B), .bool (ov A B)]) (add_fn A B hA hB) (fun w => by kernel_rfl) kr ?_
  intro w4 H4; clear H3
  refine s_val (some 11) (.tuple #[uv (sm A B), .bool (ov A B)]) (fun w => by kernel_rfl) kr ?_
  refine s_val (some 15) (uv (sm A B)) (fun w => by kernel_rfl) kr ?_
  refine s_val (some 16) (.bool (ov A B)) (fun w => by kernel_rfl) kr ?_
  refine s_alloc H4 (some 8) 24 (.agg #[.int .u64 0, .int .u64 0, .int .u64 0, .int .u64 0]) kr kr kr ?_
  intro b4 w5 H5; clear H4
  refine s_store H5 0 [(b4, Obj.cells (Value.cells (uv (sm A B))) 24 (0, 0)), (b3, Obj.cells #[.int .u64 0, .int .u64 0, .int .u64 0, .int .u64 0] 24 (0, 0)), (b2, Obj.cells (Value.cells (uv B)) 24 (0, 0)), (b1, Obj.cells (Value.cells (uv A)) 24 (0, 0))] 24 (.tmp 8) (.tmp 15) b4 0 #[.int .u64 0, .int .u64 0, .int .u64 0, .int .u64 0] (Value.cells (uv (sm A B))) 24 (uv (sm A B)) kr kr kr kr kr kr (of_decide_eq_true kr) kr kr ?_
  intro w6 H6; clear H5
  refine s_val (some 9) (.bool (ov A B)) (fun w => by kernel_rfl) kr ?_
  refine s_nil ?_
  refine g_sreg [0] kr kr ?_
  refine s_alloc H6 (some 10) 24 (.agg #[.int .u64 0, .int .u64 0, .int .u64 0, .int .u64 0]) kr kr kr ?_
  intro b5 w7 H7; clear H6
  refine s_nil ?_
  refine g_seq kr ?_
  refine g_sreg [0] kr kr ?_
  cases hov : ov A B
  · skip
    refine s_val (some 17) (.bool false) (fun w => by kernel_rfl) kr ?_
    refine s_nil ?_
    refine g_cond_f kr kr ?_
    refine g_skip kr ?_
    show WP _ _ _ _ _ _
    refine g_sreg [0, 1, 2, 3, 4, 5, 6, 7] kr kr ?_
    refine s_load H7 (some 19) 24 (.tmp 8) 1 b4 (Value.cells (uv (sm A B))) 24 (0, 0) kr kr kr kr kr ?_
    refine s_load H7 (some 20) 24 (.tmp 10) 0 b5 #[.int .u64 0, .int .u64 0, .int .u64 0, .int .u64 0] 24 (0, 0) kr kr kr kr kr ?_
    refine s_val (some 21) (.int .i64 0) (fun w => by kernel_rfl) kr ?_
    refine s_call H7 (some 22) 78 #[uv (sm A B), .agg #[.int .u64 0, .int .u64 0, .int .u64 0, .int .u64 0], .int .i64 0] (.tuple #[uv (rs (sm A B) 0 PR), .int .i64 0]) (reduce0_fn (sm A B) 0 (sm_lt _ _) (by unfold big; omega)) (fun w => by kernel_rfl) kr ?_
    intro w8 H8; clear H7
    refine s_val (some 23) (uv (rs (sm A B) 0 PR)) (fun w => by kernel_rfl) kr ?_
    refine s_val (some 24) (.int .i64 0) (fun w => by kernel_rfl) kr ?_
    refine s_store H8 2 [(b5, Obj.cells #[.int .u64 0, .int .u64 0, .int .u64 0, .int .u64 0] 24 (0, 0)), (b4, Obj.cells (Value.cells (uv (sm A B))) 24 (0, 0)), (b3, Obj.cells (Value.cells (uv (rs (sm A B) 0 PR))) 24 (0, 0)), (b2, Obj.cells (Value.cells (uv B)) 24 (0, 0)), (b1, Obj.cells (Value.cells (uv A)) 24 (0, 0))] 24 (.tmp 6) (.tmp 23) b3 0 #[.int .u64 0, .int .u64 0, .int .u64 0, .int .u64 0] (Value.cells (uv (rs (sm A B) 0 PR))) 24 (uv (rs (sm A B) 0 PR)) kr kr kr kr kr kr (of_decide_eq_true kr) kr kr ?_
    intro w9 H9; clear H8
    refine s_val (some 7) (.int .i64 0) (fun w => by kernel_rfl) kr ?_
    refine s_nil ?_
    refine g_ret kr ?_
    show ∃ vs, Res _ _ _ _ vs ∧ _
    refine ⟨[uv (rs (sm A B) 0 PR), .int .i64 0], (.agg (b := b3) (Value.cells (uv (rs (sm A B) 0 PR))) 24 (0, 0) kr (H9.get 2 kr) kr (.tmp (.int .i64 0) kr .nil)), ?_, H9.below⟩
    have e := fAdd_of (M := PR) hA hB
    rw [hov] at e; simp only [Bool.false_eq_true, if_false] at e
    exact congrArg (fun n => Value.tuple #[uv n, .int .i64 0]) e
  · skip
    refine s_val (some 17) (.bool true) (fun w => by kernel_rfl) kr ?_
    refine s_nil ?_
    refine g_cond_t kr kr ?_
    refine g_reg0 [0, 1] kr ?_
    refine s_call H7 (some 18) 55 #[.int .u64 1] (uv 1) (small_fn 1 (by omega)) (fun w => by kernel_rfl) kr ?_
    intro w10 H10; clear H7
    refine s_store H10 0 [(b5, Obj.cells (Value.cells (uv 1)) 24 (0, 0)), (b4, Obj.cells (Value.cells (uv (sm A B))) 24 (0, 0)), (b3, Obj.cells #[.int .u64 0, .int .u64 0, .int .u64 0, .int .u64 0] 24 (0, 0)), (b2, Obj.cells (Value.cells (uv B)) 24 (0, 0)), (b1, Obj.cells (Value.cells (uv A)) 24 (0, 0))] 24 (.tmp 10) (.tmp 18) b5 0 #[.int .u64 0, .int .u64 0, .int .u64 0, .int .u64 0] (Value.cells (uv 1)) 24 (uv 1) kr kr kr kr kr kr (of_decide_eq_true kr) kr kr ?_
    intro w11 H11; clear H10
    refine s_nil ?_
    show WP _ _ _ _ _ _
    refine g_sreg [0, 1, 2, 3, 4, 5, 6, 7] kr kr ?_
    refine s_load H11 (some 19) 24 (.tmp 8) 1 b4 (Value.cells (uv (sm A B))) 24 (0, 0) kr kr kr kr kr ?_
    refine s_load H11 (some 20) 24 (.tmp 10) 0 b5 (Value.cells (uv 1)) 24 (0, 0) kr kr kr kr kr ?_
    refine s_val (some 21) (.int .i64 0) (fun w => by kernel_rfl) kr ?_
    refine s_call H11 (some 22) 78 #[uv (sm A B), uv 1, .int .i64 0] (.tuple #[uv (rs (sm A B) 1 PR), .int .i64 0]) (reduce0_fn (sm A B) 1 (sm_lt _ _) (by unfold big; omega)) (fun w => by kernel_rfl) kr ?_
    intro w12 H12; clear H11
    refine s_val (some 23) (uv (rs (sm A B) 1 PR)) (fun w => by kernel_rfl) kr ?_
    refine s_val (some 24) (.int .i64 0) (fun w => by kernel_rfl) kr ?_
    refine s_store H12 2 [(b5, Obj.cells (Value.cells (uv 1)) 24 (0, 0)), (b4, Obj.cells (Value.cells (uv (sm A B))) 24 (0, 0)), (b3, Obj.cells (Value.cells (uv (rs (sm A B) 1 PR))) 24 (0, 0)), (b2, Obj.cells (Value.cells (uv B)) 24 (0, 0)), (b1, Obj.cells (Value.cells (uv A)) 24 (0, 0))] 24 (.tmp 6) (.tmp 23) b3 0 #[.int .u64 0, .int .u64 0, .int .u64 0, .int .u64 0] (Value.cells (uv (rs (sm A B) 1 PR))) 24 (uv (rs (sm A B) 1 PR)) kr kr kr kr kr kr (of_decide_eq_true kr) kr kr ?_
    intro w13 H13; clear H12
    refine s_val (some 7) (.int .i64 0) (fun w => by kernel_rfl) kr ?_
    refine s_nil ?_
    refine g_ret kr ?_
    show ∃ vs, Res _ _ _ _ vs ∧ _
    refine ⟨[uv (rs (sm A B) 1 PR), .int .i64 0], (.agg (b := b3) (Value.cells (uv (rs (sm A B) 1 PR))) 24 (0, 0) kr (H13.get 2 kr) kr (.tmp (.int .i64 0) kr .nil)), ?_, H13.below⟩
    have e := fAdd_of (M := PR) hA hB
    rw [hov] at e; simp only [if_true] at e
    exact congrArg (fun n => Value.tuple #[uv n, .int .i64 0]) e
set_option maxRecDepth 100000 in
theorem fmul0_fn (A B : Nat) (hA : A < big) (hB : B < big) : Fn Tryd.prog 79 #[uv A, uv B, .int .i64 0] (.tuple #[uv (fMul A B PR), .int .i64 0]) := by
  refine Fn.intro (c := codeOf Tryd.f79) [.cell 6 24, .tmp 7] 22 Tryd.func79 kr kr kr fun w => ?_
  have H0 := St.start w
  refine g_sreg [0, 1, 2, 3] kr kr ?_
  refine s_box H0 (some 3) 24 (.tmp 0) (uv A) kr kr kr ?_
  intro b1 w1 H1; clear H0
  refine s_box H1 (some 4) 24 (.tmp 1) (uv B) kr kr kr ?_
  intro b2 w2 H2; clear H1
  refine s_alloc H2 (some 6) 24 (.agg #[.int .u64 0, .int .u64 0, .int .u64 0, .int .u64 0]) kr kr kr ?_
  intro b3 w3 H3; clear H2
  refine s_val (some 7) (.int .i64 0) (fun w => by kernel_rfl) kr ?_
  refine s_nil ?_
  refine g_sreg [0, 1, 2, 3, 4, 5, 6, 7, 8, 9] kr kr ?_
  refine s_load H3 (some 11) 24 (.tmp 3) 2 b1 (Value.cells (uv A)) 24 (0, 0) kr kr kr kr kr ?_
  refine s_load H3 (some 12) 24 (.tmp 4) 1 b2 (Value.cells (uv B)) 24 (0, 0) kr kr kr kr kr ?_
  refine s_call H3 (some 13) 83 #[uv A, uv B] (.tuple #[uv (pl A B), uv (ph A B)]) (mul_fn A B hA hB) (fun w => by kernel_rfl) kr ?_
  intro w4 H4; clear H3
  refine s_val (some 10) (.tuple #[uv (pl A B), uv (ph A B)]) (fun w => by kernel_rfl) kr ?_
  refine s_val (some 14) (uv (pl A B)) (fun w => by kernel_rfl) kr ?_
  refine s_val (some 15) (uv (ph A B)) (fun w => by kernel_rfl) kr ?_
  refine s_alloc H4 (some 8) 24 (.agg #[.int .u64 0, .int .u64 0, .int .u64 0, .int .u64 0]) kr kr kr ?_
  intro b4 w5 H5; clear H4
  refine s_alloc H5 (some 9) 24 (.agg #[.int .u64 0, .int .u64 0, .int .u64 0, .int .u64 0]) kr kr kr ?_
  intro b5 w6 H6; clear H5
  refine s_store H6 1 [(b5, Obj.cells #[.int .u64 0, .int .u64 0, .int .u64 0, .int .u64 0] 24 (0, 0)), (b4, Obj.cells (Value.cells (uv (pl A B))) 24 (0, 0)), (b3, Obj.cells #[.int .u64 0, .int .u64 0, .int .u64 0, .int .u64 0] 24 (0, 0)), (b2, Obj.cells (Value.cells (uv B)) 24 (0, 0)), (b1, Obj.cells (Value.cells (uv A)) 24 (0, 0))] 24 (.tmp 8) (.tmp 14) b4 0 #[.int .u64 0, .int .u64 0, .int .u64 0, .int .u64 0] (Value.cells (uv (pl A B))) 24 (uv (pl A B)) kr kr kr kr kr kr (of_decide_eq_true kr) kr kr ?_
  intro w7 H7; clear H6
  refine s_store H7 0 [(b5, Obj.cells (Value.cells (uv (ph A B))) 24 (0, 0)), (b4, Obj.cells (Value.cells (uv (pl A B))) 24 (0, 0)), (b3, Obj.cells #[.int .u64 0, .int .u64 0, .int .u64 0, .int .u64 0] 24 (0, 0)), (b2, Obj.cells (Value.cells (uv B)) 24 (0, 0)), (b1, Obj.cells (Value.cells (uv A)) 24 (0, 0))] 24 (.tmp 9) (.tmp 15) b5 0 #[.int .u64 0, .int .u64 0, .int .u64 0, .int .u64 0] (Value.cells (uv (ph A B))) 24 (uv (ph A B)) kr kr kr kr kr kr (of_decide_eq_true kr) kr kr ?_
  intro w8 H8; clear H7
  refine s_nil ?_
  refine g_sreg [0, 1, 2, 3, 4, 5, 6, 7] kr kr ?_
  refine s_load H8 (some 16) 24 (.tmp 8) 1 b4 (Value.cells (uv (pl A B))) 24 (0, 0) kr kr kr kr kr ?_
  refine s_load H8 (some 17) 24 (.tmp 9) 0 b5 (Value.cells (uv (ph A B))) 24 (0, 0) kr kr kr kr kr ?_
  refine s_val (some 18) (.int .i64 0) (fun w => by kernel_rfl) kr ?_
  refine s_call H8 (some 19) 78 #[uv (pl A B), uv (ph A B), .int .i64 0] (.tuple #[uv (rs (pl A B) (ph A B) PR), .int .i64 0]) (reduce0_fn (pl A B) (ph A B) (pl_lt _ _) (ph_lt hA hB)) (fun w => by kernel_rfl) kr ?_
  intro w9 H9; clear H8
  refine s_val (some 20) (uv (rs (pl A B) (ph A B) PR)) (fun w => by kernel_rfl) kr ?_
  refine s_val (some 21) (.int .i64 0) (fun w => by kernel_rfl) kr ?_
  refine s_store H9 2 [(b5, Obj.cells (Value.cells (uv (ph A B))) 24 (0, 0)), (b4, Obj.cells (Value.cells (uv (pl A B))) 24 (0, 0)), (b3, Obj.cells (Value.cells (uv (rs (pl A B) (ph A B) PR))) 24 (0, 0)), (b2, Obj.cells (Value.cells (uv B)) 24 (0, 0)), (b1, Obj.cells (Value.cells (uv A)) 24 (0, 0))] 24 (.tmp 6) (.tmp 20) b3 0 #[.int .u64 0, .int .u64 0, .int .u64 0, .int .u64 0] (Value.cells (uv (rs (pl A B) (ph A B) PR))) 24 (uv (rs (pl A B) (ph A B) PR)) kr kr kr kr kr kr (of_decide_eq_true kr) kr kr ?_
  intro w10 H10; clear H9
  refine s_val (some 7) (.int .i64 0) (fun w => by kernel_rfl) kr ?_
  refine s_nil ?_
  refine g_ret kr ?_
  show ∃ vs, Res _ _ _ _ vs ∧ _
  refine ⟨[uv (rs (pl A B) (ph A B) PR), .int .i64 0], (.agg (b := b3) (Value.cells (uv (rs (pl A B) (ph A B) PR))) 24 (0, 0) kr (H10.get 2 kr) kr (.tmp (.int .i64 0) kr .nil)), ?_, H10.below⟩
  exact congrArg (fun n => Value.tuple #[uv n, .int .i64 0]) (fMul_of A B PR)
set_option maxRecDepth 100000 in
theorem fmul1_fn (A B : Nat) (hA : A < big) (hB : B < big) : Fn Tryd.prog 79 #[uv A, uv B, .int .i64 1] (.tuple #[uv (fMul A B NR), .int .i64 0]) := by
  refine Fn.intro (c := codeOf Tryd.f79) [.cell 6 24, .tmp 7] 22 Tryd.func79 kr kr kr fun w => ?_
  have H0 := St.start w
  refine g_sreg [0, 1, 2, 3] kr kr ?_
  refine s_box H0 (some 3) 24 (.tmp 0) (uv A) kr kr kr ?_
  intro b1 w1 H1; clear H0
  refine s_box H1 (some 4) 24 (.tmp 1) (uv B) kr kr kr ?_
  intro b2 w2 H2; clear H1
  refine s_alloc H2 (some 6) 24 (.agg #[.int .u64 0, .int .u64 0, .int .u64 0, .int .u64 0]) kr kr kr ?_
  intro b3 w3 H3; clear H2
  refine s_val (some 7) (.int .i64 0) (fun w => by kernel_rfl) kr ?_
  refine s_nil ?_
  refine g_sreg [0, 1, 2, 3, 4, 5, 6, 7, 8, 9] kr kr ?_
  refine s_load H3 (some 11) 24 (.tmp 3) 2 b1 (Value.cells (uv A)) 24 (0, 0) kr kr kr kr kr ?_
  refine s_load H3 (some 12) 24 (.tmp 4) 1 b2 (Value.cells (uv B)) 24 (0, 0) kr kr kr kr kr ?_
  refine s_call H3 (some 13) 83 #[uv A, uv B] (.tuple #[uv (pl A B), uv (ph A B)]) (mul_fn A B hA hB) (fun w => by kernel_rfl) kr ?_
  intro w4 H4; clear H3
  refine s_val (some 10) (.tuple #[uv (pl A B), uv (ph A B)]) (fun w => by kernel_rfl) kr ?_
  refine s_val (some 14) (uv (pl A B)) (fun w => by kernel_rfl) kr ?_
  refine s_val (some 15) (uv (ph A B)) (fun w => by kernel_rfl) kr ?_
  refine s_alloc H4 (some 8) 24 (.agg #[.int .u64 0, .int .u64 0, .int .u64 0, .int .u64 0]) kr kr kr ?_
  intro b4 w5 H5; clear H4
  refine s_alloc H5 (some 9) 24 (.agg #[.int .u64 0, .int .u64 0, .int .u64 0, .int .u64 0]) kr kr kr ?_
  intro b5 w6 H6; clear H5
  refine s_store H6 1 [(b5, Obj.cells #[.int .u64 0, .int .u64 0, .int .u64 0, .int .u64 0] 24 (0, 0)), (b4, Obj.cells (Value.cells (uv (pl A B))) 24 (0, 0)), (b3, Obj.cells #[.int .u64 0, .int .u64 0, .int .u64 0, .int .u64 0] 24 (0, 0)), (b2, Obj.cells (Value.cells (uv B)) 24 (0, 0)), (b1, Obj.cells (Value.cells (uv A)) 24 (0, 0))] 24 (.tmp 8) (.tmp 14) b4 0 #[.int .u64 0, .int .u64 0, .int .u64 0, .int .u64 0] (Value.cells (uv (pl A B))) 24 (uv (pl A B)) kr kr kr kr kr kr (of_decide_eq_true kr) kr kr ?_
  intro w7 H7; clear H6
  refine s_store H7 0 [(b5, Obj.cells (Value.cells (uv (ph A B))) 24 (0, 0)), (b4, Obj.cells (Value.cells (uv (pl A B))) 24 (0, 0)), (b3, Obj.cells #[.int .u64 0, .int .u64 0, .int .u64 0, .int .u64 0] 24 (0, 0)), (b2, Obj.cells (Value.cells (uv B)) 24 (0, 0)), (b1, Obj.cells (Value.cells (uv A)) 24 (0, 0))] 24 (.tmp 9) (.tmp 15) b5 0 #[.int .u64 0, .int .u64 0, .int .u64 0, .int .u64 0] (Value.cells (uv (ph A B))) 24 (uv (ph A B)) kr kr kr kr kr kr (of_decide_eq_true kr) kr kr ?_
  intro w8 H8; clear H7
  refine s_nil ?_
  refine g_sreg [0, 1, 2, 3, 4, 5, 6, 7] kr kr ?_
  refine s_load H8 (some 16) 24 (.tmp 8) 1 b4 (Value.cells (uv (pl A B))) 24 (0, 0) kr kr kr kr kr ?_
  refine s_load H8 (some 17) 24 (.tmp 9) 0 b5 (Value.cells (uv (ph A B))) 24 (0, 0) kr kr kr kr kr ?_
  refine s_val (some 18) (.int .i64 1) (fun w => by kernel_rfl) kr ?_
  refine s_call H8 (some 19) 78 #[uv (pl A B), uv (ph A B), .int .i64 1] (.tuple #[uv (rs (pl A B) (ph A B) NR), .int .i64 0]) (reduce1_fn (pl A B) (ph A B) (pl_lt _ _) (ph_lt hA hB)) (fun w => by kernel_rfl) kr ?_
  intro w9 H9; clear H8
  refine s_val (some 20) (uv (rs (pl A B) (ph A B) NR)) (fun w => by kernel_rfl) kr ?_
  refine s_val (some 21) (.int .i64 0) (fun w => by kernel_rfl) kr ?_
  refine s_store H9 2 [(b5, Obj.cells (Value.cells (uv (ph A B))) 24 (0, 0)), (b4, Obj.cells (Value.cells (uv (pl A B))) 24 (0, 0)), (b3, Obj.cells (Value.cells (uv (rs (pl A B) (ph A B) NR))) 24 (0, 0)), (b2, Obj.cells (Value.cells (uv B)) 24 (0, 0)), (b1, Obj.cells (Value.cells (uv A)) 24 (0, 0))] 24 (.tmp 6) (.tmp 20) b3 0 #[.int .u64 0, .int .u64 0, .int .u64 0, .int .u64 0] (Value.cells (uv (rs (pl A B) (ph A B) NR))) 24 (uv (rs (pl A B) (ph A B) NR)) kr kr kr kr kr kr (of_decide_eq_true kr) kr kr ?_
  intro w10 H10; clear H9
  refine s_val (some 7) (.int .i64 0) (fun w => by kernel_rfl) kr ?_
  refine s_nil ?_
  refine g_ret kr ?_
  show ∃ vs, Res _ _ _ _ vs ∧ _
  refine ⟨[uv (rs (pl A B) (ph A B) NR), .int .i64 0], (.agg (b := b3) (Value.cells (uv (rs (pl A B) (ph A B) NR))) 24 (0, 0) kr (H10.get 2 kr) kr (.tmp (.int .i64 0) kr .nil)), ?_, H10.below⟩
  exact congrArg (fun n => Value.tuple #[uv n, .int .i64 0]) (fMul_of A B NR)
end Go.Proofs.YtmmloghbnpfedaaDoor
