/-
  Numbers as natural numbers and as words; texts as lists of bytes; what the steps ask of them.
-/
import Derived.Test.YtljhbhhpfkmemaaDrawS
import Derived.Laws.BitsAllLaws
import Derived.Laws.MakeOwn
namespace Go.Proofs.Ytljhbhhpfkmemaa
open Go Go.RowKit
set_option linter.unusedVariables false
theorem nat_tdiv (a b : Nat) : (a : Int).tdiv (b : Int) = ((a / b : Nat) : Int) := rfl
theorem nat_tmod (a b : Nat) : (a : Int).tmod (b : Int) = ((a % b : Nat) : Int) := rfl
theorem wrapAdd_i64 {a b : Nat} (h : a + b ≤ 9223372036854775807) : IntKind.i64.wrap ((a : Int) + (b : Int)) = ((a + b : Nat) : Int) := by rw [wrap_i64 (by omega) (by omega)]; omega
theorem wrapMul_i64 {a b : Nat} (h : a * b ≤ 9223372036854775807) : IntKind.i64.wrap ((a : Int) * (b : Int)) = ((a * b : Nat) : Int) := by
  rw [← Int.natCast_mul]; exact wrap_i64 (by omega) (by omega)
theorem wrapSub_i64 {a b : Nat} (h : b ≤ a ∧ a ≤ 9223372036854775807) : IntKind.i64.wrap ((a : Int) - (b : Int)) = ((a - b : Nat) : Int) := by rw [wrap_i64 (by omega) (by omega)]; omega
theorem wrapAdd_u64 {a b : Nat} (h : a + b ≤ 18446744073709551615) : IntKind.u64.wrap ((a : Int) + (b : Int)) = ((a + b : Nat) : Int) := by rw [wrap_u64 (by omega) (by omega)]; omega
theorem wrapSub_u64 {a b : Nat} (h : b ≤ a ∧ a ≤ 18446744073709551615) : IntKind.u64.wrap ((a : Int) - (b : Int)) = ((a - b : Nat) : Int) := by rw [wrap_u64 (by omega) (by omega)]; omega
theorem wrapMul_u64 {a b : Nat} (h : a * b ≤ 18446744073709551615) : IntKind.u64.wrap ((a : Int) * (b : Int)) = ((a * b : Nat) : Int) := by
  rw [← Int.natCast_mul]; exact wrap_u64 (by omega) (by omega)
theorem quoN_i64 {a b : Nat} (h : a ≤ 9223372036854775807) : IntKind.i64.wrap ((a : Int).tdiv (b : Int)) = ((a / b : Nat) : Int) := by
  rw [nat_tdiv]; have := Nat.div_le_self a b; generalize a / b = q at *; exact wrap_i64 (by omega) (by omega)
theorem quoN_u64 {a b : Nat} (h : a ≤ 18446744073709551615) : IntKind.u64.wrap ((a : Int).tdiv (b : Int)) = ((a / b : Nat) : Int) := by
  rw [nat_tdiv]; have := Nat.div_le_self a b; generalize a / b = q at *; exact wrap_u64 (by omega) (by omega)
theorem remN (a b : Nat) : (a : Int).tmod (b : Int) = ((a % b : Nat) : Int) := nat_tmod a b
theorem shrN {k : Nat} (a p : Nat) (h : 2 ^ k = p) : Int.fdiv (a : Int) (2 ^ k) = ((a / p : Nat) : Int) := by
  subst h
  rw [Int.fdiv_eq_ediv_of_nonneg _ (by exact_mod_cast Nat.zero_le _)]
  push_cast; rfl
theorem wrapN_i64 {a : Nat} (h : a ≤ 9223372036854775807) : IntKind.i64.wrap (a : Int) = (a : Int) := wrap_i64 (by omega) (by omega)
theorem wrapN_u64 {a : Nat} (h : a ≤ 18446744073709551615) : IntKind.u64.wrap (a : Int) = (a : Int) := wrap_u64 (by omega) (by omega)
theorem shl_mod (x s n M : Nat) (hM : 2 ^ n = M) : (x : Int) * 2 ^ (min s n) % (M : Int) = ((x * 2 ^ s % 2 ^ n : Nat) : Int) := by
  subst hM
  rcases Nat.lt_or_ge s n with h | h
  · rw [Nat.min_eq_left (by omega)]; push_cast; rfl
  · rw [Nat.min_eq_right h]
    have e1 : x * 2 ^ s % 2 ^ n = 0 := by
      rw [show s = n + (s - n) by omega, Nat.pow_add, ← Nat.mul_assoc, Nat.mul_right_comm]; exact Nat.mul_mod_left _ _
    rw [e1]
    have : ((x * 2 ^ n % 2 ^ n : Nat) : Int) = 0 := by rw [Nat.mul_mod_left]; rfl
    push_cast at this ⊢; exact this
theorem shr_min (x s n : Nat) (h : x < 2 ^ n) : Int.fdiv (x : Int) (2 ^ (min s n)) = ((x / 2 ^ s : Nat) : Int) := by
  rw [Int.fdiv_eq_ediv_of_nonneg _ (by exact_mod_cast Nat.zero_le _)]
  rcases Nat.lt_or_ge s n with h2 | h2
  · rw [Nat.min_eq_left (by omega)]; push_cast; rfl
  · rw [Nat.min_eq_right h2, Nat.div_eq_of_lt (Nat.lt_of_lt_of_le h (Nat.pow_le_pow_right (by omega) h2))]
    have : ((x / 2 ^ n : Nat) : Int) = 0 := by rw [Nat.div_eq_of_lt h]; rfl
    push_cast at this ⊢; exact this
theorem wr_u64 (a : Int) : IntKind.u64.wrap a = a % 18446744073709551616 := by simp [IntKind.wrap, IntKind.bits, IntKind.signed]
theorem bv_xor_u64 (x y : BitVec 64) : Value.int .u64 (Go.bits .xor .u64 ((BitVec.toNat x : Nat) : Int) ((BitVec.toNat y : Nat) : Int)) = .int .u64 ((BitVec.toNat (x ^^^ y) : Nat) : Int) := by rw [u64_xor_nat _ _ x.isLt y.isLt, BitVec.toNat_xor]
theorem bv_and_u64 (x y : BitVec 64) : Value.int .u64 (Go.bits .and .u64 ((BitVec.toNat x : Nat) : Int) ((BitVec.toNat y : Nat) : Int)) = .int .u64 ((BitVec.toNat (x &&& y) : Nat) : Int) := by rw [u64_and_nat _ _ x.isLt y.isLt, BitVec.toNat_and]
theorem bv_or_u64 (x y : BitVec 64) : Value.int .u64 (Go.bits .or .u64 ((BitVec.toNat x : Nat) : Int) ((BitVec.toNat y : Nat) : Int)) = .int .u64 ((BitVec.toNat (x ||| y) : Nat) : Int) := by rw [u64_or_nat _ _ x.isLt y.isLt, BitVec.toNat_or]
theorem bv_andNot_u64 (x y : BitVec 64) : Value.int .u64 (Go.bits .andNot .u64 ((BitVec.toNat x : Nat) : Int) ((BitVec.toNat y : Nat) : Int)) = .int .u64 ((BitVec.toNat (x &&& ~~~y) : Nat) : Int) := by rw [u64_andNot_nat _ _ x.isLt y.isLt, BitVec.toNat_and, BitVec.toNat_not]
theorem bv_add_u64 (x y : BitVec 64) : Value.int .u64 (IntKind.u64.wrap (((BitVec.toNat x : Nat) : Int) + ((BitVec.toNat y : Nat) : Int))) = .int .u64 ((BitVec.toNat (x + y) : Nat) : Int) := by rw [wr_u64, BitVec.toNat_add]; congr 1
theorem bv_mul_u64 (x y : BitVec 64) : Value.int .u64 (IntKind.u64.wrap (((BitVec.toNat x : Nat) : Int) * ((BitVec.toNat y : Nat) : Int))) = .int .u64 ((BitVec.toNat (x * y) : Nat) : Int) := by rw [wr_u64, BitVec.toNat_mul, ← Int.natCast_mul]; congr 1
theorem bv_sub_u64 (x y : BitVec 64) : Value.int .u64 (IntKind.u64.wrap (((BitVec.toNat x : Nat) : Int) - ((BitVec.toNat y : Nat) : Int))) = .int .u64 ((BitVec.toNat (x - y) : Nat) : Int) := by
  rw [wr_u64, BitVec.toNat_sub]; have := x.isLt; have := y.isLt; congr 1; omega
theorem bv_shl_u64 (x : BitVec 64) (s : Nat) : Value.int .u64 (IntKind.u64.wrap (((BitVec.toNat x : Nat) : Int) * 2 ^ (min s 64))) = .int .u64 ((BitVec.toNat (x <<< s) : Nat) : Int) := by
  rw [wr_u64, BitVec.toNat_shiftLeft, Nat.shiftLeft_eq]; congr 1; exact shl_mod x.toNat s 64 18446744073709551616 rfl
theorem bv_shr_u64 (x : BitVec 64) (s : Nat) : Value.int .u64 (Int.fdiv ((BitVec.toNat x : Nat) : Int) (2 ^ (min s 64))) = .int .u64 ((BitVec.toNat (x >>> s) : Nat) : Int) := by
  rw [BitVec.toNat_ushiftRight, Nat.shiftRight_eq_div_pow]; congr 1; exact shr_min x.toNat s 64 x.isLt
theorem bv_quo_u64 (x y : BitVec 64) : Value.int .u64 (IntKind.u64.wrap (Int.tdiv ((BitVec.toNat x : Nat) : Int) ((BitVec.toNat y : Nat) : Int))) = .int .u64 ((BitVec.toNat (x / y) : Nat) : Int) := by
  rw [wr_u64, BitVec.toNat_udiv, nat_tdiv]; have h1 := x.isLt; have h2 := Nat.div_le_self x.toNat y.toNat; generalize x.toNat / y.toNat = q at *; congr 1; omega
theorem bv_rem_u64 (x y : BitVec 64) : Value.int .u64 (Int.tmod ((BitVec.toNat x : Nat) : Int) ((BitVec.toNat y : Nat) : Int)) = .int .u64 ((BitVec.toNat (x % y) : Nat) : Int) := by rw [BitVec.toNat_umod, nat_tmod]
theorem bv_ofNat_u64 (a : Nat) : Value.int .u64 (IntKind.u64.wrap ((a : Nat) : Int)) = .int .u64 ((BitVec.toNat (BitVec.ofNat 64 a) : Nat) : Int) := by rw [wr_u64, BitVec.toNat_ofNat]; congr 1
theorem bv_conv_u64 {m : Nat} (x : BitVec m) : Value.int .u64 (IntKind.u64.wrap ((BitVec.toNat x : Nat) : Int)) = .int .u64 ((BitVec.toNat (BitVec.setWidth 64 x) : Nat) : Int) := by rw [wr_u64, BitVec.toNat_setWidth]; congr 1
theorem wr_u32 (a : Int) : IntKind.u32.wrap a = a % 4294967296 := by simp [IntKind.wrap, IntKind.bits, IntKind.signed]
theorem bv_xor_u32 (x y : BitVec 32) : Value.int .u32 (Go.bits .xor .u32 ((BitVec.toNat x : Nat) : Int) ((BitVec.toNat y : Nat) : Int)) = .int .u32 ((BitVec.toNat (x ^^^ y) : Nat) : Int) := by rw [u32_xor_nat _ _ x.isLt y.isLt, BitVec.toNat_xor]
theorem bv_and_u32 (x y : BitVec 32) : Value.int .u32 (Go.bits .and .u32 ((BitVec.toNat x : Nat) : Int) ((BitVec.toNat y : Nat) : Int)) = .int .u32 ((BitVec.toNat (x &&& y) : Nat) : Int) := by rw [u32_and_nat _ _ x.isLt y.isLt, BitVec.toNat_and]
theorem bv_or_u32 (x y : BitVec 32) : Value.int .u32 (Go.bits .or .u32 ((BitVec.toNat x : Nat) : Int) ((BitVec.toNat y : Nat) : Int)) = .int .u32 ((BitVec.toNat (x ||| y) : Nat) : Int) := by rw [u32_or_nat _ _ x.isLt y.isLt, BitVec.toNat_or]
theorem bv_andNot_u32 (x y : BitVec 32) : Value.int .u32 (Go.bits .andNot .u32 ((BitVec.toNat x : Nat) : Int) ((BitVec.toNat y : Nat) : Int)) = .int .u32 ((BitVec.toNat (x &&& ~~~y) : Nat) : Int) := by rw [u32_andNot_nat _ _ x.isLt y.isLt, BitVec.toNat_and, BitVec.toNat_not]
theorem bv_add_u32 (x y : BitVec 32) : Value.int .u32 (IntKind.u32.wrap (((BitVec.toNat x : Nat) : Int) + ((BitVec.toNat y : Nat) : Int))) = .int .u32 ((BitVec.toNat (x + y) : Nat) : Int) := by rw [wr_u32, BitVec.toNat_add]; congr 1
theorem bv_mul_u32 (x y : BitVec 32) : Value.int .u32 (IntKind.u32.wrap (((BitVec.toNat x : Nat) : Int) * ((BitVec.toNat y : Nat) : Int))) = .int .u32 ((BitVec.toNat (x * y) : Nat) : Int) := by rw [wr_u32, BitVec.toNat_mul, ← Int.natCast_mul]; congr 1
theorem bv_sub_u32 (x y : BitVec 32) : Value.int .u32 (IntKind.u32.wrap (((BitVec.toNat x : Nat) : Int) - ((BitVec.toNat y : Nat) : Int))) = .int .u32 ((BitVec.toNat (x - y) : Nat) : Int) := by
  rw [wr_u32, BitVec.toNat_sub]; have := x.isLt; have := y.isLt; congr 1; omega
theorem bv_shl_u32 (x : BitVec 32) (s : Nat) : Value.int .u32 (IntKind.u32.wrap (((BitVec.toNat x : Nat) : Int) * 2 ^ (min s 32))) = .int .u32 ((BitVec.toNat (x <<< s) : Nat) : Int) := by
  rw [wr_u32, BitVec.toNat_shiftLeft, Nat.shiftLeft_eq]; congr 1; exact shl_mod x.toNat s 32 4294967296 rfl
theorem bv_shr_u32 (x : BitVec 32) (s : Nat) : Value.int .u32 (Int.fdiv ((BitVec.toNat x : Nat) : Int) (2 ^ (min s 32))) = .int .u32 ((BitVec.toNat (x >>> s) : Nat) : Int) := by
  rw [BitVec.toNat_ushiftRight, Nat.shiftRight_eq_div_pow]; congr 1; exact shr_min x.toNat s 32 x.isLt
theorem bv_quo_u32 (x y : BitVec 32) : Value.int .u32 (IntKind.u32.wrap (Int.tdiv ((BitVec.toNat x : Nat) : Int) ((BitVec.toNat y : Nat) : Int))) = .int .u32 ((BitVec.toNat (x / y) : Nat) : Int) := by
  rw [wr_u32, BitVec.toNat_udiv, nat_tdiv]; have h1 := x.isLt; have h2 := Nat.div_le_self x.toNat y.toNat; generalize x.toNat / y.toNat = q at *; congr 1; omega
theorem bv_rem_u32 (x y : BitVec 32) : Value.int .u32 (Int.tmod ((BitVec.toNat x : Nat) : Int) ((BitVec.toNat y : Nat) : Int)) = .int .u32 ((BitVec.toNat (x % y) : Nat) : Int) := by rw [BitVec.toNat_umod, nat_tmod]
theorem bv_ofNat_u32 (a : Nat) : Value.int .u32 (IntKind.u32.wrap ((a : Nat) : Int)) = .int .u32 ((BitVec.toNat (BitVec.ofNat 32 a) : Nat) : Int) := by rw [wr_u32, BitVec.toNat_ofNat]; congr 1
theorem bv_conv_u32 {m : Nat} (x : BitVec m) : Value.int .u32 (IntKind.u32.wrap ((BitVec.toNat x : Nat) : Int)) = .int .u32 ((BitVec.toNat (BitVec.setWidth 32 x) : Nat) : Int) := by rw [wr_u32, BitVec.toNat_setWidth]; congr 1
theorem wr_u8 (a : Int) : IntKind.u8.wrap a = a % 256 := by simp [IntKind.wrap, IntKind.bits, IntKind.signed]
theorem bv_xor_u8 (x y : BitVec 8) : Value.int .u8 (Go.bits .xor .u8 ((BitVec.toNat x : Nat) : Int) ((BitVec.toNat y : Nat) : Int)) = .int .u8 ((BitVec.toNat (x ^^^ y) : Nat) : Int) := by rw [u8_xor_nat _ _ x.isLt y.isLt, BitVec.toNat_xor]
theorem bv_and_u8 (x y : BitVec 8) : Value.int .u8 (Go.bits .and .u8 ((BitVec.toNat x : Nat) : Int) ((BitVec.toNat y : Nat) : Int)) = .int .u8 ((BitVec.toNat (x &&& y) : Nat) : Int) := by rw [u8_and_nat _ _ x.isLt y.isLt, BitVec.toNat_and]
theorem bv_or_u8 (x y : BitVec 8) : Value.int .u8 (Go.bits .or .u8 ((BitVec.toNat x : Nat) : Int) ((BitVec.toNat y : Nat) : Int)) = .int .u8 ((BitVec.toNat (x ||| y) : Nat) : Int) := by rw [u8_or_nat _ _ x.isLt y.isLt, BitVec.toNat_or]
theorem bv_andNot_u8 (x y : BitVec 8) : Value.int .u8 (Go.bits .andNot .u8 ((BitVec.toNat x : Nat) : Int) ((BitVec.toNat y : Nat) : Int)) = .int .u8 ((BitVec.toNat (x &&& ~~~y) : Nat) : Int) := by rw [u8_andNot_nat _ _ x.isLt y.isLt, BitVec.toNat_and, BitVec.toNat_not]
theorem bv_add_u8 (x y : BitVec 8) : Value.int .u8 (IntKind.u8.wrap (((BitVec.toNat x : Nat) : Int) + ((BitVec.toNat y : Nat) : Int))) = .int .u8 ((BitVec.toNat (x + y) : Nat) : Int) := by rw [wr_u8, BitVec.toNat_add]; congr 1
theorem bv_mul_u8 (x y : BitVec 8) : Value.int .u8 (IntKind.u8.wrap (((BitVec.toNat x : Nat) : Int) * ((BitVec.toNat y : Nat) : Int))) = .int .u8 ((BitVec.toNat (x * y) : Nat) : Int) := by rw [wr_u8, BitVec.toNat_mul, ← Int.natCast_mul]; congr 1
theorem bv_sub_u8 (x y : BitVec 8) : Value.int .u8 (IntKind.u8.wrap (((BitVec.toNat x : Nat) : Int) - ((BitVec.toNat y : Nat) : Int))) = .int .u8 ((BitVec.toNat (x - y) : Nat) : Int) := by
  rw [wr_u8, BitVec.toNat_sub]; have := x.isLt; have := y.isLt; congr 1; omega
theorem bv_shl_u8 (x : BitVec 8) (s : Nat) : Value.int .u8 (IntKind.u8.wrap (((BitVec.toNat x : Nat) : Int) * 2 ^ (min s 8))) = .int .u8 ((BitVec.toNat (x <<< s) : Nat) : Int) := by
  rw [wr_u8, BitVec.toNat_shiftLeft, Nat.shiftLeft_eq]; congr 1; exact shl_mod x.toNat s 8 256 rfl
theorem bv_shr_u8 (x : BitVec 8) (s : Nat) : Value.int .u8 (Int.fdiv ((BitVec.toNat x : Nat) : Int) (2 ^ (min s 8))) = .int .u8 ((BitVec.toNat (x >>> s) : Nat) : Int) := by
  rw [BitVec.toNat_ushiftRight, Nat.shiftRight_eq_div_pow]; congr 1; exact shr_min x.toNat s 8 x.isLt
theorem bv_quo_u8 (x y : BitVec 8) : Value.int .u8 (IntKind.u8.wrap (Int.tdiv ((BitVec.toNat x : Nat) : Int) ((BitVec.toNat y : Nat) : Int))) = .int .u8 ((BitVec.toNat (x / y) : Nat) : Int) := by
  rw [wr_u8, BitVec.toNat_udiv, nat_tdiv]; have h1 := x.isLt; have h2 := Nat.div_le_self x.toNat y.toNat; generalize x.toNat / y.toNat = q at *; congr 1; omega
theorem bv_rem_u8 (x y : BitVec 8) : Value.int .u8 (Int.tmod ((BitVec.toNat x : Nat) : Int) ((BitVec.toNat y : Nat) : Int)) = .int .u8 ((BitVec.toNat (x % y) : Nat) : Int) := by rw [BitVec.toNat_umod, nat_tmod]
theorem bv_ofNat_u8 (a : Nat) : Value.int .u8 (IntKind.u8.wrap ((a : Nat) : Int)) = .int .u8 ((BitVec.toNat (BitVec.ofNat 8 a) : Nat) : Int) := by rw [wr_u8, BitVec.toNat_ofNat]; congr 1
theorem bv_conv_u8 {m : Nat} (x : BitVec m) : Value.int .u8 (IntKind.u8.wrap ((BitVec.toNat x : Nat) : Int)) = .int .u8 ((BitVec.toNat (BitVec.setWidth 8 x) : Nat) : Int) := by rw [wr_u8, BitVec.toNat_setWidth]; congr 1
section
variable {P : Program} {ρ : Env}
theorem quo_run {k : IntKind} {t t' : TypeId} {x y : Operand} {o : Oper} {n : Nat} (X Y : Nat) (h : Y ≠ 0) (w : World) (ho : o.op = .binOp .quo t x y t') (hx : ev ρ x = .int k (X : Int)) (hy : ev ρ y = .int k (Y : Int)) :
    (execOp (ev ρ) o).run P w = .ok (.value (.int k (k.wrap ((X : Int).tdiv (Y : Int))))) w := by
  have h2 : (Y : Int) ≠ 0 := by omega
  unfold execOp
  simp [ho, hx, hy, eqGuard, binOp, Op.intDiv, h2, h]
theorem rem_run {k : IntKind} {t t' : TypeId} {x y : Operand} {o : Oper} {n : Nat} (X Y : Nat) (h : Y ≠ 0) (w : World) (ho : o.op = .binOp .rem t x y t') (hx : ev ρ x = .int k (X : Int)) (hy : ev ρ y = .int k (Y : Int)) :
    (execOp (ev ρ) o).run P w = .ok (.value (.int k ((X : Int).tmod (Y : Int)))) w := by
  have h2 : (Y : Int) ≠ 0 := by omega
  unfold execOp
  simp [ho, hx, hy, eqGuard, binOp, Op.intDiv, h2, h]
theorem cut_run {t e : TypeId} {size bytes : Nat} (ht : sliceOf P t = some (e, size, bytes)) {x y : Operand} {o : Oper} {kd : IntKind} (b n c k : Nat) (ho : o.op = .slice t x none (some y) none) (hx : ev ρ x = .slice (some ⟨b, 0, none⟩) n c) (hy : ev ρ y = .int kd (k : Int)) (hk : k ≤ c) :
    ∀ w, (execOp (ev ρ) o).run P w = .ok (.value (.slice (some ⟨b, 0, none⟩) k c)) w := fun w => by
  obtain ⟨it, z, hu, hi, hz, hsz, hby, hzs, h0⟩ := sliceOf_spec ht
  have hS : (sizeOf e).run P w = .ok size w := by simp [sizeOf, typeInfo, hi, hsz]
  have h1 : (0 : Int) ≤ (k : Int) ∧ (k : Int) ≤ (c : Int) := by omega
  unfold execOp
  simp [ho, hx, hy, Instr.sliceAt, Instr.slice, Instr.sliceBounds, Instr.sliceBound, asIntOf, run_underlying hu, hS, hk, addr_add]
end
namespace D2
theorem ent_get' {E : List Ent} {k : Nat} {p : Bool} {e : Nat × Obj} {b : Nat} {o : Obj} (h : E[k]? = some (p, e)) (hp : p = true) (he : e = (b, o)) : E[k]? = some (true, (b, o)) := by rw [h, hp, he]
theorem StE.old {B : Nat} {w0 w : World} {E : List Ent} (HS : StE B w0 w E) {b : Nat} {o : Obj} (h : w0.heap[b]? = some o) (hb : b < B) : w.heap[b]? = some o := by rw [HS.below.block b hb]; exact h
section
variable {P : Program} {ops : Array Oper} {R : (Nat → Gh) → Env} {i : Nat} {d : Option Nat}
variable {E : (Nat → Bool) → (Nat → Gh) → List Ent} {F : (Nat → Bool) → (Nat → Gh) → Prop} {B : Nat} {w0 : World}
theorem gv_load1F {V : Value} (t : TypeId) (x : Operand) (b off : Nat) (C : Array Value) (T : TypeId) (fz : Nat × Nat) (hs : ∀ L g w, Pre B w0 E F L g w → Pre B w0 E F (put1 L i) g w) (h : ∀ g, opk ops i (R g) = some (d, true, .load t x))
    (hx : ∀ g, ev (R g) x = .pointer (some ⟨b, off, none⟩)) (hh : w0.heap[b]? = some (.cells C T fz)) (hb : b < B) (ht : oneCell P t = true) (hv : C[off]? = some V) : Gives P ops R (Pre B w0 E F) i d (fun _ => V) := gives_of fun L g w hp hN => by
  obtain ⟨o, ho, hd, hw, hop⟩ := opk_some (h g)
  have := load_one (w := w) ht (hp.1.old hh hb) hv
  have e2 : (execOp (ev (R g)) o).run P w = .ok (.value V) w := by
    have e3 : (Instr.loadAt t (ev (R g) x)).run P w = .ok V w := by rw [hx g]; exact this
    simp only [execOp, hop, Sem.run_bind, e3, Result.andThen_ok]; rfl
  exact ⟨o, ho, hd, .inr ⟨hw, by rw [e2]; exact ⟨g i, rfl, by rw [setN_self]; exact hs _ _ _ hp⟩⟩⟩
end
end D2
section
variable {P : Program} {N : Nat} {ops : Array Oper} {i : Nat} {r : List Nat} {K : Env → World → Prop} {ρ : Env} {w : World} {B : Nat} {w0 : World} {l : List (Nat × Obj)}
/-- 'make([]T, n)', of elements of one cell. -/
theorem s_make (HS : St B w0 w l) (d : Option Nat) (t e : TypeId) (bytes : Nat) (z : Value) (x y : Operand) (kl kc : IntKind) (n : Nat) (h : opk ops i ρ = some (d, true, .makeSlice t x y)) (hd : dOK d N = true) (ht : sliceOf P t = some (e, 1, bytes)) (hz : (P.info? e).bind (·.zero) = some z) (hzz : z.cells = #[z])
    (hx : ev ρ x = .int kl (n : Int)) (hy : ev ρ y = .int kc (n : Int)) (hb : bytes * n ≤ 281474976710656) (hm : n ≤ maxLen)
    (kk : ∀ b cur w', St B w0 w' ((b, .cells cur e (0, 0)) :: l) → Rw 1 cur n n (List.replicate n z) → WPs P N ops K r (updO ρ d (.slice (some ⟨b, 0, none⟩) n n)) w') : WPs P N ops K (i :: r) ρ w := by
  obtain ⟨o, ho, rfl, hw, hop⟩ := opk_some h
  obtain ⟨it, z', hu, hi, hz', hsz, hby, hzs, h0⟩ := sliceOf_spec ht
  obtain rfl : z' = z := by rw [hi] at hz; simp [hz'] at hz; exact hz
  have hml : n ≤ 9223372036854775807 := by have := hm; simp only [maxLen] at this; omega
  have hbi : (it.bytes : Int) * (n : Int) ≤ 281474976710656 := by
    rw [hby, ← Int.natCast_mul]; omega
  have hr := run_make (P := P) w t e it z' hu hi hz' kl kc (n : Int) (n : Int) (by omega) (by omega) hbi (by omega)
  simp only [Int.toNat_natCast, hsz, Nat.mul_one] at hr
  have hmade : madeCells z'.cells n = Array.replicate n z' := by
    unfold madeCells
    apply Array.ext
    · simp
    · intro q h1 h2
      simp [hzz, Nat.mod_one]
  rw [hmade] at hr
  refine WPo.run ho hw fun a ha => ?_
  have hex : (execOp (ev ρ) o).run P w = .ok (.value (.slice (some ⟨w.heap.size, 0, none⟩) n n)) (w.alloc (.cells (Array.replicate n z') e)) := by
    unfold execOp
    simp only [hop, hx, hy, Sem.run_bind, hr, Result.andThen_ok]; rfl
  rw [hex, Oper.upon_value]
  exact ⟨_, ha.put _ (dOK_lt hd) _, kk _ _ _ (HS.alloc _) ⟨by simp, Nat.le_refl _, hm, by simp, by simp⟩⟩
end
/-- An element of a row, of one cell. -/
theorem Rw.at1 {cur : Array Value} {cap n : Nat} {xs : List Value} (h : Rw 1 cur cap n xs) {i : Nat} {v : Value} (hi : i < n) (hv : xs[i]? = some v) : cur[0 + i * 1]? = some v := by
  rw [Nat.zero_add, Nat.mul_one, h.get i (by omega)]; exact hv
theorem Rw.put {cur : Array Value} {cap n : Nat} {l : List Nat} (h : Rw 1 cur cap n (cellsD l)) (i v : Nat) (hi : i < n) :
    ∃ cur', (cur.toList.take (0 + i * 1) ++ (Value.int .i64 ((v : Nat) : Int)).cells.toList ++ cur.toList.drop (0 + i * 1 + (Value.int .i64 ((v : Nat) : Int)).cells.size)).toArray = cur' ∧ (0 + i * 1 + (Value.int .i64 ((v : Nat) : Int)).cells.size ≤ cur.size) ∧ Rw 1 cur' cap n (cellsD (l.set i v)) := by
  have h1 : (Value.int .i64 ((v : Nat) : Int)).cells = #[.int .i64 ((v : Nat) : Int)] := rfl
  have hsz := h.sz; have hle := h.le
  have hlt : i < cur.toList.length := by simp; omega
  have e : cur.toList.take (0 + i * 1) ++ (Value.int .i64 ((v : Nat) : Int)).cells.toList ++ cur.toList.drop (0 + i * 1 + (Value.int .i64 ((v : Nat) : Int)).cells.size) = cur.toList.set i (.int .i64 ((v : Nat) : Int)) := by
    rw [h1, Nat.zero_add, Nat.mul_one, List.set_eq_take_append_cons_drop, if_pos hlt]
    simp
  refine ⟨_, rfl, by rw [h1]; simp; omega, ?_⟩
  rw [e]
  refine ⟨?_, h.le, h.max, ?_, by simpa using hsz⟩
  · have := h.len; unfold cellsD at this ⊢; simpa using this
  · have := h.take
    simp only [List.take_set, Nat.mul_one] at this ⊢
    rw [this]; unfold cellsD; simp [List.map_set]
theorem Rw.atD {cur : Array Value} {cap n : Nat} {l : List Nat} (h : Rw 1 cur cap n (cellsD l)) {i : Nat} (hi : i < n) (hn : n = l.length) : cur[0 + i * 1]? = some (.int .i64 ((l.getD i 0 : Nat) : Int)) :=
  h.at1 hi (cellsD_get l i (by omega))
end Go.Proofs.Ytljhbhhpfkmemaa
