/-
  The reference: places, turns, the register.
-/
import Derived.Test.YtddhadddpllbcaaDoorProg
import Derived.Test.YtddhadddpllbcaaDoorStr
import Derived.Test.YtddhadddpllbcaaDoorKecM
import Derived.Test.YtddhadddpllbcaaDoorKecQ
namespace Go.Proofs.YtddhadddpllbcaaDoor
open Go Go.RowKit Go.Proofs.Kec
set_option linter.unusedVariables false
def uvT : Nat → Nat × Nat
  | 0 => (1, 0)
  | t + 1 => ((uvT t).2, (2 * (uvT t).1 + 3 * (uvT t).2) % 5)
theorem uvT_lt : ∀ t, (uvT t).1 < 5 ∧ (uvT t).2 < 5
  | 0 => by decide
  | t + 1 => ⟨(uvT_lt t).2, Nat.mod_lt _ (by decide)⟩
def rotN (x y : Nat) : Nat := match (List.range 24).find? (fun t => uvT t == (x, y)) with | some t => (t + 1) * (t + 2) / 2 % 64 | none => 0
theorem rotN_at {x y t : Nat} (ht : t < 24) (hno : ∀ j, j < t → uvT j ≠ (x, y)) (h1 : (uvT t).1 = x) (h2 : (uvT t).2 = y) : rotN x y = (t + 1) * (t + 2) / 2 % 64 := by
  unfold rotN
  have : (List.range 24).find? (fun t => uvT t == (x, y)) = some t := by
    rw [List.find?_range_eq_some]
    refine ⟨by simp [← h1, ← h2], by simp [ht], fun j hj => by simpa using hno j hj⟩
  rw [this]
theorem rotN_no {x y : Nat} (hno : ∀ j, j < 24 → uvT j ≠ (x, y)) : rotN x y = 0 := by
  unfold rotN
  have : (List.range 24).find? (fun t => uvT t == (x, y)) = none := by
    rw [List.find?_eq_none]; intro j hj; simpa using hno j (by simpa using hj)
  rw [this]
def regT : Nat → Nat
  | 0 => 1
  | k + 1 => if 2 * regT k > 255 then (2 * regT k) ^^^ 369 else 2 * regT k
theorem xor369 : ∀ r : Fin 512, Go.bits .xor .i64 ((r.val : Nat) : Int) 369 = ((r.val ^^^ 369 : Nat) : Int) := by decide +kernel
theorem reg_small : ∀ r : Fin 512, 255 < r.val → r.val ^^^ 369 < 256 := by decide +kernel
theorem regT_lt : ∀ k, regT k < 256
  | 0 => by decide
  | k + 1 => by
    have := regT_lt k
    unfold regT
    split
    · exact reg_small ⟨2 * regT k, by omega⟩ (by simp only; omega)
    · omega
theorem regX (k : Nat) : Go.bits .xor .i64 (((2 * regT k : Nat)) : Int) 369 = ((2 * regT k ^^^ 369 : Nat) : Int) := xor369 ⟨2 * regT k, by have := regT_lt k; omega⟩
def bitsT (k : Nat) : List Nat := (List.range k).map fun j => regT j % 2
theorem bitsT_succ (k : Nat) : bitsT (k + 1) = bitsT k ++ [regT k % 2] := by unfold bitsT; rw [List.range_succ, List.map_append]; rfl
theorem bitsT_len (k : Nat) : (bitsT k).length = k := by unfold bitsT; simp
def lastB (i : Nat) : Nat → BitVec 64
  | 0 => 0
  | j + 1 => if (bitsT 168).getD (j + 7 * i) 0 = 1 then lastB i j ||| (1 <<< (2 ^ j - 1)) else lastB i j
theorem last_mark : ∀ i : Fin 24, lastB i.val 7 = Kec.marks.getD i.val 0 := by decide +kernel

set_option maxRecDepth 100000 in
set_option maxHeartbeats 2000000 in
theorem at_fn (x y : Nat) (hx : x < 100) (hy : y < 100) : Fn Tryd.prog 21 #[.int .i64 ((x : Nat) : Int), .int .i64 ((y : Nat) : Int)] (.int .i64 ((x % 5 + 5 * (y % 5) : Nat) : Int)) := by
  refine Fn.intro (c := codeOf Tryd.f21) [.tmp 4] 11 Tryd.func21 (by kernel_rfl) (by kernel_rfl) (by kernel_rfl) fun w => ?_
  have H0 := St.start w
  refine g_sreg [0] (by kernel_rfl) (by kernel_rfl) ?_
  refine s_val (some 4) (.int .i64 0) (fun w => by kernel_rfl) (by kernel_rfl) ?_
  refine s_nil ?_
  refine g_sreg [0, 1, 2, 3, 4, 5, 6] (by kernel_rfl) (by kernel_rfl) ?_
  refine s_val (some 5) (.int .i64 ((x : Nat) : Int)) (fun w => by kernel_rfl) (by kernel_rfl) ?_
  refine s_valE (some 6) (.int .i64 (Int.tmod ((x : Nat) : Int) 5)) (.int .i64 ((x % 5 : Nat) : Int)) (fun w => by kernel_rfl) (int_eq (remN x 5)) (by kernel_rfl) ?_
  refine s_val (some 7) (.int .i64 ((y : Nat) : Int)) (fun w => by kernel_rfl) (by kernel_rfl) ?_
  refine s_valE (some 8) (.int .i64 (Int.tmod ((y : Nat) : Int) 5)) (.int .i64 ((y % 5 : Nat) : Int)) (fun w => by kernel_rfl) (int_eq (remN y 5)) (by kernel_rfl) ?_
  refine s_valE (some 9) (.int .i64 (IntKind.i64.wrap (5 * ((y % 5 : Nat) : Int)))) (.int .i64 ((5 * (y % 5) : Nat) : Int)) (fun w => by kernel_rfl) (int_eq (wrapMul_i64 (a := 5) (b := y % 5) (by omega))) (by kernel_rfl) ?_
  refine s_valE (some 10) (.int .i64 (IntKind.i64.wrap (((x % 5 : Nat) : Int) + ((5 * (y % 5) : Nat) : Int)))) (.int .i64 (((x % 5) + (5 * (y % 5)) : Nat) : Int)) (fun w => by kernel_rfl) (int_eq (wrapAdd_i64 (a := x % 5) (b := 5 * (y % 5)) (by omega))) (by kernel_rfl) ?_
  refine s_val (some 4) (.int .i64 (((x % 5) + (5 * (y % 5)) : Nat) : Int)) (fun w => by kernel_rfl) (by kernel_rfl) ?_
  refine s_nil ?_
  refine g_ret (by kernel_rfl) ?_
  show ∃ vs, Res _ _ _ _ vs ∧ _
  refine ⟨[.int .i64 (((x % 5) + (5 * (y % 5)) : Nat) : Int)], (.tmp (.int .i64 (((x % 5) + (5 * (y % 5)) : Nat) : Int)) (by kernel_rfl) .nil), ?_, H0.below⟩
  rfl

set_option maxRecDepth 100000 in
set_option maxHeartbeats 2000000 in
theorem left0_fn (x : BitVec 64) : Fn Tryd.prog 22 #[.int .u64 ((BitVec.toNat x : Nat) : Int), .int .i64 0] (.int .u64 ((BitVec.toNat x : Nat) : Int)) := by
  refine Fn.intro (c := codeOf Tryd.f22) [.tmp 4] 18 Tryd.func22 (by kernel_rfl) (by kernel_rfl) (by kernel_rfl) fun w => ?_
  have H0 := St.start w
  refine g_sreg [0] (by kernel_rfl) (by kernel_rfl) ?_
  refine s_val (some 4) (.int .u64 0) (fun w => by kernel_rfl) (by kernel_rfl) ?_
  refine s_nil ?_
  refine g_seq (by kernel_rfl) ?_
  refine g_sreg [0, 1] (by kernel_rfl) (by kernel_rfl) ?_
  refine s_val (some 5) (.int .i64 0) (fun w => by kernel_rfl) (by kernel_rfl) ?_
  refine s_val (some 6) (.bool true) (fun w => by kernel_rfl) (by kernel_rfl) ?_
  refine s_nil ?_
  refine g_cond_t (by kernel_rfl) (by kernel_rfl) ?_
  refine g_sreg [0, 1] (by kernel_rfl) (by kernel_rfl) ?_
  refine s_val (some 7) (.int .u64 ((BitVec.toNat x : Nat) : Int)) (fun w => by kernel_rfl) (by kernel_rfl) ?_
  refine s_val (some 4) (.int .u64 ((BitVec.toNat x : Nat) : Int)) (fun w => by kernel_rfl) (by kernel_rfl) ?_
  refine s_nil ?_
  refine g_ret (by kernel_rfl) ?_
  show ∃ vs, Res _ _ _ _ vs ∧ _
  refine ⟨[.int .u64 ((BitVec.toNat x : Nat) : Int)], (.tmp (.int .u64 ((BitVec.toNat x : Nat) : Int)) (by kernel_rfl) .nil), ?_, H0.below⟩
  rfl

set_option maxRecDepth 100000 in
set_option maxHeartbeats 2000000 in
theorem left_fn (x : BitVec 64) (n : Nat) (h0 : 0 < n) (hn : n < 64) : Fn Tryd.prog 22 #[.int .u64 ((BitVec.toNat x : Nat) : Int), .int .i64 ((n : Nat) : Int)] (.int .u64 ((BitVec.toNat (rl x n) : Nat) : Int)) := by
  refine Fn.intro (c := codeOf Tryd.f22) [.tmp 4] 18 Tryd.func22 (by kernel_rfl) (by kernel_rfl) (by kernel_rfl) fun w => ?_
  have H0 := St.start w
  refine g_sreg [0] (by kernel_rfl) (by kernel_rfl) ?_
  refine s_val (some 4) (.int .u64 0) (fun w => by kernel_rfl) (by kernel_rfl) ?_
  refine s_nil ?_
  refine g_seq (by kernel_rfl) ?_
  refine g_sreg [0, 1] (by kernel_rfl) (by kernel_rfl) ?_
  refine s_val (some 5) (.int .i64 ((n : Nat) : Int)) (fun w => by kernel_rfl) (by kernel_rfl) ?_
  refine s_valE (some 6) (.bool (((n : Nat) : Int) == 0)) (.bool false) (fun w => by kernel_rfl) (bool_eq (beq_eq_false_iff_ne.2 (by omega))) (by kernel_rfl) ?_
  refine s_nil ?_
  refine g_cond_f (by kernel_rfl) (by kernel_rfl) ?_
  refine g_skip (by kernel_rfl) ?_
  show WP _ _ _ _ _ _
  refine g_sreg [0, 1, 2, 3, 4, 5, 6, 7, 8, 9, 10] (by kernel_rfl) (by kernel_rfl) ?_
  refine s_val (some 8) (.int .u64 ((BitVec.toNat x : Nat) : Int)) (fun w => by kernel_rfl) (by kernel_rfl) ?_
  refine s_val (some 9) (.int .i64 ((n : Nat) : Int)) (fun w => by kernel_rfl) (by kernel_rfl) ?_
  refine s_valE (some 10) (.int .u64 (IntKind.u64.wrap (((n : Nat) : Int)))) (.int .u64 ((n : Nat) : Int)) (fun w => by kernel_rfl) (int_eq (wrapN_u64 (a := n) (by omega))) (by kernel_rfl) ?_
  refine s_valE (some 11) (.int .u64 (IntKind.u64.wrap ((((BitVec.toNat x : Nat) : Int)) * 2 ^ (min n 64)))) (.int .u64 ((BitVec.toNat (x <<< n) : Nat) : Int)) (fun w => by kernel_rfl) (bv_shl_u64 x n) (by kernel_rfl) ?_
  refine s_val (some 12) (.int .u64 ((BitVec.toNat x : Nat) : Int)) (fun w => by kernel_rfl) (by kernel_rfl) ?_
  refine s_val (some 13) (.int .i64 ((n : Nat) : Int)) (fun w => by kernel_rfl) (by kernel_rfl) ?_
  refine s_valE (some 14) (.int .i64 (IntKind.i64.wrap (64 - ((n : Nat) : Int)))) (.int .i64 ((64 - n : Nat) : Int)) (fun w => by kernel_rfl) (int_eq (wrapSub_i64 (a := 64) (b := n) (by omega))) (by kernel_rfl) ?_
  refine s_valE (some 15) (.int .u64 (IntKind.u64.wrap (((64 - n : Nat) : Int)))) (.int .u64 ((64 - n : Nat) : Int)) (fun w => by kernel_rfl) (int_eq (wrapN_u64 (a := 64 - n) (by omega))) (by kernel_rfl) ?_
  refine s_valE (some 16) (.int .u64 (Int.fdiv (((BitVec.toNat x : Nat) : Int)) (2 ^ (min (64 - n) 64)))) (.int .u64 ((BitVec.toNat (x >>> (64 - n)) : Nat) : Int)) (fun w => by kernel_rfl) (bv_shr_u64 x (64 - n)) (by kernel_rfl) ?_
  refine s_valE (some 17) (.int .u64 (Go.bits .or .u64 (((BitVec.toNat (x <<< n) : Nat) : Int)) (((BitVec.toNat (x >>> (64 - n)) : Nat) : Int)))) (.int .u64 ((BitVec.toNat ((x <<< n) ||| (x >>> (64 - n))) : Nat) : Int)) (fun w => by kernel_rfl) (bv_or_u64 (x <<< n) (x >>> (64 - n))) (by kernel_rfl) ?_
  refine s_val (some 4) (.int .u64 ((BitVec.toNat ((x <<< n) ||| (x >>> (64 - n))) : Nat) : Int)) (fun w => by kernel_rfl) (by kernel_rfl) ?_
  refine s_nil ?_
  refine g_ret (by kernel_rfl) ?_
  show ∃ vs, Res _ _ _ _ vs ∧ _
  refine ⟨[.int .u64 ((BitVec.toNat ((x <<< n) ||| (x >>> (64 - n))) : Nat) : Int)], (.tmp (.int .u64 ((BitVec.toNat ((x <<< n) ||| (x >>> (64 - n))) : Nat) : Int)) (by kernel_rfl) .nil), ?_, H0.below⟩
  rw [← rl_of x n hn]; rfl

set_option maxRecDepth 100000 in
set_option maxHeartbeats 2000000 in
theorem turnR_fn (x y : Nat) (hx : x < 5) (hy : y < 5) : Fn Tryd.prog 23 #[.int .i64 ((x : Nat) : Int), .int .i64 ((y : Nat) : Int)] (.int .i64 ((rotN x y : Nat) : Int)) := by
  refine Fn.intro (c := codeOf Tryd.f23) [.tmp 4] 36 Tryd.func23 (by kernel_rfl) (by kernel_rfl) (by kernel_rfl) fun w => ?_
  have H0 := St.start w
  refine g_sreg [0] (by kernel_rfl) (by kernel_rfl) ?_
  refine s_val (some 4) (.int .i64 0) (fun w => by kernel_rfl) (by kernel_rfl) ?_
  refine s_nil ?_
  refine g_sreg [0] (by kernel_rfl) (by kernel_rfl) ?_
  refine s_val (some 5) (.int .i64 1) (fun w => by kernel_rfl) (by kernel_rfl) ?_
  refine s_nil ?_
  refine g_sreg [0] (by kernel_rfl) (by kernel_rfl) ?_
  refine s_val (some 6) (.int .i64 0) (fun w => by kernel_rfl) (by kernel_rfl) ?_
  refine s_nil ?_
  refine g_seq (by kernel_rfl) ?_
  refine g_sreg [0] (by kernel_rfl) (by kernel_rfl) ?_
  refine s_val (some 7) (.int .i64 0) (fun w => by kernel_rfl) (by kernel_rfl) ?_
  refine s_nil ?_
  refine g_block 0 (by kernel_rfl) ?_
  refine g_loop (by kernel_rfl) (fun m ρ ww => ∃ (t : Nat), 24 - t = m ∧ (t ≤ 24) ∧ (∀ j, j < t → uvT j ≠ (x, y)) ∧ St w.heap.size w ww [] ∧ Is [(0, .int .i64 ((x : Nat) : Int)), (1, .int .i64 ((y : Nat) : Int)), (5, .int .i64 (((uvT t).1 : Nat) : Int)), (6, .int .i64 (((uvT t).2 : Nat) : Int)), (7, .int .i64 ((t : Nat) : Int))] ρ) (24 - 0) ⟨0, rfl, (by omega), (fun j hj => absurd hj (by omega)), H0, (Is.of ⟨(by kernel_rfl), (by kernel_rfl), (by kernel_rfl), (by kernel_rfl), (by kernel_rfl), trivial⟩)⟩ ?_
  clear H0
  rintro _ _ w1 ⟨t, rfl, ht, hno, H1, _, rfl⟩
  have hlt := uvT_lt t
  refine g_seq (by kernel_rfl) ?_
  refine g_sreg [0, 1] (by kernel_rfl) (by kernel_rfl) ?_
  refine s_val (some 9) (.int .i64 ((t : Nat) : Int)) (fun w => by kernel_rfl) (by kernel_rfl) ?_
  by_cases hc1 : (t : Nat) < 24
  · skip
    refine s_valE (some 10) (.bool (decide (((t : Nat) : Int) < 24))) (.bool true) (fun w => by kernel_rfl) (bool_eq (decide_eq_true (by omega))) (by kernel_rfl) ?_
    refine s_nil ?_
    refine g_cond_t (by kernel_rfl) (by kernel_rfl) ?_
    refine g_skip (by kernel_rfl) ?_
    show WP _ _ _ _ _ _
    refine g_seq (by kernel_rfl) ?_
    refine g_block 1 (by kernel_rfl) ?_
    refine g_seq (by kernel_rfl) ?_
    refine g_sreg [0, 1, 2, 3, 4, 5, 6, 7] (by kernel_rfl) (by kernel_rfl) ?_
    refine s_val (some 13) (.int .i64 (((uvT t).1 : Nat) : Int)) (fun w => by kernel_rfl) (by kernel_rfl) ?_
    refine s_val (some 14) (.int .i64 ((x : Nat) : Int)) (fun w => by kernel_rfl) (by kernel_rfl) ?_
    by_cases hc2 : ((uvT t).1 : Nat) = x
    · skip
      refine s_valE (some 15) (.bool ((((uvT t).1 : Nat) : Int) == ((x : Nat) : Int))) (.bool true) (fun w => by kernel_rfl) (bool_eq (beq_iff_eq.2 (by omega))) (by kernel_rfl) ?_
      refine s_val (some 16) (.bool true) (fun w => by kernel_rfl) (by kernel_rfl) ?_
      refine s_val (some 17) (.int .i64 (((uvT t).2 : Nat) : Int)) (fun w => by kernel_rfl) (by kernel_rfl) ?_
      refine s_val (some 18) (.int .i64 ((y : Nat) : Int)) (fun w => by kernel_rfl) (by kernel_rfl) ?_
      by_cases hc3 : ((uvT t).2 : Nat) = y
      · skip
        refine s_valE (some 19) (.bool ((((uvT t).2 : Nat) : Int) == ((y : Nat) : Int))) (.bool true) (fun w => by kernel_rfl) (bool_eq (beq_iff_eq.2 (by omega))) (by kernel_rfl) ?_
        refine s_val (some 20) (.bool true) (fun w => by kernel_rfl) (by kernel_rfl) ?_
        refine s_nil ?_
        refine g_cond_t (by kernel_rfl) (by kernel_rfl) ?_
        refine g_sreg [0, 1, 2, 3, 4, 5, 6, 7] (by kernel_rfl) (by kernel_rfl) ?_
        refine s_val (some 21) (.int .i64 ((t : Nat) : Int)) (fun w => by kernel_rfl) (by kernel_rfl) ?_
        refine s_valE (some 22) (.int .i64 (IntKind.i64.wrap (((t : Nat) : Int) + 1))) (.int .i64 ((t + 1 : Nat) : Int)) (fun w => by kernel_rfl) (int_eq (wrapAdd_i64 (a := t) (b := 1) (by omega))) (by kernel_rfl) ?_
        refine s_val (some 23) (.int .i64 ((t : Nat) : Int)) (fun w => by kernel_rfl) (by kernel_rfl) ?_
        refine s_valE (some 24) (.int .i64 (IntKind.i64.wrap (((t : Nat) : Int) + 2))) (.int .i64 ((t + 2 : Nat) : Int)) (fun w => by kernel_rfl) (int_eq (wrapAdd_i64 (a := t) (b := 2) (by omega))) (by kernel_rfl) ?_
        have hmul : (t + 1) * (t + 2) ≤ 25 * 26 := Nat.mul_le_mul (by omega) (by omega)
        refine s_valE (some 25) (.int .i64 (IntKind.i64.wrap (((t + 1 : Nat) : Int) * ((t + 2 : Nat) : Int)))) (.int .i64 (((t + 1) * (t + 2) : Nat) : Int)) (fun w => by kernel_rfl) (int_eq (wrapMul_i64 (a := t + 1) (b := t + 2) (by omega))) (by kernel_rfl) ?_
        refine s_valE (some 26) (.int .i64 (IntKind.i64.wrap ((((t + 1) * (t + 2) : Nat) : Int).tdiv 2))) (.int .i64 ((((t + 1) * (t + 2)) / 2 : Nat) : Int)) (fun w => by kernel_rfl) (int_eq (quoN_i64 (a := (t + 1) * (t + 2)) (b := 2) (by omega))) (by kernel_rfl) ?_
        refine s_valE (some 27) (.int .i64 (Int.tmod ((((t + 1) * (t + 2)) / 2 : Nat) : Int) 64)) (.int .i64 (((((t + 1) * (t + 2)) / 2) % 64 : Nat) : Int)) (fun w => by kernel_rfl) (int_eq (remN (((t + 1) * (t + 2)) / 2) 64)) (by kernel_rfl) ?_
        refine s_val (some 4) (.int .i64 (((((t + 1) * (t + 2)) / 2) % 64 : Nat) : Int)) (fun w => by kernel_rfl) (by kernel_rfl) ?_
        refine s_nil ?_
        refine g_ret (by kernel_rfl) ?_
        show ∃ vs, Res _ _ _ _ vs ∧ _
        refine ⟨[.int .i64 (((((t + 1) * (t + 2)) / 2) % 64 : Nat) : Int)], (.tmp (.int .i64 (((((t + 1) * (t + 2)) / 2) % 64 : Nat) : Int)) (by kernel_rfl) .nil), ?_, H1.below⟩
        rw [rotN_at (t := t) (by omega) hno (by omega) (by omega)]; rfl
      · skip
        refine s_valE (some 19) (.bool ((((uvT t).2 : Nat) : Int) == ((y : Nat) : Int))) (.bool false) (fun w => by kernel_rfl) (bool_eq (beq_eq_false_iff_ne.2 (by omega))) (by kernel_rfl) ?_
        refine s_val (some 20) (.bool false) (fun w => by kernel_rfl) (by kernel_rfl) ?_
        refine s_nil ?_
        refine g_cond_f (by kernel_rfl) (by kernel_rfl) ?_
        refine g_skip (by kernel_rfl) ?_
        show WP _ _ _ _ _ _
        refine g_sreg [0, 1] (by kernel_rfl) (by kernel_rfl) ?_
        refine s_val (some 28) (.int .i64 (((uvT t).2 : Nat) : Int)) (fun w => by kernel_rfl) (by kernel_rfl) ?_
        refine s_val (some 8) (.int .i64 (((uvT t).2 : Nat) : Int)) (fun w => by kernel_rfl) (by kernel_rfl) ?_
        refine s_nil ?_
        refine g_sreg [0, 1, 2, 3, 4, 5, 6] (by kernel_rfl) (by kernel_rfl) ?_
        refine s_val (some 29) (.int .i64 (((uvT t).1 : Nat) : Int)) (fun w => by kernel_rfl) (by kernel_rfl) ?_
        refine s_valE (some 30) (.int .i64 (IntKind.i64.wrap (2 * (((uvT t).1 : Nat) : Int)))) (.int .i64 ((2 * ((uvT t).1) : Nat) : Int)) (fun w => by kernel_rfl) (int_eq (wrapMul_i64 (a := 2) (b := (uvT t).1) (by omega))) (by kernel_rfl) ?_
        refine s_val (some 31) (.int .i64 (((uvT t).2 : Nat) : Int)) (fun w => by kernel_rfl) (by kernel_rfl) ?_
        refine s_valE (some 32) (.int .i64 (IntKind.i64.wrap (3 * (((uvT t).2 : Nat) : Int)))) (.int .i64 ((3 * ((uvT t).2) : Nat) : Int)) (fun w => by kernel_rfl) (int_eq (wrapMul_i64 (a := 3) (b := (uvT t).2) (by omega))) (by kernel_rfl) ?_
        refine s_valE (some 33) (.int .i64 (IntKind.i64.wrap (((2 * ((uvT t).1) : Nat) : Int) + ((3 * ((uvT t).2) : Nat) : Int)))) (.int .i64 (((2 * ((uvT t).1)) + (3 * ((uvT t).2)) : Nat) : Int)) (fun w => by kernel_rfl) (int_eq (wrapAdd_i64 (a := 2 * ((uvT t).1)) (b := 3 * ((uvT t).2)) (by omega))) (by kernel_rfl) ?_
        refine s_valE (some 34) (.int .i64 (Int.tmod (((2 * ((uvT t).1)) + (3 * ((uvT t).2)) : Nat) : Int) 5)) (.int .i64 ((((2 * ((uvT t).1)) + (3 * ((uvT t).2))) % 5 : Nat) : Int)) (fun w => by kernel_rfl) (int_eq (remN ((2 * ((uvT t).1)) + (3 * ((uvT t).2))) 5)) (by kernel_rfl) ?_
        refine s_val (some 6) (.int .i64 ((((2 * ((uvT t).1)) + (3 * ((uvT t).2))) % 5 : Nat) : Int)) (fun w => by kernel_rfl) (by kernel_rfl) ?_
        refine s_nil ?_
        refine g_reg0 [0, 1] (by kernel_rfl) ?_
        refine s_val (some 35) (.int .i64 (((uvT t).2 : Nat) : Int)) (fun w => by kernel_rfl) (by kernel_rfl) ?_
        refine s_val (some 5) (.int .i64 (((uvT t).2 : Nat) : Int)) (fun w => by kernel_rfl) (by kernel_rfl) ?_
        refine s_nil ?_
        show WP _ _ _ _ _ _
        refine g_reg0 [0, 1, 2] (by kernel_rfl) ?_
        refine s_val (some 11) (.int .i64 ((t : Nat) : Int)) (fun w => by kernel_rfl) (by kernel_rfl) ?_
        refine s_valE (some 12) (.int .i64 (IntKind.i64.wrap (((t : Nat) : Int) + 1))) (.int .i64 ((t + 1 : Nat) : Int)) (fun w => by kernel_rfl) (int_eq (wrapAdd_i64 (a := t) (b := 1) (by omega))) (by kernel_rfl) ?_
        refine s_val (some 7) (.int .i64 ((t + 1 : Nat) : Int)) (fun w => by kernel_rfl) (by kernel_rfl) ?_
        refine s_nil ?_
        show ∃ m, _ ∧ _
        exact ⟨_, (by omega), (t + 1), rfl, (by omega), (fun j hj => by rcases Nat.lt_succ_iff_lt_or_eq.1 hj with h | rfl; exact hno j h; intro e; have e1 := congrArg Prod.fst e; have e2 := congrArg Prod.snd e; simp only at e1 e2; omega), H1, (Is.of ⟨(by kernel_rfl), (by kernel_rfl), (by kernel_rfl), (by kernel_rfl), (by kernel_rfl), trivial⟩)⟩
    · skip
      refine s_valE (some 15) (.bool ((((uvT t).1 : Nat) : Int) == ((x : Nat) : Int))) (.bool false) (fun w => by kernel_rfl) (bool_eq (beq_eq_false_iff_ne.2 (by omega))) (by kernel_rfl) ?_
      refine s_val (some 16) (.bool false) (fun w => by kernel_rfl) (by kernel_rfl) ?_
      refine s_not (some 17) (by kernel_rfl) (by kernel_rfl) ?_
      refine s_not (some 18) (by kernel_rfl) (by kernel_rfl) ?_
      refine s_not (some 19) (by kernel_rfl) (by kernel_rfl) ?_
      refine s_val (some 20) (.bool false) (fun w => by kernel_rfl) (by kernel_rfl) ?_
      refine s_nil ?_
      refine g_cond_f (by kernel_rfl) (by kernel_rfl) ?_
      refine g_skip (by kernel_rfl) ?_
      show WP _ _ _ _ _ _
      refine g_sreg [0, 1] (by kernel_rfl) (by kernel_rfl) ?_
      refine s_val (some 28) (.int .i64 (((uvT t).2 : Nat) : Int)) (fun w => by kernel_rfl) (by kernel_rfl) ?_
      refine s_val (some 8) (.int .i64 (((uvT t).2 : Nat) : Int)) (fun w => by kernel_rfl) (by kernel_rfl) ?_
      refine s_nil ?_
      refine g_sreg [0, 1, 2, 3, 4, 5, 6] (by kernel_rfl) (by kernel_rfl) ?_
      refine s_val (some 29) (.int .i64 (((uvT t).1 : Nat) : Int)) (fun w => by kernel_rfl) (by kernel_rfl) ?_
      refine s_valE (some 30) (.int .i64 (IntKind.i64.wrap (2 * (((uvT t).1 : Nat) : Int)))) (.int .i64 ((2 * ((uvT t).1) : Nat) : Int)) (fun w => by kernel_rfl) (int_eq (wrapMul_i64 (a := 2) (b := (uvT t).1) (by omega))) (by kernel_rfl) ?_
      refine s_val (some 31) (.int .i64 (((uvT t).2 : Nat) : Int)) (fun w => by kernel_rfl) (by kernel_rfl) ?_
      refine s_valE (some 32) (.int .i64 (IntKind.i64.wrap (3 * (((uvT t).2 : Nat) : Int)))) (.int .i64 ((3 * ((uvT t).2) : Nat) : Int)) (fun w => by kernel_rfl) (int_eq (wrapMul_i64 (a := 3) (b := (uvT t).2) (by omega))) (by kernel_rfl) ?_
      refine s_valE (some 33) (.int .i64 (IntKind.i64.wrap (((2 * ((uvT t).1) : Nat) : Int) + ((3 * ((uvT t).2) : Nat) : Int)))) (.int .i64 (((2 * ((uvT t).1)) + (3 * ((uvT t).2)) : Nat) : Int)) (fun w => by kernel_rfl) (int_eq (wrapAdd_i64 (a := 2 * ((uvT t).1)) (b := 3 * ((uvT t).2)) (by omega))) (by kernel_rfl) ?_
      refine s_valE (some 34) (.int .i64 (Int.tmod (((2 * ((uvT t).1)) + (3 * ((uvT t).2)) : Nat) : Int) 5)) (.int .i64 ((((2 * ((uvT t).1)) + (3 * ((uvT t).2))) % 5 : Nat) : Int)) (fun w => by kernel_rfl) (int_eq (remN ((2 * ((uvT t).1)) + (3 * ((uvT t).2))) 5)) (by kernel_rfl) ?_
      refine s_val (some 6) (.int .i64 ((((2 * ((uvT t).1)) + (3 * ((uvT t).2))) % 5 : Nat) : Int)) (fun w => by kernel_rfl) (by kernel_rfl) ?_
      refine s_nil ?_
      refine g_reg0 [0, 1] (by kernel_rfl) ?_
      refine s_val (some 35) (.int .i64 (((uvT t).2 : Nat) : Int)) (fun w => by kernel_rfl) (by kernel_rfl) ?_
      refine s_val (some 5) (.int .i64 (((uvT t).2 : Nat) : Int)) (fun w => by kernel_rfl) (by kernel_rfl) ?_
      refine s_nil ?_
      show WP _ _ _ _ _ _
      refine g_reg0 [0, 1, 2] (by kernel_rfl) ?_
      refine s_val (some 11) (.int .i64 ((t : Nat) : Int)) (fun w => by kernel_rfl) (by kernel_rfl) ?_
      refine s_valE (some 12) (.int .i64 (IntKind.i64.wrap (((t : Nat) : Int) + 1))) (.int .i64 ((t + 1 : Nat) : Int)) (fun w => by kernel_rfl) (int_eq (wrapAdd_i64 (a := t) (b := 1) (by omega))) (by kernel_rfl) ?_
      refine s_val (some 7) (.int .i64 ((t + 1 : Nat) : Int)) (fun w => by kernel_rfl) (by kernel_rfl) ?_
      refine s_nil ?_
      show ∃ m, _ ∧ _
      exact ⟨_, (by omega), (t + 1), rfl, (by omega), (fun j hj => by rcases Nat.lt_succ_iff_lt_or_eq.1 hj with h | rfl; exact hno j h; intro e; have e1 := congrArg Prod.fst e; have e2 := congrArg Prod.snd e; simp only at e1 e2; omega), H1, (Is.of ⟨(by kernel_rfl), (by kernel_rfl), (by kernel_rfl), (by kernel_rfl), (by kernel_rfl), trivial⟩)⟩
  · skip
    refine s_valE (some 10) (.bool (decide (((t : Nat) : Int) < 24))) (.bool false) (fun w => by kernel_rfl) (bool_eq (decide_eq_false (by omega))) (by kernel_rfl) ?_
    refine s_nil ?_
    refine g_cond_f (by kernel_rfl) (by kernel_rfl) ?_
    refine g_exit 0 (by kernel_rfl) ?_
    show WP _ _ _ _ _ _
    refine g_sreg [0] (by kernel_rfl) (by kernel_rfl) ?_
    refine s_val (some 4) (.int .i64 0) (fun w => by kernel_rfl) (by kernel_rfl) ?_
    refine s_nil ?_
    refine g_ret (by kernel_rfl) ?_
    show ∃ vs, Res _ _ _ _ vs ∧ _
    refine ⟨[.int .i64 0], (.tmp (.int .i64 0) (by kernel_rfl) .nil), ?_, H1.below⟩
    rw [rotN_no (fun j hj => hno j (by omega))]; rfl

set_option maxRecDepth 100000 in
set_option maxHeartbeats 2000000 in
theorem rowR_fn  : FnR Tryd.prog 27 #[.int .i64 168] (fun _ => True) (RetS 3 1 (fun cur cap n l => (n = 168 ∧ Rw 1 cur cap n (cellsD (bitsT 168))))) := by
  refine FnR.intro (c := codeOf Tryd.f27) [.tmp 2] 24 Tryd.func27 (by kernel_rfl) (by kernel_rfl) (by kernel_rfl) fun w hpre => ?_
  have H0 := St.start w
  refine g_sreg [0] (by kernel_rfl) (by kernel_rfl) ?_
  refine s_val (some 2) (.slice none 0 0) (fun w => by kernel_rfl) (by kernel_rfl) ?_
  refine s_nil ?_
  refine g_sreg [0, 1] (by kernel_rfl) (by kernel_rfl) ?_
  refine s_new H0 (some 6) (fun b => .slice (some ⟨b, 0, none⟩) 0 0) #[] 3 (fun w => by kernel_rfl) (by kernel_rfl) ?_
  intro b1 w1 H1; clear H0
  refine s_val (some 3) (.slice (some ⟨b1, 0, none⟩) 0 0) (fun w => by kernel_rfl) (by kernel_rfl) ?_
  refine s_nil ?_
  refine g_sreg [0] (by kernel_rfl) (by kernel_rfl) ?_
  refine s_val (some 4) (.int .i64 1) (fun w => by kernel_rfl) (by kernel_rfl) ?_
  refine s_nil ?_
  refine g_seq (by kernel_rfl) ?_
  refine g_sreg [0] (by kernel_rfl) (by kernel_rfl) ?_
  refine s_val (some 5) (.int .i64 0) (fun w => by kernel_rfl) (by kernel_rfl) ?_
  refine s_nil ?_
  refine g_block 0 (by kernel_rfl) ?_
  refine g_loop (by kernel_rfl) (fun m ρ ww => ∃ (b : Nat) (cap : Nat) (n : Nat) (cur : Array Value) (k : Nat) (rg : Nat), 168 - k = m ∧ (n = k) ∧ (Rw 1 cur cap n (cellsD (bitsT k))) ∧ (k ≤ 168) ∧ (rg = regT k) ∧ St w.heap.size w ww [(b, Obj.cells cur 3 (0, 0))] ∧ Is [(0, .int .i64 ((168 : Nat) : Int)), (2, .slice none 0 0), (3, .slice (some ⟨b, 0, none⟩) n cap), (4, .int .i64 ((rg : Nat) : Int)), (5, .int .i64 ((k : Nat) : Int))] ρ) (168 - 0) ⟨b1, 0, 0, #[], 0, 1, rfl, rfl, (Rw.lit #[] 0 rfl (by unfold maxLen; omega)), (by omega), rfl, H1, (Is.of ⟨(by kernel_rfl), (by kernel_rfl), (by kernel_rfl), (by kernel_rfl), (by kernel_rfl), trivial⟩)⟩ ?_
  clear H1
  rintro _ _ w2 ⟨b, cap, n, cur, k, rg, rfl, hn, hr, hk, hrgk, H2, _, rfl⟩
  have hrg := regT_lt k; rw [← hrgk] at hrg
  refine g_seq (by kernel_rfl) ?_
  refine g_sreg [0, 1, 2] (by kernel_rfl) (by kernel_rfl) ?_
  refine s_val (some 7) (.int .i64 ((k : Nat) : Int)) (fun w => by kernel_rfl) (by kernel_rfl) ?_
  refine s_val (some 8) (.int .i64 ((168 : Nat) : Int)) (fun w => by kernel_rfl) (by kernel_rfl) ?_
  by_cases hc1 : (k : Nat) < 168
  · skip
    refine s_valE (some 9) (.bool (decide (((k : Nat) : Int) < ((168 : Nat) : Int)))) (.bool true) (fun w => by kernel_rfl) (bool_eq (decide_eq_true (by omega))) (by kernel_rfl) ?_
    refine s_nil ?_
    refine g_cond_t (by kernel_rfl) (by kernel_rfl) ?_
    refine g_skip (by kernel_rfl) ?_
    show WP _ _ _ _ _ _
    refine g_seq (by kernel_rfl) ?_
    refine g_block 1 (by kernel_rfl) ?_
    refine g_sreg [0, 1, 2, 3, 4, 5] (by kernel_rfl) (by kernel_rfl) ?_
    refine s_val (some 12) (.slice (some ⟨b, 0, none⟩) n cap) (fun w => by kernel_rfl) (by kernel_rfl) ?_
    refine s_val (some 13) (.int .i64 ((rg : Nat) : Int)) (fun w => by kernel_rfl) (by kernel_rfl) ?_
    refine s_valE (some 14) (.int .i64 (Int.tmod ((rg : Nat) : Int) 2)) (.int .i64 ((rg % 2 : Nat) : Int)) (fun w => by kernel_rfl) (int_eq (remN rg 2)) (by kernel_rfl) ?_
    refine s_new H2 (some 15) (fun b => .slice (some ⟨b, 0, none⟩) 1 1) #[.int .i64 ((rg % 2 : Nat) : Int)] 3 (fun w => by kernel_rfl) (by kernel_rfl) ?_
    intro b2 w3 H3; clear H2
    refine s_append H3 (some 16) 49 3 1 8 (.tmp 12) (.tmp 15) 1 0 b b2 n 1 cap 1 cur #[.int .i64 ((rg % 2 : Nat) : Int)] 3 (0, 0) (cellsD (bitsT k)) ([.int .i64 ((rg % 2 : Nat) : Int)]) (fun b_1 cur_3 => [(b2, Obj.cells #[.int .i64 ((rg % 2 : Nat) : Int)] 3 (0, 0)), (b_1, Obj.cells cur_3 3 (0, 0))]) (by kernel_rfl) (by kernel_rfl) (by kernel_rfl) (by kernel_rfl) (by kernel_rfl) hr (by kernel_rfl) (by kernel_rfl) (by rfl) (by rfl) (by intro u hu; simp at hu; first | exact hu.elim | (rcases hu with rfl | rfl | rfl | rfl <;> rfl) | (rcases hu with rfl | rfl <;> rfl) | (subst hu; rfl)) (by omega) (by unfold maxLen; omega) (fun _ _ => by kernel_rfl) ?_
    intro b_1 cap_2 cur_3 w4 H4 hr_4; clear H3
    refine s_val (some 3) (.slice (some ⟨b_1, 0, none⟩) (n + 1) cap_2) (fun w => by kernel_rfl) (by kernel_rfl) ?_
    refine s_nil ?_
    refine g_sreg [0, 1, 2] (by kernel_rfl) (by kernel_rfl) ?_
    refine s_val (some 17) (.int .i64 ((rg : Nat) : Int)) (fun w => by kernel_rfl) (by kernel_rfl) ?_
    refine s_valE (some 18) (.int .i64 (IntKind.i64.wrap (2 * ((rg : Nat) : Int)))) (.int .i64 ((2 * rg : Nat) : Int)) (fun w => by kernel_rfl) (int_eq (wrapMul_i64 (a := 2) (b := rg) (by omega))) (by kernel_rfl) ?_
    refine s_val (some 4) (.int .i64 ((2 * rg : Nat) : Int)) (fun w => by kernel_rfl) (by kernel_rfl) ?_
    refine s_nil ?_
    refine g_sreg [0, 1] (by kernel_rfl) (by kernel_rfl) ?_
    refine s_val (some 19) (.int .i64 ((2 * rg : Nat) : Int)) (fun w => by kernel_rfl) (by kernel_rfl) ?_
    by_cases hc2 : (2 * rg : Nat) > 255
    · skip
      refine s_valE (some 20) (.bool (decide (255 < ((2 * rg : Nat) : Int)))) (.bool true) (fun w => by kernel_rfl) (bool_eq (decide_eq_true (by omega))) (by kernel_rfl) ?_
      refine s_nil ?_
      refine g_cond_t (by kernel_rfl) (by kernel_rfl) ?_
      refine g_reg0 [0, 1, 2] (by kernel_rfl) ?_
      refine s_val (some 21) (.int .i64 ((2 * rg : Nat) : Int)) (fun w => by kernel_rfl) (by kernel_rfl) ?_
      refine s_valE (some 22) (.int .i64 (Go.bits .xor .i64 (((2 * rg : Nat)) : Int) 369)) (.int .i64 ((2 * rg ^^^ 369 : Nat) : Int)) (fun w => by kernel_rfl) (int_eq (by rw [hrgk]; exact regX k)) (by kernel_rfl) ?_
      refine s_val (some 4) (.int .i64 ((2 * rg ^^^ 369 : Nat) : Int)) (fun w => by kernel_rfl) (by kernel_rfl) ?_
      refine s_nil ?_
      show WP _ _ _ _ _ _
      refine g_reg0 [0, 1, 2] (by kernel_rfl) ?_
      refine s_val (some 10) (.int .i64 ((k : Nat) : Int)) (fun w => by kernel_rfl) (by kernel_rfl) ?_
      refine s_valE (some 11) (.int .i64 (IntKind.i64.wrap (((k : Nat) : Int) + 1))) (.int .i64 ((k + 1 : Nat) : Int)) (fun w => by kernel_rfl) (int_eq (wrapAdd_i64 (a := k) (b := 1) (by omega))) (by kernel_rfl) ?_
      refine s_val (some 5) (.int .i64 ((k + 1 : Nat) : Int)) (fun w => by kernel_rfl) (by kernel_rfl) ?_
      refine s_nil ?_
      have hrow : Rw 1 cur_3 cap_2 (n + 1) (cellsD (bitsT (k + 1))) := by rw [bitsT_succ, cellsD_append, ← hrgk]; exact hr_4
      have HD3 : St w.heap.size w w4 [(b_1, Obj.cells cur_3 3 (0, 0))] := H4.sub (List.Sublist.cons _ (List.Sublist.cons_cons _ List.Sublist.slnil))
      show ∃ m, _ ∧ _
      exact ⟨_, (by omega), b_1, cap_2, (n + 1), cur_3, (k + 1), (2 * rg ^^^ 369), rfl, (by omega), hrow, (by omega), (by subst hrgk; exact (if_pos (by omega)).symm), HD3, (Is.of ⟨(by kernel_rfl), (by kernel_rfl), (by kernel_rfl), (by kernel_rfl), (by kernel_rfl), trivial⟩)⟩
    · skip
      refine s_valE (some 20) (.bool (decide (255 < ((2 * rg : Nat) : Int)))) (.bool false) (fun w => by kernel_rfl) (bool_eq (decide_eq_false (by omega))) (by kernel_rfl) ?_
      refine s_nil ?_
      refine g_cond_f (by kernel_rfl) (by kernel_rfl) ?_
      refine g_skip (by kernel_rfl) ?_
      show WP _ _ _ _ _ _
      refine g_reg0 [0, 1, 2] (by kernel_rfl) ?_
      refine s_val (some 10) (.int .i64 ((k : Nat) : Int)) (fun w => by kernel_rfl) (by kernel_rfl) ?_
      refine s_valE (some 11) (.int .i64 (IntKind.i64.wrap (((k : Nat) : Int) + 1))) (.int .i64 ((k + 1 : Nat) : Int)) (fun w => by kernel_rfl) (int_eq (wrapAdd_i64 (a := k) (b := 1) (by omega))) (by kernel_rfl) ?_
      refine s_val (some 5) (.int .i64 ((k + 1 : Nat) : Int)) (fun w => by kernel_rfl) (by kernel_rfl) ?_
      refine s_nil ?_
      have hrow : Rw 1 cur_3 cap_2 (n + 1) (cellsD (bitsT (k + 1))) := by rw [bitsT_succ, cellsD_append, ← hrgk]; exact hr_4
      have HD4 : St w.heap.size w w4 [(b_1, Obj.cells cur_3 3 (0, 0))] := H4.sub (List.Sublist.cons _ (List.Sublist.cons_cons _ List.Sublist.slnil))
      show ∃ m, _ ∧ _
      exact ⟨_, (by omega), b_1, cap_2, (n + 1), cur_3, (k + 1), (2 * rg), rfl, (by omega), hrow, (by omega), (by subst hrgk; exact (if_neg (by omega)).symm), HD4, (Is.of ⟨(by kernel_rfl), (by kernel_rfl), (by kernel_rfl), (by kernel_rfl), (by kernel_rfl), trivial⟩)⟩
  · skip
    refine s_valE (some 9) (.bool (decide (((k : Nat) : Int) < ((168 : Nat) : Int)))) (.bool false) (fun w => by kernel_rfl) (bool_eq (decide_eq_false (by omega))) (by kernel_rfl) ?_
    refine s_nil ?_
    refine g_cond_f (by kernel_rfl) (by kernel_rfl) ?_
    refine g_exit 0 (by kernel_rfl) ?_
    show WP _ _ _ _ _ _
    refine g_sreg [0, 1] (by kernel_rfl) (by kernel_rfl) ?_
    refine s_val (some 23) (.slice (some ⟨b, 0, none⟩) n cap) (fun w => by kernel_rfl) (by kernel_rfl) ?_
    refine s_val (some 2) (.slice (some ⟨b, 0, none⟩) n cap) (fun w => by kernel_rfl) (by kernel_rfl) ?_
    refine s_nil ?_
    refine g_ret (by kernel_rfl) ?_
    show ∃ vs, Res _ _ _ _ vs ∧ _
    refine ⟨[.slice (some ⟨b, 0, none⟩) n cap], (.tmp (.slice (some ⟨b, 0, none⟩) n cap) (by kernel_rfl) .nil), H2.below, ?_⟩
    obtain rfl : k = 168 := by omega
    exact ⟨b, cap, _, _, [], rfl, H2.ge 0 (o := .cells cur 3 (0, 0)) (by kernel_rfl), H2.get 0 (by kernel_rfl), ⟨hn, hr⟩⟩
end Go.Proofs.YtddhadddpllbcaaDoor
