/-
  What the laws ask: bits turned.
-/
import Derived.Test.YthipcmpmfjeakaaProg
import Derived.Test.YthipcmpmfjeakaaCrcF
import Derived.Test.YthipcmpmfjeakaaTxt
import Derived.Test.YthipcmpmfjeakaaCrcL1
namespace Go.Proofs.Ythipcmpmfjeakaa
open Go Go.RowKit Go.Proofs.Crc
set_option linter.unusedVariables false
theorem remI_run {P : Program} {ρ : Env} {k : IntKind} {t t' : TypeId} {x y : Operand} {o : Oper} (X : Int) (Y : Nat) (h : Y ≠ 0) (w : World) (ho : o.op = .binOp .rem t x y t') (hx : ev ρ x = .int k X) (hy : ev ρ y = .int k (Y : Int)) :
    (execOp (ev ρ) o).run P w = .ok (.value (.int k (X.tmod (Y : Int)))) w := by
  have h2 : (Y : Int) ≠ 0 := by omega
  unfold execOp
  simp [ho, hx, hy, eqGuard, binOp, Op.intDiv, h2, h]
theorem tmod_bd (a : Int) (n : Nat) (h : 0 < n) : -(n : Int) < Int.tmod a n ∧ Int.tmod a n < n := by
  have hn : (n : Int) ≠ 0 := by omega
  constructor
  · rcases Int.le_total 0 a with q | q
    · have := Int.tmod_nonneg (n : Int) q; omega
    · have h1 := Int.tmod_nonneg (n : Int) (show 0 ≤ -a by omega)
      have h2 := Int.tmod_lt_of_pos (-a) (show (0 : Int) < n by omega)
      rw [Int.neg_tmod] at h1 h2
      omega
  · exact Int.tmod_lt_of_pos a (by omega)
theorem tmod_nat (a : Int) (n : Nat) (h0 : 0 ≤ a) (h : 0 < n) : Int.tmod a n = (((a.toNat % n : Nat)) : Int) ∧ a.toNat % n < n := by
  refine ⟨?_, Nat.mod_lt _ h⟩
  have e : ((a.toNat : Nat) : Int) = a := Int.toNat_of_nonneg h0
  rw [← e, ← Int.ofNat_tmod]
  simp
theorem turned_size (l : List UInt8) (p : Nat) (u : W) : ByteArray.size (strB (turnL l p u 32)) = l.length := by rw [strB_size, turnL_len]

set_option maxRecDepth 100000 in
set_option maxHeartbeats 2000000 in
theorem crcTurned_fn (s : ByteArray) (f : Int) (u : W) : Fn Try.prog 6 #[.string s, .int .i64 f, .int .u32 ((BitVec.toNat u : Nat) : Int)] (.bool true) := by
  refine Fn.intro (c := codeOf Try.f6) [.tmp 6] 67 Try.func6 (by kernel_rfl) (by kernel_rfl) (by kernel_rfl) fun w => ?_
  have H0 := St.start w
  refine g_sreg [0] (by kernel_rfl) (by kernel_rfl) ?_
  refine s_val (some 6) (.bool false) (fun w => by kernel_rfl) (by kernel_rfl) ?_
  refine s_nil ?_
  refine g_sreg [0, 1, 2, 3, 4, 5, 6, 7, 8, 9, 10] (by kernel_rfl) (by kernel_rfl) ?_
  refine s_val (some 14) (.string s) (fun w => by kernel_rfl) (by kernel_rfl) ?_
  refine s_val (some 15) (.string s) (fun w => by kernel_rfl) (by kernel_rfl) ?_
  refine s_val (some 16) (.int .i64 ((ByteArray.size s : Nat) : Int)) (fun w => by kernel_rfl) (by kernel_rfl) ?_
  refine s_valE (some 17) (.int .i64 (if (500 : Int) < (((ByteArray.size s : Nat) : Int) : Int) then (500 : Int) else (((ByteArray.size s : Nat) : Int) : Int))) (.int .i64 ((min (ByteArray.size s) 500 : Nat) : Int)) (fun w => by kernel_rfl) (int_eq (minN (ByteArray.size s) 500)) (by kernel_rfl) ?_
  refine s_op (some 18) _ (.string (ByteArray.extract s 0 (min (ByteArray.size s) 500))) (by kernel_rfl) (by kernel_rfl) (fun o w ho => scut_run (t := 9) (kd := .i64) (by kernel_rfl) (x := (.tmp 14)) (y := (.tmp 17)) s (min (ByteArray.size s) 500) ho (by kernel_rfl) (by kernel_rfl) (by omega) w) ?_
  have hS500 : ByteArray.size (ByteArray.extract s 0 (min (ByteArray.size s) 500)) ≤ 500 := by rw [ext_size _ _ _ (Nat.min_le_left _ _)]; omega
  by_cases hx1 : 1 ≤ ByteArray.size (ByteArray.extract s 0 (min (ByteArray.size s) 500)) ∧ ByteArray.size (ByteArray.extract s 0 (min (ByteArray.size s) 500)) ≤ 4000
  · skip
    refine s_call H0 (some 19) 8 #[.string (ByteArray.extract s 0 (min (ByteArray.size s) 500))] (.tuple #[.string (strB (frB (tl (ByteArray.extract s 0 (min (ByteArray.size s) 500))))), .int .i64 0]) (frame_fn (ByteArray.extract s 0 (min (ByteArray.size s) 500)) (by omega)) (fun w => by kernel_rfl) (by kernel_rfl) ?_
    intro w1 H1; clear H0
    refine s_val (some 13) (.tuple #[.string (strB (frB (tl (ByteArray.extract s 0 (min (ByteArray.size s) 500))))), .int .i64 0]) (fun w => by kernel_rfl) (by kernel_rfl) ?_
    refine s_val (some 20) (.string (strB (frB (tl (ByteArray.extract s 0 (min (ByteArray.size s) 500)))))) (fun w => by kernel_rfl) (by kernel_rfl) ?_
    refine s_val (some 21) (.int .i64 0) (fun w => by kernel_rfl) (by kernel_rfl) ?_
    refine s_val (some 7) (.string (strB (frB (tl (ByteArray.extract s 0 (min (ByteArray.size s) 500)))))) (fun w => by kernel_rfl) (by kernel_rfl) ?_
    refine s_val (some 8) (.int .i64 0) (fun w => by kernel_rfl) (by kernel_rfl) ?_
    refine s_nil ?_
    refine g_seq (by kernel_rfl) ?_
    refine g_sreg [0, 1] (by kernel_rfl) (by kernel_rfl) ?_
    refine s_val (some 22) (.int .i64 0) (fun w => by kernel_rfl) (by kernel_rfl) ?_
    refine s_val (some 23) (.bool false) (fun w => by kernel_rfl) (by kernel_rfl) ?_
    refine s_nil ?_
    refine g_cond_f (by kernel_rfl) (by kernel_rfl) ?_
    refine g_skip (by kernel_rfl) ?_
    show WP _ _ _ _ _ _
    refine g_sreg [0, 1, 2, 3, 4] (by kernel_rfl) (by kernel_rfl) ?_
    refine s_val (some 25) (.string (strB (frB (tl (ByteArray.extract s 0 (min (ByteArray.size s) 500)))))) (fun w => by kernel_rfl) (by kernel_rfl) ?_
    refine s_val (some 26) (.int .i64 ((ByteArray.size (strB (frB (tl (ByteArray.extract s 0 (min (ByteArray.size s) 500))))) : Nat) : Int)) (fun w => by kernel_rfl) (by kernel_rfl) ?_
    have hfz : ByteArray.size (strB (frB (tl (ByteArray.extract s 0 (min (ByteArray.size s) 500))))) = ByteArray.size (ByteArray.extract s 0 (min (ByteArray.size s) 500)) + 6 := by rw [frB_size, tl_len]
    refine s_valE (some 27) (.int .i64 (IntKind.i64.wrap (((ByteArray.size (strB (frB (tl (ByteArray.extract s 0 (min (ByteArray.size s) 500))))) : Nat) : Int) - 2))) (.int .i64 (((ByteArray.size (strB (frB (tl (ByteArray.extract s 0 (min (ByteArray.size s) 500)))))) - 2 : Nat) : Int)) (fun w => by kernel_rfl) (int_eq (wrapSub_i64 (a := ByteArray.size (strB (frB (tl (ByteArray.extract s 0 (min (ByteArray.size s) 500)))))) (b := 2) (by omega))) (by kernel_rfl) ?_
    refine s_valE (some 28) (.int .i64 (IntKind.i64.wrap (8 * (((ByteArray.size (strB (frB (tl (ByteArray.extract s 0 (min (ByteArray.size s) 500)))))) - 2 : Nat) : Int)))) (.int .i64 ((8 * ((ByteArray.size (strB (frB (tl (ByteArray.extract s 0 (min (ByteArray.size s) 500)))))) - 2) : Nat) : Int)) (fun w => by kernel_rfl) (int_eq (wrapMul_i64 (a := 8) (b := (ByteArray.size (strB (frB (tl (ByteArray.extract s 0 (min (ByteArray.size s) 500)))))) - 2) (by omega))) (by kernel_rfl) ?_
    refine s_val (some 9) (.int .i64 ((8 * ((ByteArray.size (strB (frB (tl (ByteArray.extract s 0 (min (ByteArray.size s) 500)))))) - 2) : Nat) : Int)) (fun w => by kernel_rfl) (by kernel_rfl) ?_
    refine s_nil ?_
    refine g_seq (by kernel_rfl) ?_
    refine g_sreg [0, 1] (by kernel_rfl) (by kernel_rfl) ?_
    refine s_val (some 29) (.int .i64 ((8 * ((ByteArray.size (strB (frB (tl (ByteArray.extract s 0 (min (ByteArray.size s) 500)))))) - 2) : Nat) : Int)) (fun w => by kernel_rfl) (by kernel_rfl) ?_
    refine s_valE (some 30) (.bool (decide (((8 * ((ByteArray.size (strB (frB (tl (ByteArray.extract s 0 (min (ByteArray.size s) 500)))))) - 2) : Nat) : Int) ≤ 0))) (.bool false) (fun w => by kernel_rfl) (bool_eq (decide_eq_false (by omega))) (by kernel_rfl) ?_
    refine s_nil ?_
    refine g_cond_f (by kernel_rfl) (by kernel_rfl) ?_
    refine g_skip (by kernel_rfl) ?_
    show WP _ _ _ _ _ _
    refine g_sreg [0, 1, 2, 3, 4, 5, 6, 7, 8, 9, 10, 11] (by kernel_rfl) (by kernel_rfl) ?_
    refine s_val (some 31) (.string (strB (frB (tl (ByteArray.extract s 0 (min (ByteArray.size s) 500)))))) (fun w => by kernel_rfl) (by kernel_rfl) ?_
    refine s_val (some 32) (.int .i64 f) (fun w => by kernel_rfl) (by kernel_rfl) ?_
    refine s_val (some 33) (.int .i64 ((8 * ((ByteArray.size (strB (frB (tl (ByteArray.extract s 0 (min (ByteArray.size s) 500)))))) - 2) : Nat) : Int)) (fun w => by kernel_rfl) (by kernel_rfl) ?_
    have htb := tmod_bd f (8 * ((ByteArray.size (strB (frB (tl (ByteArray.extract s 0 (min (ByteArray.size s) 500)))))) - 2)) (by omega)
    have htn := tmod_nat ((Int.tmod f ((8 * ((ByteArray.size (strB (frB (tl (ByteArray.extract s 0 (min (ByteArray.size s) 500)))))) - 2) : Nat) : Int)) + ((8 * ((ByteArray.size (strB (frB (tl (ByteArray.extract s 0 (min (ByteArray.size s) 500)))))) - 2) : Nat) : Int)) (8 * ((ByteArray.size (strB (frB (tl (ByteArray.extract s 0 (min (ByteArray.size s) 500)))))) - 2)) (by omega) (by omega)
    refine s_op (some 34) _ (.int .i64 (Int.tmod f ((8 * ((ByteArray.size (strB (frB (tl (ByteArray.extract s 0 (min (ByteArray.size s) 500)))))) - 2) : Nat) : Int))) (by kernel_rfl) (by kernel_rfl) (fun o w ho => remI_run (t := 3) (t' := 3) (x := (.tmp 32)) (y := (.tmp 33)) f (8 * ((ByteArray.size (strB (frB (tl (ByteArray.extract s 0 (min (ByteArray.size s) 500)))))) - 2)) (by omega) w ho (by kernel_rfl) (by kernel_rfl)) ?_
    refine s_val (some 35) (.int .i64 ((8 * ((ByteArray.size (strB (frB (tl (ByteArray.extract s 0 (min (ByteArray.size s) 500)))))) - 2) : Nat) : Int)) (fun w => by kernel_rfl) (by kernel_rfl) ?_
    refine s_valE (some 36) (.int .i64 (IntKind.i64.wrap ((Int.tmod f ((8 * ((ByteArray.size (strB (frB (tl (ByteArray.extract s 0 (min (ByteArray.size s) 500)))))) - 2) : Nat) : Int)) + ((8 * ((ByteArray.size (strB (frB (tl (ByteArray.extract s 0 (min (ByteArray.size s) 500)))))) - 2) : Nat) : Int)))) (.int .i64 ((Int.tmod f ((8 * ((ByteArray.size (strB (frB (tl (ByteArray.extract s 0 (min (ByteArray.size s) 500)))))) - 2) : Nat) : Int)) + ((8 * ((ByteArray.size (strB (frB (tl (ByteArray.extract s 0 (min (ByteArray.size s) 500)))))) - 2) : Nat) : Int))) (fun w => by kernel_rfl) (int_eq (wrap_i64 (by omega) (by omega))) (by kernel_rfl) ?_
    refine s_val (some 37) (.int .i64 ((8 * ((ByteArray.size (strB (frB (tl (ByteArray.extract s 0 (min (ByteArray.size s) 500)))))) - 2) : Nat) : Int)) (fun w => by kernel_rfl) (by kernel_rfl) ?_
    refine s_opE (some 38) _ (.int .i64 (Int.tmod ((Int.tmod f ((8 * ((ByteArray.size (strB (frB (tl (ByteArray.extract s 0 (min (ByteArray.size s) 500)))))) - 2) : Nat) : Int)) + ((8 * ((ByteArray.size (strB (frB (tl (ByteArray.extract s 0 (min (ByteArray.size s) 500)))))) - 2) : Nat) : Int)) ((8 * ((ByteArray.size (strB (frB (tl (ByteArray.extract s 0 (min (ByteArray.size s) 500)))))) - 2) : Nat) : Int))) (.int .i64 ((Int.toNat ((Int.tmod f ((8 * ((ByteArray.size (strB (frB (tl (ByteArray.extract s 0 (min (ByteArray.size s) 500)))))) - 2) : Nat) : Int)) + ((8 * ((ByteArray.size (strB (frB (tl (ByteArray.extract s 0 (min (ByteArray.size s) 500)))))) - 2) : Nat) : Int)) % (8 * ((ByteArray.size (strB (frB (tl (ByteArray.extract s 0 (min (ByteArray.size s) 500)))))) - 2)) : Nat) : Int)) (by kernel_rfl) (fun o w ho => remI_run (t := 3) (t' := 3) (x := (.tmp 36)) (y := (.tmp 37)) ((Int.tmod f ((8 * ((ByteArray.size (strB (frB (tl (ByteArray.extract s 0 (min (ByteArray.size s) 500)))))) - 2) : Nat) : Int)) + ((8 * ((ByteArray.size (strB (frB (tl (ByteArray.extract s 0 (min (ByteArray.size s) 500)))))) - 2) : Nat) : Int)) (8 * ((ByteArray.size (strB (frB (tl (ByteArray.extract s 0 (min (ByteArray.size s) 500)))))) - 2)) (by omega) w ho (by kernel_rfl) (by kernel_rfl)) (int_eq htn.1) (by kernel_rfl) ?_
    refine s_valE (some 39) (.int .i64 (IntKind.i64.wrap (16 + ((Int.toNat ((Int.tmod f ((8 * ((ByteArray.size (strB (frB (tl (ByteArray.extract s 0 (min (ByteArray.size s) 500)))))) - 2) : Nat) : Int)) + ((8 * ((ByteArray.size (strB (frB (tl (ByteArray.extract s 0 (min (ByteArray.size s) 500)))))) - 2) : Nat) : Int)) % (8 * ((ByteArray.size (strB (frB (tl (ByteArray.extract s 0 (min (ByteArray.size s) 500)))))) - 2)) : Nat) : Int)))) (.int .i64 ((16 + (Int.toNat ((Int.tmod f ((8 * ((ByteArray.size (strB (frB (tl (ByteArray.extract s 0 (min (ByteArray.size s) 500)))))) - 2) : Nat) : Int)) + ((8 * ((ByteArray.size (strB (frB (tl (ByteArray.extract s 0 (min (ByteArray.size s) 500)))))) - 2) : Nat) : Int)) % (8 * ((ByteArray.size (strB (frB (tl (ByteArray.extract s 0 (min (ByteArray.size s) 500)))))) - 2))) : Nat) : Int)) (fun w => by kernel_rfl) (int_eq (wrapAdd_i64 (a := 16) (b := Int.toNat ((Int.tmod f ((8 * ((ByteArray.size (strB (frB (tl (ByteArray.extract s 0 (min (ByteArray.size s) 500)))))) - 2) : Nat) : Int)) + ((8 * ((ByteArray.size (strB (frB (tl (ByteArray.extract s 0 (min (ByteArray.size s) 500)))))) - 2) : Nat) : Int)) % (8 * ((ByteArray.size (strB (frB (tl (ByteArray.extract s 0 (min (ByteArray.size s) 500)))))) - 2))) (by omega))) (by kernel_rfl) ?_
    refine s_val (some 40) (.int .u32 ((BitVec.toNat u : Nat) : Int)) (fun w => by kernel_rfl) (by kernel_rfl) ?_
    refine s_call H1 (some 41) 17 #[.string (strB (frB (tl (ByteArray.extract s 0 (min (ByteArray.size s) 500))))), .int .i64 ((16 + (Int.toNat ((Int.tmod f ((8 * ((ByteArray.size (strB (frB (tl (ByteArray.extract s 0 (min (ByteArray.size s) 500)))))) - 2) : Nat) : Int)) + ((8 * ((ByteArray.size (strB (frB (tl (ByteArray.extract s 0 (min (ByteArray.size s) 500)))))) - 2) : Nat) : Int)) % (8 * ((ByteArray.size (strB (frB (tl (ByteArray.extract s 0 (min (ByteArray.size s) 500)))))) - 2))) : Nat) : Int), .int .u32 ((BitVec.toNat u : Nat) : Int)] (.string (strB (turnL (tl (strB (frB (tl (ByteArray.extract s 0 (min (ByteArray.size s) 500)))))) (16 + (Int.toNat ((Int.tmod f ((8 * ((ByteArray.size (strB (frB (tl (ByteArray.extract s 0 (min (ByteArray.size s) 500)))))) - 2) : Nat) : Int)) + ((8 * ((ByteArray.size (strB (frB (tl (ByteArray.extract s 0 (min (ByteArray.size s) 500)))))) - 2) : Nat) : Int)) % (8 * ((ByteArray.size (strB (frB (tl (ByteArray.extract s 0 (min (ByteArray.size s) 500)))))) - 2)))) u 32))) (turned_fn (strB (frB (tl (ByteArray.extract s 0 (min (ByteArray.size s) 500))))) (by omega) (16 + (Int.toNat ((Int.tmod f ((8 * ((ByteArray.size (strB (frB (tl (ByteArray.extract s 0 (min (ByteArray.size s) 500)))))) - 2) : Nat) : Int)) + ((8 * ((ByteArray.size (strB (frB (tl (ByteArray.extract s 0 (min (ByteArray.size s) 500)))))) - 2) : Nat) : Int)) % (8 * ((ByteArray.size (strB (frB (tl (ByteArray.extract s 0 (min (ByteArray.size s) 500)))))) - 2)))) (by omega) u) (fun w => by kernel_rfl) (by kernel_rfl) ?_
    intro w2 H2; clear H1
    refine s_val (some 10) (.string (strB (turnL (tl (strB (frB (tl (ByteArray.extract s 0 (min (ByteArray.size s) 500)))))) (16 + (Int.toNat ((Int.tmod f ((8 * ((ByteArray.size (strB (frB (tl (ByteArray.extract s 0 (min (ByteArray.size s) 500)))))) - 2) : Nat) : Int)) + ((8 * ((ByteArray.size (strB (frB (tl (ByteArray.extract s 0 (min (ByteArray.size s) 500)))))) - 2) : Nat) : Int)) % (8 * ((ByteArray.size (strB (frB (tl (ByteArray.extract s 0 (min (ByteArray.size s) 500)))))) - 2)))) u 32))) (fun w => by kernel_rfl) (by kernel_rfl) ?_
    refine s_nil ?_
    refine g_sreg [0, 1, 2, 3, 4, 5, 6] (by kernel_rfl) (by kernel_rfl) ?_
    have htz : ByteArray.size (strB (turnL (tl (strB (frB (tl (ByteArray.extract s 0 (min (ByteArray.size s) 500)))))) (16 + (Int.toNat ((Int.tmod f ((8 * ((ByteArray.size (strB (frB (tl (ByteArray.extract s 0 (min (ByteArray.size s) 500)))))) - 2) : Nat) : Int)) + ((8 * ((ByteArray.size (strB (frB (tl (ByteArray.extract s 0 (min (ByteArray.size s) 500)))))) - 2) : Nat) : Int)) % (8 * ((ByteArray.size (strB (frB (tl (ByteArray.extract s 0 (min (ByteArray.size s) 500)))))) - 2)))) u 32)) = ByteArray.size (ByteArray.extract s 0 (min (ByteArray.size s) 500)) + 6 := by rw [turned_size, tl_strB, frB_len, tl_len]
    refine s_val (some 43) (.string (strB (turnL (tl (strB (frB (tl (ByteArray.extract s 0 (min (ByteArray.size s) 500)))))) (16 + (Int.toNat ((Int.tmod f ((8 * ((ByteArray.size (strB (frB (tl (ByteArray.extract s 0 (min (ByteArray.size s) 500)))))) - 2) : Nat) : Int)) + ((8 * ((ByteArray.size (strB (frB (tl (ByteArray.extract s 0 (min (ByteArray.size s) 500)))))) - 2) : Nat) : Int)) % (8 * ((ByteArray.size (strB (frB (tl (ByteArray.extract s 0 (min (ByteArray.size s) 500)))))) - 2)))) u 32))) (fun w => by kernel_rfl) (by kernel_rfl) ?_
    refine s_callT H2 (some 44) 14 #[.string (strB (turnL (tl (strB (frB (tl (ByteArray.extract s 0 (min (ByteArray.size s) 500)))))) (16 + (Int.toNat ((Int.tmod f ((8 * ((ByteArray.size (strB (frB (tl (ByteArray.extract s 0 (min (ByteArray.size s) 500)))))) - 2) : Nat) : Int)) + ((8 * ((ByteArray.size (strB (frB (tl (ByteArray.extract s 0 (min (ByteArray.size s) 500)))))) - 2) : Nat) : Int)) % (8 * ((ByteArray.size (strB (frB (tl (ByteArray.extract s 0 (min (ByteArray.size s) 500)))))) - 2)))) u 32))] (fun _ => True) 9 (fun rsZ pZ => Sc (tl (strB (turnL (tl (strB (frB (tl (ByteArray.extract s 0 (min (ByteArray.size s) 500)))))) (16 + (Int.toNat ((Int.tmod f ((8 * ((ByteArray.size (strB (frB (tl (ByteArray.extract s 0 (min (ByteArray.size s) 500)))))) - 2) : Nat) : Int)) + ((8 * ((ByteArray.size (strB (frB (tl (ByteArray.extract s 0 (min (ByteArray.size s) 500)))))) - 2) : Nat) : Int)) % (8 * ((ByteArray.size (strB (frB (tl (ByteArray.extract s 0 (min (ByteArray.size s) 500)))))) - 2)))) u 32))) rsZ pZ) (scan_fn (strB (turnL (tl (strB (frB (tl (ByteArray.extract s 0 (min (ByteArray.size s) 500)))))) (16 + (Int.toNat ((Int.tmod f ((8 * ((ByteArray.size (strB (frB (tl (ByteArray.extract s 0 (min (ByteArray.size s) 500)))))) - 2) : Nat) : Int)) + ((8 * ((ByteArray.size (strB (frB (tl (ByteArray.extract s 0 (min (ByteArray.size s) 500)))))) - 2) : Nat) : Int)) % (8 * ((ByteArray.size (strB (frB (tl (ByteArray.extract s 0 (min (ByteArray.size s) 500)))))) - 2)))) u 32)) (by omega)) trivial (by kernel_rfl) (by kernel_rfl) ?_ ?_
    · skip
      intro p_1 w3 H3 hs_2; clear H2
      refine s_val (some 42) (.tuple #[.slice none 0 0, .int .i64 ((p_1 : Nat) : Int)]) (fun w => by kernel_rfl) (by kernel_rfl) ?_
      refine s_val (some 45) (.slice none 0 0) (fun w => by kernel_rfl) (by kernel_rfl) ?_
      refine s_val (some 46) (.int .i64 ((p_1 : Nat) : Int)) (fun w => by kernel_rfl) (by kernel_rfl) ?_
      refine s_val (some 11) (.slice none 0 0) (fun w => by kernel_rfl) (by kernel_rfl) ?_
      refine s_val (some 12) (.int .i64 ((p_1 : Nat) : Int)) (fun w => by kernel_rfl) (by kernel_rfl) ?_
      refine s_nil ?_
      refine g_sreg [0, 1, 2, 3, 4, 5, 6, 7, 8, 9, 10, 11, 12, 13, 14, 15, 16, 17, 18, 19, 20] (by kernel_rfl) (by kernel_rfl) ?_
      by_cases hx2 : strB (turnL (tl (strB (frB (tl (ByteArray.extract s 0 (min (ByteArray.size s) 500)))))) (16 + (Int.toNat ((Int.tmod f ((8 * ((ByteArray.size (strB (frB (tl (ByteArray.extract s 0 (min (ByteArray.size s) 500)))))) - 2) : Nat) : Int)) + ((8 * ((ByteArray.size (strB (frB (tl (ByteArray.extract s 0 (min (ByteArray.size s) 500)))))) - 2) : Nat) : Int)) % (8 * ((ByteArray.size (strB (frB (tl (ByteArray.extract s 0 (min (ByteArray.size s) 500)))))) - 2)))) u 32) = strB (frB (tl (ByteArray.extract s 0 (min (ByteArray.size s) 500))))
      · skip
        have hsc := hs_2; rw [hx2, tl_strB] at hsc
        have hu := Sc.uniq hsc (by have := sc_one (s := (ByteArray.extract s 0 (min (ByteArray.size s) 500))) (isR_of (by omega)) fst_nil; rw [List.append_nil] at this; exact this)
        exact absurd hu.1 (by simp)
      · skip
        have hne : turnL (frB (tl (ByteArray.extract s 0 (min (ByteArray.size s) 500)))) (16 + (Int.toNat ((Int.tmod f ((8 * ((ByteArray.size (strB (frB (tl (ByteArray.extract s 0 (min (ByteArray.size s) 500)))))) - 2) : Nat) : Int)) + ((8 * ((ByteArray.size (strB (frB (tl (ByteArray.extract s 0 (min (ByteArray.size s) 500)))))) - 2) : Nat) : Int)) % (8 * ((ByteArray.size (strB (frB (tl (ByteArray.extract s 0 (min (ByteArray.size s) 500)))))) - 2)))) u 32 ≠ frB (tl (ByteArray.extract s 0 (min (ByteArray.size s) 500))) := fun q => hx2 (by rw [tl_strB, q])
        have hf0 := fst_turned (tl (ByteArray.extract s 0 (min (ByteArray.size s) 500))) (isR_of (by omega)) (16 + (Int.toNat ((Int.tmod f ((8 * ((ByteArray.size (strB (frB (tl (ByteArray.extract s 0 (min (ByteArray.size s) 500)))))) - 2) : Nat) : Int)) + ((8 * ((ByteArray.size (strB (frB (tl (ByteArray.extract s 0 (min (ByteArray.size s) 500)))))) - 2) : Nat) : Int)) % (8 * ((ByteArray.size (strB (frB (tl (ByteArray.extract s 0 (min (ByteArray.size s) 500)))))) - 2)))) u (by omega) (by rw [frB_len, tl_len]; omega) hne
        have hu := Sc.uniq hs_2 (show Sc (tl (strB (turnL (tl (strB (frB (tl (ByteArray.extract s 0 (min (ByteArray.size s) 500)))))) (16 + (Int.toNat ((Int.tmod f ((8 * ((ByteArray.size (strB (frB (tl (ByteArray.extract s 0 (min (ByteArray.size s) 500)))))) - 2) : Nat) : Int)) + ((8 * ((ByteArray.size (strB (frB (tl (ByteArray.extract s 0 (min (ByteArray.size s) 500)))))) - 2) : Nat) : Int)) % (8 * ((ByteArray.size (strB (frB (tl (ByteArray.extract s 0 (min (ByteArray.size s) 500)))))) - 2)))) u 32))) [] 0 from ⟨fun _ h => (by cases h), rfl, rfl, by rw [tl_strB, tl_strB]; exact hf0⟩)
        refine s_call H3 (some 47) 11 #[] (.bool true) alive_fn (fun w => by kernel_rfl) (by kernel_rfl) ?_
        intro w4 H4; clear H3
        refine s_val (some 48) (.bool true) (fun w => by kernel_rfl) (by kernel_rfl) ?_
        refine s_val (some 49) (.slice none 0 0) (fun w => by kernel_rfl) (by kernel_rfl) ?_
        refine s_val (some 50) (.int .i64 0) (fun w => by kernel_rfl) (by kernel_rfl) ?_
        refine s_val (some 51) (.bool false) (fun w => by kernel_rfl) (by kernel_rfl) ?_
        refine s_val (some 52) (.string (strB (turnL (tl (strB (frB (tl (ByteArray.extract s 0 (min (ByteArray.size s) 500)))))) (16 + (Int.toNat ((Int.tmod f ((8 * ((ByteArray.size (strB (frB (tl (ByteArray.extract s 0 (min (ByteArray.size s) 500)))))) - 2) : Nat) : Int)) + ((8 * ((ByteArray.size (strB (frB (tl (ByteArray.extract s 0 (min (ByteArray.size s) 500)))))) - 2) : Nat) : Int)) % (8 * ((ByteArray.size (strB (frB (tl (ByteArray.extract s 0 (min (ByteArray.size s) 500)))))) - 2)))) u 32))) (fun w => by kernel_rfl) (by kernel_rfl) ?_
        refine s_val (some 53) (.string (strB (frB (tl (ByteArray.extract s 0 (min (ByteArray.size s) 500)))))) (fun w => by kernel_rfl) (by kernel_rfl) ?_
        refine s_valE (some 54) (.bool (ByteArray.toList (strB (turnL (tl (strB (frB (tl (ByteArray.extract s 0 (min (ByteArray.size s) 500)))))) (16 + (Int.toNat ((Int.tmod f ((8 * ((ByteArray.size (strB (frB (tl (ByteArray.extract s 0 (min (ByteArray.size s) 500)))))) - 2) : Nat) : Int)) + ((8 * ((ByteArray.size (strB (frB (tl (ByteArray.extract s 0 (min (ByteArray.size s) 500)))))) - 2) : Nat) : Int)) % (8 * ((ByteArray.size (strB (frB (tl (ByteArray.extract s 0 (min (ByteArray.size s) 500)))))) - 2)))) u 32)) == ByteArray.toList (strB (frB (tl (ByteArray.extract s 0 (min (ByteArray.size s) 500))))))) (.bool false) (fun w => by kernel_rfl) (bool_eq (str_other (strB (turnL (tl (strB (frB (tl (ByteArray.extract s 0 (min (ByteArray.size s) 500)))))) (16 + (Int.toNat ((Int.tmod f ((8 * ((ByteArray.size (strB (frB (tl (ByteArray.extract s 0 (min (ByteArray.size s) 500)))))) - 2) : Nat) : Int)) + ((8 * ((ByteArray.size (strB (frB (tl (ByteArray.extract s 0 (min (ByteArray.size s) 500)))))) - 2) : Nat) : Int)) % (8 * ((ByteArray.size (strB (frB (tl (ByteArray.extract s 0 (min (ByteArray.size s) 500)))))) - 2)))) u 32)) (strB (frB (tl (ByteArray.extract s 0 (min (ByteArray.size s) 500))))) hx2)) (by kernel_rfl) ?_
        refine s_val (some 55) (.bool true) (fun w => by kernel_rfl) (by kernel_rfl) ?_
        refine s_val (some 56) (.bool true) (fun w => by kernel_rfl) (by kernel_rfl) ?_
        refine s_val (some 57) (.bool true) (fun w => by kernel_rfl) (by kernel_rfl) ?_
        refine s_val (some 58) (.string (strB (turnL (tl (strB (frB (tl (ByteArray.extract s 0 (min (ByteArray.size s) 500)))))) (16 + (Int.toNat ((Int.tmod f ((8 * ((ByteArray.size (strB (frB (tl (ByteArray.extract s 0 (min (ByteArray.size s) 500)))))) - 2) : Nat) : Int)) + ((8 * ((ByteArray.size (strB (frB (tl (ByteArray.extract s 0 (min (ByteArray.size s) 500)))))) - 2) : Nat) : Int)) % (8 * ((ByteArray.size (strB (frB (tl (ByteArray.extract s 0 (min (ByteArray.size s) 500)))))) - 2)))) u 32))) (fun w => by kernel_rfl) (by kernel_rfl) ?_
        refine s_val (some 59) (.string (strB (frB (tl (ByteArray.extract s 0 (min (ByteArray.size s) 500)))))) (fun w => by kernel_rfl) (by kernel_rfl) ?_
        refine s_valE (some 60) (.bool (ByteArray.toList (strB (turnL (tl (strB (frB (tl (ByteArray.extract s 0 (min (ByteArray.size s) 500)))))) (16 + (Int.toNat ((Int.tmod f ((8 * ((ByteArray.size (strB (frB (tl (ByteArray.extract s 0 (min (ByteArray.size s) 500)))))) - 2) : Nat) : Int)) + ((8 * ((ByteArray.size (strB (frB (tl (ByteArray.extract s 0 (min (ByteArray.size s) 500)))))) - 2) : Nat) : Int)) % (8 * ((ByteArray.size (strB (frB (tl (ByteArray.extract s 0 (min (ByteArray.size s) 500)))))) - 2)))) u 32)) == ByteArray.toList (strB (frB (tl (ByteArray.extract s 0 (min (ByteArray.size s) 500))))))) (.bool false) (fun w => by kernel_rfl) (bool_eq (str_other (strB (turnL (tl (strB (frB (tl (ByteArray.extract s 0 (min (ByteArray.size s) 500)))))) (16 + (Int.toNat ((Int.tmod f ((8 * ((ByteArray.size (strB (frB (tl (ByteArray.extract s 0 (min (ByteArray.size s) 500)))))) - 2) : Nat) : Int)) + ((8 * ((ByteArray.size (strB (frB (tl (ByteArray.extract s 0 (min (ByteArray.size s) 500)))))) - 2) : Nat) : Int)) % (8 * ((ByteArray.size (strB (frB (tl (ByteArray.extract s 0 (min (ByteArray.size s) 500)))))) - 2)))) u 32)) (strB (frB (tl (ByteArray.extract s 0 (min (ByteArray.size s) 500))))) hx2)) (by kernel_rfl) ?_
        refine s_val (some 61) (.bool false) (fun w => by kernel_rfl) (by kernel_rfl) ?_
        refine s_val (some 62) (.slice none 0 0) (fun w => by kernel_rfl) (by kernel_rfl) ?_
        refine s_val (some 63) (.int .i64 0) (fun w => by kernel_rfl) (by kernel_rfl) ?_
        refine s_val (some 64) (.bool true) (fun w => by kernel_rfl) (by kernel_rfl) ?_
        refine s_val (some 65) (.bool true) (fun w => by kernel_rfl) (by kernel_rfl) ?_
        refine s_val (some 66) (.bool true) (fun w => by kernel_rfl) (by kernel_rfl) ?_
        refine s_val (some 6) (.bool true) (fun w => by kernel_rfl) (by kernel_rfl) ?_
        refine s_nil ?_
        refine g_ret (by kernel_rfl) ?_
        show ∃ vs, Res _ _ _ _ vs ∧ _
        refine ⟨[.bool true], (.tmp (.bool true) (by kernel_rfl) .nil), ?_, H4.below⟩
        rfl
    · skip
      intro b_3 cap_4 n_5 cur_6 rs_7 p_8 w5 H5 hs_9 hn_10 hr_11; clear H2
      refine s_val (some 42) (.tuple #[.slice (some ⟨b_3, 0, none⟩) n_5 cap_4, .int .i64 ((p_8 : Nat) : Int)]) (fun w => by kernel_rfl) (by kernel_rfl) ?_
      refine s_val (some 45) (.slice (some ⟨b_3, 0, none⟩) n_5 cap_4) (fun w => by kernel_rfl) (by kernel_rfl) ?_
      refine s_val (some 46) (.int .i64 ((p_8 : Nat) : Int)) (fun w => by kernel_rfl) (by kernel_rfl) ?_
      refine s_val (some 11) (.slice (some ⟨b_3, 0, none⟩) n_5 cap_4) (fun w => by kernel_rfl) (by kernel_rfl) ?_
      refine s_val (some 12) (.int .i64 ((p_8 : Nat) : Int)) (fun w => by kernel_rfl) (by kernel_rfl) ?_
      refine s_nil ?_
      refine g_sreg [0, 1, 2, 3, 4, 5, 6, 7, 8, 9, 10, 11, 12, 13, 14, 15, 16, 17, 18, 19, 20] (by kernel_rfl) (by kernel_rfl) ?_
      by_cases hx5 : strB (turnL (tl (strB (frB (tl (ByteArray.extract s 0 (min (ByteArray.size s) 500)))))) (16 + (Int.toNat ((Int.tmod f ((8 * ((ByteArray.size (strB (frB (tl (ByteArray.extract s 0 (min (ByteArray.size s) 500)))))) - 2) : Nat) : Int)) + ((8 * ((ByteArray.size (strB (frB (tl (ByteArray.extract s 0 (min (ByteArray.size s) 500)))))) - 2) : Nat) : Int)) % (8 * ((ByteArray.size (strB (frB (tl (ByteArray.extract s 0 (min (ByteArray.size s) 500)))))) - 2)))) u 32) = strB (frB (tl (ByteArray.extract s 0 (min (ByteArray.size s) 500))))
      · skip
        have hsc := hs_9; rw [hx5, tl_strB] at hsc
        have hu := Sc.uniq hsc (by have := sc_one (s := (ByteArray.extract s 0 (min (ByteArray.size s) 500))) (isR_of (by omega)) fst_nil; rw [List.append_nil] at this; exact this)
        have hnl := congrArg List.length hu.1; simp only [List.length_cons, List.length_nil] at hnl
        refine s_call H5 (some 47) 11 #[] (.bool true) alive_fn (fun w => by kernel_rfl) (by kernel_rfl) ?_
        intro w6 H6; clear H5
        refine s_val (some 48) (.bool true) (fun w => by kernel_rfl) (by kernel_rfl) ?_
        refine s_val (some 49) (.slice (some ⟨b_3, 0, none⟩) n_5 cap_4) (fun w => by kernel_rfl) (by kernel_rfl) ?_
        refine s_val (some 50) (.int .i64 ((n_5 : Nat) : Int)) (fun w => by kernel_rfl) (by kernel_rfl) ?_
        refine s_valE (some 51) (.bool (((n_5 : Nat) : Int) == 1)) (.bool true) (fun w => by kernel_rfl) (bool_eq (beq_iff_eq.2 (by omega))) (by kernel_rfl) ?_
        refine s_val (some 52) (.string (strB (turnL (tl (strB (frB (tl (ByteArray.extract s 0 (min (ByteArray.size s) 500)))))) (16 + (Int.toNat ((Int.tmod f ((8 * ((ByteArray.size (strB (frB (tl (ByteArray.extract s 0 (min (ByteArray.size s) 500)))))) - 2) : Nat) : Int)) + ((8 * ((ByteArray.size (strB (frB (tl (ByteArray.extract s 0 (min (ByteArray.size s) 500)))))) - 2) : Nat) : Int)) % (8 * ((ByteArray.size (strB (frB (tl (ByteArray.extract s 0 (min (ByteArray.size s) 500)))))) - 2)))) u 32))) (fun w => by kernel_rfl) (by kernel_rfl) ?_
        refine s_val (some 53) (.string (strB (frB (tl (ByteArray.extract s 0 (min (ByteArray.size s) 500)))))) (fun w => by kernel_rfl) (by kernel_rfl) ?_
        refine s_valE (some 54) (.bool (ByteArray.toList (strB (turnL (tl (strB (frB (tl (ByteArray.extract s 0 (min (ByteArray.size s) 500)))))) (16 + (Int.toNat ((Int.tmod f ((8 * ((ByteArray.size (strB (frB (tl (ByteArray.extract s 0 (min (ByteArray.size s) 500)))))) - 2) : Nat) : Int)) + ((8 * ((ByteArray.size (strB (frB (tl (ByteArray.extract s 0 (min (ByteArray.size s) 500)))))) - 2) : Nat) : Int)) % (8 * ((ByteArray.size (strB (frB (tl (ByteArray.extract s 0 (min (ByteArray.size s) 500)))))) - 2)))) u 32)) == ByteArray.toList (strB (frB (tl (ByteArray.extract s 0 (min (ByteArray.size s) 500))))))) (.bool true) (fun w => by kernel_rfl) (bool_eq (str_same (strB (turnL (tl (strB (frB (tl (ByteArray.extract s 0 (min (ByteArray.size s) 500)))))) (16 + (Int.toNat ((Int.tmod f ((8 * ((ByteArray.size (strB (frB (tl (ByteArray.extract s 0 (min (ByteArray.size s) 500)))))) - 2) : Nat) : Int)) + ((8 * ((ByteArray.size (strB (frB (tl (ByteArray.extract s 0 (min (ByteArray.size s) 500)))))) - 2) : Nat) : Int)) % (8 * ((ByteArray.size (strB (frB (tl (ByteArray.extract s 0 (min (ByteArray.size s) 500)))))) - 2)))) u 32)) (strB (frB (tl (ByteArray.extract s 0 (min (ByteArray.size s) 500))))) hx5)) (by kernel_rfl) ?_
        refine s_val (some 55) (.bool true) (fun w => by kernel_rfl) (by kernel_rfl) ?_
        refine s_val (some 56) (.bool true) (fun w => by kernel_rfl) (by kernel_rfl) ?_
        refine s_val (some 57) (.bool true) (fun w => by kernel_rfl) (by kernel_rfl) ?_
        refine s_val (some 58) (.string (strB (turnL (tl (strB (frB (tl (ByteArray.extract s 0 (min (ByteArray.size s) 500)))))) (16 + (Int.toNat ((Int.tmod f ((8 * ((ByteArray.size (strB (frB (tl (ByteArray.extract s 0 (min (ByteArray.size s) 500)))))) - 2) : Nat) : Int)) + ((8 * ((ByteArray.size (strB (frB (tl (ByteArray.extract s 0 (min (ByteArray.size s) 500)))))) - 2) : Nat) : Int)) % (8 * ((ByteArray.size (strB (frB (tl (ByteArray.extract s 0 (min (ByteArray.size s) 500)))))) - 2)))) u 32))) (fun w => by kernel_rfl) (by kernel_rfl) ?_
        refine s_val (some 59) (.string (strB (frB (tl (ByteArray.extract s 0 (min (ByteArray.size s) 500)))))) (fun w => by kernel_rfl) (by kernel_rfl) ?_
        refine s_valE (some 60) (.bool (ByteArray.toList (strB (turnL (tl (strB (frB (tl (ByteArray.extract s 0 (min (ByteArray.size s) 500)))))) (16 + (Int.toNat ((Int.tmod f ((8 * ((ByteArray.size (strB (frB (tl (ByteArray.extract s 0 (min (ByteArray.size s) 500)))))) - 2) : Nat) : Int)) + ((8 * ((ByteArray.size (strB (frB (tl (ByteArray.extract s 0 (min (ByteArray.size s) 500)))))) - 2) : Nat) : Int)) % (8 * ((ByteArray.size (strB (frB (tl (ByteArray.extract s 0 (min (ByteArray.size s) 500)))))) - 2)))) u 32)) == ByteArray.toList (strB (frB (tl (ByteArray.extract s 0 (min (ByteArray.size s) 500))))))) (.bool true) (fun w => by kernel_rfl) (bool_eq (str_same (strB (turnL (tl (strB (frB (tl (ByteArray.extract s 0 (min (ByteArray.size s) 500)))))) (16 + (Int.toNat ((Int.tmod f ((8 * ((ByteArray.size (strB (frB (tl (ByteArray.extract s 0 (min (ByteArray.size s) 500)))))) - 2) : Nat) : Int)) + ((8 * ((ByteArray.size (strB (frB (tl (ByteArray.extract s 0 (min (ByteArray.size s) 500)))))) - 2) : Nat) : Int)) % (8 * ((ByteArray.size (strB (frB (tl (ByteArray.extract s 0 (min (ByteArray.size s) 500)))))) - 2)))) u 32)) (strB (frB (tl (ByteArray.extract s 0 (min (ByteArray.size s) 500))))) hx5)) (by kernel_rfl) ?_
        refine s_val (some 61) (.bool true) (fun w => by kernel_rfl) (by kernel_rfl) ?_
        refine s_not (some 62) (by kernel_rfl) (by kernel_rfl) ?_
        refine s_not (some 63) (by kernel_rfl) (by kernel_rfl) ?_
        refine s_not (some 64) (by kernel_rfl) (by kernel_rfl) ?_
        refine s_val (some 65) (.bool true) (fun w => by kernel_rfl) (by kernel_rfl) ?_
        refine s_val (some 66) (.bool true) (fun w => by kernel_rfl) (by kernel_rfl) ?_
        refine s_val (some 6) (.bool true) (fun w => by kernel_rfl) (by kernel_rfl) ?_
        refine s_nil ?_
        refine g_ret (by kernel_rfl) ?_
        show ∃ vs, Res _ _ _ _ vs ∧ _
        refine ⟨[.bool true], (.tmp (.bool true) (by kernel_rfl) .nil), ?_, H6.below⟩
        rfl
      · skip
        have hne : turnL (frB (tl (ByteArray.extract s 0 (min (ByteArray.size s) 500)))) (16 + (Int.toNat ((Int.tmod f ((8 * ((ByteArray.size (strB (frB (tl (ByteArray.extract s 0 (min (ByteArray.size s) 500)))))) - 2) : Nat) : Int)) + ((8 * ((ByteArray.size (strB (frB (tl (ByteArray.extract s 0 (min (ByteArray.size s) 500)))))) - 2) : Nat) : Int)) % (8 * ((ByteArray.size (strB (frB (tl (ByteArray.extract s 0 (min (ByteArray.size s) 500)))))) - 2)))) u 32 ≠ frB (tl (ByteArray.extract s 0 (min (ByteArray.size s) 500))) := fun q => hx5 (by rw [tl_strB, q])
        have hf0 := fst_turned (tl (ByteArray.extract s 0 (min (ByteArray.size s) 500))) (isR_of (by omega)) (16 + (Int.toNat ((Int.tmod f ((8 * ((ByteArray.size (strB (frB (tl (ByteArray.extract s 0 (min (ByteArray.size s) 500)))))) - 2) : Nat) : Int)) + ((8 * ((ByteArray.size (strB (frB (tl (ByteArray.extract s 0 (min (ByteArray.size s) 500)))))) - 2) : Nat) : Int)) % (8 * ((ByteArray.size (strB (frB (tl (ByteArray.extract s 0 (min (ByteArray.size s) 500)))))) - 2)))) u (by omega) (by rw [frB_len, tl_len]; omega) hne
        have hu := Sc.uniq hs_9 (show Sc (tl (strB (turnL (tl (strB (frB (tl (ByteArray.extract s 0 (min (ByteArray.size s) 500)))))) (16 + (Int.toNat ((Int.tmod f ((8 * ((ByteArray.size (strB (frB (tl (ByteArray.extract s 0 (min (ByteArray.size s) 500)))))) - 2) : Nat) : Int)) + ((8 * ((ByteArray.size (strB (frB (tl (ByteArray.extract s 0 (min (ByteArray.size s) 500)))))) - 2) : Nat) : Int)) % (8 * ((ByteArray.size (strB (frB (tl (ByteArray.extract s 0 (min (ByteArray.size s) 500)))))) - 2)))) u 32))) [] 0 from ⟨fun _ h => (by cases h), rfl, rfl, by rw [tl_strB, tl_strB]; exact hf0⟩)
        have hnl := congrArg List.length hu.1; simp only [List.length_cons, List.length_nil] at hnl
        refine s_call H5 (some 47) 11 #[] (.bool true) alive_fn (fun w => by kernel_rfl) (by kernel_rfl) ?_
        intro w7 H7; clear H5
        refine s_val (some 48) (.bool true) (fun w => by kernel_rfl) (by kernel_rfl) ?_
        refine s_val (some 49) (.slice (some ⟨b_3, 0, none⟩) n_5 cap_4) (fun w => by kernel_rfl) (by kernel_rfl) ?_
        refine s_val (some 50) (.int .i64 ((n_5 : Nat) : Int)) (fun w => by kernel_rfl) (by kernel_rfl) ?_
        refine s_valE (some 51) (.bool (((n_5 : Nat) : Int) == 1)) (.bool false) (fun w => by kernel_rfl) (bool_eq (beq_eq_false_iff_ne.2 (by omega))) (by kernel_rfl) ?_
        refine s_val (some 52) (.string (strB (turnL (tl (strB (frB (tl (ByteArray.extract s 0 (min (ByteArray.size s) 500)))))) (16 + (Int.toNat ((Int.tmod f ((8 * ((ByteArray.size (strB (frB (tl (ByteArray.extract s 0 (min (ByteArray.size s) 500)))))) - 2) : Nat) : Int)) + ((8 * ((ByteArray.size (strB (frB (tl (ByteArray.extract s 0 (min (ByteArray.size s) 500)))))) - 2) : Nat) : Int)) % (8 * ((ByteArray.size (strB (frB (tl (ByteArray.extract s 0 (min (ByteArray.size s) 500)))))) - 2)))) u 32))) (fun w => by kernel_rfl) (by kernel_rfl) ?_
        refine s_val (some 53) (.string (strB (frB (tl (ByteArray.extract s 0 (min (ByteArray.size s) 500)))))) (fun w => by kernel_rfl) (by kernel_rfl) ?_
        refine s_valE (some 54) (.bool (ByteArray.toList (strB (turnL (tl (strB (frB (tl (ByteArray.extract s 0 (min (ByteArray.size s) 500)))))) (16 + (Int.toNat ((Int.tmod f ((8 * ((ByteArray.size (strB (frB (tl (ByteArray.extract s 0 (min (ByteArray.size s) 500)))))) - 2) : Nat) : Int)) + ((8 * ((ByteArray.size (strB (frB (tl (ByteArray.extract s 0 (min (ByteArray.size s) 500)))))) - 2) : Nat) : Int)) % (8 * ((ByteArray.size (strB (frB (tl (ByteArray.extract s 0 (min (ByteArray.size s) 500)))))) - 2)))) u 32)) == ByteArray.toList (strB (frB (tl (ByteArray.extract s 0 (min (ByteArray.size s) 500))))))) (.bool false) (fun w => by kernel_rfl) (bool_eq (str_other (strB (turnL (tl (strB (frB (tl (ByteArray.extract s 0 (min (ByteArray.size s) 500)))))) (16 + (Int.toNat ((Int.tmod f ((8 * ((ByteArray.size (strB (frB (tl (ByteArray.extract s 0 (min (ByteArray.size s) 500)))))) - 2) : Nat) : Int)) + ((8 * ((ByteArray.size (strB (frB (tl (ByteArray.extract s 0 (min (ByteArray.size s) 500)))))) - 2) : Nat) : Int)) % (8 * ((ByteArray.size (strB (frB (tl (ByteArray.extract s 0 (min (ByteArray.size s) 500)))))) - 2)))) u 32)) (strB (frB (tl (ByteArray.extract s 0 (min (ByteArray.size s) 500))))) hx5)) (by kernel_rfl) ?_
        refine s_val (some 55) (.bool true) (fun w => by kernel_rfl) (by kernel_rfl) ?_
        refine s_val (some 56) (.bool true) (fun w => by kernel_rfl) (by kernel_rfl) ?_
        refine s_val (some 57) (.bool true) (fun w => by kernel_rfl) (by kernel_rfl) ?_
        refine s_val (some 58) (.string (strB (turnL (tl (strB (frB (tl (ByteArray.extract s 0 (min (ByteArray.size s) 500)))))) (16 + (Int.toNat ((Int.tmod f ((8 * ((ByteArray.size (strB (frB (tl (ByteArray.extract s 0 (min (ByteArray.size s) 500)))))) - 2) : Nat) : Int)) + ((8 * ((ByteArray.size (strB (frB (tl (ByteArray.extract s 0 (min (ByteArray.size s) 500)))))) - 2) : Nat) : Int)) % (8 * ((ByteArray.size (strB (frB (tl (ByteArray.extract s 0 (min (ByteArray.size s) 500)))))) - 2)))) u 32))) (fun w => by kernel_rfl) (by kernel_rfl) ?_
        refine s_val (some 59) (.string (strB (frB (tl (ByteArray.extract s 0 (min (ByteArray.size s) 500)))))) (fun w => by kernel_rfl) (by kernel_rfl) ?_
        refine s_valE (some 60) (.bool (ByteArray.toList (strB (turnL (tl (strB (frB (tl (ByteArray.extract s 0 (min (ByteArray.size s) 500)))))) (16 + (Int.toNat ((Int.tmod f ((8 * ((ByteArray.size (strB (frB (tl (ByteArray.extract s 0 (min (ByteArray.size s) 500)))))) - 2) : Nat) : Int)) + ((8 * ((ByteArray.size (strB (frB (tl (ByteArray.extract s 0 (min (ByteArray.size s) 500)))))) - 2) : Nat) : Int)) % (8 * ((ByteArray.size (strB (frB (tl (ByteArray.extract s 0 (min (ByteArray.size s) 500)))))) - 2)))) u 32)) == ByteArray.toList (strB (frB (tl (ByteArray.extract s 0 (min (ByteArray.size s) 500))))))) (.bool false) (fun w => by kernel_rfl) (bool_eq (str_other (strB (turnL (tl (strB (frB (tl (ByteArray.extract s 0 (min (ByteArray.size s) 500)))))) (16 + (Int.toNat ((Int.tmod f ((8 * ((ByteArray.size (strB (frB (tl (ByteArray.extract s 0 (min (ByteArray.size s) 500)))))) - 2) : Nat) : Int)) + ((8 * ((ByteArray.size (strB (frB (tl (ByteArray.extract s 0 (min (ByteArray.size s) 500)))))) - 2) : Nat) : Int)) % (8 * ((ByteArray.size (strB (frB (tl (ByteArray.extract s 0 (min (ByteArray.size s) 500)))))) - 2)))) u 32)) (strB (frB (tl (ByteArray.extract s 0 (min (ByteArray.size s) 500))))) hx5)) (by kernel_rfl) ?_
        refine s_val (some 61) (.bool false) (fun w => by kernel_rfl) (by kernel_rfl) ?_
        refine s_val (some 62) (.slice (some ⟨b_3, 0, none⟩) n_5 cap_4) (fun w => by kernel_rfl) (by kernel_rfl) ?_
        refine s_val (some 63) (.int .i64 ((n_5 : Nat) : Int)) (fun w => by kernel_rfl) (by kernel_rfl) ?_
        refine s_valE (some 64) (.bool (((n_5 : Nat) : Int) == 0)) (.bool true) (fun w => by kernel_rfl) (bool_eq (beq_iff_eq.2 (by omega))) (by kernel_rfl) ?_
        refine s_val (some 65) (.bool true) (fun w => by kernel_rfl) (by kernel_rfl) ?_
        refine s_val (some 66) (.bool true) (fun w => by kernel_rfl) (by kernel_rfl) ?_
        refine s_val (some 6) (.bool true) (fun w => by kernel_rfl) (by kernel_rfl) ?_
        refine s_nil ?_
        refine g_ret (by kernel_rfl) ?_
        show ∃ vs, Res _ _ _ _ vs ∧ _
        refine ⟨[.bool true], (.tmp (.bool true) (by kernel_rfl) .nil), ?_, H7.below⟩
        rfl
  · skip
    refine s_call H0 (some 19) 8 #[.string (ByteArray.extract s 0 (min (ByteArray.size s) 500))] (.tuple #[.string (⟨#[]⟩), .int .i64 1]) (frameNo_fn (ByteArray.extract s 0 (min (ByteArray.size s) 500)) (by omega)) (fun w => by kernel_rfl) (by kernel_rfl) ?_
    intro w8 H8; clear H0
    refine s_val (some 13) (.tuple #[.string (⟨#[]⟩), .int .i64 1]) (fun w => by kernel_rfl) (by kernel_rfl) ?_
    refine s_val (some 20) (.string (⟨#[]⟩)) (fun w => by kernel_rfl) (by kernel_rfl) ?_
    refine s_val (some 21) (.int .i64 1) (fun w => by kernel_rfl) (by kernel_rfl) ?_
    refine s_val (some 7) (.string (⟨#[]⟩)) (fun w => by kernel_rfl) (by kernel_rfl) ?_
    refine s_val (some 8) (.int .i64 1) (fun w => by kernel_rfl) (by kernel_rfl) ?_
    refine s_nil ?_
    refine g_seq (by kernel_rfl) ?_
    refine g_sreg [0, 1] (by kernel_rfl) (by kernel_rfl) ?_
    refine s_val (some 22) (.int .i64 1) (fun w => by kernel_rfl) (by kernel_rfl) ?_
    refine s_val (some 23) (.bool true) (fun w => by kernel_rfl) (by kernel_rfl) ?_
    refine s_nil ?_
    refine g_cond_t (by kernel_rfl) (by kernel_rfl) ?_
    refine g_sreg [0, 1] (by kernel_rfl) (by kernel_rfl) ?_
    refine s_call H8 (some 24) 11 #[] (.bool true) alive_fn (fun w => by kernel_rfl) (by kernel_rfl) ?_
    intro w9 H9; clear H8
    refine s_val (some 6) (.bool true) (fun w => by kernel_rfl) (by kernel_rfl) ?_
    refine s_nil ?_
    refine g_ret (by kernel_rfl) ?_
    show ∃ vs, Res _ _ _ _ vs ∧ _
    refine ⟨[.bool true], (.tmp (.bool true) (by kernel_rfl) .nil), ?_, H9.below⟩
    rfl
end Go.Proofs.Ythipcmpmfjeakaa
