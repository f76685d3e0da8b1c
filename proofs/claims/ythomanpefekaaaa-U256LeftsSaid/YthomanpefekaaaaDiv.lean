/-
  math/bits.Div64, for a divisor whose highest bit is 1.
-/
import Derived.Test.YthomanpefekaaaaDivM
namespace Go.Proofs.Ythomanpefekaaaa
open Go Go.RowKit
set_option linter.unusedVariables false
theorem dv_zero {u l y : Nat} (h : u = 0) : pack [.int .u64 ((l / y : Nat) : Int), .int .u64 ((l % y : Nat) : Int)] = .tuple #[.int .u64 (((u * 18446744073709551616 + l) / y : Nat) : Int), .int .u64 ((l % y : Nat) : Int)] := by
  subst h; rw [Nat.zero_mul, Nat.zero_add]; rfl
theorem dv_q {a b r r' : Nat} (h : a = b) (hr : r = r') : pack [.int .u64 ((a : Nat) : Int), .int .u64 ((r : Nat) : Int)] = .tuple #[.int .u64 ((b : Nat) : Int), .int .u64 ((r' : Nat) : Int)] := by rw [h, hr]; rfl

set_option maxRecDepth 100000 in
set_option maxHeartbeats 2000000 in
theorem lz_fn (y : Nat) (h1 : 9223372036854775808 ≤ y) (h2 : y < 18446744073709551616) : Fn Try.prog 51 #[.int .u64 ((y : Nat) : Int)] (.int .i64 0) := by
  refine Fn.intro (c := codeOf Try.f51) [.tmp 2] 6 Try.func51 (by kernel_rfl) (by kernel_rfl) (by kernel_rfl) fun w => ?_
  have H0 := St.start w
  refine g_sreg [0] (by kernel_rfl) (by kernel_rfl) ?_
  refine s_val (some 2) (.int .i64 0) (fun w => by kernel_rfl) (by kernel_rfl) ?_
  refine s_nil ?_
  refine g_sreg [0, 1, 2, 3] (by kernel_rfl) (by kernel_rfl) ?_
  refine s_val (some 3) (.int .u64 ((y : Nat) : Int)) (fun w => by kernel_rfl) (by kernel_rfl) ?_
  refine s_call H0 (some 4) 41 #[.int .u64 ((y : Nat) : Int)] (.int .i64 64) (len64_top y (by omega) (by omega)) (fun w => by kernel_rfl) (by kernel_rfl) ?_
  intro w1 H1; clear H0
  refine s_val (some 5) (.int .i64 0) (fun w => by kernel_rfl) (by kernel_rfl) ?_
  refine s_val (some 2) (.int .i64 0) (fun w => by kernel_rfl) (by kernel_rfl) ?_
  refine s_nil ?_
  refine g_ret (by kernel_rfl) ?_
  show ∃ vs, Res _ _ _ _ vs ∧ _
  refine ⟨[.int .i64 0], (.tmp (.int .i64 0) (by kernel_rfl) .nil), ?_, H1.below⟩
  rfl

set_option maxRecDepth 100000 in
set_option maxHeartbeats 2000000 in
theorem div64z_fn (u e1 e0 yn ym : Nat) (hym : ym < 4294967296) (hn : 2147483648 ≤ yn) (hn2 : yn < 4294967296) (hu : u < yn * 4294967296 + ym) (he1 : e1 < 4294967296) (he0 : e0 < 4294967296) (hz : u = 0) : Fn Try.prog 50 #[.int .u64 ((u : Nat) : Int), .int .u64 (((e1 * 4294967296 + e0) : Nat) : Int), .int .u64 (((yn * 4294967296 + ym) : Nat) : Int)] (.tuple #[.int .u64 (((u * 18446744073709551616 + (e1 * 4294967296 + e0)) / (yn * 4294967296 + ym) : Nat) : Int), .int .u64 (((e1 * 4294967296 + e0) % (yn * 4294967296 + ym) : Nat) : Int)]) := by
  refine Fn.intro (c := codeOf Try.f50) [.tmp 6, .tmp 7] 135 Try.func50 (by kernel_rfl) (by kernel_rfl) (by kernel_rfl) fun w => ?_
  have H0 := St.start w
  refine g_sreg [0, 1] (by kernel_rfl) (by kernel_rfl) ?_
  refine s_val (some 6) (.int .u64 0) (fun w => by kernel_rfl) (by kernel_rfl) ?_
  refine s_val (some 7) (.int .u64 0) (fun w => by kernel_rfl) (by kernel_rfl) ?_
  refine s_nil ?_
  refine g_seq (by kernel_rfl) ?_
  refine g_sreg [0, 1] (by kernel_rfl) (by kernel_rfl) ?_
  refine s_val (some 19) (.int .u64 (((yn * 4294967296 + ym) : Nat) : Int)) (fun w => by kernel_rfl) (by kernel_rfl) ?_
  refine s_valE (some 20) (.bool ((((yn * 4294967296 + ym) : Nat) : Int) == 0)) (.bool false) (fun w => by kernel_rfl) (bool_eq (beq_eq_false_iff_ne.2 (by omega))) (by kernel_rfl) ?_
  refine s_nil ?_
  refine g_cond_f (by kernel_rfl) (by kernel_rfl) ?_
  refine g_skip (by kernel_rfl) ?_
  show WP _ _ _ _ _ _
  refine g_seq (by kernel_rfl) ?_
  refine g_sreg [0, 1, 2] (by kernel_rfl) (by kernel_rfl) ?_
  refine s_val (some 22) (.int .u64 (((yn * 4294967296 + ym) : Nat) : Int)) (fun w => by kernel_rfl) (by kernel_rfl) ?_
  refine s_val (some 23) (.int .u64 ((u : Nat) : Int)) (fun w => by kernel_rfl) (by kernel_rfl) ?_
  refine s_valE (some 24) (.bool (decide ((((yn * 4294967296 + ym) : Nat) : Int) ≤ ((u : Nat) : Int)))) (.bool false) (fun w => by kernel_rfl) (bool_eq (decide_eq_false (by omega))) (by kernel_rfl) ?_
  refine s_nil ?_
  refine g_cond_f (by kernel_rfl) (by kernel_rfl) ?_
  refine g_skip (by kernel_rfl) ?_
  show WP _ _ _ _ _ _
  refine g_seq (by kernel_rfl) ?_
  refine g_sreg [0, 1] (by kernel_rfl) (by kernel_rfl) ?_
  refine s_val (some 26) (.int .u64 ((u : Nat) : Int)) (fun w => by kernel_rfl) (by kernel_rfl) ?_
  refine s_valE (some 27) (.bool (((u : Nat) : Int) == 0)) (.bool true) (fun w => by kernel_rfl) (bool_eq (beq_iff_eq.2 (by omega))) (by kernel_rfl) ?_
  refine s_nil ?_
  refine g_cond_t (by kernel_rfl) (by kernel_rfl) ?_
  refine D2.g_sdraw [0, 1, 2, 3, 4, 5, 6, 7] [((some 28), fun _ => .int .u64 (((e1 * 4294967296 + e0) : Nat) : Int)), ((some 29), fun _ => .int .u64 (((yn * 4294967296 + ym) : Nat) : Int)), ((some 30), fun _ => .int .u64 (((e1 * 4294967296 + e0) / (yn * 4294967296 + ym) : Nat) : Int)), ((some 31), fun _ => .int .u64 (((e1 * 4294967296 + e0) : Nat) : Int)), ((some 32), fun _ => .int .u64 (((yn * 4294967296 + ym) : Nat) : Int)), ((some 33), fun _ => .int .u64 (((e1 * 4294967296 + e0) % (yn * 4294967296 + ym) : Nat) : Int)), ((some 6), fun _ => .int .u64 (((e1 * 4294967296 + e0) / (yn * 4294967296 + ym) : Nat) : Int)), ((some 7), fun _ => .int .u64 (((e1 * 4294967296 + e0) % (yn * 4294967296 + ym) : Nat) : Int))] (D2.Pre w.heap.size w (fun L g => []) (fun L g => True)) (by kernel_rfl) (by kernel_rfl) (by kernel_rfl) (by kernel_rfl) ⟨D2.StE.of H0.drew _ (by kernel_rfl), trivial⟩ ⟨?_, ?_, ?_, ?_, ?_, ?_, ?_, ?_, trivial⟩ ?_
  · exact D2.gv_val (fun _ _ _ h => h) (fun g w => by kernel_rfl)
  · exact D2.gv_val (fun _ _ _ h => h) (fun g w => by kernel_rfl)
  · exact D2.gv_opE (fun _ _ _ h => h) _ (V' := .int .u64 (IntKind.u64.wrap ((((e1 * 4294967296 + e0) : Nat) : Int).tdiv (((yn * 4294967296 + ym) : Nat) : Int)))) (fun g => by kernel_rfl) (fun g => (fun o w ho => quo_run (n := 0) (t := 22) (t' := 22) (x := (.tmp 28)) (y := (.tmp 29)) (e1 * 4294967296 + e0) (yn * 4294967296 + ym) (by omega) w ho (by kernel_rfl) (by kernel_rfl))) (int_eq (quoN_u64 (a := (e1 * 4294967296 + e0)) (b := (yn * 4294967296 + ym)) (by omega)))
  · exact D2.gv_val (fun _ _ _ h => h) (fun g w => by kernel_rfl)
  · exact D2.gv_val (fun _ _ _ h => h) (fun g w => by kernel_rfl)
  · exact D2.gv_opE (fun _ _ _ h => h) _ (V' := .int .u64 (Int.tmod (((e1 * 4294967296 + e0) : Nat) : Int) (((yn * 4294967296 + ym) : Nat) : Int))) (fun g => by kernel_rfl) (fun g => (fun o w ho => rem_run (n := 0) (t := 22) (t' := 22) (x := (.tmp 31)) (y := (.tmp 32)) (e1 * 4294967296 + e0) (yn * 4294967296 + ym) (by omega) w ho (by kernel_rfl) (by kernel_rfl))) (int_eq (remN (e1 * 4294967296 + e0) (yn * 4294967296 + ym)))
  · exact D2.gv_val (fun _ _ _ h => h) (fun g w => by kernel_rfl)
  · exact D2.gv_val (fun _ _ _ h => h) (fun g w => by kernel_rfl)
  intro L0 G1 w1 hall HL; clear H0
  have H1 : St w.heap.size w w1 [] := D2.StE.st HL.1
  clear HL hall
  refine g_ret (by kernel_rfl) ?_
  show ∃ vs, Res _ _ _ _ vs ∧ _
  refine ⟨[.int .u64 (((e1 * 4294967296 + e0) / (yn * 4294967296 + ym) : Nat) : Int), .int .u64 (((e1 * 4294967296 + e0) % (yn * 4294967296 + ym) : Nat) : Int)], (.tmp (.int .u64 (((e1 * 4294967296 + e0) / (yn * 4294967296 + ym) : Nat) : Int)) (by kernel_rfl) (.tmp (.int .u64 (((e1 * 4294967296 + e0) % (yn * 4294967296 + ym) : Nat) : Int)) (by kernel_rfl) .nil)), ?_, H1.below⟩
  exact dv_zero hz

set_option maxRecDepth 100000 in
set_option maxHeartbeats 2000000 in
theorem div64n_fn (u e1 e0 yn ym : Nat) (hym : ym < 4294967296) (hn : 2147483648 ≤ yn) (hn2 : yn < 4294967296) (hu : u < yn * 4294967296 + ym) (he1 : e1 < 4294967296) (he0 : e0 < 4294967296) (hz : u ≠ 0) : Fn Try.prog 50 #[.int .u64 ((u : Nat) : Int), .int .u64 (((e1 * 4294967296 + e0) : Nat) : Int), .int .u64 (((yn * 4294967296 + ym) : Nat) : Int)] (.tuple #[.int .u64 (((u * 18446744073709551616 + (e1 * 4294967296 + e0)) / (yn * 4294967296 + ym) : Nat) : Int), .int .u64 ((((((u * 4294967296 + e1) % (yn * 4294967296 + ym)) * 4294967296 + e0) % (yn * 4294967296 + ym))  : Nat) : Int)]) := by
  refine Fn.intro (c := codeOf Try.f50) [.tmp 6, .tmp 7] 135 Try.func50 (by kernel_rfl) (by kernel_rfl) (by kernel_rfl) fun w => ?_
  have H0 := St.start w
  refine g_sreg [0, 1] (by kernel_rfl) (by kernel_rfl) ?_
  refine s_val (some 6) (.int .u64 0) (fun w => by kernel_rfl) (by kernel_rfl) ?_
  refine s_val (some 7) (.int .u64 0) (fun w => by kernel_rfl) (by kernel_rfl) ?_
  refine s_nil ?_
  refine g_seq (by kernel_rfl) ?_
  refine g_sreg [0, 1] (by kernel_rfl) (by kernel_rfl) ?_
  refine s_val (some 19) (.int .u64 (((yn * 4294967296 + ym) : Nat) : Int)) (fun w => by kernel_rfl) (by kernel_rfl) ?_
  refine s_valE (some 20) (.bool ((((yn * 4294967296 + ym) : Nat) : Int) == 0)) (.bool false) (fun w => by kernel_rfl) (bool_eq (beq_eq_false_iff_ne.2 (by omega))) (by kernel_rfl) ?_
  refine s_nil ?_
  refine g_cond_f (by kernel_rfl) (by kernel_rfl) ?_
  refine g_skip (by kernel_rfl) ?_
  show WP _ _ _ _ _ _
  refine g_seq (by kernel_rfl) ?_
  refine g_sreg [0, 1, 2] (by kernel_rfl) (by kernel_rfl) ?_
  refine s_val (some 22) (.int .u64 (((yn * 4294967296 + ym) : Nat) : Int)) (fun w => by kernel_rfl) (by kernel_rfl) ?_
  refine s_val (some 23) (.int .u64 ((u : Nat) : Int)) (fun w => by kernel_rfl) (by kernel_rfl) ?_
  refine s_valE (some 24) (.bool (decide ((((yn * 4294967296 + ym) : Nat) : Int) ≤ ((u : Nat) : Int)))) (.bool false) (fun w => by kernel_rfl) (bool_eq (decide_eq_false (by omega))) (by kernel_rfl) ?_
  refine s_nil ?_
  refine g_cond_f (by kernel_rfl) (by kernel_rfl) ?_
  refine g_skip (by kernel_rfl) ?_
  show WP _ _ _ _ _ _
  refine g_seq (by kernel_rfl) ?_
  refine g_sreg [0, 1] (by kernel_rfl) (by kernel_rfl) ?_
  refine s_val (some 26) (.int .u64 ((u : Nat) : Int)) (fun w => by kernel_rfl) (by kernel_rfl) ?_
  refine s_valE (some 27) (.bool (((u : Nat) : Int) == 0)) (.bool false) (fun w => by kernel_rfl) (bool_eq (beq_eq_false_iff_ne.2 (by omega))) (by kernel_rfl) ?_
  refine s_nil ?_
  refine g_cond_f (by kernel_rfl) (by kernel_rfl) ?_
  refine g_skip (by kernel_rfl) ?_
  show WP _ _ _ _ _ _
  refine g_sreg [0, 1, 2, 3] (by kernel_rfl) (by kernel_rfl) ?_
  refine s_val (some 34) (.int .u64 (((yn * 4294967296 + ym) : Nat) : Int)) (fun w => by kernel_rfl) (by kernel_rfl) ?_
  refine s_call H0 (some 35) 51 #[.int .u64 (((yn * 4294967296 + ym) : Nat) : Int)] (.int .i64 0) (lz_fn (yn * 4294967296 + ym) (by omega) (by omega)) (fun w => by kernel_rfl) (by kernel_rfl) ?_
  intro w1 H1; clear H0
  refine s_val (some 36) (.int .u64 0) (fun w => by kernel_rfl) (by kernel_rfl) ?_
  refine s_val (some 8) (.int .u64 0) (fun w => by kernel_rfl) (by kernel_rfl) ?_
  refine s_nil ?_
  refine g_sreg [0, 1, 2, 3] (by kernel_rfl) (by kernel_rfl) ?_
  refine s_val (some 37) (.int .u64 (((yn * 4294967296 + ym) : Nat) : Int)) (fun w => by kernel_rfl) (by kernel_rfl) ?_
  refine s_val (some 38) (.int .u64 0) (fun w => by kernel_rfl) (by kernel_rfl) ?_
  refine s_valE (some 39) (.int .u64 (IntKind.u64.wrap (((((yn * 4294967296 + ym) : Nat) : Int)) * 2 ^ 0))) (.int .u64 (((yn * 4294967296 + ym) : Nat) : Int)) (fun w => by kernel_rfl) (int_eq (shl0 (a := (yn * 4294967296 + ym)) (by omega))) (by kernel_rfl) ?_
  refine s_val (some 2) (.int .u64 (((yn * 4294967296 + ym) : Nat) : Int)) (fun w => by kernel_rfl) (by kernel_rfl) ?_
  refine s_nil ?_
  refine g_sreg [0, 1, 2] (by kernel_rfl) (by kernel_rfl) ?_
  refine s_val (some 40) (.int .u64 (((yn * 4294967296 + ym) : Nat) : Int)) (fun w => by kernel_rfl) (by kernel_rfl) ?_
  refine s_valE (some 41) (.int .u64 (Int.fdiv (((yn * 4294967296 + ym) : Nat) : Int) (2 ^ 32))) (.int .u64 (((yn * 4294967296 + ym) / 4294967296 : Nat) : Int)) (fun w => by kernel_rfl) (int_eq (shrN (k := 32) (yn * 4294967296 + ym) 4294967296 rfl)) (by kernel_rfl) ?_
  rw [show ((((yn * 4294967296 + ym) / 4294967296 : Nat) : Int)) = ((yn : Nat) : Int) from by omega]
  refine s_val (some 9) (.int .u64 ((yn : Nat) : Int)) (fun w => by kernel_rfl) (by kernel_rfl) ?_
  refine s_nil ?_
  refine g_sreg [0, 1, 2] (by kernel_rfl) (by kernel_rfl) ?_
  refine s_val (some 42) (.int .u64 (((yn * 4294967296 + ym) : Nat) : Int)) (fun w => by kernel_rfl) (by kernel_rfl) ?_
  refine s_valE (some 43) (.int .u64 (Go.bits .and .u64 ((((yn * 4294967296 + ym) : Nat) : Int)) 4294967295)) (.int .u64 (((yn * 4294967296 + ym) % 4294967296 : Nat) : Int)) (fun w => by kernel_rfl) (int_eq (and32 (a := (yn * 4294967296 + ym)) (by omega))) (by kernel_rfl) ?_
  rw [show ((((yn * 4294967296 + ym) % 4294967296 : Nat) : Int)) = ((ym : Nat) : Int) from by omega]
  refine s_val (some 10) (.int .u64 ((ym : Nat) : Int)) (fun w => by kernel_rfl) (by kernel_rfl) ?_
  refine s_nil ?_
  refine g_sreg [0, 1, 2, 3, 4, 5, 6, 7, 8] (by kernel_rfl) (by kernel_rfl) ?_
  refine s_val (some 44) (.int .u64 ((u : Nat) : Int)) (fun w => by kernel_rfl) (by kernel_rfl) ?_
  refine s_val (some 45) (.int .u64 0) (fun w => by kernel_rfl) (by kernel_rfl) ?_
  refine s_valE (some 46) (.int .u64 (IntKind.u64.wrap ((((u : Nat) : Int)) * 2 ^ 0))) (.int .u64 ((u : Nat) : Int)) (fun w => by kernel_rfl) (int_eq (shl0 (a := u) (by omega))) (by kernel_rfl) ?_
  refine s_val (some 47) (.int .u64 (((e1 * 4294967296 + e0) : Nat) : Int)) (fun w => by kernel_rfl) (by kernel_rfl) ?_
  refine s_val (some 48) (.int .u64 0) (fun w => by kernel_rfl) (by kernel_rfl) ?_
  refine s_val (some 49) (.int .u64 64) (fun w => by kernel_rfl) (by kernel_rfl) ?_
  refine s_valE (some 50) (.int .u64 (Int.fdiv (((e1 * 4294967296 + e0) : Nat) : Int) (2 ^ 64))) (.int .u64 (((e1 * 4294967296 + e0) / 18446744073709551616 : Nat) : Int)) (fun w => by kernel_rfl) (int_eq (shrN (k := 64) (e1 * 4294967296 + e0) 18446744073709551616 rfl)) (by kernel_rfl) ?_
  refine s_valE (some 51) (.int .u64 (Go.bits .or .u64 (((u : Nat) : Int)) ((((e1 * 4294967296 + e0) / 18446744073709551616 : Nat) : Int)))) (.int .u64 ((u : Nat) : Int)) (fun w => by kernel_rfl) (int_eq (by rw [u64_or_nat u ((e1 * 4294967296 + e0) / 18446744073709551616) (by omega) (by omega), show (e1 * 4294967296 + e0) / 18446744073709551616 = 0 by omega, Nat.or_zero])) (by kernel_rfl) ?_
  refine s_val (some 11) (.int .u64 ((u : Nat) : Int)) (fun w => by kernel_rfl) (by kernel_rfl) ?_
  refine s_nil ?_
  refine g_sreg [0, 1, 2, 3] (by kernel_rfl) (by kernel_rfl) ?_
  refine s_val (some 52) (.int .u64 (((e1 * 4294967296 + e0) : Nat) : Int)) (fun w => by kernel_rfl) (by kernel_rfl) ?_
  refine s_val (some 53) (.int .u64 0) (fun w => by kernel_rfl) (by kernel_rfl) ?_
  refine s_valE (some 54) (.int .u64 (IntKind.u64.wrap (((((e1 * 4294967296 + e0) : Nat) : Int)) * 2 ^ 0))) (.int .u64 (((e1 * 4294967296 + e0) : Nat) : Int)) (fun w => by kernel_rfl) (int_eq (shl0 (a := (e1 * 4294967296 + e0)) (by omega))) (by kernel_rfl) ?_
  refine s_val (some 12) (.int .u64 (((e1 * 4294967296 + e0) : Nat) : Int)) (fun w => by kernel_rfl) (by kernel_rfl) ?_
  refine s_nil ?_
  refine g_sreg [0, 1, 2] (by kernel_rfl) (by kernel_rfl) ?_
  refine s_val (some 55) (.int .u64 (((e1 * 4294967296 + e0) : Nat) : Int)) (fun w => by kernel_rfl) (by kernel_rfl) ?_
  refine s_valE (some 56) (.int .u64 (Int.fdiv (((e1 * 4294967296 + e0) : Nat) : Int) (2 ^ 32))) (.int .u64 (((e1 * 4294967296 + e0) / 4294967296 : Nat) : Int)) (fun w => by kernel_rfl) (int_eq (shrN (k := 32) (e1 * 4294967296 + e0) 4294967296 rfl)) (by kernel_rfl) ?_
  rw [show ((((e1 * 4294967296 + e0) / 4294967296 : Nat) : Int)) = ((e1 : Nat) : Int) from by omega]
  refine s_val (some 13) (.int .u64 ((e1 : Nat) : Int)) (fun w => by kernel_rfl) (by kernel_rfl) ?_
  refine s_nil ?_
  refine g_sreg [0, 1, 2] (by kernel_rfl) (by kernel_rfl) ?_
  refine s_val (some 57) (.int .u64 (((e1 * 4294967296 + e0) : Nat) : Int)) (fun w => by kernel_rfl) (by kernel_rfl) ?_
  refine s_valE (some 58) (.int .u64 (Go.bits .and .u64 ((((e1 * 4294967296 + e0) : Nat) : Int)) 4294967295)) (.int .u64 (((e1 * 4294967296 + e0) % 4294967296 : Nat) : Int)) (fun w => by kernel_rfl) (int_eq (and32 (a := (e1 * 4294967296 + e0)) (by omega))) (by kernel_rfl) ?_
  rw [show ((((e1 * 4294967296 + e0) % 4294967296 : Nat) : Int)) = ((e0 : Nat) : Int) from by omega]
  refine s_val (some 14) (.int .u64 ((e0 : Nat) : Int)) (fun w => by kernel_rfl) (by kernel_rfl) ?_
  refine s_nil ?_
  refine g_sreg [0, 1, 2, 3] (by kernel_rfl) (by kernel_rfl) ?_
  refine s_val (some 59) (.int .u64 ((u : Nat) : Int)) (fun w => by kernel_rfl) (by kernel_rfl) ?_
  refine s_val (some 60) (.int .u64 ((yn : Nat) : Int)) (fun w => by kernel_rfl) (by kernel_rfl) ?_
  refine s_opE (some 61) _ (.int .u64 (IntKind.u64.wrap (((u : Nat) : Int).tdiv ((yn : Nat) : Int)))) (.int .u64 ((u / yn : Nat) : Int)) (by kernel_rfl) (fun o w ho => quo_run (n := 0) (t := 22) (t' := 22) (x := (.tmp 59)) (y := (.tmp 60)) u yn (by omega) w ho (by kernel_rfl) (by kernel_rfl)) (int_eq (quoN_u64 (a := u) (b := yn) (by omega))) (by kernel_rfl) ?_
  refine s_val (some 15) (.int .u64 ((u / yn : Nat) : Int)) (fun w => by kernel_rfl) (by kernel_rfl) ?_
  refine s_nil ?_
  refine g_sreg [0, 1, 2, 3, 4, 5] (by kernel_rfl) (by kernel_rfl) ?_
  refine s_val (some 62) (.int .u64 ((u : Nat) : Int)) (fun w => by kernel_rfl) (by kernel_rfl) ?_
  refine s_val (some 63) (.int .u64 ((u / yn : Nat) : Int)) (fun w => by kernel_rfl) (by kernel_rfl) ?_
  refine s_val (some 64) (.int .u64 ((yn : Nat) : Int)) (fun w => by kernel_rfl) (by kernel_rfl) ?_
  have hdl := Nat.div_mul_le_self u yn
  refine s_valE (some 65) (.int .u64 (IntKind.u64.wrap (((u / yn : Nat) : Int) * ((yn : Nat) : Int)))) (.int .u64 (((u / yn) * yn : Nat) : Int)) (fun w => by kernel_rfl) (int_eq (wrapMul_u64 (a := u / yn) (b := yn) (by omega))) (by kernel_rfl) ?_
  refine s_valE (some 66) (.int .u64 (IntKind.u64.wrap (((u : Nat) : Int) - (((u / yn) * yn : Nat) : Int)))) (.int .u64 ((u % yn : Nat) : Int)) (fun w => by kernel_rfl) (int_eq (by rw [wrapSub_u64 (a := u) (b := (u / yn) * yn) (by have := Nat.div_mul_le_self u yn; omega)]; have := Nat.div_add_mod u yn; rw [Nat.mul_comm] at this; congr 1; omega)) (by kernel_rfl) ?_
  refine s_val (some 16) (.int .u64 ((u % yn : Nat) : Int)) (fun w => by kernel_rfl) (by kernel_rfl) ?_
  refine s_nil ?_
  refine g_seq (by kernel_rfl) ?_
  refine g_block 0 (by kernel_rfl) ?_
  refine g_loop (by kernel_rfl) (fun m ρ ww => ∃ (q : Nat) (r : Nat), q = m ∧ (HalfI u e1 yn ym (yn * 4294967296 + ym) q r) ∧ (r < 4294967296) ∧ St w.heap.size w ww [] ∧ Is [(0, .int .u64 ((u : Nat) : Int)), (1, .int .u64 (((e1 * 4294967296 + e0) : Nat) : Int)), (2, .int .u64 (((yn * 4294967296 + ym) : Nat) : Int)), (6, .int .u64 0), (7, .int .u64 0), (8, .int .u64 0), (9, .int .u64 ((yn : Nat) : Int)), (10, .int .u64 ((ym : Nat) : Int)), (11, .int .u64 ((u : Nat) : Int)), (12, .int .u64 (((e1 * 4294967296 + e0) : Nat) : Int)), (13, .int .u64 ((e1 : Nat) : Int)), (14, .int .u64 ((e0 : Nat) : Int)), (15, .int .u64 ((q : Nat) : Int)), (16, .int .u64 ((r : Nat) : Int)), (20, .bool false), (24, .bool false), (27, .bool false)] ρ) (u / yn) ⟨(u / yn), (u % yn), rfl, (half_i rfl hym hn hu he1), (by have := Nat.mod_lt u (show 0 < yn by omega); omega), H1, (Is.of ⟨(by kernel_rfl), (by kernel_rfl), (by kernel_rfl), (by kernel_rfl), (by kernel_rfl), (by kernel_rfl), (by kernel_rfl), (by kernel_rfl), (by kernel_rfl), (by kernel_rfl), (by kernel_rfl), (by kernel_rfl), (by kernel_rfl), (by kernel_rfl), (by kernel_rfl), (by kernel_rfl), (by kernel_rfl), trivial⟩)⟩ ?_
  clear H1
  rintro _ _ w2 ⟨q, r, rfl, hI, hr, H2, _, rfl⟩
  have hle := hI.le; have heq := hI.eq
  have hm : q < 4294967296 → q * ym ≤ 18446744065119617025 := fun h => Nat.mul_le_mul (show q ≤ 4294967295 by omega) (show ym ≤ 4294967295 by omega)
  refine g_seq (by kernel_rfl) ?_
  refine g_sreg [0, 1, 2, 3, 4, 5, 6, 7, 8, 9, 10, 11] (by kernel_rfl) (by kernel_rfl) ?_
  refine s_val (some 67) (.int .u64 ((q : Nat) : Int)) (fun w => by kernel_rfl) (by kernel_rfl) ?_
  by_cases hc1 : (q : Nat) ≥ 4294967296
  · skip
    refine s_valE (some 68) (.bool (decide (4294967296 ≤ ((q : Nat) : Int)))) (.bool true) (fun w => by kernel_rfl) (bool_eq (decide_eq_true (by omega))) (by kernel_rfl) ?_
    refine s_val (some 69) (.bool true) (fun w => by kernel_rfl) (by kernel_rfl) ?_
    refine s_not (some 70) (by kernel_rfl) (by kernel_rfl) ?_
    refine s_not (some 71) (by kernel_rfl) (by kernel_rfl) ?_
    refine s_not (some 72) (by kernel_rfl) (by kernel_rfl) ?_
    refine s_not (some 73) (by kernel_rfl) (by kernel_rfl) ?_
    refine s_not (some 74) (by kernel_rfl) (by kernel_rfl) ?_
    refine s_not (some 75) (by kernel_rfl) (by kernel_rfl) ?_
    refine s_not (some 76) (by kernel_rfl) (by kernel_rfl) ?_
    refine s_not (some 77) (by kernel_rfl) (by kernel_rfl) ?_
    refine s_val (some 78) (.bool true) (fun w => by kernel_rfl) (by kernel_rfl) ?_
    refine s_nil ?_
    refine g_cond_t (by kernel_rfl) (by kernel_rfl) ?_
    refine g_skip (by kernel_rfl) ?_
    show WP _ _ _ _ _ _
    refine g_block 1 (by kernel_rfl) ?_
    refine g_sreg [0, 1, 2] (by kernel_rfl) (by kernel_rfl) ?_
    have hH := hI.high rfl hym hn hu he1 hr (by omega)
    have hH1 := hH.1
    refine s_val (some 79) (.int .u64 ((q : Nat) : Int)) (fun w => by kernel_rfl) (by kernel_rfl) ?_
    refine s_valE (some 80) (.int .u64 (IntKind.u64.wrap (((q : Nat) : Int) - 1))) (.int .u64 ((q - 1 : Nat) : Int)) (fun w => by kernel_rfl) (int_eq (wrapSub_u64 (a := q) (b := 1) (by omega))) (by kernel_rfl) ?_
    refine s_val (some 15) (.int .u64 ((q - 1 : Nat) : Int)) (fun w => by kernel_rfl) (by kernel_rfl) ?_
    refine s_nil ?_
    refine g_sreg [0, 1, 2, 3] (by kernel_rfl) (by kernel_rfl) ?_
    refine s_val (some 81) (.int .u64 ((r : Nat) : Int)) (fun w => by kernel_rfl) (by kernel_rfl) ?_
    refine s_val (some 82) (.int .u64 ((yn : Nat) : Int)) (fun w => by kernel_rfl) (by kernel_rfl) ?_
    refine s_valE (some 83) (.int .u64 (IntKind.u64.wrap (((r : Nat) : Int) + ((yn : Nat) : Int)))) (.int .u64 ((r + yn : Nat) : Int)) (fun w => by kernel_rfl) (int_eq (wrapAdd_u64 (a := r) (b := yn) (by omega))) (by kernel_rfl) ?_
    refine s_val (some 16) (.int .u64 ((r + yn : Nat) : Int)) (fun w => by kernel_rfl) (by kernel_rfl) ?_
    refine s_nil ?_
    refine g_sreg [0, 1] (by kernel_rfl) (by kernel_rfl) ?_
    refine s_val (some 84) (.int .u64 ((r + yn : Nat) : Int)) (fun w => by kernel_rfl) (by kernel_rfl) ?_
    by_cases hc2 : (r + yn : Nat) ≥ 4294967296
    · skip
      refine s_valE (some 85) (.bool (decide (4294967296 ≤ ((r + yn : Nat) : Int)))) (.bool true) (fun w => by kernel_rfl) (bool_eq (decide_eq_true (by omega))) (by kernel_rfl) ?_
      refine s_nil ?_
      refine g_cond_t (by kernel_rfl) (by kernel_rfl) ?_
      refine g_exit 0 (by kernel_rfl) ?_
      show WP _ _ _ _ _ _
      refine g_sreg [0, 1, 2, 3, 4, 5, 6, 7, 8] (by kernel_rfl) (by kernel_rfl) ?_
      have hQ := (hH.2).right rfl hym hn hu he1 (by omega)
      have hQl : ((u * 4294967296 + e1) / (yn * 4294967296 + ym)) < 4294967296 := (Nat.div_lt_iff_lt_mul (show 0 < (yn * 4294967296 + ym) by omega)).2 (by omega)
      have hdm := Nat.div_add_mod (u * 4294967296 + e1) (yn * 4294967296 + ym); have hml := Nat.mod_lt (u * 4294967296 + e1) (show 0 < (yn * 4294967296 + ym) by omega)
      have hu2 : (u * 4294967296 + e1) % (yn * 4294967296 + ym) < yn * 4294967296 + ym := hml
      rw [show (((q - 1 : Nat) : Int)) = ((((u * 4294967296 + e1) / (yn * 4294967296 + ym)) : Nat) : Int) from by rw [← hQ]]
      refine s_val (some 86) (.int .u64 ((u : Nat) : Int)) (fun w => by kernel_rfl) (by kernel_rfl) ?_
      refine s_valE (some 87) (.int .u64 (IntKind.u64.wrap (((u : Nat) : Int) * 4294967296))) (.int .u64 ((u * 4294967296 % 18446744073709551616 : Nat) : Int)) (fun w => by kernel_rfl) (int_eq (modMul (a := u) (b := 4294967296))) (by kernel_rfl) ?_
      refine s_val (some 88) (.int .u64 ((e1 : Nat) : Int)) (fun w => by kernel_rfl) (by kernel_rfl) ?_
      refine s_valE (some 89) (.int .u64 (IntKind.u64.wrap (((u * 4294967296 % 18446744073709551616 : Nat) : Int) + ((e1 : Nat) : Int)))) (.int .u64 ((((u * 4294967296 % 18446744073709551616) + e1) % 18446744073709551616 : Nat) : Int)) (fun w => by kernel_rfl) (int_eq (modAdd (a := u * 4294967296 % 18446744073709551616) (b := e1))) (by kernel_rfl) ?_
      refine s_val (some 90) (.int .u64 ((((u * 4294967296 + e1) / (yn * 4294967296 + ym)) : Nat) : Int)) (fun w => by kernel_rfl) (by kernel_rfl) ?_
      refine s_val (some 91) (.int .u64 (((yn * 4294967296 + ym) : Nat) : Int)) (fun w => by kernel_rfl) (by kernel_rfl) ?_
      refine s_valE (some 92) (.int .u64 (IntKind.u64.wrap (((((u * 4294967296 + e1) / (yn * 4294967296 + ym)) : Nat) : Int) * (((yn * 4294967296 + ym) : Nat) : Int)))) (.int .u64 ((((u * 4294967296 + e1) / (yn * 4294967296 + ym)) * (yn * 4294967296 + ym) % 18446744073709551616 : Nat) : Int)) (fun w => by kernel_rfl) (int_eq (modMul (a := ((u * 4294967296 + e1) / (yn * 4294967296 + ym))) (b := (yn * 4294967296 + ym)))) (by kernel_rfl) ?_
      refine s_valE (some 93) (.int .u64 (IntKind.u64.wrap (((((u * 4294967296 % 18446744073709551616) + e1) % 18446744073709551616 : Nat) : Int) - ((((u * 4294967296 + e1) / (yn * 4294967296 + ym)) * (yn * 4294967296 + ym) % 18446744073709551616 : Nat) : Int)))) (.int .u64 ((((u * 4294967296 + e1) % (yn * 4294967296 + ym)) : Nat) : Int)) (fun w => by kernel_rfl) (int_eq ((modSub (a := ((u * 4294967296 % 18446744073709551616) + e1) % 18446744073709551616) (b := ((u * 4294967296 + e1) / (yn * 4294967296 + ym)) * (yn * 4294967296 + ym) % 18446744073709551616) (by omega)).trans (congrArg (fun n : Nat => (n : Int)) (left_mods (by omega) (by omega) rfl)))) (by kernel_rfl) ?_
      refine s_val (some 17) (.int .u64 ((((u * 4294967296 + e1) % (yn * 4294967296 + ym)) : Nat) : Int)) (fun w => by kernel_rfl) (by kernel_rfl) ?_
      refine s_nil ?_
      refine g_sreg [0, 1, 2, 3] (by kernel_rfl) (by kernel_rfl) ?_
      refine s_val (some 94) (.int .u64 ((((u * 4294967296 + e1) % (yn * 4294967296 + ym)) : Nat) : Int)) (fun w => by kernel_rfl) (by kernel_rfl) ?_
      refine s_val (some 95) (.int .u64 ((yn : Nat) : Int)) (fun w => by kernel_rfl) (by kernel_rfl) ?_
      refine s_opE (some 96) _ (.int .u64 (IntKind.u64.wrap (((((u * 4294967296 + e1) % (yn * 4294967296 + ym)) : Nat) : Int).tdiv ((yn : Nat) : Int)))) (.int .u64 ((((u * 4294967296 + e1) % (yn * 4294967296 + ym)) / yn : Nat) : Int)) (by kernel_rfl) (fun o w ho => quo_run (n := 0) (t := 22) (t' := 22) (x := (.tmp 94)) (y := (.tmp 95)) ((u * 4294967296 + e1) % (yn * 4294967296 + ym)) yn (by omega) w ho (by kernel_rfl) (by kernel_rfl)) (int_eq (quoN_u64 (a := ((u * 4294967296 + e1) % (yn * 4294967296 + ym))) (b := yn) (by omega))) (by kernel_rfl) ?_
      refine s_val (some 18) (.int .u64 ((((u * 4294967296 + e1) % (yn * 4294967296 + ym)) / yn : Nat) : Int)) (fun w => by kernel_rfl) (by kernel_rfl) ?_
      refine s_nil ?_
      refine g_sreg [0, 1, 2, 3, 4, 5] (by kernel_rfl) (by kernel_rfl) ?_
      refine s_val (some 97) (.int .u64 ((((u * 4294967296 + e1) % (yn * 4294967296 + ym)) : Nat) : Int)) (fun w => by kernel_rfl) (by kernel_rfl) ?_
      refine s_val (some 98) (.int .u64 ((((u * 4294967296 + e1) % (yn * 4294967296 + ym)) / yn : Nat) : Int)) (fun w => by kernel_rfl) (by kernel_rfl) ?_
      refine s_val (some 99) (.int .u64 ((yn : Nat) : Int)) (fun w => by kernel_rfl) (by kernel_rfl) ?_
      have hdl := Nat.div_mul_le_self ((u * 4294967296 + e1) % (yn * 4294967296 + ym)) yn
      refine s_valE (some 100) (.int .u64 (IntKind.u64.wrap (((((u * 4294967296 + e1) % (yn * 4294967296 + ym)) / yn : Nat) : Int) * ((yn : Nat) : Int)))) (.int .u64 (((((u * 4294967296 + e1) % (yn * 4294967296 + ym)) / yn) * yn : Nat) : Int)) (fun w => by kernel_rfl) (int_eq (wrapMul_u64 (a := ((u * 4294967296 + e1) % (yn * 4294967296 + ym)) / yn) (b := yn) (by omega))) (by kernel_rfl) ?_
      refine s_valE (some 101) (.int .u64 (IntKind.u64.wrap (((((u * 4294967296 + e1) % (yn * 4294967296 + ym)) : Nat) : Int) - (((((u * 4294967296 + e1) % (yn * 4294967296 + ym)) / yn) * yn : Nat) : Int)))) (.int .u64 ((((u * 4294967296 + e1) % (yn * 4294967296 + ym)) % yn : Nat) : Int)) (fun w => by kernel_rfl) (int_eq (by rw [wrapSub_u64 (a := ((u * 4294967296 + e1) % (yn * 4294967296 + ym))) (b := (((u * 4294967296 + e1) % (yn * 4294967296 + ym)) / yn) * yn) (by have := Nat.div_mul_le_self ((u * 4294967296 + e1) % (yn * 4294967296 + ym)) yn; omega)]; have := Nat.div_add_mod ((u * 4294967296 + e1) % (yn * 4294967296 + ym)) yn; rw [Nat.mul_comm] at this; congr 1; omega)) (by kernel_rfl) ?_
      refine s_val (some 16) (.int .u64 ((((u * 4294967296 + e1) % (yn * 4294967296 + ym)) % yn : Nat) : Int)) (fun w => by kernel_rfl) (by kernel_rfl) ?_
      refine s_nil ?_
      refine g_seq (by kernel_rfl) ?_
      refine g_block 2 (by kernel_rfl) ?_
      refine g_loop (by kernel_rfl) (fun m ρ ww => ∃ (q2 : Nat) (r2 : Nat), q2 = m ∧ (HalfI ((u * 4294967296 + e1) % (yn * 4294967296 + ym)) e0 yn ym (yn * 4294967296 + ym) q2 r2) ∧ (r2 < 4294967296) ∧ St w.heap.size w ww [] ∧ Is [(0, .int .u64 ((u : Nat) : Int)), (1, .int .u64 (((e1 * 4294967296 + e0) : Nat) : Int)), (2, .int .u64 (((yn * 4294967296 + ym) : Nat) : Int)), (6, .int .u64 0), (7, .int .u64 0), (8, .int .u64 0), (9, .int .u64 ((yn : Nat) : Int)), (10, .int .u64 ((ym : Nat) : Int)), (11, .int .u64 ((u : Nat) : Int)), (12, .int .u64 (((e1 * 4294967296 + e0) : Nat) : Int)), (13, .int .u64 ((e1 : Nat) : Int)), (14, .int .u64 ((e0 : Nat) : Int)), (15, .int .u64 ((((u * 4294967296 + e1) / (yn * 4294967296 + ym)) : Nat) : Int)), (16, .int .u64 ((r2 : Nat) : Int)), (17, .int .u64 ((((u * 4294967296 + e1) % (yn * 4294967296 + ym)) : Nat) : Int)), (18, .int .u64 ((q2 : Nat) : Int)), (20, .bool false), (24, .bool false), (27, .bool false), (78, .bool true), (85, .bool true)] ρ) (((u * 4294967296 + e1) % (yn * 4294967296 + ym)) / yn) ⟨(((u * 4294967296 + e1) % (yn * 4294967296 + ym)) / yn), (((u * 4294967296 + e1) % (yn * 4294967296 + ym)) % yn), rfl, (half_i rfl hym hn hu2 he0), (by have := Nat.mod_lt ((u * 4294967296 + e1) % (yn * 4294967296 + ym)) (show 0 < yn by omega); omega), H2, (Is.of ⟨(by kernel_rfl), (by kernel_rfl), (by kernel_rfl), (by kernel_rfl), (by kernel_rfl), (by kernel_rfl), (by kernel_rfl), (by kernel_rfl), (by kernel_rfl), (by kernel_rfl), (by kernel_rfl), (by kernel_rfl), (by kernel_rfl), (by kernel_rfl), (by kernel_rfl), (by kernel_rfl), (by kernel_rfl), (by kernel_rfl), (by kernel_rfl), (by kernel_rfl), (by kernel_rfl), trivial⟩)⟩ ?_
      clear H2
      rintro _ _ w3 ⟨q2, r2, rfl, hI2, hr2, H3, _, rfl⟩
      have hle2 := hI2.le; have heq2 := hI2.eq
      have hm2 : q2 < 4294967296 → q2 * ym ≤ 18446744065119617025 := fun h => Nat.mul_le_mul (show q2 ≤ 4294967295 by omega) (show ym ≤ 4294967295 by omega)
      refine g_seq (by kernel_rfl) ?_
      refine g_sreg [0, 1, 2, 3, 4, 5, 6, 7, 8, 9, 10, 11] (by kernel_rfl) (by kernel_rfl) ?_
      refine s_val (some 102) (.int .u64 ((q2 : Nat) : Int)) (fun w => by kernel_rfl) (by kernel_rfl) ?_
      by_cases hc3 : (q2 : Nat) ≥ 4294967296
      · skip
        refine s_valE (some 103) (.bool (decide (4294967296 ≤ ((q2 : Nat) : Int)))) (.bool true) (fun w => by kernel_rfl) (bool_eq (decide_eq_true (by omega))) (by kernel_rfl) ?_
        refine s_val (some 104) (.bool true) (fun w => by kernel_rfl) (by kernel_rfl) ?_
        refine s_not (some 105) (by kernel_rfl) (by kernel_rfl) ?_
        refine s_not (some 106) (by kernel_rfl) (by kernel_rfl) ?_
        refine s_not (some 107) (by kernel_rfl) (by kernel_rfl) ?_
        refine s_not (some 108) (by kernel_rfl) (by kernel_rfl) ?_
        refine s_not (some 109) (by kernel_rfl) (by kernel_rfl) ?_
        refine s_not (some 110) (by kernel_rfl) (by kernel_rfl) ?_
        refine s_not (some 111) (by kernel_rfl) (by kernel_rfl) ?_
        refine s_not (some 112) (by kernel_rfl) (by kernel_rfl) ?_
        refine s_val (some 113) (.bool true) (fun w => by kernel_rfl) (by kernel_rfl) ?_
        refine s_nil ?_
        refine g_cond_t (by kernel_rfl) (by kernel_rfl) ?_
        refine g_skip (by kernel_rfl) ?_
        show WP _ _ _ _ _ _
        refine g_block 3 (by kernel_rfl) ?_
        refine g_sreg [0, 1, 2] (by kernel_rfl) (by kernel_rfl) ?_
        have hH2 := hI2.high rfl hym hn hu2 he0 hr2 (by omega)
        have hH12 := hH2.1
        refine s_val (some 114) (.int .u64 ((q2 : Nat) : Int)) (fun w => by kernel_rfl) (by kernel_rfl) ?_
        refine s_valE (some 115) (.int .u64 (IntKind.u64.wrap (((q2 : Nat) : Int) - 1))) (.int .u64 ((q2 - 1 : Nat) : Int)) (fun w => by kernel_rfl) (int_eq (wrapSub_u64 (a := q2) (b := 1) (by omega))) (by kernel_rfl) ?_
        refine s_val (some 18) (.int .u64 ((q2 - 1 : Nat) : Int)) (fun w => by kernel_rfl) (by kernel_rfl) ?_
        refine s_nil ?_
        refine g_sreg [0, 1, 2, 3] (by kernel_rfl) (by kernel_rfl) ?_
        refine s_val (some 116) (.int .u64 ((r2 : Nat) : Int)) (fun w => by kernel_rfl) (by kernel_rfl) ?_
        refine s_val (some 117) (.int .u64 ((yn : Nat) : Int)) (fun w => by kernel_rfl) (by kernel_rfl) ?_
        refine s_valE (some 118) (.int .u64 (IntKind.u64.wrap (((r2 : Nat) : Int) + ((yn : Nat) : Int)))) (.int .u64 ((r2 + yn : Nat) : Int)) (fun w => by kernel_rfl) (int_eq (wrapAdd_u64 (a := r2) (b := yn) (by omega))) (by kernel_rfl) ?_
        refine s_val (some 16) (.int .u64 ((r2 + yn : Nat) : Int)) (fun w => by kernel_rfl) (by kernel_rfl) ?_
        refine s_nil ?_
        refine g_sreg [0, 1] (by kernel_rfl) (by kernel_rfl) ?_
        refine s_val (some 119) (.int .u64 ((r2 + yn : Nat) : Int)) (fun w => by kernel_rfl) (by kernel_rfl) ?_
        by_cases hc4 : (r2 + yn : Nat) ≥ 4294967296
        · skip
          refine s_valE (some 120) (.bool (decide (4294967296 ≤ ((r2 + yn : Nat) : Int)))) (.bool true) (fun w => by kernel_rfl) (bool_eq (decide_eq_true (by omega))) (by kernel_rfl) ?_
          refine s_nil ?_
          refine g_cond_t (by kernel_rfl) (by kernel_rfl) ?_
          refine g_exit 2 (by kernel_rfl) ?_
          show WP _ _ _ _ _ _
          refine g_sreg [0, 1, 2, 3, 4, 5, 6, 7, 8, 9, 10, 11, 12, 13, 14, 15] (by kernel_rfl) (by kernel_rfl) ?_
          have hQ2 := (hH2.2).right rfl hym hn hu2 he0 (by omega)
          have hQ2l : ((((u * 4294967296 + e1) % (yn * 4294967296 + ym)) * 4294967296 + e0) / (yn * 4294967296 + ym)) < 4294967296 := (Nat.div_lt_iff_lt_mul (show 0 < (yn * 4294967296 + ym) by omega)).2 (by omega)
          have hdm2 := Nat.div_add_mod (((u * 4294967296 + e1) % (yn * 4294967296 + ym)) * 4294967296 + e0) (yn * 4294967296 + ym); have hml2 := Nat.mod_lt (((u * 4294967296 + e1) % (yn * 4294967296 + ym)) * 4294967296 + e0) (show 0 < (yn * 4294967296 + ym) by omega)
          rw [show (((q2 - 1 : Nat) : Int)) = ((((((u * 4294967296 + e1) % (yn * 4294967296 + ym)) * 4294967296 + e0) / (yn * 4294967296 + ym)) : Nat) : Int) from by rw [← hQ2]]
          refine s_val (some 121) (.int .u64 ((((u * 4294967296 + e1) / (yn * 4294967296 + ym)) : Nat) : Int)) (fun w => by kernel_rfl) (by kernel_rfl) ?_
          refine s_valE (some 122) (.int .u64 (IntKind.u64.wrap (((((u * 4294967296 + e1) / (yn * 4294967296 + ym)) : Nat) : Int) * 4294967296))) (.int .u64 ((((u * 4294967296 + e1) / (yn * 4294967296 + ym)) * 4294967296 : Nat) : Int)) (fun w => by kernel_rfl) (int_eq (wrapMul_u64 (a := ((u * 4294967296 + e1) / (yn * 4294967296 + ym))) (b := 4294967296) (by omega))) (by kernel_rfl) ?_
          refine s_val (some 123) (.int .u64 ((((((u * 4294967296 + e1) % (yn * 4294967296 + ym)) * 4294967296 + e0) / (yn * 4294967296 + ym)) : Nat) : Int)) (fun w => by kernel_rfl) (by kernel_rfl) ?_
          refine s_valE (some 124) (.int .u64 (IntKind.u64.wrap (((((u * 4294967296 + e1) / (yn * 4294967296 + ym)) * 4294967296 : Nat) : Int) + ((((((u * 4294967296 + e1) % (yn * 4294967296 + ym)) * 4294967296 + e0) / (yn * 4294967296 + ym)) : Nat) : Int)))) (.int .u64 (((((u * 4294967296 + e1) / (yn * 4294967296 + ym)) * 4294967296) + ((((u * 4294967296 + e1) % (yn * 4294967296 + ym)) * 4294967296 + e0) / (yn * 4294967296 + ym)) : Nat) : Int)) (fun w => by kernel_rfl) (int_eq (wrapAdd_u64 (a := ((u * 4294967296 + e1) / (yn * 4294967296 + ym)) * 4294967296) (b := ((((u * 4294967296 + e1) % (yn * 4294967296 + ym)) * 4294967296 + e0) / (yn * 4294967296 + ym))) (by omega))) (by kernel_rfl) ?_
          refine s_val (some 125) (.int .u64 ((((u * 4294967296 + e1) % (yn * 4294967296 + ym)) : Nat) : Int)) (fun w => by kernel_rfl) (by kernel_rfl) ?_
          refine s_valE (some 126) (.int .u64 (IntKind.u64.wrap (((((u * 4294967296 + e1) % (yn * 4294967296 + ym)) : Nat) : Int) * 4294967296))) (.int .u64 ((((u * 4294967296 + e1) % (yn * 4294967296 + ym)) * 4294967296 % 18446744073709551616 : Nat) : Int)) (fun w => by kernel_rfl) (int_eq (modMul (a := ((u * 4294967296 + e1) % (yn * 4294967296 + ym))) (b := 4294967296))) (by kernel_rfl) ?_
          refine s_val (some 127) (.int .u64 ((e0 : Nat) : Int)) (fun w => by kernel_rfl) (by kernel_rfl) ?_
          refine s_valE (some 128) (.int .u64 (IntKind.u64.wrap (((((u * 4294967296 + e1) % (yn * 4294967296 + ym)) * 4294967296 % 18446744073709551616 : Nat) : Int) + ((e0 : Nat) : Int)))) (.int .u64 ((((((u * 4294967296 + e1) % (yn * 4294967296 + ym)) * 4294967296 % 18446744073709551616) + e0) % 18446744073709551616 : Nat) : Int)) (fun w => by kernel_rfl) (int_eq (modAdd (a := ((u * 4294967296 + e1) % (yn * 4294967296 + ym)) * 4294967296 % 18446744073709551616) (b := e0))) (by kernel_rfl) ?_
          refine s_val (some 129) (.int .u64 ((((((u * 4294967296 + e1) % (yn * 4294967296 + ym)) * 4294967296 + e0) / (yn * 4294967296 + ym)) : Nat) : Int)) (fun w => by kernel_rfl) (by kernel_rfl) ?_
          refine s_val (some 130) (.int .u64 (((yn * 4294967296 + ym) : Nat) : Int)) (fun w => by kernel_rfl) (by kernel_rfl) ?_
          refine s_valE (some 131) (.int .u64 (IntKind.u64.wrap (((((((u * 4294967296 + e1) % (yn * 4294967296 + ym)) * 4294967296 + e0) / (yn * 4294967296 + ym)) : Nat) : Int) * (((yn * 4294967296 + ym) : Nat) : Int)))) (.int .u64 ((((((u * 4294967296 + e1) % (yn * 4294967296 + ym)) * 4294967296 + e0) / (yn * 4294967296 + ym)) * (yn * 4294967296 + ym) % 18446744073709551616 : Nat) : Int)) (fun w => by kernel_rfl) (int_eq (modMul (a := ((((u * 4294967296 + e1) % (yn * 4294967296 + ym)) * 4294967296 + e0) / (yn * 4294967296 + ym))) (b := (yn * 4294967296 + ym)))) (by kernel_rfl) ?_
          refine s_valE (some 132) (.int .u64 (IntKind.u64.wrap (((((((u * 4294967296 + e1) % (yn * 4294967296 + ym)) * 4294967296 % 18446744073709551616) + e0) % 18446744073709551616 : Nat) : Int) - ((((((u * 4294967296 + e1) % (yn * 4294967296 + ym)) * 4294967296 + e0) / (yn * 4294967296 + ym)) * (yn * 4294967296 + ym) % 18446744073709551616 : Nat) : Int)))) (.int .u64 ((((((u * 4294967296 + e1) % (yn * 4294967296 + ym)) * 4294967296 + e0) % (yn * 4294967296 + ym)) : Nat) : Int)) (fun w => by kernel_rfl) (int_eq ((modSub (a := ((((u * 4294967296 + e1) % (yn * 4294967296 + ym)) * 4294967296 % 18446744073709551616) + e0) % 18446744073709551616) (b := ((((u * 4294967296 + e1) % (yn * 4294967296 + ym)) * 4294967296 + e0) / (yn * 4294967296 + ym)) * (yn * 4294967296 + ym) % 18446744073709551616) (by omega)).trans (congrArg (fun n : Nat => (n : Int)) (left_mods (by omega) (by omega) rfl)))) (by kernel_rfl) ?_
          refine s_val (some 133) (.int .u64 0) (fun w => by kernel_rfl) (by kernel_rfl) ?_
          have hRl : ((((u * 4294967296 + e1) % (yn * 4294967296 + ym)) * 4294967296 + e0) % (yn * 4294967296 + ym)) < 18446744073709551616 := Nat.lt_trans hml2 (show (yn * 4294967296 + ym) < 18446744073709551616 by clear hml2 hdm2 hQ2 hQ2l hdm hml hQ hQl; omega)
          refine s_valE (some 134) (.int .u64 (Int.fdiv (((((((u * 4294967296 + e1) % (yn * 4294967296 + ym)) * 4294967296 + e0) % (yn * 4294967296 + ym)) : Nat) : Int)) (2 ^ 0))) (.int .u64 ((((((u * 4294967296 + e1) % (yn * 4294967296 + ym)) * 4294967296 + e0) % (yn * 4294967296 + ym)) : Nat) : Int)) (fun w => by kernel_rfl) (int_eq (shr0 (a := ((((u * 4294967296 + e1) % (yn * 4294967296 + ym)) * 4294967296 + e0) % (yn * 4294967296 + ym))) hRl)) (by kernel_rfl) ?_
          refine s_val (some 6) (.int .u64 (((((u * 4294967296 + e1) / (yn * 4294967296 + ym)) * 4294967296) + ((((u * 4294967296 + e1) % (yn * 4294967296 + ym)) * 4294967296 + e0) / (yn * 4294967296 + ym)) : Nat) : Int)) (fun w => by kernel_rfl) (by kernel_rfl) ?_
          refine s_val (some 7) (.int .u64 ((((((u * 4294967296 + e1) % (yn * 4294967296 + ym)) * 4294967296 + e0) % (yn * 4294967296 + ym)) : Nat) : Int)) (fun w => by kernel_rfl) (by kernel_rfl) ?_
          refine s_nil ?_
          refine g_ret (by kernel_rfl) ?_
          show ∃ vs, Res _ _ _ _ vs ∧ _
          refine ⟨[.int .u64 (((((u * 4294967296 + e1) / (yn * 4294967296 + ym)) * 4294967296) + ((((u * 4294967296 + e1) % (yn * 4294967296 + ym)) * 4294967296 + e0) / (yn * 4294967296 + ym)) : Nat) : Int), .int .u64 ((((((u * 4294967296 + e1) % (yn * 4294967296 + ym)) * 4294967296 + e0) % (yn * 4294967296 + ym)) : Nat) : Int)], (.tmp (.int .u64 (((((u * 4294967296 + e1) / (yn * 4294967296 + ym)) * 4294967296) + ((((u * 4294967296 + e1) % (yn * 4294967296 + ym)) * 4294967296 + e0) / (yn * 4294967296 + ym)) : Nat) : Int)) (by kernel_rfl) (.tmp (.int .u64 ((((((u * 4294967296 + e1) % (yn * 4294967296 + ym)) * 4294967296 + e0) % (yn * 4294967296 + ym)) : Nat) : Int)) (by kernel_rfl) .nil)), ?_, H3.below⟩
          exact dv_q (halves (hi := u) (lo := (e1 * 4294967296 + e0)) (y := (yn * 4294967296 + ym)) (by omega) (by rw [show (e1 * 4294967296 + e0) / 4294967296 = e1 by omega]) (by rw [show (e1 * 4294967296 + e0) / 4294967296 = e1 by omega, show (e1 * 4294967296 + e0) % 4294967296 = e0 by omega])) (by rfl)
        · skip
          refine s_valE (some 120) (.bool (decide (4294967296 ≤ ((r2 + yn : Nat) : Int)))) (.bool false) (fun w => by kernel_rfl) (bool_eq (decide_eq_false (by omega))) (by kernel_rfl) ?_
          refine s_nil ?_
          refine g_cond_f (by kernel_rfl) (by kernel_rfl) ?_
          refine g_skip (by kernel_rfl) ?_
          show ∃ m, _ ∧ _
          exact ⟨_, (by have := hH2.1; omega), (q2 - 1), (r2 + yn), rfl, hH2.2, (by omega), H3, (Is.of ⟨(by kernel_rfl), (by kernel_rfl), (by kernel_rfl), (by kernel_rfl), (by kernel_rfl), (by kernel_rfl), (by kernel_rfl), (by kernel_rfl), (by kernel_rfl), (by kernel_rfl), (by kernel_rfl), (by kernel_rfl), (by kernel_rfl), (by kernel_rfl), (by kernel_rfl), (by kernel_rfl), (by kernel_rfl), (by kernel_rfl), (by kernel_rfl), (by kernel_rfl), (by kernel_rfl), trivial⟩)⟩
      · skip
        refine s_valE (some 103) (.bool (decide (4294967296 ≤ ((q2 : Nat) : Int)))) (.bool false) (fun w => by kernel_rfl) (bool_eq (decide_eq_false (by omega))) (by kernel_rfl) ?_
        refine s_val (some 104) (.bool false) (fun w => by kernel_rfl) (by kernel_rfl) ?_
        refine s_val (some 105) (.int .u64 ((q2 : Nat) : Int)) (fun w => by kernel_rfl) (by kernel_rfl) ?_
        refine s_val (some 106) (.int .u64 ((ym : Nat) : Int)) (fun w => by kernel_rfl) (by kernel_rfl) ?_
        refine s_valE (some 107) (.int .u64 (IntKind.u64.wrap (((q2 : Nat) : Int) * ((ym : Nat) : Int)))) (.int .u64 ((q2 * ym : Nat) : Int)) (fun w => by kernel_rfl) (int_eq (wrapMul_u64 (a := q2) (b := ym) (by omega))) (by kernel_rfl) ?_
        refine s_val (some 108) (.int .u64 ((r2 : Nat) : Int)) (fun w => by kernel_rfl) (by kernel_rfl) ?_
        refine s_valE (some 109) (.int .u64 (IntKind.u64.wrap (4294967296 * ((r2 : Nat) : Int)))) (.int .u64 ((4294967296 * r2 : Nat) : Int)) (fun w => by kernel_rfl) (int_eq (wrapMul_u64 (a := 4294967296) (b := r2) (by omega))) (by kernel_rfl) ?_
        refine s_val (some 110) (.int .u64 ((e0 : Nat) : Int)) (fun w => by kernel_rfl) (by kernel_rfl) ?_
        refine s_valE (some 111) (.int .u64 (IntKind.u64.wrap (((4294967296 * r2 : Nat) : Int) + ((e0 : Nat) : Int)))) (.int .u64 (((4294967296 * r2) + e0 : Nat) : Int)) (fun w => by kernel_rfl) (int_eq (wrapAdd_u64 (a := 4294967296 * r2) (b := e0) (by omega))) (by kernel_rfl) ?_
        by_cases hc5 : (q2 * ym : Nat) > (4294967296 * r2) + e0
        · skip
          refine s_valE (some 112) (.bool (decide ((((4294967296 * r2) + e0 : Nat) : Int) < ((q2 * ym : Nat) : Int)))) (.bool true) (fun w => by kernel_rfl) (bool_eq (decide_eq_true (by omega))) (by kernel_rfl) ?_
          refine s_val (some 113) (.bool true) (fun w => by kernel_rfl) (by kernel_rfl) ?_
          refine s_nil ?_
          refine g_cond_t (by kernel_rfl) (by kernel_rfl) ?_
          refine g_skip (by kernel_rfl) ?_
          show WP _ _ _ _ _ _
          refine g_block 3 (by kernel_rfl) ?_
          refine g_sreg [0, 1, 2] (by kernel_rfl) (by kernel_rfl) ?_
          have hH2 := hI2.high rfl hym hn hu2 he0 hr2 (by omega)
          have hH12 := hH2.1
          refine s_val (some 114) (.int .u64 ((q2 : Nat) : Int)) (fun w => by kernel_rfl) (by kernel_rfl) ?_
          refine s_valE (some 115) (.int .u64 (IntKind.u64.wrap (((q2 : Nat) : Int) - 1))) (.int .u64 ((q2 - 1 : Nat) : Int)) (fun w => by kernel_rfl) (int_eq (wrapSub_u64 (a := q2) (b := 1) (by omega))) (by kernel_rfl) ?_
          refine s_val (some 18) (.int .u64 ((q2 - 1 : Nat) : Int)) (fun w => by kernel_rfl) (by kernel_rfl) ?_
          refine s_nil ?_
          refine g_sreg [0, 1, 2, 3] (by kernel_rfl) (by kernel_rfl) ?_
          refine s_val (some 116) (.int .u64 ((r2 : Nat) : Int)) (fun w => by kernel_rfl) (by kernel_rfl) ?_
          refine s_val (some 117) (.int .u64 ((yn : Nat) : Int)) (fun w => by kernel_rfl) (by kernel_rfl) ?_
          refine s_valE (some 118) (.int .u64 (IntKind.u64.wrap (((r2 : Nat) : Int) + ((yn : Nat) : Int)))) (.int .u64 ((r2 + yn : Nat) : Int)) (fun w => by kernel_rfl) (int_eq (wrapAdd_u64 (a := r2) (b := yn) (by omega))) (by kernel_rfl) ?_
          refine s_val (some 16) (.int .u64 ((r2 + yn : Nat) : Int)) (fun w => by kernel_rfl) (by kernel_rfl) ?_
          refine s_nil ?_
          refine g_sreg [0, 1] (by kernel_rfl) (by kernel_rfl) ?_
          refine s_val (some 119) (.int .u64 ((r2 + yn : Nat) : Int)) (fun w => by kernel_rfl) (by kernel_rfl) ?_
          by_cases hc6 : (r2 + yn : Nat) ≥ 4294967296
          · skip
            refine s_valE (some 120) (.bool (decide (4294967296 ≤ ((r2 + yn : Nat) : Int)))) (.bool true) (fun w => by kernel_rfl) (bool_eq (decide_eq_true (by omega))) (by kernel_rfl) ?_
            refine s_nil ?_
            refine g_cond_t (by kernel_rfl) (by kernel_rfl) ?_
            refine g_exit 2 (by kernel_rfl) ?_
            show WP _ _ _ _ _ _
            refine g_sreg [0, 1, 2, 3, 4, 5, 6, 7, 8, 9, 10, 11, 12, 13, 14, 15] (by kernel_rfl) (by kernel_rfl) ?_
            have hQ2 := (hH2.2).right rfl hym hn hu2 he0 (by omega)
            have hQ2l : ((((u * 4294967296 + e1) % (yn * 4294967296 + ym)) * 4294967296 + e0) / (yn * 4294967296 + ym)) < 4294967296 := (Nat.div_lt_iff_lt_mul (show 0 < (yn * 4294967296 + ym) by omega)).2 (by omega)
            have hdm2 := Nat.div_add_mod (((u * 4294967296 + e1) % (yn * 4294967296 + ym)) * 4294967296 + e0) (yn * 4294967296 + ym); have hml2 := Nat.mod_lt (((u * 4294967296 + e1) % (yn * 4294967296 + ym)) * 4294967296 + e0) (show 0 < (yn * 4294967296 + ym) by omega)
            rw [show (((q2 - 1 : Nat) : Int)) = ((((((u * 4294967296 + e1) % (yn * 4294967296 + ym)) * 4294967296 + e0) / (yn * 4294967296 + ym)) : Nat) : Int) from by rw [← hQ2]]
            refine s_val (some 121) (.int .u64 ((((u * 4294967296 + e1) / (yn * 4294967296 + ym)) : Nat) : Int)) (fun w => by kernel_rfl) (by kernel_rfl) ?_
            refine s_valE (some 122) (.int .u64 (IntKind.u64.wrap (((((u * 4294967296 + e1) / (yn * 4294967296 + ym)) : Nat) : Int) * 4294967296))) (.int .u64 ((((u * 4294967296 + e1) / (yn * 4294967296 + ym)) * 4294967296 : Nat) : Int)) (fun w => by kernel_rfl) (int_eq (wrapMul_u64 (a := ((u * 4294967296 + e1) / (yn * 4294967296 + ym))) (b := 4294967296) (by omega))) (by kernel_rfl) ?_
            refine s_val (some 123) (.int .u64 ((((((u * 4294967296 + e1) % (yn * 4294967296 + ym)) * 4294967296 + e0) / (yn * 4294967296 + ym)) : Nat) : Int)) (fun w => by kernel_rfl) (by kernel_rfl) ?_
            refine s_valE (some 124) (.int .u64 (IntKind.u64.wrap (((((u * 4294967296 + e1) / (yn * 4294967296 + ym)) * 4294967296 : Nat) : Int) + ((((((u * 4294967296 + e1) % (yn * 4294967296 + ym)) * 4294967296 + e0) / (yn * 4294967296 + ym)) : Nat) : Int)))) (.int .u64 (((((u * 4294967296 + e1) / (yn * 4294967296 + ym)) * 4294967296) + ((((u * 4294967296 + e1) % (yn * 4294967296 + ym)) * 4294967296 + e0) / (yn * 4294967296 + ym)) : Nat) : Int)) (fun w => by kernel_rfl) (int_eq (wrapAdd_u64 (a := ((u * 4294967296 + e1) / (yn * 4294967296 + ym)) * 4294967296) (b := ((((u * 4294967296 + e1) % (yn * 4294967296 + ym)) * 4294967296 + e0) / (yn * 4294967296 + ym))) (by omega))) (by kernel_rfl) ?_
            refine s_val (some 125) (.int .u64 ((((u * 4294967296 + e1) % (yn * 4294967296 + ym)) : Nat) : Int)) (fun w => by kernel_rfl) (by kernel_rfl) ?_
            refine s_valE (some 126) (.int .u64 (IntKind.u64.wrap (((((u * 4294967296 + e1) % (yn * 4294967296 + ym)) : Nat) : Int) * 4294967296))) (.int .u64 ((((u * 4294967296 + e1) % (yn * 4294967296 + ym)) * 4294967296 % 18446744073709551616 : Nat) : Int)) (fun w => by kernel_rfl) (int_eq (modMul (a := ((u * 4294967296 + e1) % (yn * 4294967296 + ym))) (b := 4294967296))) (by kernel_rfl) ?_
            refine s_val (some 127) (.int .u64 ((e0 : Nat) : Int)) (fun w => by kernel_rfl) (by kernel_rfl) ?_
            refine s_valE (some 128) (.int .u64 (IntKind.u64.wrap (((((u * 4294967296 + e1) % (yn * 4294967296 + ym)) * 4294967296 % 18446744073709551616 : Nat) : Int) + ((e0 : Nat) : Int)))) (.int .u64 ((((((u * 4294967296 + e1) % (yn * 4294967296 + ym)) * 4294967296 % 18446744073709551616) + e0) % 18446744073709551616 : Nat) : Int)) (fun w => by kernel_rfl) (int_eq (modAdd (a := ((u * 4294967296 + e1) % (yn * 4294967296 + ym)) * 4294967296 % 18446744073709551616) (b := e0))) (by kernel_rfl) ?_
            refine s_val (some 129) (.int .u64 ((((((u * 4294967296 + e1) % (yn * 4294967296 + ym)) * 4294967296 + e0) / (yn * 4294967296 + ym)) : Nat) : Int)) (fun w => by kernel_rfl) (by kernel_rfl) ?_
            refine s_val (some 130) (.int .u64 (((yn * 4294967296 + ym) : Nat) : Int)) (fun w => by kernel_rfl) (by kernel_rfl) ?_
            refine s_valE (some 131) (.int .u64 (IntKind.u64.wrap (((((((u * 4294967296 + e1) % (yn * 4294967296 + ym)) * 4294967296 + e0) / (yn * 4294967296 + ym)) : Nat) : Int) * (((yn * 4294967296 + ym) : Nat) : Int)))) (.int .u64 ((((((u * 4294967296 + e1) % (yn * 4294967296 + ym)) * 4294967296 + e0) / (yn * 4294967296 + ym)) * (yn * 4294967296 + ym) % 18446744073709551616 : Nat) : Int)) (fun w => by kernel_rfl) (int_eq (modMul (a := ((((u * 4294967296 + e1) % (yn * 4294967296 + ym)) * 4294967296 + e0) / (yn * 4294967296 + ym))) (b := (yn * 4294967296 + ym)))) (by kernel_rfl) ?_
            refine s_valE (some 132) (.int .u64 (IntKind.u64.wrap (((((((u * 4294967296 + e1) % (yn * 4294967296 + ym)) * 4294967296 % 18446744073709551616) + e0) % 18446744073709551616 : Nat) : Int) - ((((((u * 4294967296 + e1) % (yn * 4294967296 + ym)) * 4294967296 + e0) / (yn * 4294967296 + ym)) * (yn * 4294967296 + ym) % 18446744073709551616 : Nat) : Int)))) (.int .u64 ((((((u * 4294967296 + e1) % (yn * 4294967296 + ym)) * 4294967296 + e0) % (yn * 4294967296 + ym)) : Nat) : Int)) (fun w => by kernel_rfl) (int_eq ((modSub (a := ((((u * 4294967296 + e1) % (yn * 4294967296 + ym)) * 4294967296 % 18446744073709551616) + e0) % 18446744073709551616) (b := ((((u * 4294967296 + e1) % (yn * 4294967296 + ym)) * 4294967296 + e0) / (yn * 4294967296 + ym)) * (yn * 4294967296 + ym) % 18446744073709551616) (by omega)).trans (congrArg (fun n : Nat => (n : Int)) (left_mods (by omega) (by omega) rfl)))) (by kernel_rfl) ?_
            refine s_val (some 133) (.int .u64 0) (fun w => by kernel_rfl) (by kernel_rfl) ?_
            have hRl : ((((u * 4294967296 + e1) % (yn * 4294967296 + ym)) * 4294967296 + e0) % (yn * 4294967296 + ym)) < 18446744073709551616 := Nat.lt_trans hml2 (show (yn * 4294967296 + ym) < 18446744073709551616 by clear hml2 hdm2 hQ2 hQ2l hdm hml hQ hQl; omega)
            refine s_valE (some 134) (.int .u64 (Int.fdiv (((((((u * 4294967296 + e1) % (yn * 4294967296 + ym)) * 4294967296 + e0) % (yn * 4294967296 + ym)) : Nat) : Int)) (2 ^ 0))) (.int .u64 ((((((u * 4294967296 + e1) % (yn * 4294967296 + ym)) * 4294967296 + e0) % (yn * 4294967296 + ym)) : Nat) : Int)) (fun w => by kernel_rfl) (int_eq (shr0 (a := ((((u * 4294967296 + e1) % (yn * 4294967296 + ym)) * 4294967296 + e0) % (yn * 4294967296 + ym))) hRl)) (by kernel_rfl) ?_
            refine s_val (some 6) (.int .u64 (((((u * 4294967296 + e1) / (yn * 4294967296 + ym)) * 4294967296) + ((((u * 4294967296 + e1) % (yn * 4294967296 + ym)) * 4294967296 + e0) / (yn * 4294967296 + ym)) : Nat) : Int)) (fun w => by kernel_rfl) (by kernel_rfl) ?_
            refine s_val (some 7) (.int .u64 ((((((u * 4294967296 + e1) % (yn * 4294967296 + ym)) * 4294967296 + e0) % (yn * 4294967296 + ym)) : Nat) : Int)) (fun w => by kernel_rfl) (by kernel_rfl) ?_
            refine s_nil ?_
            refine g_ret (by kernel_rfl) ?_
            show ∃ vs, Res _ _ _ _ vs ∧ _
            refine ⟨[.int .u64 (((((u * 4294967296 + e1) / (yn * 4294967296 + ym)) * 4294967296) + ((((u * 4294967296 + e1) % (yn * 4294967296 + ym)) * 4294967296 + e0) / (yn * 4294967296 + ym)) : Nat) : Int), .int .u64 ((((((u * 4294967296 + e1) % (yn * 4294967296 + ym)) * 4294967296 + e0) % (yn * 4294967296 + ym)) : Nat) : Int)], (.tmp (.int .u64 (((((u * 4294967296 + e1) / (yn * 4294967296 + ym)) * 4294967296) + ((((u * 4294967296 + e1) % (yn * 4294967296 + ym)) * 4294967296 + e0) / (yn * 4294967296 + ym)) : Nat) : Int)) (by kernel_rfl) (.tmp (.int .u64 ((((((u * 4294967296 + e1) % (yn * 4294967296 + ym)) * 4294967296 + e0) % (yn * 4294967296 + ym)) : Nat) : Int)) (by kernel_rfl) .nil)), ?_, H3.below⟩
            exact dv_q (halves (hi := u) (lo := (e1 * 4294967296 + e0)) (y := (yn * 4294967296 + ym)) (by omega) (by rw [show (e1 * 4294967296 + e0) / 4294967296 = e1 by omega]) (by rw [show (e1 * 4294967296 + e0) / 4294967296 = e1 by omega, show (e1 * 4294967296 + e0) % 4294967296 = e0 by omega])) (by rfl)
          · skip
            refine s_valE (some 120) (.bool (decide (4294967296 ≤ ((r2 + yn : Nat) : Int)))) (.bool false) (fun w => by kernel_rfl) (bool_eq (decide_eq_false (by omega))) (by kernel_rfl) ?_
            refine s_nil ?_
            refine g_cond_f (by kernel_rfl) (by kernel_rfl) ?_
            refine g_skip (by kernel_rfl) ?_
            show ∃ m, _ ∧ _
            exact ⟨_, (by have := hH2.1; omega), (q2 - 1), (r2 + yn), rfl, hH2.2, (by omega), H3, (Is.of ⟨(by kernel_rfl), (by kernel_rfl), (by kernel_rfl), (by kernel_rfl), (by kernel_rfl), (by kernel_rfl), (by kernel_rfl), (by kernel_rfl), (by kernel_rfl), (by kernel_rfl), (by kernel_rfl), (by kernel_rfl), (by kernel_rfl), (by kernel_rfl), (by kernel_rfl), (by kernel_rfl), (by kernel_rfl), (by kernel_rfl), (by kernel_rfl), (by kernel_rfl), (by kernel_rfl), trivial⟩)⟩
        · skip
          refine s_valE (some 112) (.bool (decide ((((4294967296 * r2) + e0 : Nat) : Int) < ((q2 * ym : Nat) : Int)))) (.bool false) (fun w => by kernel_rfl) (bool_eq (decide_eq_false (by omega))) (by kernel_rfl) ?_
          refine s_val (some 113) (.bool false) (fun w => by kernel_rfl) (by kernel_rfl) ?_
          refine s_nil ?_
          refine g_cond_f (by kernel_rfl) (by kernel_rfl) ?_
          refine g_exit 2 (by kernel_rfl) ?_
          show WP _ _ _ _ _ _
          refine g_sreg [0, 1, 2, 3, 4, 5, 6, 7, 8, 9, 10, 11, 12, 13, 14, 15] (by kernel_rfl) (by kernel_rfl) ?_
          have hQ2 := (hI2).right rfl hym hn hu2 he0 (by omega)
          have hQ2l : ((((u * 4294967296 + e1) % (yn * 4294967296 + ym)) * 4294967296 + e0) / (yn * 4294967296 + ym)) < 4294967296 := (Nat.div_lt_iff_lt_mul (show 0 < (yn * 4294967296 + ym) by omega)).2 (by omega)
          have hdm2 := Nat.div_add_mod (((u * 4294967296 + e1) % (yn * 4294967296 + ym)) * 4294967296 + e0) (yn * 4294967296 + ym); have hml2 := Nat.mod_lt (((u * 4294967296 + e1) % (yn * 4294967296 + ym)) * 4294967296 + e0) (show 0 < (yn * 4294967296 + ym) by omega)
          rw [show (((q2 : Nat) : Int)) = ((((((u * 4294967296 + e1) % (yn * 4294967296 + ym)) * 4294967296 + e0) / (yn * 4294967296 + ym)) : Nat) : Int) from by rw [← hQ2]]
          refine s_val (some 121) (.int .u64 ((((u * 4294967296 + e1) / (yn * 4294967296 + ym)) : Nat) : Int)) (fun w => by kernel_rfl) (by kernel_rfl) ?_
          refine s_valE (some 122) (.int .u64 (IntKind.u64.wrap (((((u * 4294967296 + e1) / (yn * 4294967296 + ym)) : Nat) : Int) * 4294967296))) (.int .u64 ((((u * 4294967296 + e1) / (yn * 4294967296 + ym)) * 4294967296 : Nat) : Int)) (fun w => by kernel_rfl) (int_eq (wrapMul_u64 (a := ((u * 4294967296 + e1) / (yn * 4294967296 + ym))) (b := 4294967296) (by omega))) (by kernel_rfl) ?_
          refine s_val (some 123) (.int .u64 ((((((u * 4294967296 + e1) % (yn * 4294967296 + ym)) * 4294967296 + e0) / (yn * 4294967296 + ym)) : Nat) : Int)) (fun w => by kernel_rfl) (by kernel_rfl) ?_
          refine s_valE (some 124) (.int .u64 (IntKind.u64.wrap (((((u * 4294967296 + e1) / (yn * 4294967296 + ym)) * 4294967296 : Nat) : Int) + ((((((u * 4294967296 + e1) % (yn * 4294967296 + ym)) * 4294967296 + e0) / (yn * 4294967296 + ym)) : Nat) : Int)))) (.int .u64 (((((u * 4294967296 + e1) / (yn * 4294967296 + ym)) * 4294967296) + ((((u * 4294967296 + e1) % (yn * 4294967296 + ym)) * 4294967296 + e0) / (yn * 4294967296 + ym)) : Nat) : Int)) (fun w => by kernel_rfl) (int_eq (wrapAdd_u64 (a := ((u * 4294967296 + e1) / (yn * 4294967296 + ym)) * 4294967296) (b := ((((u * 4294967296 + e1) % (yn * 4294967296 + ym)) * 4294967296 + e0) / (yn * 4294967296 + ym))) (by omega))) (by kernel_rfl) ?_
          refine s_val (some 125) (.int .u64 ((((u * 4294967296 + e1) % (yn * 4294967296 + ym)) : Nat) : Int)) (fun w => by kernel_rfl) (by kernel_rfl) ?_
          refine s_valE (some 126) (.int .u64 (IntKind.u64.wrap (((((u * 4294967296 + e1) % (yn * 4294967296 + ym)) : Nat) : Int) * 4294967296))) (.int .u64 ((((u * 4294967296 + e1) % (yn * 4294967296 + ym)) * 4294967296 % 18446744073709551616 : Nat) : Int)) (fun w => by kernel_rfl) (int_eq (modMul (a := ((u * 4294967296 + e1) % (yn * 4294967296 + ym))) (b := 4294967296))) (by kernel_rfl) ?_
          refine s_val (some 127) (.int .u64 ((e0 : Nat) : Int)) (fun w => by kernel_rfl) (by kernel_rfl) ?_
          refine s_valE (some 128) (.int .u64 (IntKind.u64.wrap (((((u * 4294967296 + e1) % (yn * 4294967296 + ym)) * 4294967296 % 18446744073709551616 : Nat) : Int) + ((e0 : Nat) : Int)))) (.int .u64 ((((((u * 4294967296 + e1) % (yn * 4294967296 + ym)) * 4294967296 % 18446744073709551616) + e0) % 18446744073709551616 : Nat) : Int)) (fun w => by kernel_rfl) (int_eq (modAdd (a := ((u * 4294967296 + e1) % (yn * 4294967296 + ym)) * 4294967296 % 18446744073709551616) (b := e0))) (by kernel_rfl) ?_
          refine s_val (some 129) (.int .u64 ((((((u * 4294967296 + e1) % (yn * 4294967296 + ym)) * 4294967296 + e0) / (yn * 4294967296 + ym)) : Nat) : Int)) (fun w => by kernel_rfl) (by kernel_rfl) ?_
          refine s_val (some 130) (.int .u64 (((yn * 4294967296 + ym) : Nat) : Int)) (fun w => by kernel_rfl) (by kernel_rfl) ?_
          refine s_valE (some 131) (.int .u64 (IntKind.u64.wrap (((((((u * 4294967296 + e1) % (yn * 4294967296 + ym)) * 4294967296 + e0) / (yn * 4294967296 + ym)) : Nat) : Int) * (((yn * 4294967296 + ym) : Nat) : Int)))) (.int .u64 ((((((u * 4294967296 + e1) % (yn * 4294967296 + ym)) * 4294967296 + e0) / (yn * 4294967296 + ym)) * (yn * 4294967296 + ym) % 18446744073709551616 : Nat) : Int)) (fun w => by kernel_rfl) (int_eq (modMul (a := ((((u * 4294967296 + e1) % (yn * 4294967296 + ym)) * 4294967296 + e0) / (yn * 4294967296 + ym))) (b := (yn * 4294967296 + ym)))) (by kernel_rfl) ?_
          refine s_valE (some 132) (.int .u64 (IntKind.u64.wrap (((((((u * 4294967296 + e1) % (yn * 4294967296 + ym)) * 4294967296 % 18446744073709551616) + e0) % 18446744073709551616 : Nat) : Int) - ((((((u * 4294967296 + e1) % (yn * 4294967296 + ym)) * 4294967296 + e0) / (yn * 4294967296 + ym)) * (yn * 4294967296 + ym) % 18446744073709551616 : Nat) : Int)))) (.int .u64 ((((((u * 4294967296 + e1) % (yn * 4294967296 + ym)) * 4294967296 + e0) % (yn * 4294967296 + ym)) : Nat) : Int)) (fun w => by kernel_rfl) (int_eq ((modSub (a := ((((u * 4294967296 + e1) % (yn * 4294967296 + ym)) * 4294967296 % 18446744073709551616) + e0) % 18446744073709551616) (b := ((((u * 4294967296 + e1) % (yn * 4294967296 + ym)) * 4294967296 + e0) / (yn * 4294967296 + ym)) * (yn * 4294967296 + ym) % 18446744073709551616) (by omega)).trans (congrArg (fun n : Nat => (n : Int)) (left_mods (by omega) (by omega) rfl)))) (by kernel_rfl) ?_
          refine s_val (some 133) (.int .u64 0) (fun w => by kernel_rfl) (by kernel_rfl) ?_
          have hRl : ((((u * 4294967296 + e1) % (yn * 4294967296 + ym)) * 4294967296 + e0) % (yn * 4294967296 + ym)) < 18446744073709551616 := Nat.lt_trans hml2 (show (yn * 4294967296 + ym) < 18446744073709551616 by clear hml2 hdm2 hQ2 hQ2l hdm hml hQ hQl; omega)
          refine s_valE (some 134) (.int .u64 (Int.fdiv (((((((u * 4294967296 + e1) % (yn * 4294967296 + ym)) * 4294967296 + e0) % (yn * 4294967296 + ym)) : Nat) : Int)) (2 ^ 0))) (.int .u64 ((((((u * 4294967296 + e1) % (yn * 4294967296 + ym)) * 4294967296 + e0) % (yn * 4294967296 + ym)) : Nat) : Int)) (fun w => by kernel_rfl) (int_eq (shr0 (a := ((((u * 4294967296 + e1) % (yn * 4294967296 + ym)) * 4294967296 + e0) % (yn * 4294967296 + ym))) hRl)) (by kernel_rfl) ?_
          refine s_val (some 6) (.int .u64 (((((u * 4294967296 + e1) / (yn * 4294967296 + ym)) * 4294967296) + ((((u * 4294967296 + e1) % (yn * 4294967296 + ym)) * 4294967296 + e0) / (yn * 4294967296 + ym)) : Nat) : Int)) (fun w => by kernel_rfl) (by kernel_rfl) ?_
          refine s_val (some 7) (.int .u64 ((((((u * 4294967296 + e1) % (yn * 4294967296 + ym)) * 4294967296 + e0) % (yn * 4294967296 + ym)) : Nat) : Int)) (fun w => by kernel_rfl) (by kernel_rfl) ?_
          refine s_nil ?_
          refine g_ret (by kernel_rfl) ?_
          show ∃ vs, Res _ _ _ _ vs ∧ _
          refine ⟨[.int .u64 (((((u * 4294967296 + e1) / (yn * 4294967296 + ym)) * 4294967296) + ((((u * 4294967296 + e1) % (yn * 4294967296 + ym)) * 4294967296 + e0) / (yn * 4294967296 + ym)) : Nat) : Int), .int .u64 ((((((u * 4294967296 + e1) % (yn * 4294967296 + ym)) * 4294967296 + e0) % (yn * 4294967296 + ym)) : Nat) : Int)], (.tmp (.int .u64 (((((u * 4294967296 + e1) / (yn * 4294967296 + ym)) * 4294967296) + ((((u * 4294967296 + e1) % (yn * 4294967296 + ym)) * 4294967296 + e0) / (yn * 4294967296 + ym)) : Nat) : Int)) (by kernel_rfl) (.tmp (.int .u64 ((((((u * 4294967296 + e1) % (yn * 4294967296 + ym)) * 4294967296 + e0) % (yn * 4294967296 + ym)) : Nat) : Int)) (by kernel_rfl) .nil)), ?_, H3.below⟩
          exact dv_q (halves (hi := u) (lo := (e1 * 4294967296 + e0)) (y := (yn * 4294967296 + ym)) (by omega) (by rw [show (e1 * 4294967296 + e0) / 4294967296 = e1 by omega]) (by rw [show (e1 * 4294967296 + e0) / 4294967296 = e1 by omega, show (e1 * 4294967296 + e0) % 4294967296 = e0 by omega])) (by rfl)
    · skip
      refine s_valE (some 85) (.bool (decide (4294967296 ≤ ((r + yn : Nat) : Int)))) (.bool false) (fun w => by kernel_rfl) (bool_eq (decide_eq_false (by omega))) (by kernel_rfl) ?_
      refine s_nil ?_
      refine g_cond_f (by kernel_rfl) (by kernel_rfl) ?_
      refine g_skip (by kernel_rfl) ?_
      show ∃ m, _ ∧ _
      exact ⟨_, (by have := hH.1; omega), (q - 1), (r + yn), rfl, hH.2, (by omega), H2, (Is.of ⟨(by kernel_rfl), (by kernel_rfl), (by kernel_rfl), (by kernel_rfl), (by kernel_rfl), (by kernel_rfl), (by kernel_rfl), (by kernel_rfl), (by kernel_rfl), (by kernel_rfl), (by kernel_rfl), (by kernel_rfl), (by kernel_rfl), (by kernel_rfl), (by kernel_rfl), (by kernel_rfl), (by kernel_rfl), trivial⟩)⟩
  · skip
    refine s_valE (some 68) (.bool (decide (4294967296 ≤ ((q : Nat) : Int)))) (.bool false) (fun w => by kernel_rfl) (bool_eq (decide_eq_false (by omega))) (by kernel_rfl) ?_
    refine s_val (some 69) (.bool false) (fun w => by kernel_rfl) (by kernel_rfl) ?_
    refine s_val (some 70) (.int .u64 ((q : Nat) : Int)) (fun w => by kernel_rfl) (by kernel_rfl) ?_
    refine s_val (some 71) (.int .u64 ((ym : Nat) : Int)) (fun w => by kernel_rfl) (by kernel_rfl) ?_
    refine s_valE (some 72) (.int .u64 (IntKind.u64.wrap (((q : Nat) : Int) * ((ym : Nat) : Int)))) (.int .u64 ((q * ym : Nat) : Int)) (fun w => by kernel_rfl) (int_eq (wrapMul_u64 (a := q) (b := ym) (by omega))) (by kernel_rfl) ?_
    refine s_val (some 73) (.int .u64 ((r : Nat) : Int)) (fun w => by kernel_rfl) (by kernel_rfl) ?_
    refine s_valE (some 74) (.int .u64 (IntKind.u64.wrap (4294967296 * ((r : Nat) : Int)))) (.int .u64 ((4294967296 * r : Nat) : Int)) (fun w => by kernel_rfl) (int_eq (wrapMul_u64 (a := 4294967296) (b := r) (by omega))) (by kernel_rfl) ?_
    refine s_val (some 75) (.int .u64 ((e1 : Nat) : Int)) (fun w => by kernel_rfl) (by kernel_rfl) ?_
    refine s_valE (some 76) (.int .u64 (IntKind.u64.wrap (((4294967296 * r : Nat) : Int) + ((e1 : Nat) : Int)))) (.int .u64 (((4294967296 * r) + e1 : Nat) : Int)) (fun w => by kernel_rfl) (int_eq (wrapAdd_u64 (a := 4294967296 * r) (b := e1) (by omega))) (by kernel_rfl) ?_
    by_cases hc7 : (q * ym : Nat) > (4294967296 * r) + e1
    · skip
      refine s_valE (some 77) (.bool (decide ((((4294967296 * r) + e1 : Nat) : Int) < ((q * ym : Nat) : Int)))) (.bool true) (fun w => by kernel_rfl) (bool_eq (decide_eq_true (by omega))) (by kernel_rfl) ?_
      refine s_val (some 78) (.bool true) (fun w => by kernel_rfl) (by kernel_rfl) ?_
      refine s_nil ?_
      refine g_cond_t (by kernel_rfl) (by kernel_rfl) ?_
      refine g_skip (by kernel_rfl) ?_
      show WP _ _ _ _ _ _
      refine g_block 1 (by kernel_rfl) ?_
      refine g_sreg [0, 1, 2] (by kernel_rfl) (by kernel_rfl) ?_
      have hH := hI.high rfl hym hn hu he1 hr (by omega)
      have hH1 := hH.1
      refine s_val (some 79) (.int .u64 ((q : Nat) : Int)) (fun w => by kernel_rfl) (by kernel_rfl) ?_
      refine s_valE (some 80) (.int .u64 (IntKind.u64.wrap (((q : Nat) : Int) - 1))) (.int .u64 ((q - 1 : Nat) : Int)) (fun w => by kernel_rfl) (int_eq (wrapSub_u64 (a := q) (b := 1) (by omega))) (by kernel_rfl) ?_
      refine s_val (some 15) (.int .u64 ((q - 1 : Nat) : Int)) (fun w => by kernel_rfl) (by kernel_rfl) ?_
      refine s_nil ?_
      refine g_sreg [0, 1, 2, 3] (by kernel_rfl) (by kernel_rfl) ?_
      refine s_val (some 81) (.int .u64 ((r : Nat) : Int)) (fun w => by kernel_rfl) (by kernel_rfl) ?_
      refine s_val (some 82) (.int .u64 ((yn : Nat) : Int)) (fun w => by kernel_rfl) (by kernel_rfl) ?_
      refine s_valE (some 83) (.int .u64 (IntKind.u64.wrap (((r : Nat) : Int) + ((yn : Nat) : Int)))) (.int .u64 ((r + yn : Nat) : Int)) (fun w => by kernel_rfl) (int_eq (wrapAdd_u64 (a := r) (b := yn) (by omega))) (by kernel_rfl) ?_
      refine s_val (some 16) (.int .u64 ((r + yn : Nat) : Int)) (fun w => by kernel_rfl) (by kernel_rfl) ?_
      refine s_nil ?_
      refine g_sreg [0, 1] (by kernel_rfl) (by kernel_rfl) ?_
      refine s_val (some 84) (.int .u64 ((r + yn : Nat) : Int)) (fun w => by kernel_rfl) (by kernel_rfl) ?_
      by_cases hc8 : (r + yn : Nat) ≥ 4294967296
      · skip
        refine s_valE (some 85) (.bool (decide (4294967296 ≤ ((r + yn : Nat) : Int)))) (.bool true) (fun w => by kernel_rfl) (bool_eq (decide_eq_true (by omega))) (by kernel_rfl) ?_
        refine s_nil ?_
        refine g_cond_t (by kernel_rfl) (by kernel_rfl) ?_
        refine g_exit 0 (by kernel_rfl) ?_
        show WP _ _ _ _ _ _
        refine g_sreg [0, 1, 2, 3, 4, 5, 6, 7, 8] (by kernel_rfl) (by kernel_rfl) ?_
        have hQ := (hH.2).right rfl hym hn hu he1 (by omega)
        have hQl : ((u * 4294967296 + e1) / (yn * 4294967296 + ym)) < 4294967296 := (Nat.div_lt_iff_lt_mul (show 0 < (yn * 4294967296 + ym) by omega)).2 (by omega)
        have hdm := Nat.div_add_mod (u * 4294967296 + e1) (yn * 4294967296 + ym); have hml := Nat.mod_lt (u * 4294967296 + e1) (show 0 < (yn * 4294967296 + ym) by omega)
        have hu2 : (u * 4294967296 + e1) % (yn * 4294967296 + ym) < yn * 4294967296 + ym := hml
        rw [show (((q - 1 : Nat) : Int)) = ((((u * 4294967296 + e1) / (yn * 4294967296 + ym)) : Nat) : Int) from by rw [← hQ]]
        refine s_val (some 86) (.int .u64 ((u : Nat) : Int)) (fun w => by kernel_rfl) (by kernel_rfl) ?_
        refine s_valE (some 87) (.int .u64 (IntKind.u64.wrap (((u : Nat) : Int) * 4294967296))) (.int .u64 ((u * 4294967296 % 18446744073709551616 : Nat) : Int)) (fun w => by kernel_rfl) (int_eq (modMul (a := u) (b := 4294967296))) (by kernel_rfl) ?_
        refine s_val (some 88) (.int .u64 ((e1 : Nat) : Int)) (fun w => by kernel_rfl) (by kernel_rfl) ?_
        refine s_valE (some 89) (.int .u64 (IntKind.u64.wrap (((u * 4294967296 % 18446744073709551616 : Nat) : Int) + ((e1 : Nat) : Int)))) (.int .u64 ((((u * 4294967296 % 18446744073709551616) + e1) % 18446744073709551616 : Nat) : Int)) (fun w => by kernel_rfl) (int_eq (modAdd (a := u * 4294967296 % 18446744073709551616) (b := e1))) (by kernel_rfl) ?_
        refine s_val (some 90) (.int .u64 ((((u * 4294967296 + e1) / (yn * 4294967296 + ym)) : Nat) : Int)) (fun w => by kernel_rfl) (by kernel_rfl) ?_
        refine s_val (some 91) (.int .u64 (((yn * 4294967296 + ym) : Nat) : Int)) (fun w => by kernel_rfl) (by kernel_rfl) ?_
        refine s_valE (some 92) (.int .u64 (IntKind.u64.wrap (((((u * 4294967296 + e1) / (yn * 4294967296 + ym)) : Nat) : Int) * (((yn * 4294967296 + ym) : Nat) : Int)))) (.int .u64 ((((u * 4294967296 + e1) / (yn * 4294967296 + ym)) * (yn * 4294967296 + ym) % 18446744073709551616 : Nat) : Int)) (fun w => by kernel_rfl) (int_eq (modMul (a := ((u * 4294967296 + e1) / (yn * 4294967296 + ym))) (b := (yn * 4294967296 + ym)))) (by kernel_rfl) ?_
        refine s_valE (some 93) (.int .u64 (IntKind.u64.wrap (((((u * 4294967296 % 18446744073709551616) + e1) % 18446744073709551616 : Nat) : Int) - ((((u * 4294967296 + e1) / (yn * 4294967296 + ym)) * (yn * 4294967296 + ym) % 18446744073709551616 : Nat) : Int)))) (.int .u64 ((((u * 4294967296 + e1) % (yn * 4294967296 + ym)) : Nat) : Int)) (fun w => by kernel_rfl) (int_eq ((modSub (a := ((u * 4294967296 % 18446744073709551616) + e1) % 18446744073709551616) (b := ((u * 4294967296 + e1) / (yn * 4294967296 + ym)) * (yn * 4294967296 + ym) % 18446744073709551616) (by omega)).trans (congrArg (fun n : Nat => (n : Int)) (left_mods (by omega) (by omega) rfl)))) (by kernel_rfl) ?_
        refine s_val (some 17) (.int .u64 ((((u * 4294967296 + e1) % (yn * 4294967296 + ym)) : Nat) : Int)) (fun w => by kernel_rfl) (by kernel_rfl) ?_
        refine s_nil ?_
        refine g_sreg [0, 1, 2, 3] (by kernel_rfl) (by kernel_rfl) ?_
        refine s_val (some 94) (.int .u64 ((((u * 4294967296 + e1) % (yn * 4294967296 + ym)) : Nat) : Int)) (fun w => by kernel_rfl) (by kernel_rfl) ?_
        refine s_val (some 95) (.int .u64 ((yn : Nat) : Int)) (fun w => by kernel_rfl) (by kernel_rfl) ?_
        refine s_opE (some 96) _ (.int .u64 (IntKind.u64.wrap (((((u * 4294967296 + e1) % (yn * 4294967296 + ym)) : Nat) : Int).tdiv ((yn : Nat) : Int)))) (.int .u64 ((((u * 4294967296 + e1) % (yn * 4294967296 + ym)) / yn : Nat) : Int)) (by kernel_rfl) (fun o w ho => quo_run (n := 0) (t := 22) (t' := 22) (x := (.tmp 94)) (y := (.tmp 95)) ((u * 4294967296 + e1) % (yn * 4294967296 + ym)) yn (by omega) w ho (by kernel_rfl) (by kernel_rfl)) (int_eq (quoN_u64 (a := ((u * 4294967296 + e1) % (yn * 4294967296 + ym))) (b := yn) (by omega))) (by kernel_rfl) ?_
        refine s_val (some 18) (.int .u64 ((((u * 4294967296 + e1) % (yn * 4294967296 + ym)) / yn : Nat) : Int)) (fun w => by kernel_rfl) (by kernel_rfl) ?_
        refine s_nil ?_
        refine g_sreg [0, 1, 2, 3, 4, 5] (by kernel_rfl) (by kernel_rfl) ?_
        refine s_val (some 97) (.int .u64 ((((u * 4294967296 + e1) % (yn * 4294967296 + ym)) : Nat) : Int)) (fun w => by kernel_rfl) (by kernel_rfl) ?_
        refine s_val (some 98) (.int .u64 ((((u * 4294967296 + e1) % (yn * 4294967296 + ym)) / yn : Nat) : Int)) (fun w => by kernel_rfl) (by kernel_rfl) ?_
        refine s_val (some 99) (.int .u64 ((yn : Nat) : Int)) (fun w => by kernel_rfl) (by kernel_rfl) ?_
        have hdl := Nat.div_mul_le_self ((u * 4294967296 + e1) % (yn * 4294967296 + ym)) yn
        refine s_valE (some 100) (.int .u64 (IntKind.u64.wrap (((((u * 4294967296 + e1) % (yn * 4294967296 + ym)) / yn : Nat) : Int) * ((yn : Nat) : Int)))) (.int .u64 (((((u * 4294967296 + e1) % (yn * 4294967296 + ym)) / yn) * yn : Nat) : Int)) (fun w => by kernel_rfl) (int_eq (wrapMul_u64 (a := ((u * 4294967296 + e1) % (yn * 4294967296 + ym)) / yn) (b := yn) (by omega))) (by kernel_rfl) ?_
        refine s_valE (some 101) (.int .u64 (IntKind.u64.wrap (((((u * 4294967296 + e1) % (yn * 4294967296 + ym)) : Nat) : Int) - (((((u * 4294967296 + e1) % (yn * 4294967296 + ym)) / yn) * yn : Nat) : Int)))) (.int .u64 ((((u * 4294967296 + e1) % (yn * 4294967296 + ym)) % yn : Nat) : Int)) (fun w => by kernel_rfl) (int_eq (by rw [wrapSub_u64 (a := ((u * 4294967296 + e1) % (yn * 4294967296 + ym))) (b := (((u * 4294967296 + e1) % (yn * 4294967296 + ym)) / yn) * yn) (by have := Nat.div_mul_le_self ((u * 4294967296 + e1) % (yn * 4294967296 + ym)) yn; omega)]; have := Nat.div_add_mod ((u * 4294967296 + e1) % (yn * 4294967296 + ym)) yn; rw [Nat.mul_comm] at this; congr 1; omega)) (by kernel_rfl) ?_
        refine s_val (some 16) (.int .u64 ((((u * 4294967296 + e1) % (yn * 4294967296 + ym)) % yn : Nat) : Int)) (fun w => by kernel_rfl) (by kernel_rfl) ?_
        refine s_nil ?_
        refine g_seq (by kernel_rfl) ?_
        refine g_block 2 (by kernel_rfl) ?_
        refine g_loop (by kernel_rfl) (fun m ρ ww => ∃ (q2 : Nat) (r2 : Nat), q2 = m ∧ (HalfI ((u * 4294967296 + e1) % (yn * 4294967296 + ym)) e0 yn ym (yn * 4294967296 + ym) q2 r2) ∧ (r2 < 4294967296) ∧ St w.heap.size w ww [] ∧ Is [(0, .int .u64 ((u : Nat) : Int)), (1, .int .u64 (((e1 * 4294967296 + e0) : Nat) : Int)), (2, .int .u64 (((yn * 4294967296 + ym) : Nat) : Int)), (6, .int .u64 0), (7, .int .u64 0), (8, .int .u64 0), (9, .int .u64 ((yn : Nat) : Int)), (10, .int .u64 ((ym : Nat) : Int)), (11, .int .u64 ((u : Nat) : Int)), (12, .int .u64 (((e1 * 4294967296 + e0) : Nat) : Int)), (13, .int .u64 ((e1 : Nat) : Int)), (14, .int .u64 ((e0 : Nat) : Int)), (15, .int .u64 ((((u * 4294967296 + e1) / (yn * 4294967296 + ym)) : Nat) : Int)), (16, .int .u64 ((r2 : Nat) : Int)), (17, .int .u64 ((((u * 4294967296 + e1) % (yn * 4294967296 + ym)) : Nat) : Int)), (18, .int .u64 ((q2 : Nat) : Int)), (20, .bool false), (24, .bool false), (27, .bool false), (78, .bool true), (85, .bool true)] ρ) (((u * 4294967296 + e1) % (yn * 4294967296 + ym)) / yn) ⟨(((u * 4294967296 + e1) % (yn * 4294967296 + ym)) / yn), (((u * 4294967296 + e1) % (yn * 4294967296 + ym)) % yn), rfl, (half_i rfl hym hn hu2 he0), (by have := Nat.mod_lt ((u * 4294967296 + e1) % (yn * 4294967296 + ym)) (show 0 < yn by omega); omega), H2, (Is.of ⟨(by kernel_rfl), (by kernel_rfl), (by kernel_rfl), (by kernel_rfl), (by kernel_rfl), (by kernel_rfl), (by kernel_rfl), (by kernel_rfl), (by kernel_rfl), (by kernel_rfl), (by kernel_rfl), (by kernel_rfl), (by kernel_rfl), (by kernel_rfl), (by kernel_rfl), (by kernel_rfl), (by kernel_rfl), (by kernel_rfl), (by kernel_rfl), (by kernel_rfl), (by kernel_rfl), trivial⟩)⟩ ?_
        clear H2
        rintro _ _ w4 ⟨q2, r2, rfl, hI2, hr2, H4, _, rfl⟩
        have hle2 := hI2.le; have heq2 := hI2.eq
        have hm2 : q2 < 4294967296 → q2 * ym ≤ 18446744065119617025 := fun h => Nat.mul_le_mul (show q2 ≤ 4294967295 by omega) (show ym ≤ 4294967295 by omega)
        refine g_seq (by kernel_rfl) ?_
        refine g_sreg [0, 1, 2, 3, 4, 5, 6, 7, 8, 9, 10, 11] (by kernel_rfl) (by kernel_rfl) ?_
        refine s_val (some 102) (.int .u64 ((q2 : Nat) : Int)) (fun w => by kernel_rfl) (by kernel_rfl) ?_
        by_cases hc9 : (q2 : Nat) ≥ 4294967296
        · skip
          refine s_valE (some 103) (.bool (decide (4294967296 ≤ ((q2 : Nat) : Int)))) (.bool true) (fun w => by kernel_rfl) (bool_eq (decide_eq_true (by omega))) (by kernel_rfl) ?_
          refine s_val (some 104) (.bool true) (fun w => by kernel_rfl) (by kernel_rfl) ?_
          refine s_not (some 105) (by kernel_rfl) (by kernel_rfl) ?_
          refine s_not (some 106) (by kernel_rfl) (by kernel_rfl) ?_
          refine s_not (some 107) (by kernel_rfl) (by kernel_rfl) ?_
          refine s_not (some 108) (by kernel_rfl) (by kernel_rfl) ?_
          refine s_not (some 109) (by kernel_rfl) (by kernel_rfl) ?_
          refine s_not (some 110) (by kernel_rfl) (by kernel_rfl) ?_
          refine s_not (some 111) (by kernel_rfl) (by kernel_rfl) ?_
          refine s_not (some 112) (by kernel_rfl) (by kernel_rfl) ?_
          refine s_val (some 113) (.bool true) (fun w => by kernel_rfl) (by kernel_rfl) ?_
          refine s_nil ?_
          refine g_cond_t (by kernel_rfl) (by kernel_rfl) ?_
          refine g_skip (by kernel_rfl) ?_
          show WP _ _ _ _ _ _
          refine g_block 3 (by kernel_rfl) ?_
          refine g_sreg [0, 1, 2] (by kernel_rfl) (by kernel_rfl) ?_
          have hH2 := hI2.high rfl hym hn hu2 he0 hr2 (by omega)
          have hH12 := hH2.1
          refine s_val (some 114) (.int .u64 ((q2 : Nat) : Int)) (fun w => by kernel_rfl) (by kernel_rfl) ?_
          refine s_valE (some 115) (.int .u64 (IntKind.u64.wrap (((q2 : Nat) : Int) - 1))) (.int .u64 ((q2 - 1 : Nat) : Int)) (fun w => by kernel_rfl) (int_eq (wrapSub_u64 (a := q2) (b := 1) (by omega))) (by kernel_rfl) ?_
          refine s_val (some 18) (.int .u64 ((q2 - 1 : Nat) : Int)) (fun w => by kernel_rfl) (by kernel_rfl) ?_
          refine s_nil ?_
          refine g_sreg [0, 1, 2, 3] (by kernel_rfl) (by kernel_rfl) ?_
          refine s_val (some 116) (.int .u64 ((r2 : Nat) : Int)) (fun w => by kernel_rfl) (by kernel_rfl) ?_
          refine s_val (some 117) (.int .u64 ((yn : Nat) : Int)) (fun w => by kernel_rfl) (by kernel_rfl) ?_
          refine s_valE (some 118) (.int .u64 (IntKind.u64.wrap (((r2 : Nat) : Int) + ((yn : Nat) : Int)))) (.int .u64 ((r2 + yn : Nat) : Int)) (fun w => by kernel_rfl) (int_eq (wrapAdd_u64 (a := r2) (b := yn) (by omega))) (by kernel_rfl) ?_
          refine s_val (some 16) (.int .u64 ((r2 + yn : Nat) : Int)) (fun w => by kernel_rfl) (by kernel_rfl) ?_
          refine s_nil ?_
          refine g_sreg [0, 1] (by kernel_rfl) (by kernel_rfl) ?_
          refine s_val (some 119) (.int .u64 ((r2 + yn : Nat) : Int)) (fun w => by kernel_rfl) (by kernel_rfl) ?_
          by_cases hc10 : (r2 + yn : Nat) ≥ 4294967296
          · skip
            refine s_valE (some 120) (.bool (decide (4294967296 ≤ ((r2 + yn : Nat) : Int)))) (.bool true) (fun w => by kernel_rfl) (bool_eq (decide_eq_true (by omega))) (by kernel_rfl) ?_
            refine s_nil ?_
            refine g_cond_t (by kernel_rfl) (by kernel_rfl) ?_
            refine g_exit 2 (by kernel_rfl) ?_
            show WP _ _ _ _ _ _
            refine g_sreg [0, 1, 2, 3, 4, 5, 6, 7, 8, 9, 10, 11, 12, 13, 14, 15] (by kernel_rfl) (by kernel_rfl) ?_
            have hQ2 := (hH2.2).right rfl hym hn hu2 he0 (by omega)
            have hQ2l : ((((u * 4294967296 + e1) % (yn * 4294967296 + ym)) * 4294967296 + e0) / (yn * 4294967296 + ym)) < 4294967296 := (Nat.div_lt_iff_lt_mul (show 0 < (yn * 4294967296 + ym) by omega)).2 (by omega)
            have hdm2 := Nat.div_add_mod (((u * 4294967296 + e1) % (yn * 4294967296 + ym)) * 4294967296 + e0) (yn * 4294967296 + ym); have hml2 := Nat.mod_lt (((u * 4294967296 + e1) % (yn * 4294967296 + ym)) * 4294967296 + e0) (show 0 < (yn * 4294967296 + ym) by omega)
            rw [show (((q2 - 1 : Nat) : Int)) = ((((((u * 4294967296 + e1) % (yn * 4294967296 + ym)) * 4294967296 + e0) / (yn * 4294967296 + ym)) : Nat) : Int) from by rw [← hQ2]]
            refine s_val (some 121) (.int .u64 ((((u * 4294967296 + e1) / (yn * 4294967296 + ym)) : Nat) : Int)) (fun w => by kernel_rfl) (by kernel_rfl) ?_
            refine s_valE (some 122) (.int .u64 (IntKind.u64.wrap (((((u * 4294967296 + e1) / (yn * 4294967296 + ym)) : Nat) : Int) * 4294967296))) (.int .u64 ((((u * 4294967296 + e1) / (yn * 4294967296 + ym)) * 4294967296 : Nat) : Int)) (fun w => by kernel_rfl) (int_eq (wrapMul_u64 (a := ((u * 4294967296 + e1) / (yn * 4294967296 + ym))) (b := 4294967296) (by omega))) (by kernel_rfl) ?_
            refine s_val (some 123) (.int .u64 ((((((u * 4294967296 + e1) % (yn * 4294967296 + ym)) * 4294967296 + e0) / (yn * 4294967296 + ym)) : Nat) : Int)) (fun w => by kernel_rfl) (by kernel_rfl) ?_
            refine s_valE (some 124) (.int .u64 (IntKind.u64.wrap (((((u * 4294967296 + e1) / (yn * 4294967296 + ym)) * 4294967296 : Nat) : Int) + ((((((u * 4294967296 + e1) % (yn * 4294967296 + ym)) * 4294967296 + e0) / (yn * 4294967296 + ym)) : Nat) : Int)))) (.int .u64 (((((u * 4294967296 + e1) / (yn * 4294967296 + ym)) * 4294967296) + ((((u * 4294967296 + e1) % (yn * 4294967296 + ym)) * 4294967296 + e0) / (yn * 4294967296 + ym)) : Nat) : Int)) (fun w => by kernel_rfl) (int_eq (wrapAdd_u64 (a := ((u * 4294967296 + e1) / (yn * 4294967296 + ym)) * 4294967296) (b := ((((u * 4294967296 + e1) % (yn * 4294967296 + ym)) * 4294967296 + e0) / (yn * 4294967296 + ym))) (by omega))) (by kernel_rfl) ?_
            refine s_val (some 125) (.int .u64 ((((u * 4294967296 + e1) % (yn * 4294967296 + ym)) : Nat) : Int)) (fun w => by kernel_rfl) (by kernel_rfl) ?_
            refine s_valE (some 126) (.int .u64 (IntKind.u64.wrap (((((u * 4294967296 + e1) % (yn * 4294967296 + ym)) : Nat) : Int) * 4294967296))) (.int .u64 ((((u * 4294967296 + e1) % (yn * 4294967296 + ym)) * 4294967296 % 18446744073709551616 : Nat) : Int)) (fun w => by kernel_rfl) (int_eq (modMul (a := ((u * 4294967296 + e1) % (yn * 4294967296 + ym))) (b := 4294967296))) (by kernel_rfl) ?_
            refine s_val (some 127) (.int .u64 ((e0 : Nat) : Int)) (fun w => by kernel_rfl) (by kernel_rfl) ?_
            refine s_valE (some 128) (.int .u64 (IntKind.u64.wrap (((((u * 4294967296 + e1) % (yn * 4294967296 + ym)) * 4294967296 % 18446744073709551616 : Nat) : Int) + ((e0 : Nat) : Int)))) (.int .u64 ((((((u * 4294967296 + e1) % (yn * 4294967296 + ym)) * 4294967296 % 18446744073709551616) + e0) % 18446744073709551616 : Nat) : Int)) (fun w => by kernel_rfl) (int_eq (modAdd (a := ((u * 4294967296 + e1) % (yn * 4294967296 + ym)) * 4294967296 % 18446744073709551616) (b := e0))) (by kernel_rfl) ?_
            refine s_val (some 129) (.int .u64 ((((((u * 4294967296 + e1) % (yn * 4294967296 + ym)) * 4294967296 + e0) / (yn * 4294967296 + ym)) : Nat) : Int)) (fun w => by kernel_rfl) (by kernel_rfl) ?_
            refine s_val (some 130) (.int .u64 (((yn * 4294967296 + ym) : Nat) : Int)) (fun w => by kernel_rfl) (by kernel_rfl) ?_
            refine s_valE (some 131) (.int .u64 (IntKind.u64.wrap (((((((u * 4294967296 + e1) % (yn * 4294967296 + ym)) * 4294967296 + e0) / (yn * 4294967296 + ym)) : Nat) : Int) * (((yn * 4294967296 + ym) : Nat) : Int)))) (.int .u64 ((((((u * 4294967296 + e1) % (yn * 4294967296 + ym)) * 4294967296 + e0) / (yn * 4294967296 + ym)) * (yn * 4294967296 + ym) % 18446744073709551616 : Nat) : Int)) (fun w => by kernel_rfl) (int_eq (modMul (a := ((((u * 4294967296 + e1) % (yn * 4294967296 + ym)) * 4294967296 + e0) / (yn * 4294967296 + ym))) (b := (yn * 4294967296 + ym)))) (by kernel_rfl) ?_
            refine s_valE (some 132) (.int .u64 (IntKind.u64.wrap (((((((u * 4294967296 + e1) % (yn * 4294967296 + ym)) * 4294967296 % 18446744073709551616) + e0) % 18446744073709551616 : Nat) : Int) - ((((((u * 4294967296 + e1) % (yn * 4294967296 + ym)) * 4294967296 + e0) / (yn * 4294967296 + ym)) * (yn * 4294967296 + ym) % 18446744073709551616 : Nat) : Int)))) (.int .u64 ((((((u * 4294967296 + e1) % (yn * 4294967296 + ym)) * 4294967296 + e0) % (yn * 4294967296 + ym)) : Nat) : Int)) (fun w => by kernel_rfl) (int_eq ((modSub (a := ((((u * 4294967296 + e1) % (yn * 4294967296 + ym)) * 4294967296 % 18446744073709551616) + e0) % 18446744073709551616) (b := ((((u * 4294967296 + e1) % (yn * 4294967296 + ym)) * 4294967296 + e0) / (yn * 4294967296 + ym)) * (yn * 4294967296 + ym) % 18446744073709551616) (by omega)).trans (congrArg (fun n : Nat => (n : Int)) (left_mods (by omega) (by omega) rfl)))) (by kernel_rfl) ?_
            refine s_val (some 133) (.int .u64 0) (fun w => by kernel_rfl) (by kernel_rfl) ?_
            have hRl : ((((u * 4294967296 + e1) % (yn * 4294967296 + ym)) * 4294967296 + e0) % (yn * 4294967296 + ym)) < 18446744073709551616 := Nat.lt_trans hml2 (show (yn * 4294967296 + ym) < 18446744073709551616 by clear hml2 hdm2 hQ2 hQ2l hdm hml hQ hQl; omega)
            refine s_valE (some 134) (.int .u64 (Int.fdiv (((((((u * 4294967296 + e1) % (yn * 4294967296 + ym)) * 4294967296 + e0) % (yn * 4294967296 + ym)) : Nat) : Int)) (2 ^ 0))) (.int .u64 ((((((u * 4294967296 + e1) % (yn * 4294967296 + ym)) * 4294967296 + e0) % (yn * 4294967296 + ym)) : Nat) : Int)) (fun w => by kernel_rfl) (int_eq (shr0 (a := ((((u * 4294967296 + e1) % (yn * 4294967296 + ym)) * 4294967296 + e0) % (yn * 4294967296 + ym))) hRl)) (by kernel_rfl) ?_
            refine s_val (some 6) (.int .u64 (((((u * 4294967296 + e1) / (yn * 4294967296 + ym)) * 4294967296) + ((((u * 4294967296 + e1) % (yn * 4294967296 + ym)) * 4294967296 + e0) / (yn * 4294967296 + ym)) : Nat) : Int)) (fun w => by kernel_rfl) (by kernel_rfl) ?_
            refine s_val (some 7) (.int .u64 ((((((u * 4294967296 + e1) % (yn * 4294967296 + ym)) * 4294967296 + e0) % (yn * 4294967296 + ym)) : Nat) : Int)) (fun w => by kernel_rfl) (by kernel_rfl) ?_
            refine s_nil ?_
            refine g_ret (by kernel_rfl) ?_
            show ∃ vs, Res _ _ _ _ vs ∧ _
            refine ⟨[.int .u64 (((((u * 4294967296 + e1) / (yn * 4294967296 + ym)) * 4294967296) + ((((u * 4294967296 + e1) % (yn * 4294967296 + ym)) * 4294967296 + e0) / (yn * 4294967296 + ym)) : Nat) : Int), .int .u64 ((((((u * 4294967296 + e1) % (yn * 4294967296 + ym)) * 4294967296 + e0) % (yn * 4294967296 + ym)) : Nat) : Int)], (.tmp (.int .u64 (((((u * 4294967296 + e1) / (yn * 4294967296 + ym)) * 4294967296) + ((((u * 4294967296 + e1) % (yn * 4294967296 + ym)) * 4294967296 + e0) / (yn * 4294967296 + ym)) : Nat) : Int)) (by kernel_rfl) (.tmp (.int .u64 ((((((u * 4294967296 + e1) % (yn * 4294967296 + ym)) * 4294967296 + e0) % (yn * 4294967296 + ym)) : Nat) : Int)) (by kernel_rfl) .nil)), ?_, H4.below⟩
            exact dv_q (halves (hi := u) (lo := (e1 * 4294967296 + e0)) (y := (yn * 4294967296 + ym)) (by omega) (by rw [show (e1 * 4294967296 + e0) / 4294967296 = e1 by omega]) (by rw [show (e1 * 4294967296 + e0) / 4294967296 = e1 by omega, show (e1 * 4294967296 + e0) % 4294967296 = e0 by omega])) (by rfl)
          · skip
            refine s_valE (some 120) (.bool (decide (4294967296 ≤ ((r2 + yn : Nat) : Int)))) (.bool false) (fun w => by kernel_rfl) (bool_eq (decide_eq_false (by omega))) (by kernel_rfl) ?_
            refine s_nil ?_
            refine g_cond_f (by kernel_rfl) (by kernel_rfl) ?_
            refine g_skip (by kernel_rfl) ?_
            show ∃ m, _ ∧ _
            exact ⟨_, (by have := hH2.1; omega), (q2 - 1), (r2 + yn), rfl, hH2.2, (by omega), H4, (Is.of ⟨(by kernel_rfl), (by kernel_rfl), (by kernel_rfl), (by kernel_rfl), (by kernel_rfl), (by kernel_rfl), (by kernel_rfl), (by kernel_rfl), (by kernel_rfl), (by kernel_rfl), (by kernel_rfl), (by kernel_rfl), (by kernel_rfl), (by kernel_rfl), (by kernel_rfl), (by kernel_rfl), (by kernel_rfl), (by kernel_rfl), (by kernel_rfl), (by kernel_rfl), (by kernel_rfl), trivial⟩)⟩
        · skip
          refine s_valE (some 103) (.bool (decide (4294967296 ≤ ((q2 : Nat) : Int)))) (.bool false) (fun w => by kernel_rfl) (bool_eq (decide_eq_false (by omega))) (by kernel_rfl) ?_
          refine s_val (some 104) (.bool false) (fun w => by kernel_rfl) (by kernel_rfl) ?_
          refine s_val (some 105) (.int .u64 ((q2 : Nat) : Int)) (fun w => by kernel_rfl) (by kernel_rfl) ?_
          refine s_val (some 106) (.int .u64 ((ym : Nat) : Int)) (fun w => by kernel_rfl) (by kernel_rfl) ?_
          refine s_valE (some 107) (.int .u64 (IntKind.u64.wrap (((q2 : Nat) : Int) * ((ym : Nat) : Int)))) (.int .u64 ((q2 * ym : Nat) : Int)) (fun w => by kernel_rfl) (int_eq (wrapMul_u64 (a := q2) (b := ym) (by omega))) (by kernel_rfl) ?_
          refine s_val (some 108) (.int .u64 ((r2 : Nat) : Int)) (fun w => by kernel_rfl) (by kernel_rfl) ?_
          refine s_valE (some 109) (.int .u64 (IntKind.u64.wrap (4294967296 * ((r2 : Nat) : Int)))) (.int .u64 ((4294967296 * r2 : Nat) : Int)) (fun w => by kernel_rfl) (int_eq (wrapMul_u64 (a := 4294967296) (b := r2) (by omega))) (by kernel_rfl) ?_
          refine s_val (some 110) (.int .u64 ((e0 : Nat) : Int)) (fun w => by kernel_rfl) (by kernel_rfl) ?_
          refine s_valE (some 111) (.int .u64 (IntKind.u64.wrap (((4294967296 * r2 : Nat) : Int) + ((e0 : Nat) : Int)))) (.int .u64 (((4294967296 * r2) + e0 : Nat) : Int)) (fun w => by kernel_rfl) (int_eq (wrapAdd_u64 (a := 4294967296 * r2) (b := e0) (by omega))) (by kernel_rfl) ?_
          by_cases hc11 : (q2 * ym : Nat) > (4294967296 * r2) + e0
          · skip
            refine s_valE (some 112) (.bool (decide ((((4294967296 * r2) + e0 : Nat) : Int) < ((q2 * ym : Nat) : Int)))) (.bool true) (fun w => by kernel_rfl) (bool_eq (decide_eq_true (by omega))) (by kernel_rfl) ?_
            refine s_val (some 113) (.bool true) (fun w => by kernel_rfl) (by kernel_rfl) ?_
            refine s_nil ?_
            refine g_cond_t (by kernel_rfl) (by kernel_rfl) ?_
            refine g_skip (by kernel_rfl) ?_
            show WP _ _ _ _ _ _
            refine g_block 3 (by kernel_rfl) ?_
            refine g_sreg [0, 1, 2] (by kernel_rfl) (by kernel_rfl) ?_
            have hH2 := hI2.high rfl hym hn hu2 he0 hr2 (by omega)
            have hH12 := hH2.1
            refine s_val (some 114) (.int .u64 ((q2 : Nat) : Int)) (fun w => by kernel_rfl) (by kernel_rfl) ?_
            refine s_valE (some 115) (.int .u64 (IntKind.u64.wrap (((q2 : Nat) : Int) - 1))) (.int .u64 ((q2 - 1 : Nat) : Int)) (fun w => by kernel_rfl) (int_eq (wrapSub_u64 (a := q2) (b := 1) (by omega))) (by kernel_rfl) ?_
            refine s_val (some 18) (.int .u64 ((q2 - 1 : Nat) : Int)) (fun w => by kernel_rfl) (by kernel_rfl) ?_
            refine s_nil ?_
            refine g_sreg [0, 1, 2, 3] (by kernel_rfl) (by kernel_rfl) ?_
            refine s_val (some 116) (.int .u64 ((r2 : Nat) : Int)) (fun w => by kernel_rfl) (by kernel_rfl) ?_
            refine s_val (some 117) (.int .u64 ((yn : Nat) : Int)) (fun w => by kernel_rfl) (by kernel_rfl) ?_
            refine s_valE (some 118) (.int .u64 (IntKind.u64.wrap (((r2 : Nat) : Int) + ((yn : Nat) : Int)))) (.int .u64 ((r2 + yn : Nat) : Int)) (fun w => by kernel_rfl) (int_eq (wrapAdd_u64 (a := r2) (b := yn) (by omega))) (by kernel_rfl) ?_
            refine s_val (some 16) (.int .u64 ((r2 + yn : Nat) : Int)) (fun w => by kernel_rfl) (by kernel_rfl) ?_
            refine s_nil ?_
            refine g_sreg [0, 1] (by kernel_rfl) (by kernel_rfl) ?_
            refine s_val (some 119) (.int .u64 ((r2 + yn : Nat) : Int)) (fun w => by kernel_rfl) (by kernel_rfl) ?_
            by_cases hc12 : (r2 + yn : Nat) ≥ 4294967296
            · skip
              refine s_valE (some 120) (.bool (decide (4294967296 ≤ ((r2 + yn : Nat) : Int)))) (.bool true) (fun w => by kernel_rfl) (bool_eq (decide_eq_true (by omega))) (by kernel_rfl) ?_
              refine s_nil ?_
              refine g_cond_t (by kernel_rfl) (by kernel_rfl) ?_
              refine g_exit 2 (by kernel_rfl) ?_
              show WP _ _ _ _ _ _
              refine g_sreg [0, 1, 2, 3, 4, 5, 6, 7, 8, 9, 10, 11, 12, 13, 14, 15] (by kernel_rfl) (by kernel_rfl) ?_
              have hQ2 := (hH2.2).right rfl hym hn hu2 he0 (by omega)
              have hQ2l : ((((u * 4294967296 + e1) % (yn * 4294967296 + ym)) * 4294967296 + e0) / (yn * 4294967296 + ym)) < 4294967296 := (Nat.div_lt_iff_lt_mul (show 0 < (yn * 4294967296 + ym) by omega)).2 (by omega)
              have hdm2 := Nat.div_add_mod (((u * 4294967296 + e1) % (yn * 4294967296 + ym)) * 4294967296 + e0) (yn * 4294967296 + ym); have hml2 := Nat.mod_lt (((u * 4294967296 + e1) % (yn * 4294967296 + ym)) * 4294967296 + e0) (show 0 < (yn * 4294967296 + ym) by omega)
              rw [show (((q2 - 1 : Nat) : Int)) = ((((((u * 4294967296 + e1) % (yn * 4294967296 + ym)) * 4294967296 + e0) / (yn * 4294967296 + ym)) : Nat) : Int) from by rw [← hQ2]]
              refine s_val (some 121) (.int .u64 ((((u * 4294967296 + e1) / (yn * 4294967296 + ym)) : Nat) : Int)) (fun w => by kernel_rfl) (by kernel_rfl) ?_
              refine s_valE (some 122) (.int .u64 (IntKind.u64.wrap (((((u * 4294967296 + e1) / (yn * 4294967296 + ym)) : Nat) : Int) * 4294967296))) (.int .u64 ((((u * 4294967296 + e1) / (yn * 4294967296 + ym)) * 4294967296 : Nat) : Int)) (fun w => by kernel_rfl) (int_eq (wrapMul_u64 (a := ((u * 4294967296 + e1) / (yn * 4294967296 + ym))) (b := 4294967296) (by omega))) (by kernel_rfl) ?_
              refine s_val (some 123) (.int .u64 ((((((u * 4294967296 + e1) % (yn * 4294967296 + ym)) * 4294967296 + e0) / (yn * 4294967296 + ym)) : Nat) : Int)) (fun w => by kernel_rfl) (by kernel_rfl) ?_
              refine s_valE (some 124) (.int .u64 (IntKind.u64.wrap (((((u * 4294967296 + e1) / (yn * 4294967296 + ym)) * 4294967296 : Nat) : Int) + ((((((u * 4294967296 + e1) % (yn * 4294967296 + ym)) * 4294967296 + e0) / (yn * 4294967296 + ym)) : Nat) : Int)))) (.int .u64 (((((u * 4294967296 + e1) / (yn * 4294967296 + ym)) * 4294967296) + ((((u * 4294967296 + e1) % (yn * 4294967296 + ym)) * 4294967296 + e0) / (yn * 4294967296 + ym)) : Nat) : Int)) (fun w => by kernel_rfl) (int_eq (wrapAdd_u64 (a := ((u * 4294967296 + e1) / (yn * 4294967296 + ym)) * 4294967296) (b := ((((u * 4294967296 + e1) % (yn * 4294967296 + ym)) * 4294967296 + e0) / (yn * 4294967296 + ym))) (by omega))) (by kernel_rfl) ?_
              refine s_val (some 125) (.int .u64 ((((u * 4294967296 + e1) % (yn * 4294967296 + ym)) : Nat) : Int)) (fun w => by kernel_rfl) (by kernel_rfl) ?_
              refine s_valE (some 126) (.int .u64 (IntKind.u64.wrap (((((u * 4294967296 + e1) % (yn * 4294967296 + ym)) : Nat) : Int) * 4294967296))) (.int .u64 ((((u * 4294967296 + e1) % (yn * 4294967296 + ym)) * 4294967296 % 18446744073709551616 : Nat) : Int)) (fun w => by kernel_rfl) (int_eq (modMul (a := ((u * 4294967296 + e1) % (yn * 4294967296 + ym))) (b := 4294967296))) (by kernel_rfl) ?_
              refine s_val (some 127) (.int .u64 ((e0 : Nat) : Int)) (fun w => by kernel_rfl) (by kernel_rfl) ?_
              refine s_valE (some 128) (.int .u64 (IntKind.u64.wrap (((((u * 4294967296 + e1) % (yn * 4294967296 + ym)) * 4294967296 % 18446744073709551616 : Nat) : Int) + ((e0 : Nat) : Int)))) (.int .u64 ((((((u * 4294967296 + e1) % (yn * 4294967296 + ym)) * 4294967296 % 18446744073709551616) + e0) % 18446744073709551616 : Nat) : Int)) (fun w => by kernel_rfl) (int_eq (modAdd (a := ((u * 4294967296 + e1) % (yn * 4294967296 + ym)) * 4294967296 % 18446744073709551616) (b := e0))) (by kernel_rfl) ?_
              refine s_val (some 129) (.int .u64 ((((((u * 4294967296 + e1) % (yn * 4294967296 + ym)) * 4294967296 + e0) / (yn * 4294967296 + ym)) : Nat) : Int)) (fun w => by kernel_rfl) (by kernel_rfl) ?_
              refine s_val (some 130) (.int .u64 (((yn * 4294967296 + ym) : Nat) : Int)) (fun w => by kernel_rfl) (by kernel_rfl) ?_
              refine s_valE (some 131) (.int .u64 (IntKind.u64.wrap (((((((u * 4294967296 + e1) % (yn * 4294967296 + ym)) * 4294967296 + e0) / (yn * 4294967296 + ym)) : Nat) : Int) * (((yn * 4294967296 + ym) : Nat) : Int)))) (.int .u64 ((((((u * 4294967296 + e1) % (yn * 4294967296 + ym)) * 4294967296 + e0) / (yn * 4294967296 + ym)) * (yn * 4294967296 + ym) % 18446744073709551616 : Nat) : Int)) (fun w => by kernel_rfl) (int_eq (modMul (a := ((((u * 4294967296 + e1) % (yn * 4294967296 + ym)) * 4294967296 + e0) / (yn * 4294967296 + ym))) (b := (yn * 4294967296 + ym)))) (by kernel_rfl) ?_
              refine s_valE (some 132) (.int .u64 (IntKind.u64.wrap (((((((u * 4294967296 + e1) % (yn * 4294967296 + ym)) * 4294967296 % 18446744073709551616) + e0) % 18446744073709551616 : Nat) : Int) - ((((((u * 4294967296 + e1) % (yn * 4294967296 + ym)) * 4294967296 + e0) / (yn * 4294967296 + ym)) * (yn * 4294967296 + ym) % 18446744073709551616 : Nat) : Int)))) (.int .u64 ((((((u * 4294967296 + e1) % (yn * 4294967296 + ym)) * 4294967296 + e0) % (yn * 4294967296 + ym)) : Nat) : Int)) (fun w => by kernel_rfl) (int_eq ((modSub (a := ((((u * 4294967296 + e1) % (yn * 4294967296 + ym)) * 4294967296 % 18446744073709551616) + e0) % 18446744073709551616) (b := ((((u * 4294967296 + e1) % (yn * 4294967296 + ym)) * 4294967296 + e0) / (yn * 4294967296 + ym)) * (yn * 4294967296 + ym) % 18446744073709551616) (by omega)).trans (congrArg (fun n : Nat => (n : Int)) (left_mods (by omega) (by omega) rfl)))) (by kernel_rfl) ?_
              refine s_val (some 133) (.int .u64 0) (fun w => by kernel_rfl) (by kernel_rfl) ?_
              have hRl : ((((u * 4294967296 + e1) % (yn * 4294967296 + ym)) * 4294967296 + e0) % (yn * 4294967296 + ym)) < 18446744073709551616 := Nat.lt_trans hml2 (show (yn * 4294967296 + ym) < 18446744073709551616 by clear hml2 hdm2 hQ2 hQ2l hdm hml hQ hQl; omega)
              refine s_valE (some 134) (.int .u64 (Int.fdiv (((((((u * 4294967296 + e1) % (yn * 4294967296 + ym)) * 4294967296 + e0) % (yn * 4294967296 + ym)) : Nat) : Int)) (2 ^ 0))) (.int .u64 ((((((u * 4294967296 + e1) % (yn * 4294967296 + ym)) * 4294967296 + e0) % (yn * 4294967296 + ym)) : Nat) : Int)) (fun w => by kernel_rfl) (int_eq (shr0 (a := ((((u * 4294967296 + e1) % (yn * 4294967296 + ym)) * 4294967296 + e0) % (yn * 4294967296 + ym))) hRl)) (by kernel_rfl) ?_
              refine s_val (some 6) (.int .u64 (((((u * 4294967296 + e1) / (yn * 4294967296 + ym)) * 4294967296) + ((((u * 4294967296 + e1) % (yn * 4294967296 + ym)) * 4294967296 + e0) / (yn * 4294967296 + ym)) : Nat) : Int)) (fun w => by kernel_rfl) (by kernel_rfl) ?_
              refine s_val (some 7) (.int .u64 ((((((u * 4294967296 + e1) % (yn * 4294967296 + ym)) * 4294967296 + e0) % (yn * 4294967296 + ym)) : Nat) : Int)) (fun w => by kernel_rfl) (by kernel_rfl) ?_
              refine s_nil ?_
              refine g_ret (by kernel_rfl) ?_
              show ∃ vs, Res _ _ _ _ vs ∧ _
              refine ⟨[.int .u64 (((((u * 4294967296 + e1) / (yn * 4294967296 + ym)) * 4294967296) + ((((u * 4294967296 + e1) % (yn * 4294967296 + ym)) * 4294967296 + e0) / (yn * 4294967296 + ym)) : Nat) : Int), .int .u64 ((((((u * 4294967296 + e1) % (yn * 4294967296 + ym)) * 4294967296 + e0) % (yn * 4294967296 + ym)) : Nat) : Int)], (.tmp (.int .u64 (((((u * 4294967296 + e1) / (yn * 4294967296 + ym)) * 4294967296) + ((((u * 4294967296 + e1) % (yn * 4294967296 + ym)) * 4294967296 + e0) / (yn * 4294967296 + ym)) : Nat) : Int)) (by kernel_rfl) (.tmp (.int .u64 ((((((u * 4294967296 + e1) % (yn * 4294967296 + ym)) * 4294967296 + e0) % (yn * 4294967296 + ym)) : Nat) : Int)) (by kernel_rfl) .nil)), ?_, H4.below⟩
              exact dv_q (halves (hi := u) (lo := (e1 * 4294967296 + e0)) (y := (yn * 4294967296 + ym)) (by omega) (by rw [show (e1 * 4294967296 + e0) / 4294967296 = e1 by omega]) (by rw [show (e1 * 4294967296 + e0) / 4294967296 = e1 by omega, show (e1 * 4294967296 + e0) % 4294967296 = e0 by omega])) (by rfl)
            · skip
              refine s_valE (some 120) (.bool (decide (4294967296 ≤ ((r2 + yn : Nat) : Int)))) (.bool false) (fun w => by kernel_rfl) (bool_eq (decide_eq_false (by omega))) (by kernel_rfl) ?_
              refine s_nil ?_
              refine g_cond_f (by kernel_rfl) (by kernel_rfl) ?_
              refine g_skip (by kernel_rfl) ?_
              show ∃ m, _ ∧ _
              exact ⟨_, (by have := hH2.1; omega), (q2 - 1), (r2 + yn), rfl, hH2.2, (by omega), H4, (Is.of ⟨(by kernel_rfl), (by kernel_rfl), (by kernel_rfl), (by kernel_rfl), (by kernel_rfl), (by kernel_rfl), (by kernel_rfl), (by kernel_rfl), (by kernel_rfl), (by kernel_rfl), (by kernel_rfl), (by kernel_rfl), (by kernel_rfl), (by kernel_rfl), (by kernel_rfl), (by kernel_rfl), (by kernel_rfl), (by kernel_rfl), (by kernel_rfl), (by kernel_rfl), (by kernel_rfl), trivial⟩)⟩
          · skip
            refine s_valE (some 112) (.bool (decide ((((4294967296 * r2) + e0 : Nat) : Int) < ((q2 * ym : Nat) : Int)))) (.bool false) (fun w => by kernel_rfl) (bool_eq (decide_eq_false (by omega))) (by kernel_rfl) ?_
            refine s_val (some 113) (.bool false) (fun w => by kernel_rfl) (by kernel_rfl) ?_
            refine s_nil ?_
            refine g_cond_f (by kernel_rfl) (by kernel_rfl) ?_
            refine g_exit 2 (by kernel_rfl) ?_
            show WP _ _ _ _ _ _
            refine g_sreg [0, 1, 2, 3, 4, 5, 6, 7, 8, 9, 10, 11, 12, 13, 14, 15] (by kernel_rfl) (by kernel_rfl) ?_
            have hQ2 := (hI2).right rfl hym hn hu2 he0 (by omega)
            have hQ2l : ((((u * 4294967296 + e1) % (yn * 4294967296 + ym)) * 4294967296 + e0) / (yn * 4294967296 + ym)) < 4294967296 := (Nat.div_lt_iff_lt_mul (show 0 < (yn * 4294967296 + ym) by omega)).2 (by omega)
            have hdm2 := Nat.div_add_mod (((u * 4294967296 + e1) % (yn * 4294967296 + ym)) * 4294967296 + e0) (yn * 4294967296 + ym); have hml2 := Nat.mod_lt (((u * 4294967296 + e1) % (yn * 4294967296 + ym)) * 4294967296 + e0) (show 0 < (yn * 4294967296 + ym) by omega)
            rw [show (((q2 : Nat) : Int)) = ((((((u * 4294967296 + e1) % (yn * 4294967296 + ym)) * 4294967296 + e0) / (yn * 4294967296 + ym)) : Nat) : Int) from by rw [← hQ2]]
            refine s_val (some 121) (.int .u64 ((((u * 4294967296 + e1) / (yn * 4294967296 + ym)) : Nat) : Int)) (fun w => by kernel_rfl) (by kernel_rfl) ?_
            refine s_valE (some 122) (.int .u64 (IntKind.u64.wrap (((((u * 4294967296 + e1) / (yn * 4294967296 + ym)) : Nat) : Int) * 4294967296))) (.int .u64 ((((u * 4294967296 + e1) / (yn * 4294967296 + ym)) * 4294967296 : Nat) : Int)) (fun w => by kernel_rfl) (int_eq (wrapMul_u64 (a := ((u * 4294967296 + e1) / (yn * 4294967296 + ym))) (b := 4294967296) (by omega))) (by kernel_rfl) ?_
            refine s_val (some 123) (.int .u64 ((((((u * 4294967296 + e1) % (yn * 4294967296 + ym)) * 4294967296 + e0) / (yn * 4294967296 + ym)) : Nat) : Int)) (fun w => by kernel_rfl) (by kernel_rfl) ?_
            refine s_valE (some 124) (.int .u64 (IntKind.u64.wrap (((((u * 4294967296 + e1) / (yn * 4294967296 + ym)) * 4294967296 : Nat) : Int) + ((((((u * 4294967296 + e1) % (yn * 4294967296 + ym)) * 4294967296 + e0) / (yn * 4294967296 + ym)) : Nat) : Int)))) (.int .u64 (((((u * 4294967296 + e1) / (yn * 4294967296 + ym)) * 4294967296) + ((((u * 4294967296 + e1) % (yn * 4294967296 + ym)) * 4294967296 + e0) / (yn * 4294967296 + ym)) : Nat) : Int)) (fun w => by kernel_rfl) (int_eq (wrapAdd_u64 (a := ((u * 4294967296 + e1) / (yn * 4294967296 + ym)) * 4294967296) (b := ((((u * 4294967296 + e1) % (yn * 4294967296 + ym)) * 4294967296 + e0) / (yn * 4294967296 + ym))) (by omega))) (by kernel_rfl) ?_
            refine s_val (some 125) (.int .u64 ((((u * 4294967296 + e1) % (yn * 4294967296 + ym)) : Nat) : Int)) (fun w => by kernel_rfl) (by kernel_rfl) ?_
            refine s_valE (some 126) (.int .u64 (IntKind.u64.wrap (((((u * 4294967296 + e1) % (yn * 4294967296 + ym)) : Nat) : Int) * 4294967296))) (.int .u64 ((((u * 4294967296 + e1) % (yn * 4294967296 + ym)) * 4294967296 % 18446744073709551616 : Nat) : Int)) (fun w => by kernel_rfl) (int_eq (modMul (a := ((u * 4294967296 + e1) % (yn * 4294967296 + ym))) (b := 4294967296))) (by kernel_rfl) ?_
            refine s_val (some 127) (.int .u64 ((e0 : Nat) : Int)) (fun w => by kernel_rfl) (by kernel_rfl) ?_
            refine s_valE (some 128) (.int .u64 (IntKind.u64.wrap (((((u * 4294967296 + e1) % (yn * 4294967296 + ym)) * 4294967296 % 18446744073709551616 : Nat) : Int) + ((e0 : Nat) : Int)))) (.int .u64 ((((((u * 4294967296 + e1) % (yn * 4294967296 + ym)) * 4294967296 % 18446744073709551616) + e0) % 18446744073709551616 : Nat) : Int)) (fun w => by kernel_rfl) (int_eq (modAdd (a := ((u * 4294967296 + e1) % (yn * 4294967296 + ym)) * 4294967296 % 18446744073709551616) (b := e0))) (by kernel_rfl) ?_
            refine s_val (some 129) (.int .u64 ((((((u * 4294967296 + e1) % (yn * 4294967296 + ym)) * 4294967296 + e0) / (yn * 4294967296 + ym)) : Nat) : Int)) (fun w => by kernel_rfl) (by kernel_rfl) ?_
            refine s_val (some 130) (.int .u64 (((yn * 4294967296 + ym) : Nat) : Int)) (fun w => by kernel_rfl) (by kernel_rfl) ?_
            refine s_valE (some 131) (.int .u64 (IntKind.u64.wrap (((((((u * 4294967296 + e1) % (yn * 4294967296 + ym)) * 4294967296 + e0) / (yn * 4294967296 + ym)) : Nat) : Int) * (((yn * 4294967296 + ym) : Nat) : Int)))) (.int .u64 ((((((u * 4294967296 + e1) % (yn * 4294967296 + ym)) * 4294967296 + e0) / (yn * 4294967296 + ym)) * (yn * 4294967296 + ym) % 18446744073709551616 : Nat) : Int)) (fun w => by kernel_rfl) (int_eq (modMul (a := ((((u * 4294967296 + e1) % (yn * 4294967296 + ym)) * 4294967296 + e0) / (yn * 4294967296 + ym))) (b := (yn * 4294967296 + ym)))) (by kernel_rfl) ?_
            refine s_valE (some 132) (.int .u64 (IntKind.u64.wrap (((((((u * 4294967296 + e1) % (yn * 4294967296 + ym)) * 4294967296 % 18446744073709551616) + e0) % 18446744073709551616 : Nat) : Int) - ((((((u * 4294967296 + e1) % (yn * 4294967296 + ym)) * 4294967296 + e0) / (yn * 4294967296 + ym)) * (yn * 4294967296 + ym) % 18446744073709551616 : Nat) : Int)))) (.int .u64 ((((((u * 4294967296 + e1) % (yn * 4294967296 + ym)) * 4294967296 + e0) % (yn * 4294967296 + ym)) : Nat) : Int)) (fun w => by kernel_rfl) (int_eq ((modSub (a := ((((u * 4294967296 + e1) % (yn * 4294967296 + ym)) * 4294967296 % 18446744073709551616) + e0) % 18446744073709551616) (b := ((((u * 4294967296 + e1) % (yn * 4294967296 + ym)) * 4294967296 + e0) / (yn * 4294967296 + ym)) * (yn * 4294967296 + ym) % 18446744073709551616) (by omega)).trans (congrArg (fun n : Nat => (n : Int)) (left_mods (by omega) (by omega) rfl)))) (by kernel_rfl) ?_
            refine s_val (some 133) (.int .u64 0) (fun w => by kernel_rfl) (by kernel_rfl) ?_
            have hRl : ((((u * 4294967296 + e1) % (yn * 4294967296 + ym)) * 4294967296 + e0) % (yn * 4294967296 + ym)) < 18446744073709551616 := Nat.lt_trans hml2 (show (yn * 4294967296 + ym) < 18446744073709551616 by clear hml2 hdm2 hQ2 hQ2l hdm hml hQ hQl; omega)
            refine s_valE (some 134) (.int .u64 (Int.fdiv (((((((u * 4294967296 + e1) % (yn * 4294967296 + ym)) * 4294967296 + e0) % (yn * 4294967296 + ym)) : Nat) : Int)) (2 ^ 0))) (.int .u64 ((((((u * 4294967296 + e1) % (yn * 4294967296 + ym)) * 4294967296 + e0) % (yn * 4294967296 + ym)) : Nat) : Int)) (fun w => by kernel_rfl) (int_eq (shr0 (a := ((((u * 4294967296 + e1) % (yn * 4294967296 + ym)) * 4294967296 + e0) % (yn * 4294967296 + ym))) hRl)) (by kernel_rfl) ?_
            refine s_val (some 6) (.int .u64 (((((u * 4294967296 + e1) / (yn * 4294967296 + ym)) * 4294967296) + ((((u * 4294967296 + e1) % (yn * 4294967296 + ym)) * 4294967296 + e0) / (yn * 4294967296 + ym)) : Nat) : Int)) (fun w => by kernel_rfl) (by kernel_rfl) ?_
            refine s_val (some 7) (.int .u64 ((((((u * 4294967296 + e1) % (yn * 4294967296 + ym)) * 4294967296 + e0) % (yn * 4294967296 + ym)) : Nat) : Int)) (fun w => by kernel_rfl) (by kernel_rfl) ?_
            refine s_nil ?_
            refine g_ret (by kernel_rfl) ?_
            show ∃ vs, Res _ _ _ _ vs ∧ _
            refine ⟨[.int .u64 (((((u * 4294967296 + e1) / (yn * 4294967296 + ym)) * 4294967296) + ((((u * 4294967296 + e1) % (yn * 4294967296 + ym)) * 4294967296 + e0) / (yn * 4294967296 + ym)) : Nat) : Int), .int .u64 ((((((u * 4294967296 + e1) % (yn * 4294967296 + ym)) * 4294967296 + e0) % (yn * 4294967296 + ym)) : Nat) : Int)], (.tmp (.int .u64 (((((u * 4294967296 + e1) / (yn * 4294967296 + ym)) * 4294967296) + ((((u * 4294967296 + e1) % (yn * 4294967296 + ym)) * 4294967296 + e0) / (yn * 4294967296 + ym)) : Nat) : Int)) (by kernel_rfl) (.tmp (.int .u64 ((((((u * 4294967296 + e1) % (yn * 4294967296 + ym)) * 4294967296 + e0) % (yn * 4294967296 + ym)) : Nat) : Int)) (by kernel_rfl) .nil)), ?_, H4.below⟩
            exact dv_q (halves (hi := u) (lo := (e1 * 4294967296 + e0)) (y := (yn * 4294967296 + ym)) (by omega) (by rw [show (e1 * 4294967296 + e0) / 4294967296 = e1 by omega]) (by rw [show (e1 * 4294967296 + e0) / 4294967296 = e1 by omega, show (e1 * 4294967296 + e0) % 4294967296 = e0 by omega])) (by rfl)
      · skip
        refine s_valE (some 85) (.bool (decide (4294967296 ≤ ((r + yn : Nat) : Int)))) (.bool false) (fun w => by kernel_rfl) (bool_eq (decide_eq_false (by omega))) (by kernel_rfl) ?_
        refine s_nil ?_
        refine g_cond_f (by kernel_rfl) (by kernel_rfl) ?_
        refine g_skip (by kernel_rfl) ?_
        show ∃ m, _ ∧ _
        exact ⟨_, (by have := hH.1; omega), (q - 1), (r + yn), rfl, hH.2, (by omega), H2, (Is.of ⟨(by kernel_rfl), (by kernel_rfl), (by kernel_rfl), (by kernel_rfl), (by kernel_rfl), (by kernel_rfl), (by kernel_rfl), (by kernel_rfl), (by kernel_rfl), (by kernel_rfl), (by kernel_rfl), (by kernel_rfl), (by kernel_rfl), (by kernel_rfl), (by kernel_rfl), (by kernel_rfl), (by kernel_rfl), trivial⟩)⟩
    · skip
      refine s_valE (some 77) (.bool (decide ((((4294967296 * r) + e1 : Nat) : Int) < ((q * ym : Nat) : Int)))) (.bool false) (fun w => by kernel_rfl) (bool_eq (decide_eq_false (by omega))) (by kernel_rfl) ?_
      refine s_val (some 78) (.bool false) (fun w => by kernel_rfl) (by kernel_rfl) ?_
      refine s_nil ?_
      refine g_cond_f (by kernel_rfl) (by kernel_rfl) ?_
      refine g_exit 0 (by kernel_rfl) ?_
      show WP _ _ _ _ _ _
      refine g_sreg [0, 1, 2, 3, 4, 5, 6, 7, 8] (by kernel_rfl) (by kernel_rfl) ?_
      have hQ := (hI).right rfl hym hn hu he1 (by omega)
      have hQl : ((u * 4294967296 + e1) / (yn * 4294967296 + ym)) < 4294967296 := (Nat.div_lt_iff_lt_mul (show 0 < (yn * 4294967296 + ym) by omega)).2 (by omega)
      have hdm := Nat.div_add_mod (u * 4294967296 + e1) (yn * 4294967296 + ym); have hml := Nat.mod_lt (u * 4294967296 + e1) (show 0 < (yn * 4294967296 + ym) by omega)
      have hu2 : (u * 4294967296 + e1) % (yn * 4294967296 + ym) < yn * 4294967296 + ym := hml
      rw [show (((q : Nat) : Int)) = ((((u * 4294967296 + e1) / (yn * 4294967296 + ym)) : Nat) : Int) from by rw [← hQ]]
      refine s_val (some 86) (.int .u64 ((u : Nat) : Int)) (fun w => by kernel_rfl) (by kernel_rfl) ?_
      refine s_valE (some 87) (.int .u64 (IntKind.u64.wrap (((u : Nat) : Int) * 4294967296))) (.int .u64 ((u * 4294967296 % 18446744073709551616 : Nat) : Int)) (fun w => by kernel_rfl) (int_eq (modMul (a := u) (b := 4294967296))) (by kernel_rfl) ?_
      refine s_val (some 88) (.int .u64 ((e1 : Nat) : Int)) (fun w => by kernel_rfl) (by kernel_rfl) ?_
      refine s_valE (some 89) (.int .u64 (IntKind.u64.wrap (((u * 4294967296 % 18446744073709551616 : Nat) : Int) + ((e1 : Nat) : Int)))) (.int .u64 ((((u * 4294967296 % 18446744073709551616) + e1) % 18446744073709551616 : Nat) : Int)) (fun w => by kernel_rfl) (int_eq (modAdd (a := u * 4294967296 % 18446744073709551616) (b := e1))) (by kernel_rfl) ?_
      refine s_val (some 90) (.int .u64 ((((u * 4294967296 + e1) / (yn * 4294967296 + ym)) : Nat) : Int)) (fun w => by kernel_rfl) (by kernel_rfl) ?_
      refine s_val (some 91) (.int .u64 (((yn * 4294967296 + ym) : Nat) : Int)) (fun w => by kernel_rfl) (by kernel_rfl) ?_
      refine s_valE (some 92) (.int .u64 (IntKind.u64.wrap (((((u * 4294967296 + e1) / (yn * 4294967296 + ym)) : Nat) : Int) * (((yn * 4294967296 + ym) : Nat) : Int)))) (.int .u64 ((((u * 4294967296 + e1) / (yn * 4294967296 + ym)) * (yn * 4294967296 + ym) % 18446744073709551616 : Nat) : Int)) (fun w => by kernel_rfl) (int_eq (modMul (a := ((u * 4294967296 + e1) / (yn * 4294967296 + ym))) (b := (yn * 4294967296 + ym)))) (by kernel_rfl) ?_
      refine s_valE (some 93) (.int .u64 (IntKind.u64.wrap (((((u * 4294967296 % 18446744073709551616) + e1) % 18446744073709551616 : Nat) : Int) - ((((u * 4294967296 + e1) / (yn * 4294967296 + ym)) * (yn * 4294967296 + ym) % 18446744073709551616 : Nat) : Int)))) (.int .u64 ((((u * 4294967296 + e1) % (yn * 4294967296 + ym)) : Nat) : Int)) (fun w => by kernel_rfl) (int_eq ((modSub (a := ((u * 4294967296 % 18446744073709551616) + e1) % 18446744073709551616) (b := ((u * 4294967296 + e1) / (yn * 4294967296 + ym)) * (yn * 4294967296 + ym) % 18446744073709551616) (by omega)).trans (congrArg (fun n : Nat => (n : Int)) (left_mods (by omega) (by omega) rfl)))) (by kernel_rfl) ?_
      refine s_val (some 17) (.int .u64 ((((u * 4294967296 + e1) % (yn * 4294967296 + ym)) : Nat) : Int)) (fun w => by kernel_rfl) (by kernel_rfl) ?_
      refine s_nil ?_
      refine g_sreg [0, 1, 2, 3] (by kernel_rfl) (by kernel_rfl) ?_
      refine s_val (some 94) (.int .u64 ((((u * 4294967296 + e1) % (yn * 4294967296 + ym)) : Nat) : Int)) (fun w => by kernel_rfl) (by kernel_rfl) ?_
      refine s_val (some 95) (.int .u64 ((yn : Nat) : Int)) (fun w => by kernel_rfl) (by kernel_rfl) ?_
      refine s_opE (some 96) _ (.int .u64 (IntKind.u64.wrap (((((u * 4294967296 + e1) % (yn * 4294967296 + ym)) : Nat) : Int).tdiv ((yn : Nat) : Int)))) (.int .u64 ((((u * 4294967296 + e1) % (yn * 4294967296 + ym)) / yn : Nat) : Int)) (by kernel_rfl) (fun o w ho => quo_run (n := 0) (t := 22) (t' := 22) (x := (.tmp 94)) (y := (.tmp 95)) ((u * 4294967296 + e1) % (yn * 4294967296 + ym)) yn (by omega) w ho (by kernel_rfl) (by kernel_rfl)) (int_eq (quoN_u64 (a := ((u * 4294967296 + e1) % (yn * 4294967296 + ym))) (b := yn) (by omega))) (by kernel_rfl) ?_
      refine s_val (some 18) (.int .u64 ((((u * 4294967296 + e1) % (yn * 4294967296 + ym)) / yn : Nat) : Int)) (fun w => by kernel_rfl) (by kernel_rfl) ?_
      refine s_nil ?_
      refine g_sreg [0, 1, 2, 3, 4, 5] (by kernel_rfl) (by kernel_rfl) ?_
      refine s_val (some 97) (.int .u64 ((((u * 4294967296 + e1) % (yn * 4294967296 + ym)) : Nat) : Int)) (fun w => by kernel_rfl) (by kernel_rfl) ?_
      refine s_val (some 98) (.int .u64 ((((u * 4294967296 + e1) % (yn * 4294967296 + ym)) / yn : Nat) : Int)) (fun w => by kernel_rfl) (by kernel_rfl) ?_
      refine s_val (some 99) (.int .u64 ((yn : Nat) : Int)) (fun w => by kernel_rfl) (by kernel_rfl) ?_
      have hdl := Nat.div_mul_le_self ((u * 4294967296 + e1) % (yn * 4294967296 + ym)) yn
      refine s_valE (some 100) (.int .u64 (IntKind.u64.wrap (((((u * 4294967296 + e1) % (yn * 4294967296 + ym)) / yn : Nat) : Int) * ((yn : Nat) : Int)))) (.int .u64 (((((u * 4294967296 + e1) % (yn * 4294967296 + ym)) / yn) * yn : Nat) : Int)) (fun w => by kernel_rfl) (int_eq (wrapMul_u64 (a := ((u * 4294967296 + e1) % (yn * 4294967296 + ym)) / yn) (b := yn) (by omega))) (by kernel_rfl) ?_
      refine s_valE (some 101) (.int .u64 (IntKind.u64.wrap (((((u * 4294967296 + e1) % (yn * 4294967296 + ym)) : Nat) : Int) - (((((u * 4294967296 + e1) % (yn * 4294967296 + ym)) / yn) * yn : Nat) : Int)))) (.int .u64 ((((u * 4294967296 + e1) % (yn * 4294967296 + ym)) % yn : Nat) : Int)) (fun w => by kernel_rfl) (int_eq (by rw [wrapSub_u64 (a := ((u * 4294967296 + e1) % (yn * 4294967296 + ym))) (b := (((u * 4294967296 + e1) % (yn * 4294967296 + ym)) / yn) * yn) (by have := Nat.div_mul_le_self ((u * 4294967296 + e1) % (yn * 4294967296 + ym)) yn; omega)]; have := Nat.div_add_mod ((u * 4294967296 + e1) % (yn * 4294967296 + ym)) yn; rw [Nat.mul_comm] at this; congr 1; omega)) (by kernel_rfl) ?_
      refine s_val (some 16) (.int .u64 ((((u * 4294967296 + e1) % (yn * 4294967296 + ym)) % yn : Nat) : Int)) (fun w => by kernel_rfl) (by kernel_rfl) ?_
      refine s_nil ?_
      refine g_seq (by kernel_rfl) ?_
      refine g_block 2 (by kernel_rfl) ?_
      refine g_loop (by kernel_rfl) (fun m ρ ww => ∃ (q2 : Nat) (r2 : Nat), q2 = m ∧ (HalfI ((u * 4294967296 + e1) % (yn * 4294967296 + ym)) e0 yn ym (yn * 4294967296 + ym) q2 r2) ∧ (r2 < 4294967296) ∧ St w.heap.size w ww [] ∧ Is [(0, .int .u64 ((u : Nat) : Int)), (1, .int .u64 (((e1 * 4294967296 + e0) : Nat) : Int)), (2, .int .u64 (((yn * 4294967296 + ym) : Nat) : Int)), (6, .int .u64 0), (7, .int .u64 0), (8, .int .u64 0), (9, .int .u64 ((yn : Nat) : Int)), (10, .int .u64 ((ym : Nat) : Int)), (11, .int .u64 ((u : Nat) : Int)), (12, .int .u64 (((e1 * 4294967296 + e0) : Nat) : Int)), (13, .int .u64 ((e1 : Nat) : Int)), (14, .int .u64 ((e0 : Nat) : Int)), (15, .int .u64 ((((u * 4294967296 + e1) / (yn * 4294967296 + ym)) : Nat) : Int)), (16, .int .u64 ((r2 : Nat) : Int)), (17, .int .u64 ((((u * 4294967296 + e1) % (yn * 4294967296 + ym)) : Nat) : Int)), (18, .int .u64 ((q2 : Nat) : Int)), (20, .bool false), (24, .bool false), (27, .bool false), (78, .bool false)] ρ) (((u * 4294967296 + e1) % (yn * 4294967296 + ym)) / yn) ⟨(((u * 4294967296 + e1) % (yn * 4294967296 + ym)) / yn), (((u * 4294967296 + e1) % (yn * 4294967296 + ym)) % yn), rfl, (half_i rfl hym hn hu2 he0), (by have := Nat.mod_lt ((u * 4294967296 + e1) % (yn * 4294967296 + ym)) (show 0 < yn by omega); omega), H2, (Is.of ⟨(by kernel_rfl), (by kernel_rfl), (by kernel_rfl), (by kernel_rfl), (by kernel_rfl), (by kernel_rfl), (by kernel_rfl), (by kernel_rfl), (by kernel_rfl), (by kernel_rfl), (by kernel_rfl), (by kernel_rfl), (by kernel_rfl), (by kernel_rfl), (by kernel_rfl), (by kernel_rfl), (by kernel_rfl), (by kernel_rfl), (by kernel_rfl), (by kernel_rfl), trivial⟩)⟩ ?_
      clear H2
      rintro _ _ w5 ⟨q2, r2, rfl, hI2, hr2, H5, _, rfl⟩
      have hle2 := hI2.le; have heq2 := hI2.eq
      have hm2 : q2 < 4294967296 → q2 * ym ≤ 18446744065119617025 := fun h => Nat.mul_le_mul (show q2 ≤ 4294967295 by omega) (show ym ≤ 4294967295 by omega)
      refine g_seq (by kernel_rfl) ?_
      refine g_sreg [0, 1, 2, 3, 4, 5, 6, 7, 8, 9, 10, 11] (by kernel_rfl) (by kernel_rfl) ?_
      refine s_val (some 102) (.int .u64 ((q2 : Nat) : Int)) (fun w => by kernel_rfl) (by kernel_rfl) ?_
      by_cases hc13 : (q2 : Nat) ≥ 4294967296
      · skip
        refine s_valE (some 103) (.bool (decide (4294967296 ≤ ((q2 : Nat) : Int)))) (.bool true) (fun w => by kernel_rfl) (bool_eq (decide_eq_true (by omega))) (by kernel_rfl) ?_
        refine s_val (some 104) (.bool true) (fun w => by kernel_rfl) (by kernel_rfl) ?_
        refine s_not (some 105) (by kernel_rfl) (by kernel_rfl) ?_
        refine s_not (some 106) (by kernel_rfl) (by kernel_rfl) ?_
        refine s_not (some 107) (by kernel_rfl) (by kernel_rfl) ?_
        refine s_not (some 108) (by kernel_rfl) (by kernel_rfl) ?_
        refine s_not (some 109) (by kernel_rfl) (by kernel_rfl) ?_
        refine s_not (some 110) (by kernel_rfl) (by kernel_rfl) ?_
        refine s_not (some 111) (by kernel_rfl) (by kernel_rfl) ?_
        refine s_not (some 112) (by kernel_rfl) (by kernel_rfl) ?_
        refine s_val (some 113) (.bool true) (fun w => by kernel_rfl) (by kernel_rfl) ?_
        refine s_nil ?_
        refine g_cond_t (by kernel_rfl) (by kernel_rfl) ?_
        refine g_skip (by kernel_rfl) ?_
        show WP _ _ _ _ _ _
        refine g_block 3 (by kernel_rfl) ?_
        refine g_sreg [0, 1, 2] (by kernel_rfl) (by kernel_rfl) ?_
        have hH2 := hI2.high rfl hym hn hu2 he0 hr2 (by omega)
        have hH12 := hH2.1
        refine s_val (some 114) (.int .u64 ((q2 : Nat) : Int)) (fun w => by kernel_rfl) (by kernel_rfl) ?_
        refine s_valE (some 115) (.int .u64 (IntKind.u64.wrap (((q2 : Nat) : Int) - 1))) (.int .u64 ((q2 - 1 : Nat) : Int)) (fun w => by kernel_rfl) (int_eq (wrapSub_u64 (a := q2) (b := 1) (by omega))) (by kernel_rfl) ?_
        refine s_val (some 18) (.int .u64 ((q2 - 1 : Nat) : Int)) (fun w => by kernel_rfl) (by kernel_rfl) ?_
        refine s_nil ?_
        refine g_sreg [0, 1, 2, 3] (by kernel_rfl) (by kernel_rfl) ?_
        refine s_val (some 116) (.int .u64 ((r2 : Nat) : Int)) (fun w => by kernel_rfl) (by kernel_rfl) ?_
        refine s_val (some 117) (.int .u64 ((yn : Nat) : Int)) (fun w => by kernel_rfl) (by kernel_rfl) ?_
        refine s_valE (some 118) (.int .u64 (IntKind.u64.wrap (((r2 : Nat) : Int) + ((yn : Nat) : Int)))) (.int .u64 ((r2 + yn : Nat) : Int)) (fun w => by kernel_rfl) (int_eq (wrapAdd_u64 (a := r2) (b := yn) (by omega))) (by kernel_rfl) ?_
        refine s_val (some 16) (.int .u64 ((r2 + yn : Nat) : Int)) (fun w => by kernel_rfl) (by kernel_rfl) ?_
        refine s_nil ?_
        refine g_sreg [0, 1] (by kernel_rfl) (by kernel_rfl) ?_
        refine s_val (some 119) (.int .u64 ((r2 + yn : Nat) : Int)) (fun w => by kernel_rfl) (by kernel_rfl) ?_
        by_cases hc14 : (r2 + yn : Nat) ≥ 4294967296
        · skip
          refine s_valE (some 120) (.bool (decide (4294967296 ≤ ((r2 + yn : Nat) : Int)))) (.bool true) (fun w => by kernel_rfl) (bool_eq (decide_eq_true (by omega))) (by kernel_rfl) ?_
          refine s_nil ?_
          refine g_cond_t (by kernel_rfl) (by kernel_rfl) ?_
          refine g_exit 2 (by kernel_rfl) ?_
          show WP _ _ _ _ _ _
          refine g_sreg [0, 1, 2, 3, 4, 5, 6, 7, 8, 9, 10, 11, 12, 13, 14, 15] (by kernel_rfl) (by kernel_rfl) ?_
          have hQ2 := (hH2.2).right rfl hym hn hu2 he0 (by omega)
          have hQ2l : ((((u * 4294967296 + e1) % (yn * 4294967296 + ym)) * 4294967296 + e0) / (yn * 4294967296 + ym)) < 4294967296 := (Nat.div_lt_iff_lt_mul (show 0 < (yn * 4294967296 + ym) by omega)).2 (by omega)
          have hdm2 := Nat.div_add_mod (((u * 4294967296 + e1) % (yn * 4294967296 + ym)) * 4294967296 + e0) (yn * 4294967296 + ym); have hml2 := Nat.mod_lt (((u * 4294967296 + e1) % (yn * 4294967296 + ym)) * 4294967296 + e0) (show 0 < (yn * 4294967296 + ym) by omega)
          rw [show (((q2 - 1 : Nat) : Int)) = ((((((u * 4294967296 + e1) % (yn * 4294967296 + ym)) * 4294967296 + e0) / (yn * 4294967296 + ym)) : Nat) : Int) from by rw [← hQ2]]
          refine s_val (some 121) (.int .u64 ((((u * 4294967296 + e1) / (yn * 4294967296 + ym)) : Nat) : Int)) (fun w => by kernel_rfl) (by kernel_rfl) ?_
          refine s_valE (some 122) (.int .u64 (IntKind.u64.wrap (((((u * 4294967296 + e1) / (yn * 4294967296 + ym)) : Nat) : Int) * 4294967296))) (.int .u64 ((((u * 4294967296 + e1) / (yn * 4294967296 + ym)) * 4294967296 : Nat) : Int)) (fun w => by kernel_rfl) (int_eq (wrapMul_u64 (a := ((u * 4294967296 + e1) / (yn * 4294967296 + ym))) (b := 4294967296) (by omega))) (by kernel_rfl) ?_
          refine s_val (some 123) (.int .u64 ((((((u * 4294967296 + e1) % (yn * 4294967296 + ym)) * 4294967296 + e0) / (yn * 4294967296 + ym)) : Nat) : Int)) (fun w => by kernel_rfl) (by kernel_rfl) ?_
          refine s_valE (some 124) (.int .u64 (IntKind.u64.wrap (((((u * 4294967296 + e1) / (yn * 4294967296 + ym)) * 4294967296 : Nat) : Int) + ((((((u * 4294967296 + e1) % (yn * 4294967296 + ym)) * 4294967296 + e0) / (yn * 4294967296 + ym)) : Nat) : Int)))) (.int .u64 (((((u * 4294967296 + e1) / (yn * 4294967296 + ym)) * 4294967296) + ((((u * 4294967296 + e1) % (yn * 4294967296 + ym)) * 4294967296 + e0) / (yn * 4294967296 + ym)) : Nat) : Int)) (fun w => by kernel_rfl) (int_eq (wrapAdd_u64 (a := ((u * 4294967296 + e1) / (yn * 4294967296 + ym)) * 4294967296) (b := ((((u * 4294967296 + e1) % (yn * 4294967296 + ym)) * 4294967296 + e0) / (yn * 4294967296 + ym))) (by omega))) (by kernel_rfl) ?_
          refine s_val (some 125) (.int .u64 ((((u * 4294967296 + e1) % (yn * 4294967296 + ym)) : Nat) : Int)) (fun w => by kernel_rfl) (by kernel_rfl) ?_
          refine s_valE (some 126) (.int .u64 (IntKind.u64.wrap (((((u * 4294967296 + e1) % (yn * 4294967296 + ym)) : Nat) : Int) * 4294967296))) (.int .u64 ((((u * 4294967296 + e1) % (yn * 4294967296 + ym)) * 4294967296 % 18446744073709551616 : Nat) : Int)) (fun w => by kernel_rfl) (int_eq (modMul (a := ((u * 4294967296 + e1) % (yn * 4294967296 + ym))) (b := 4294967296))) (by kernel_rfl) ?_
          refine s_val (some 127) (.int .u64 ((e0 : Nat) : Int)) (fun w => by kernel_rfl) (by kernel_rfl) ?_
          refine s_valE (some 128) (.int .u64 (IntKind.u64.wrap (((((u * 4294967296 + e1) % (yn * 4294967296 + ym)) * 4294967296 % 18446744073709551616 : Nat) : Int) + ((e0 : Nat) : Int)))) (.int .u64 ((((((u * 4294967296 + e1) % (yn * 4294967296 + ym)) * 4294967296 % 18446744073709551616) + e0) % 18446744073709551616 : Nat) : Int)) (fun w => by kernel_rfl) (int_eq (modAdd (a := ((u * 4294967296 + e1) % (yn * 4294967296 + ym)) * 4294967296 % 18446744073709551616) (b := e0))) (by kernel_rfl) ?_
          refine s_val (some 129) (.int .u64 ((((((u * 4294967296 + e1) % (yn * 4294967296 + ym)) * 4294967296 + e0) / (yn * 4294967296 + ym)) : Nat) : Int)) (fun w => by kernel_rfl) (by kernel_rfl) ?_
          refine s_val (some 130) (.int .u64 (((yn * 4294967296 + ym) : Nat) : Int)) (fun w => by kernel_rfl) (by kernel_rfl) ?_
          refine s_valE (some 131) (.int .u64 (IntKind.u64.wrap (((((((u * 4294967296 + e1) % (yn * 4294967296 + ym)) * 4294967296 + e0) / (yn * 4294967296 + ym)) : Nat) : Int) * (((yn * 4294967296 + ym) : Nat) : Int)))) (.int .u64 ((((((u * 4294967296 + e1) % (yn * 4294967296 + ym)) * 4294967296 + e0) / (yn * 4294967296 + ym)) * (yn * 4294967296 + ym) % 18446744073709551616 : Nat) : Int)) (fun w => by kernel_rfl) (int_eq (modMul (a := ((((u * 4294967296 + e1) % (yn * 4294967296 + ym)) * 4294967296 + e0) / (yn * 4294967296 + ym))) (b := (yn * 4294967296 + ym)))) (by kernel_rfl) ?_
          refine s_valE (some 132) (.int .u64 (IntKind.u64.wrap (((((((u * 4294967296 + e1) % (yn * 4294967296 + ym)) * 4294967296 % 18446744073709551616) + e0) % 18446744073709551616 : Nat) : Int) - ((((((u * 4294967296 + e1) % (yn * 4294967296 + ym)) * 4294967296 + e0) / (yn * 4294967296 + ym)) * (yn * 4294967296 + ym) % 18446744073709551616 : Nat) : Int)))) (.int .u64 ((((((u * 4294967296 + e1) % (yn * 4294967296 + ym)) * 4294967296 + e0) % (yn * 4294967296 + ym)) : Nat) : Int)) (fun w => by kernel_rfl) (int_eq ((modSub (a := ((((u * 4294967296 + e1) % (yn * 4294967296 + ym)) * 4294967296 % 18446744073709551616) + e0) % 18446744073709551616) (b := ((((u * 4294967296 + e1) % (yn * 4294967296 + ym)) * 4294967296 + e0) / (yn * 4294967296 + ym)) * (yn * 4294967296 + ym) % 18446744073709551616) (by omega)).trans (congrArg (fun n : Nat => (n : Int)) (left_mods (by omega) (by omega) rfl)))) (by kernel_rfl) ?_
          refine s_val (some 133) (.int .u64 0) (fun w => by kernel_rfl) (by kernel_rfl) ?_
          have hRl : ((((u * 4294967296 + e1) % (yn * 4294967296 + ym)) * 4294967296 + e0) % (yn * 4294967296 + ym)) < 18446744073709551616 := Nat.lt_trans hml2 (show (yn * 4294967296 + ym) < 18446744073709551616 by clear hml2 hdm2 hQ2 hQ2l hdm hml hQ hQl; omega)
          refine s_valE (some 134) (.int .u64 (Int.fdiv (((((((u * 4294967296 + e1) % (yn * 4294967296 + ym)) * 4294967296 + e0) % (yn * 4294967296 + ym)) : Nat) : Int)) (2 ^ 0))) (.int .u64 ((((((u * 4294967296 + e1) % (yn * 4294967296 + ym)) * 4294967296 + e0) % (yn * 4294967296 + ym)) : Nat) : Int)) (fun w => by kernel_rfl) (int_eq (shr0 (a := ((((u * 4294967296 + e1) % (yn * 4294967296 + ym)) * 4294967296 + e0) % (yn * 4294967296 + ym))) hRl)) (by kernel_rfl) ?_
          refine s_val (some 6) (.int .u64 (((((u * 4294967296 + e1) / (yn * 4294967296 + ym)) * 4294967296) + ((((u * 4294967296 + e1) % (yn * 4294967296 + ym)) * 4294967296 + e0) / (yn * 4294967296 + ym)) : Nat) : Int)) (fun w => by kernel_rfl) (by kernel_rfl) ?_
          refine s_val (some 7) (.int .u64 ((((((u * 4294967296 + e1) % (yn * 4294967296 + ym)) * 4294967296 + e0) % (yn * 4294967296 + ym)) : Nat) : Int)) (fun w => by kernel_rfl) (by kernel_rfl) ?_
          refine s_nil ?_
          refine g_ret (by kernel_rfl) ?_
          show ∃ vs, Res _ _ _ _ vs ∧ _
          refine ⟨[.int .u64 (((((u * 4294967296 + e1) / (yn * 4294967296 + ym)) * 4294967296) + ((((u * 4294967296 + e1) % (yn * 4294967296 + ym)) * 4294967296 + e0) / (yn * 4294967296 + ym)) : Nat) : Int), .int .u64 ((((((u * 4294967296 + e1) % (yn * 4294967296 + ym)) * 4294967296 + e0) % (yn * 4294967296 + ym)) : Nat) : Int)], (.tmp (.int .u64 (((((u * 4294967296 + e1) / (yn * 4294967296 + ym)) * 4294967296) + ((((u * 4294967296 + e1) % (yn * 4294967296 + ym)) * 4294967296 + e0) / (yn * 4294967296 + ym)) : Nat) : Int)) (by kernel_rfl) (.tmp (.int .u64 ((((((u * 4294967296 + e1) % (yn * 4294967296 + ym)) * 4294967296 + e0) % (yn * 4294967296 + ym)) : Nat) : Int)) (by kernel_rfl) .nil)), ?_, H5.below⟩
          exact dv_q (halves (hi := u) (lo := (e1 * 4294967296 + e0)) (y := (yn * 4294967296 + ym)) (by omega) (by rw [show (e1 * 4294967296 + e0) / 4294967296 = e1 by omega]) (by rw [show (e1 * 4294967296 + e0) / 4294967296 = e1 by omega, show (e1 * 4294967296 + e0) % 4294967296 = e0 by omega])) (by rfl)
        · skip
          refine s_valE (some 120) (.bool (decide (4294967296 ≤ ((r2 + yn : Nat) : Int)))) (.bool false) (fun w => by kernel_rfl) (bool_eq (decide_eq_false (by omega))) (by kernel_rfl) ?_
          refine s_nil ?_
          refine g_cond_f (by kernel_rfl) (by kernel_rfl) ?_
          refine g_skip (by kernel_rfl) ?_
          show ∃ m, _ ∧ _
          exact ⟨_, (by have := hH2.1; omega), (q2 - 1), (r2 + yn), rfl, hH2.2, (by omega), H5, (Is.of ⟨(by kernel_rfl), (by kernel_rfl), (by kernel_rfl), (by kernel_rfl), (by kernel_rfl), (by kernel_rfl), (by kernel_rfl), (by kernel_rfl), (by kernel_rfl), (by kernel_rfl), (by kernel_rfl), (by kernel_rfl), (by kernel_rfl), (by kernel_rfl), (by kernel_rfl), (by kernel_rfl), (by kernel_rfl), (by kernel_rfl), (by kernel_rfl), (by kernel_rfl), trivial⟩)⟩
      · skip
        refine s_valE (some 103) (.bool (decide (4294967296 ≤ ((q2 : Nat) : Int)))) (.bool false) (fun w => by kernel_rfl) (bool_eq (decide_eq_false (by omega))) (by kernel_rfl) ?_
        refine s_val (some 104) (.bool false) (fun w => by kernel_rfl) (by kernel_rfl) ?_
        refine s_val (some 105) (.int .u64 ((q2 : Nat) : Int)) (fun w => by kernel_rfl) (by kernel_rfl) ?_
        refine s_val (some 106) (.int .u64 ((ym : Nat) : Int)) (fun w => by kernel_rfl) (by kernel_rfl) ?_
        refine s_valE (some 107) (.int .u64 (IntKind.u64.wrap (((q2 : Nat) : Int) * ((ym : Nat) : Int)))) (.int .u64 ((q2 * ym : Nat) : Int)) (fun w => by kernel_rfl) (int_eq (wrapMul_u64 (a := q2) (b := ym) (by omega))) (by kernel_rfl) ?_
        refine s_val (some 108) (.int .u64 ((r2 : Nat) : Int)) (fun w => by kernel_rfl) (by kernel_rfl) ?_
        refine s_valE (some 109) (.int .u64 (IntKind.u64.wrap (4294967296 * ((r2 : Nat) : Int)))) (.int .u64 ((4294967296 * r2 : Nat) : Int)) (fun w => by kernel_rfl) (int_eq (wrapMul_u64 (a := 4294967296) (b := r2) (by omega))) (by kernel_rfl) ?_
        refine s_val (some 110) (.int .u64 ((e0 : Nat) : Int)) (fun w => by kernel_rfl) (by kernel_rfl) ?_
        refine s_valE (some 111) (.int .u64 (IntKind.u64.wrap (((4294967296 * r2 : Nat) : Int) + ((e0 : Nat) : Int)))) (.int .u64 (((4294967296 * r2) + e0 : Nat) : Int)) (fun w => by kernel_rfl) (int_eq (wrapAdd_u64 (a := 4294967296 * r2) (b := e0) (by omega))) (by kernel_rfl) ?_
        by_cases hc15 : (q2 * ym : Nat) > (4294967296 * r2) + e0
        · skip
          refine s_valE (some 112) (.bool (decide ((((4294967296 * r2) + e0 : Nat) : Int) < ((q2 * ym : Nat) : Int)))) (.bool true) (fun w => by kernel_rfl) (bool_eq (decide_eq_true (by omega))) (by kernel_rfl) ?_
          refine s_val (some 113) (.bool true) (fun w => by kernel_rfl) (by kernel_rfl) ?_
          refine s_nil ?_
          refine g_cond_t (by kernel_rfl) (by kernel_rfl) ?_
          refine g_skip (by kernel_rfl) ?_
          show WP _ _ _ _ _ _
          refine g_block 3 (by kernel_rfl) ?_
          refine g_sreg [0, 1, 2] (by kernel_rfl) (by kernel_rfl) ?_
          have hH2 := hI2.high rfl hym hn hu2 he0 hr2 (by omega)
          have hH12 := hH2.1
          refine s_val (some 114) (.int .u64 ((q2 : Nat) : Int)) (fun w => by kernel_rfl) (by kernel_rfl) ?_
          refine s_valE (some 115) (.int .u64 (IntKind.u64.wrap (((q2 : Nat) : Int) - 1))) (.int .u64 ((q2 - 1 : Nat) : Int)) (fun w => by kernel_rfl) (int_eq (wrapSub_u64 (a := q2) (b := 1) (by omega))) (by kernel_rfl) ?_
          refine s_val (some 18) (.int .u64 ((q2 - 1 : Nat) : Int)) (fun w => by kernel_rfl) (by kernel_rfl) ?_
          refine s_nil ?_
          refine g_sreg [0, 1, 2, 3] (by kernel_rfl) (by kernel_rfl) ?_
          refine s_val (some 116) (.int .u64 ((r2 : Nat) : Int)) (fun w => by kernel_rfl) (by kernel_rfl) ?_
          refine s_val (some 117) (.int .u64 ((yn : Nat) : Int)) (fun w => by kernel_rfl) (by kernel_rfl) ?_
          refine s_valE (some 118) (.int .u64 (IntKind.u64.wrap (((r2 : Nat) : Int) + ((yn : Nat) : Int)))) (.int .u64 ((r2 + yn : Nat) : Int)) (fun w => by kernel_rfl) (int_eq (wrapAdd_u64 (a := r2) (b := yn) (by omega))) (by kernel_rfl) ?_
          refine s_val (some 16) (.int .u64 ((r2 + yn : Nat) : Int)) (fun w => by kernel_rfl) (by kernel_rfl) ?_
          refine s_nil ?_
          refine g_sreg [0, 1] (by kernel_rfl) (by kernel_rfl) ?_
          refine s_val (some 119) (.int .u64 ((r2 + yn : Nat) : Int)) (fun w => by kernel_rfl) (by kernel_rfl) ?_
          by_cases hc16 : (r2 + yn : Nat) ≥ 4294967296
          · skip
            refine s_valE (some 120) (.bool (decide (4294967296 ≤ ((r2 + yn : Nat) : Int)))) (.bool true) (fun w => by kernel_rfl) (bool_eq (decide_eq_true (by omega))) (by kernel_rfl) ?_
            refine s_nil ?_
            refine g_cond_t (by kernel_rfl) (by kernel_rfl) ?_
            refine g_exit 2 (by kernel_rfl) ?_
            show WP _ _ _ _ _ _
            refine g_sreg [0, 1, 2, 3, 4, 5, 6, 7, 8, 9, 10, 11, 12, 13, 14, 15] (by kernel_rfl) (by kernel_rfl) ?_
            have hQ2 := (hH2.2).right rfl hym hn hu2 he0 (by omega)
            have hQ2l : ((((u * 4294967296 + e1) % (yn * 4294967296 + ym)) * 4294967296 + e0) / (yn * 4294967296 + ym)) < 4294967296 := (Nat.div_lt_iff_lt_mul (show 0 < (yn * 4294967296 + ym) by omega)).2 (by omega)
            have hdm2 := Nat.div_add_mod (((u * 4294967296 + e1) % (yn * 4294967296 + ym)) * 4294967296 + e0) (yn * 4294967296 + ym); have hml2 := Nat.mod_lt (((u * 4294967296 + e1) % (yn * 4294967296 + ym)) * 4294967296 + e0) (show 0 < (yn * 4294967296 + ym) by omega)
            rw [show (((q2 - 1 : Nat) : Int)) = ((((((u * 4294967296 + e1) % (yn * 4294967296 + ym)) * 4294967296 + e0) / (yn * 4294967296 + ym)) : Nat) : Int) from by rw [← hQ2]]
            refine s_val (some 121) (.int .u64 ((((u * 4294967296 + e1) / (yn * 4294967296 + ym)) : Nat) : Int)) (fun w => by kernel_rfl) (by kernel_rfl) ?_
            refine s_valE (some 122) (.int .u64 (IntKind.u64.wrap (((((u * 4294967296 + e1) / (yn * 4294967296 + ym)) : Nat) : Int) * 4294967296))) (.int .u64 ((((u * 4294967296 + e1) / (yn * 4294967296 + ym)) * 4294967296 : Nat) : Int)) (fun w => by kernel_rfl) (int_eq (wrapMul_u64 (a := ((u * 4294967296 + e1) / (yn * 4294967296 + ym))) (b := 4294967296) (by omega))) (by kernel_rfl) ?_
            refine s_val (some 123) (.int .u64 ((((((u * 4294967296 + e1) % (yn * 4294967296 + ym)) * 4294967296 + e0) / (yn * 4294967296 + ym)) : Nat) : Int)) (fun w => by kernel_rfl) (by kernel_rfl) ?_
            refine s_valE (some 124) (.int .u64 (IntKind.u64.wrap (((((u * 4294967296 + e1) / (yn * 4294967296 + ym)) * 4294967296 : Nat) : Int) + ((((((u * 4294967296 + e1) % (yn * 4294967296 + ym)) * 4294967296 + e0) / (yn * 4294967296 + ym)) : Nat) : Int)))) (.int .u64 (((((u * 4294967296 + e1) / (yn * 4294967296 + ym)) * 4294967296) + ((((u * 4294967296 + e1) % (yn * 4294967296 + ym)) * 4294967296 + e0) / (yn * 4294967296 + ym)) : Nat) : Int)) (fun w => by kernel_rfl) (int_eq (wrapAdd_u64 (a := ((u * 4294967296 + e1) / (yn * 4294967296 + ym)) * 4294967296) (b := ((((u * 4294967296 + e1) % (yn * 4294967296 + ym)) * 4294967296 + e0) / (yn * 4294967296 + ym))) (by omega))) (by kernel_rfl) ?_
            refine s_val (some 125) (.int .u64 ((((u * 4294967296 + e1) % (yn * 4294967296 + ym)) : Nat) : Int)) (fun w => by kernel_rfl) (by kernel_rfl) ?_
            refine s_valE (some 126) (.int .u64 (IntKind.u64.wrap (((((u * 4294967296 + e1) % (yn * 4294967296 + ym)) : Nat) : Int) * 4294967296))) (.int .u64 ((((u * 4294967296 + e1) % (yn * 4294967296 + ym)) * 4294967296 % 18446744073709551616 : Nat) : Int)) (fun w => by kernel_rfl) (int_eq (modMul (a := ((u * 4294967296 + e1) % (yn * 4294967296 + ym))) (b := 4294967296))) (by kernel_rfl) ?_
            refine s_val (some 127) (.int .u64 ((e0 : Nat) : Int)) (fun w => by kernel_rfl) (by kernel_rfl) ?_
            refine s_valE (some 128) (.int .u64 (IntKind.u64.wrap (((((u * 4294967296 + e1) % (yn * 4294967296 + ym)) * 4294967296 % 18446744073709551616 : Nat) : Int) + ((e0 : Nat) : Int)))) (.int .u64 ((((((u * 4294967296 + e1) % (yn * 4294967296 + ym)) * 4294967296 % 18446744073709551616) + e0) % 18446744073709551616 : Nat) : Int)) (fun w => by kernel_rfl) (int_eq (modAdd (a := ((u * 4294967296 + e1) % (yn * 4294967296 + ym)) * 4294967296 % 18446744073709551616) (b := e0))) (by kernel_rfl) ?_
            refine s_val (some 129) (.int .u64 ((((((u * 4294967296 + e1) % (yn * 4294967296 + ym)) * 4294967296 + e0) / (yn * 4294967296 + ym)) : Nat) : Int)) (fun w => by kernel_rfl) (by kernel_rfl) ?_
            refine s_val (some 130) (.int .u64 (((yn * 4294967296 + ym) : Nat) : Int)) (fun w => by kernel_rfl) (by kernel_rfl) ?_
            refine s_valE (some 131) (.int .u64 (IntKind.u64.wrap (((((((u * 4294967296 + e1) % (yn * 4294967296 + ym)) * 4294967296 + e0) / (yn * 4294967296 + ym)) : Nat) : Int) * (((yn * 4294967296 + ym) : Nat) : Int)))) (.int .u64 ((((((u * 4294967296 + e1) % (yn * 4294967296 + ym)) * 4294967296 + e0) / (yn * 4294967296 + ym)) * (yn * 4294967296 + ym) % 18446744073709551616 : Nat) : Int)) (fun w => by kernel_rfl) (int_eq (modMul (a := ((((u * 4294967296 + e1) % (yn * 4294967296 + ym)) * 4294967296 + e0) / (yn * 4294967296 + ym))) (b := (yn * 4294967296 + ym)))) (by kernel_rfl) ?_
            refine s_valE (some 132) (.int .u64 (IntKind.u64.wrap (((((((u * 4294967296 + e1) % (yn * 4294967296 + ym)) * 4294967296 % 18446744073709551616) + e0) % 18446744073709551616 : Nat) : Int) - ((((((u * 4294967296 + e1) % (yn * 4294967296 + ym)) * 4294967296 + e0) / (yn * 4294967296 + ym)) * (yn * 4294967296 + ym) % 18446744073709551616 : Nat) : Int)))) (.int .u64 ((((((u * 4294967296 + e1) % (yn * 4294967296 + ym)) * 4294967296 + e0) % (yn * 4294967296 + ym)) : Nat) : Int)) (fun w => by kernel_rfl) (int_eq ((modSub (a := ((((u * 4294967296 + e1) % (yn * 4294967296 + ym)) * 4294967296 % 18446744073709551616) + e0) % 18446744073709551616) (b := ((((u * 4294967296 + e1) % (yn * 4294967296 + ym)) * 4294967296 + e0) / (yn * 4294967296 + ym)) * (yn * 4294967296 + ym) % 18446744073709551616) (by omega)).trans (congrArg (fun n : Nat => (n : Int)) (left_mods (by omega) (by omega) rfl)))) (by kernel_rfl) ?_
            refine s_val (some 133) (.int .u64 0) (fun w => by kernel_rfl) (by kernel_rfl) ?_
            have hRl : ((((u * 4294967296 + e1) % (yn * 4294967296 + ym)) * 4294967296 + e0) % (yn * 4294967296 + ym)) < 18446744073709551616 := Nat.lt_trans hml2 (show (yn * 4294967296 + ym) < 18446744073709551616 by clear hml2 hdm2 hQ2 hQ2l hdm hml hQ hQl; omega)
            refine s_valE (some 134) (.int .u64 (Int.fdiv (((((((u * 4294967296 + e1) % (yn * 4294967296 + ym)) * 4294967296 + e0) % (yn * 4294967296 + ym)) : Nat) : Int)) (2 ^ 0))) (.int .u64 ((((((u * 4294967296 + e1) % (yn * 4294967296 + ym)) * 4294967296 + e0) % (yn * 4294967296 + ym)) : Nat) : Int)) (fun w => by kernel_rfl) (int_eq (shr0 (a := ((((u * 4294967296 + e1) % (yn * 4294967296 + ym)) * 4294967296 + e0) % (yn * 4294967296 + ym))) hRl)) (by kernel_rfl) ?_
            refine s_val (some 6) (.int .u64 (((((u * 4294967296 + e1) / (yn * 4294967296 + ym)) * 4294967296) + ((((u * 4294967296 + e1) % (yn * 4294967296 + ym)) * 4294967296 + e0) / (yn * 4294967296 + ym)) : Nat) : Int)) (fun w => by kernel_rfl) (by kernel_rfl) ?_
            refine s_val (some 7) (.int .u64 ((((((u * 4294967296 + e1) % (yn * 4294967296 + ym)) * 4294967296 + e0) % (yn * 4294967296 + ym)) : Nat) : Int)) (fun w => by kernel_rfl) (by kernel_rfl) ?_
            refine s_nil ?_
            refine g_ret (by kernel_rfl) ?_
            show ∃ vs, Res _ _ _ _ vs ∧ _
            refine ⟨[.int .u64 (((((u * 4294967296 + e1) / (yn * 4294967296 + ym)) * 4294967296) + ((((u * 4294967296 + e1) % (yn * 4294967296 + ym)) * 4294967296 + e0) / (yn * 4294967296 + ym)) : Nat) : Int), .int .u64 ((((((u * 4294967296 + e1) % (yn * 4294967296 + ym)) * 4294967296 + e0) % (yn * 4294967296 + ym)) : Nat) : Int)], (.tmp (.int .u64 (((((u * 4294967296 + e1) / (yn * 4294967296 + ym)) * 4294967296) + ((((u * 4294967296 + e1) % (yn * 4294967296 + ym)) * 4294967296 + e0) / (yn * 4294967296 + ym)) : Nat) : Int)) (by kernel_rfl) (.tmp (.int .u64 ((((((u * 4294967296 + e1) % (yn * 4294967296 + ym)) * 4294967296 + e0) % (yn * 4294967296 + ym)) : Nat) : Int)) (by kernel_rfl) .nil)), ?_, H5.below⟩
            exact dv_q (halves (hi := u) (lo := (e1 * 4294967296 + e0)) (y := (yn * 4294967296 + ym)) (by omega) (by rw [show (e1 * 4294967296 + e0) / 4294967296 = e1 by omega]) (by rw [show (e1 * 4294967296 + e0) / 4294967296 = e1 by omega, show (e1 * 4294967296 + e0) % 4294967296 = e0 by omega])) (by rfl)
          · skip
            refine s_valE (some 120) (.bool (decide (4294967296 ≤ ((r2 + yn : Nat) : Int)))) (.bool false) (fun w => by kernel_rfl) (bool_eq (decide_eq_false (by omega))) (by kernel_rfl) ?_
            refine s_nil ?_
            refine g_cond_f (by kernel_rfl) (by kernel_rfl) ?_
            refine g_skip (by kernel_rfl) ?_
            show ∃ m, _ ∧ _
            exact ⟨_, (by have := hH2.1; omega), (q2 - 1), (r2 + yn), rfl, hH2.2, (by omega), H5, (Is.of ⟨(by kernel_rfl), (by kernel_rfl), (by kernel_rfl), (by kernel_rfl), (by kernel_rfl), (by kernel_rfl), (by kernel_rfl), (by kernel_rfl), (by kernel_rfl), (by kernel_rfl), (by kernel_rfl), (by kernel_rfl), (by kernel_rfl), (by kernel_rfl), (by kernel_rfl), (by kernel_rfl), (by kernel_rfl), (by kernel_rfl), (by kernel_rfl), (by kernel_rfl), trivial⟩)⟩
        · skip
          refine s_valE (some 112) (.bool (decide ((((4294967296 * r2) + e0 : Nat) : Int) < ((q2 * ym : Nat) : Int)))) (.bool false) (fun w => by kernel_rfl) (bool_eq (decide_eq_false (by omega))) (by kernel_rfl) ?_
          refine s_val (some 113) (.bool false) (fun w => by kernel_rfl) (by kernel_rfl) ?_
          refine s_nil ?_
          refine g_cond_f (by kernel_rfl) (by kernel_rfl) ?_
          refine g_exit 2 (by kernel_rfl) ?_
          show WP _ _ _ _ _ _
          refine g_sreg [0, 1, 2, 3, 4, 5, 6, 7, 8, 9, 10, 11, 12, 13, 14, 15] (by kernel_rfl) (by kernel_rfl) ?_
          have hQ2 := (hI2).right rfl hym hn hu2 he0 (by omega)
          have hQ2l : ((((u * 4294967296 + e1) % (yn * 4294967296 + ym)) * 4294967296 + e0) / (yn * 4294967296 + ym)) < 4294967296 := (Nat.div_lt_iff_lt_mul (show 0 < (yn * 4294967296 + ym) by omega)).2 (by omega)
          have hdm2 := Nat.div_add_mod (((u * 4294967296 + e1) % (yn * 4294967296 + ym)) * 4294967296 + e0) (yn * 4294967296 + ym); have hml2 := Nat.mod_lt (((u * 4294967296 + e1) % (yn * 4294967296 + ym)) * 4294967296 + e0) (show 0 < (yn * 4294967296 + ym) by omega)
          rw [show (((q2 : Nat) : Int)) = ((((((u * 4294967296 + e1) % (yn * 4294967296 + ym)) * 4294967296 + e0) / (yn * 4294967296 + ym)) : Nat) : Int) from by rw [← hQ2]]
          refine s_val (some 121) (.int .u64 ((((u * 4294967296 + e1) / (yn * 4294967296 + ym)) : Nat) : Int)) (fun w => by kernel_rfl) (by kernel_rfl) ?_
          refine s_valE (some 122) (.int .u64 (IntKind.u64.wrap (((((u * 4294967296 + e1) / (yn * 4294967296 + ym)) : Nat) : Int) * 4294967296))) (.int .u64 ((((u * 4294967296 + e1) / (yn * 4294967296 + ym)) * 4294967296 : Nat) : Int)) (fun w => by kernel_rfl) (int_eq (wrapMul_u64 (a := ((u * 4294967296 + e1) / (yn * 4294967296 + ym))) (b := 4294967296) (by omega))) (by kernel_rfl) ?_
          refine s_val (some 123) (.int .u64 ((((((u * 4294967296 + e1) % (yn * 4294967296 + ym)) * 4294967296 + e0) / (yn * 4294967296 + ym)) : Nat) : Int)) (fun w => by kernel_rfl) (by kernel_rfl) ?_
          refine s_valE (some 124) (.int .u64 (IntKind.u64.wrap (((((u * 4294967296 + e1) / (yn * 4294967296 + ym)) * 4294967296 : Nat) : Int) + ((((((u * 4294967296 + e1) % (yn * 4294967296 + ym)) * 4294967296 + e0) / (yn * 4294967296 + ym)) : Nat) : Int)))) (.int .u64 (((((u * 4294967296 + e1) / (yn * 4294967296 + ym)) * 4294967296) + ((((u * 4294967296 + e1) % (yn * 4294967296 + ym)) * 4294967296 + e0) / (yn * 4294967296 + ym)) : Nat) : Int)) (fun w => by kernel_rfl) (int_eq (wrapAdd_u64 (a := ((u * 4294967296 + e1) / (yn * 4294967296 + ym)) * 4294967296) (b := ((((u * 4294967296 + e1) % (yn * 4294967296 + ym)) * 4294967296 + e0) / (yn * 4294967296 + ym))) (by omega))) (by kernel_rfl) ?_
          refine s_val (some 125) (.int .u64 ((((u * 4294967296 + e1) % (yn * 4294967296 + ym)) : Nat) : Int)) (fun w => by kernel_rfl) (by kernel_rfl) ?_
          refine s_valE (some 126) (.int .u64 (IntKind.u64.wrap (((((u * 4294967296 + e1) % (yn * 4294967296 + ym)) : Nat) : Int) * 4294967296))) (.int .u64 ((((u * 4294967296 + e1) % (yn * 4294967296 + ym)) * 4294967296 % 18446744073709551616 : Nat) : Int)) (fun w => by kernel_rfl) (int_eq (modMul (a := ((u * 4294967296 + e1) % (yn * 4294967296 + ym))) (b := 4294967296))) (by kernel_rfl) ?_
          refine s_val (some 127) (.int .u64 ((e0 : Nat) : Int)) (fun w => by kernel_rfl) (by kernel_rfl) ?_
          refine s_valE (some 128) (.int .u64 (IntKind.u64.wrap (((((u * 4294967296 + e1) % (yn * 4294967296 + ym)) * 4294967296 % 18446744073709551616 : Nat) : Int) + ((e0 : Nat) : Int)))) (.int .u64 ((((((u * 4294967296 + e1) % (yn * 4294967296 + ym)) * 4294967296 % 18446744073709551616) + e0) % 18446744073709551616 : Nat) : Int)) (fun w => by kernel_rfl) (int_eq (modAdd (a := ((u * 4294967296 + e1) % (yn * 4294967296 + ym)) * 4294967296 % 18446744073709551616) (b := e0))) (by kernel_rfl) ?_
          refine s_val (some 129) (.int .u64 ((((((u * 4294967296 + e1) % (yn * 4294967296 + ym)) * 4294967296 + e0) / (yn * 4294967296 + ym)) : Nat) : Int)) (fun w => by kernel_rfl) (by kernel_rfl) ?_
          refine s_val (some 130) (.int .u64 (((yn * 4294967296 + ym) : Nat) : Int)) (fun w => by kernel_rfl) (by kernel_rfl) ?_
          refine s_valE (some 131) (.int .u64 (IntKind.u64.wrap (((((((u * 4294967296 + e1) % (yn * 4294967296 + ym)) * 4294967296 + e0) / (yn * 4294967296 + ym)) : Nat) : Int) * (((yn * 4294967296 + ym) : Nat) : Int)))) (.int .u64 ((((((u * 4294967296 + e1) % (yn * 4294967296 + ym)) * 4294967296 + e0) / (yn * 4294967296 + ym)) * (yn * 4294967296 + ym) % 18446744073709551616 : Nat) : Int)) (fun w => by kernel_rfl) (int_eq (modMul (a := ((((u * 4294967296 + e1) % (yn * 4294967296 + ym)) * 4294967296 + e0) / (yn * 4294967296 + ym))) (b := (yn * 4294967296 + ym)))) (by kernel_rfl) ?_
          refine s_valE (some 132) (.int .u64 (IntKind.u64.wrap (((((((u * 4294967296 + e1) % (yn * 4294967296 + ym)) * 4294967296 % 18446744073709551616) + e0) % 18446744073709551616 : Nat) : Int) - ((((((u * 4294967296 + e1) % (yn * 4294967296 + ym)) * 4294967296 + e0) / (yn * 4294967296 + ym)) * (yn * 4294967296 + ym) % 18446744073709551616 : Nat) : Int)))) (.int .u64 ((((((u * 4294967296 + e1) % (yn * 4294967296 + ym)) * 4294967296 + e0) % (yn * 4294967296 + ym)) : Nat) : Int)) (fun w => by kernel_rfl) (int_eq ((modSub (a := ((((u * 4294967296 + e1) % (yn * 4294967296 + ym)) * 4294967296 % 18446744073709551616) + e0) % 18446744073709551616) (b := ((((u * 4294967296 + e1) % (yn * 4294967296 + ym)) * 4294967296 + e0) / (yn * 4294967296 + ym)) * (yn * 4294967296 + ym) % 18446744073709551616) (by omega)).trans (congrArg (fun n : Nat => (n : Int)) (left_mods (by omega) (by omega) rfl)))) (by kernel_rfl) ?_
          refine s_val (some 133) (.int .u64 0) (fun w => by kernel_rfl) (by kernel_rfl) ?_
          have hRl : ((((u * 4294967296 + e1) % (yn * 4294967296 + ym)) * 4294967296 + e0) % (yn * 4294967296 + ym)) < 18446744073709551616 := Nat.lt_trans hml2 (show (yn * 4294967296 + ym) < 18446744073709551616 by clear hml2 hdm2 hQ2 hQ2l hdm hml hQ hQl; omega)
          refine s_valE (some 134) (.int .u64 (Int.fdiv (((((((u * 4294967296 + e1) % (yn * 4294967296 + ym)) * 4294967296 + e0) % (yn * 4294967296 + ym)) : Nat) : Int)) (2 ^ 0))) (.int .u64 ((((((u * 4294967296 + e1) % (yn * 4294967296 + ym)) * 4294967296 + e0) % (yn * 4294967296 + ym)) : Nat) : Int)) (fun w => by kernel_rfl) (int_eq (shr0 (a := ((((u * 4294967296 + e1) % (yn * 4294967296 + ym)) * 4294967296 + e0) % (yn * 4294967296 + ym))) hRl)) (by kernel_rfl) ?_
          refine s_val (some 6) (.int .u64 (((((u * 4294967296 + e1) / (yn * 4294967296 + ym)) * 4294967296) + ((((u * 4294967296 + e1) % (yn * 4294967296 + ym)) * 4294967296 + e0) / (yn * 4294967296 + ym)) : Nat) : Int)) (fun w => by kernel_rfl) (by kernel_rfl) ?_
          refine s_val (some 7) (.int .u64 ((((((u * 4294967296 + e1) % (yn * 4294967296 + ym)) * 4294967296 + e0) % (yn * 4294967296 + ym)) : Nat) : Int)) (fun w => by kernel_rfl) (by kernel_rfl) ?_
          refine s_nil ?_
          refine g_ret (by kernel_rfl) ?_
          show ∃ vs, Res _ _ _ _ vs ∧ _
          refine ⟨[.int .u64 (((((u * 4294967296 + e1) / (yn * 4294967296 + ym)) * 4294967296) + ((((u * 4294967296 + e1) % (yn * 4294967296 + ym)) * 4294967296 + e0) / (yn * 4294967296 + ym)) : Nat) : Int), .int .u64 ((((((u * 4294967296 + e1) % (yn * 4294967296 + ym)) * 4294967296 + e0) % (yn * 4294967296 + ym)) : Nat) : Int)], (.tmp (.int .u64 (((((u * 4294967296 + e1) / (yn * 4294967296 + ym)) * 4294967296) + ((((u * 4294967296 + e1) % (yn * 4294967296 + ym)) * 4294967296 + e0) / (yn * 4294967296 + ym)) : Nat) : Int)) (by kernel_rfl) (.tmp (.int .u64 ((((((u * 4294967296 + e1) % (yn * 4294967296 + ym)) * 4294967296 + e0) % (yn * 4294967296 + ym)) : Nat) : Int)) (by kernel_rfl) .nil)), ?_, H5.below⟩
          exact dv_q (halves (hi := u) (lo := (e1 * 4294967296 + e0)) (y := (yn * 4294967296 + ym)) (by omega) (by rw [show (e1 * 4294967296 + e0) / 4294967296 = e1 by omega]) (by rw [show (e1 * 4294967296 + e0) / 4294967296 = e1 by omega, show (e1 * 4294967296 + e0) % 4294967296 = e0 by omega])) (by rfl)
end Go.Proofs.Ythomanpefekaaaa
