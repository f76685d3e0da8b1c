/-
  power and lower.
-/
import Derived.Test.YthomanpefekaaaaDivM
import Derived.Test.YthomanpefekaaaaGuess
namespace Go.Proofs.Ythomanpefekaaaa
open Go Go.RowKit
set_option linter.unusedVariables false
theorem w_sh (A q p j : Nat) : A / 2 ^ (64 * q + p) / 2 ^ (64 * j) = A / 2 ^ (64 * (q + j)) / 2 ^ p := by
  rw [Nat.div_div_eq_div_mul, Nat.div_div_eq_div_mul, ← Nat.pow_add, ← Nat.pow_add]; congr 2; omega
theorem join_words {a b p : Nat} (ha : a < 2 ^ 64) (hp : p < 64) : (0 ||| a / 2 ^ p) ||| (b * 2 ^ (64 - p) % 2 ^ 64) = (a + 2 ^ 64 * b) / 2 ^ p % 2 ^ 64 := by
  have hpp : (2 : Nat) ^ 64 = 2 ^ p * 2 ^ (64 - p) := by rw [← Nat.pow_add]; congr 1; omega
  have h0 : 0 < 2 ^ p := Nat.two_pow_pos p
  have ha2 : a / 2 ^ p < 2 ^ (64 - p) := (Nat.div_lt_iff_lt_mul h0).2 (by rw [Nat.mul_comm, ← hpp]; exact ha)
  have hb : b * 2 ^ (64 - p) % 2 ^ 64 = 2 ^ (64 - p) * (b % 2 ^ p) := by
    rw [hpp, Nat.mul_comm (2 ^ p), Nat.mul_comm b, Nat.mul_mod_mul_left]
  have hs : (a + 2 ^ 64 * b) / 2 ^ p = a / 2 ^ p + 2 ^ (64 - p) * b := by
    conv => lhs; rw [hpp, Nat.mul_assoc]
    rw [Nat.add_mul_div_left _ _ h0]
  have hm : (a / 2 ^ p + 2 ^ (64 - p) * b) % 2 ^ 64 = a / 2 ^ p + 2 ^ (64 - p) * (b % 2 ^ p) := by
    have h1 : 2 ^ (64 - p) * b = 2 ^ (64 - p) * (b % 2 ^ p) + 2 ^ 64 * (b / 2 ^ p) := by
      conv => lhs; rw [← Nat.mod_add_div b (2 ^ p), Nat.mul_add, ← Nat.mul_assoc, Nat.mul_comm (2 ^ (64 - p)) (2 ^ p), ← hpp]
    rw [h1, ← Nat.add_assoc, Nat.add_mul_mod_self_left]
    apply Nat.mod_eq_of_lt
    have h2 : b % 2 ^ p + 1 ≤ 2 ^ p := Nat.mod_lt _ h0
    have h3 := Nat.mul_le_mul_left (2 ^ (64 - p)) h2
    rw [Nat.mul_add, Nat.mul_one, Nat.mul_comm (2 ^ (64 - p)) (2 ^ p), ← hpp] at h3
    omega
  rw [Nat.zero_or, hb, hs, hm, Nat.or_comm, Nat.add_comm]
  exact (Nat.two_pow_add_eq_or_of_lt ha2 _).symm
theorem low128 (Y p : Nat) (hp : p < 64) : Y / 2 ^ p % 2 ^ 64 = (Y % 2 ^ 64 + 2 ^ 64 * (Y / 2 ^ 64 % 2 ^ 64)) / 2 ^ p % 2 ^ 64 := by
  have h1 : Y % 2 ^ 64 + 2 ^ 64 * (Y / 2 ^ 64 % 2 ^ 64) = Y % 2 ^ 128 := by
    rw [show (2 : Nat) ^ 128 = 2 ^ 64 * 2 ^ 64 from rfl, Nat.mod_mul]
  have h2 : (2 : Nat) ^ 128 = 2 ^ p * 2 ^ (128 - p) := by rw [← Nat.pow_add]; congr 1; omega
  rw [h1, h2, Nat.mod_mul_right_div_self, Nat.mod_mod_of_dvd _ (Nat.pow_dvd_pow 2 (by omega))]
theorem word_join (Y p : Nat) (hp : p < 64) : (0 ||| Y % 2 ^ 64 / 2 ^ p) ||| (Y / 2 ^ 64 % 2 ^ 64 * 2 ^ (64 - p) % 2 ^ 64) = Y / 2 ^ p % 2 ^ 64 := by
  rw [join_words (Nat.mod_lt _ (by omega)) hp, low128 Y p hp]
theorem word_last (Y p : Nat) (hY : Y < 2 ^ 64) : (0 ||| Y % 2 ^ 64 / 2 ^ p) = Y / 2 ^ p % 2 ^ 64 := by
  rw [Nat.zero_or, Nat.mod_eq_of_lt hY, Nat.mod_eq_of_lt (Nat.lt_of_le_of_lt (Nat.div_le_self _ _) hY)]
theorem uv_of {N s0 s1 s2 s3 : Nat} (h0 : s0 = N / 2 ^ (64 * 0) % 2 ^ 64) (h1 : s1 = N / 2 ^ (64 * 1) % 2 ^ 64) (h2 : s2 = N / 2 ^ (64 * 2) % 2 ^ 64) (h3 : s3 = N / 2 ^ (64 * 3) % 2 ^ 64) :
    pack [.agg #[.int .u64 ((s0 : Nat) : Int), .int .u64 ((s1 : Nat) : Int), .int .u64 ((s2 : Nat) : Int), .int .u64 ((s3 : Nat) : Int)]] = uv N := by
  have e0 : w0 N = ((s0 : Nat) : Int) := by rw [h0]; unfold w0; rw [Nat.mul_zero, Nat.pow_zero, Nat.div_one]
  have e1 : w1 N = ((s1 : Nat) : Int) := by rw [h1]; rfl
  have e2 : w2 N = ((s2 : Nat) : Int) := by rw [h2]; rfl
  have e3 : w3 N = ((s3 : Nat) : Int) := by rw [h3]; rfl
  show Value.agg _ = _
  unfold uv; rw [e0, e1, e2, e3]
theorem pow_below {q p j : Nat} (h : j < q) : 0 = 2 ^ (64 * q + p) / 2 ^ (64 * j) % 2 ^ 64 := by
  rw [Nat.pow_div (by omega) (by omega)]
  exact (Nat.mod_eq_zero_of_dvd (Nat.pow_dvd_pow 2 (by omega))).symm
theorem pow_at {q p : Nat} : 1 * 2 ^ p % 2 ^ 64 = 2 ^ (64 * q + p) / 2 ^ (64 * q) % 2 ^ 64 := by
  rw [Nat.pow_div (by omega) (by omega), Nat.one_mul, show 64 * q + p - 64 * q = p by omega]
theorem pow_above {q p j : Nat} (h : q < j) (hp : p < 64) : 0 = 2 ^ (64 * q + p) / 2 ^ (64 * j) % 2 ^ 64 := by
  rw [Nat.div_eq_of_lt (Nat.pow_lt_pow_right (by omega) (by omega))]

set_option maxRecDepth 100000 in
set_option maxHeartbeats 2000000 in
theorem power0_fn (d : Nat) (hd : d < 256) (hq : d / 64 = 0) : Fn Try.prog 34 #[.int .i64 ((d : Nat) : Int)] (uv (2 ^ d)) := by
  refine Fn.intro (c := codeOf Try.f34) [.cell 2 24] 11 Try.func34 (by kernel_rfl) (by kernel_rfl) (by kernel_rfl) fun w => ?_
  have H0 := St.start w
  refine g_sreg [0] (by kernel_rfl) (by kernel_rfl) ?_
  refine s_alloc H0 (some 2) 24 (.agg #[.int .u64 0, .int .u64 0, .int .u64 0, .int .u64 0]) (by kernel_rfl) (by kernel_rfl) (by kernel_rfl) ?_
  intro b1 w1 H1; clear H0
  refine s_nil ?_
  refine g_sreg [0] (by kernel_rfl) (by kernel_rfl) ?_
  refine s_alloc H1 (some 3) 24 (.agg #[.int .u64 0, .int .u64 0, .int .u64 0, .int .u64 0]) (by kernel_rfl) (by kernel_rfl) (by kernel_rfl) ?_
  intro b2 w2 H2; clear H1
  refine s_nil ?_
  refine g_sreg [0, 1, 2, 3, 4, 5, 6] (by kernel_rfl) (by kernel_rfl) ?_
  refine s_val (some 4) (.int .i64 ((d : Nat) : Int)) (fun w => by kernel_rfl) (by kernel_rfl) ?_
  refine s_valE (some 5) (.int .i64 (IntKind.i64.wrap (Int.tdiv ((d : Nat) : Int) 64))) (.int .i64 0) (fun w => by kernel_rfl) (int_eq (show IntKind.i64.wrap (Int.tdiv (((d : Nat)) : Int) ((64 : Nat) : Int)) = ((0 : Nat) : Int) by rw [quoN_i64 (by omega), hq])) (by kernel_rfl) ?_
  refine s_val (some 6) (.int .i64 ((d : Nat) : Int)) (fun w => by kernel_rfl) (by kernel_rfl) ?_
  refine s_valE (some 7) (.int .i64 (Int.tmod ((d : Nat) : Int) 64)) (.int .i64 ((d % 64 : Nat) : Int)) (fun w => by kernel_rfl) (int_eq (remN d 64)) (by kernel_rfl) ?_
  refine s_valE (some 8) (.int .u64 (IntKind.u64.wrap ((1) * 2 ^ (min (d % 64) 64)))) (.int .u64 ((1 * 2 ^ (d % 64) % 18446744073709551616 : Nat) : Int)) (fun w => by kernel_rfl) (int_eq (shlN 1 (d % 64))) (by kernel_rfl) ?_
  refine s_val (some 9) (.pointer (some ⟨b2, 0, none⟩)) (fun w => by kernel_rfl) (by kernel_rfl) ?_
  refine s_store H2 0 [(b2, Obj.cells #[.int .u64 ((1 * 2 ^ (d % 64) % 18446744073709551616 : Nat) : Int), .int .u64 0, .int .u64 0, .int .u64 0] 24 (0, 0)), (b1, Obj.cells #[.int .u64 0, .int .u64 0, .int .u64 0, .int .u64 0] 24 (0, 0))] 22 (.tmp 9) (.tmp 8) b2 (0) #[.int .u64 0, .int .u64 0, .int .u64 0, .int .u64 0] #[.int .u64 ((1 * 2 ^ (d % 64) % 18446744073709551616 : Nat) : Int), .int .u64 0, .int .u64 0, .int .u64 0] 24 (.int .u64 ((1 * 2 ^ (d % 64) % 18446744073709551616 : Nat) : Int)) (by kernel_rfl) (by kernel_rfl) (by kernel_rfl) (by kernel_rfl) (by kernel_rfl) (by kernel_rfl) (of_decide_eq_true (by kernel_rfl)) (by kernel_rfl) (by kernel_rfl) ?_
  intro w3 H3; clear H2
  refine s_nil ?_
  refine g_sreg [0, 1] (by kernel_rfl) (by kernel_rfl) ?_
  refine s_load H3 (some 10) 24 (.tmp 3) 0 b2 #[.int .u64 ((1 * 2 ^ (d % 64) % 18446744073709551616 : Nat) : Int), .int .u64 0, .int .u64 0, .int .u64 0] 24 (0, 0) (by kernel_rfl) (by kernel_rfl) (by kernel_rfl) (by kernel_rfl) (by kernel_rfl) ?_
  refine s_store H3 1 [(b2, Obj.cells #[.int .u64 ((1 * 2 ^ (d % 64) % 18446744073709551616 : Nat) : Int), .int .u64 0, .int .u64 0, .int .u64 0] 24 (0, 0)), (b1, Obj.cells #[.int .u64 ((1 * 2 ^ (d % 64) % 18446744073709551616 : Nat) : Int), .int .u64 0, .int .u64 0, .int .u64 0] 24 (0, 0))] 24 (.tmp 2) (.tmp 10) b1 (0) #[.int .u64 0, .int .u64 0, .int .u64 0, .int .u64 0] #[.int .u64 ((1 * 2 ^ (d % 64) % 18446744073709551616 : Nat) : Int), .int .u64 0, .int .u64 0, .int .u64 0] 24 (.agg #[.int .u64 ((1 * 2 ^ (d % 64) % 18446744073709551616 : Nat) : Int), .int .u64 0, .int .u64 0, .int .u64 0]) (by kernel_rfl) (by kernel_rfl) (by kernel_rfl) (by kernel_rfl) (by kernel_rfl) (by kernel_rfl) (of_decide_eq_true (by kernel_rfl)) (by kernel_rfl) (by kernel_rfl) ?_
  intro w4 H4; clear H3
  refine s_nil ?_
  refine g_ret (by kernel_rfl) ?_
  show ∃ vs, Res _ _ _ _ vs ∧ _
  refine ⟨[.agg #[.int .u64 ((1 * 2 ^ (d % 64) % 18446744073709551616 : Nat) : Int), .int .u64 0, .int .u64 0, .int .u64 0]], (.agg (b := b1) #[.int .u64 ((1 * 2 ^ (d % 64) % 18446744073709551616 : Nat) : Int), .int .u64 0, .int .u64 0, .int .u64 0] 24 (0, 0) (by kernel_rfl) (H4.get 1 (by kernel_rfl)) (by kernel_rfl) .nil), ?_, H4.below⟩
  have e := uv_of (N := 2 ^ (64 * 0 + d % 64)) (pow_at) (pow_above (by omega) (Nat.mod_lt _ (by omega))) (pow_above (by omega) (Nat.mod_lt _ (by omega))) (pow_above (by omega) (Nat.mod_lt _ (by omega)))
  rw [show 64 * 0 + d % 64 = d by omega] at e
  exact e

set_option maxRecDepth 100000 in
set_option maxHeartbeats 2000000 in
theorem power1_fn (d : Nat) (hd : d < 256) (hq : d / 64 = 1) : Fn Try.prog 34 #[.int .i64 ((d : Nat) : Int)] (uv (2 ^ d)) := by
  refine Fn.intro (c := codeOf Try.f34) [.cell 2 24] 11 Try.func34 (by kernel_rfl) (by kernel_rfl) (by kernel_rfl) fun w => ?_
  have H0 := St.start w
  refine g_sreg [0] (by kernel_rfl) (by kernel_rfl) ?_
  refine s_alloc H0 (some 2) 24 (.agg #[.int .u64 0, .int .u64 0, .int .u64 0, .int .u64 0]) (by kernel_rfl) (by kernel_rfl) (by kernel_rfl) ?_
  intro b1 w1 H1; clear H0
  refine s_nil ?_
  refine g_sreg [0] (by kernel_rfl) (by kernel_rfl) ?_
  refine s_alloc H1 (some 3) 24 (.agg #[.int .u64 0, .int .u64 0, .int .u64 0, .int .u64 0]) (by kernel_rfl) (by kernel_rfl) (by kernel_rfl) ?_
  intro b2 w2 H2; clear H1
  refine s_nil ?_
  refine g_sreg [0, 1, 2, 3, 4, 5, 6] (by kernel_rfl) (by kernel_rfl) ?_
  refine s_val (some 4) (.int .i64 ((d : Nat) : Int)) (fun w => by kernel_rfl) (by kernel_rfl) ?_
  refine s_valE (some 5) (.int .i64 (IntKind.i64.wrap (Int.tdiv ((d : Nat) : Int) 64))) (.int .i64 1) (fun w => by kernel_rfl) (int_eq (show IntKind.i64.wrap (Int.tdiv (((d : Nat)) : Int) ((64 : Nat) : Int)) = ((1 : Nat) : Int) by rw [quoN_i64 (by omega), hq])) (by kernel_rfl) ?_
  refine s_val (some 6) (.int .i64 ((d : Nat) : Int)) (fun w => by kernel_rfl) (by kernel_rfl) ?_
  refine s_valE (some 7) (.int .i64 (Int.tmod ((d : Nat) : Int) 64)) (.int .i64 ((d % 64 : Nat) : Int)) (fun w => by kernel_rfl) (int_eq (remN d 64)) (by kernel_rfl) ?_
  refine s_valE (some 8) (.int .u64 (IntKind.u64.wrap ((1) * 2 ^ (min (d % 64) 64)))) (.int .u64 ((1 * 2 ^ (d % 64) % 18446744073709551616 : Nat) : Int)) (fun w => by kernel_rfl) (int_eq (shlN 1 (d % 64))) (by kernel_rfl) ?_
  refine s_val (some 9) (.pointer (some ⟨b2, 1, none⟩)) (fun w => by kernel_rfl) (by kernel_rfl) ?_
  refine s_store H2 0 [(b2, Obj.cells #[.int .u64 0, .int .u64 ((1 * 2 ^ (d % 64) % 18446744073709551616 : Nat) : Int), .int .u64 0, .int .u64 0] 24 (0, 0)), (b1, Obj.cells #[.int .u64 0, .int .u64 0, .int .u64 0, .int .u64 0] 24 (0, 0))] 22 (.tmp 9) (.tmp 8) b2 (1) #[.int .u64 0, .int .u64 0, .int .u64 0, .int .u64 0] #[.int .u64 0, .int .u64 ((1 * 2 ^ (d % 64) % 18446744073709551616 : Nat) : Int), .int .u64 0, .int .u64 0] 24 (.int .u64 ((1 * 2 ^ (d % 64) % 18446744073709551616 : Nat) : Int)) (by kernel_rfl) (by kernel_rfl) (by kernel_rfl) (by kernel_rfl) (by kernel_rfl) (by kernel_rfl) (of_decide_eq_true (by kernel_rfl)) (by kernel_rfl) (by kernel_rfl) ?_
  intro w3 H3; clear H2
  refine s_nil ?_
  refine g_sreg [0, 1] (by kernel_rfl) (by kernel_rfl) ?_
  refine s_load H3 (some 10) 24 (.tmp 3) 0 b2 #[.int .u64 0, .int .u64 ((1 * 2 ^ (d % 64) % 18446744073709551616 : Nat) : Int), .int .u64 0, .int .u64 0] 24 (0, 0) (by kernel_rfl) (by kernel_rfl) (by kernel_rfl) (by kernel_rfl) (by kernel_rfl) ?_
  refine s_store H3 1 [(b2, Obj.cells #[.int .u64 0, .int .u64 ((1 * 2 ^ (d % 64) % 18446744073709551616 : Nat) : Int), .int .u64 0, .int .u64 0] 24 (0, 0)), (b1, Obj.cells #[.int .u64 0, .int .u64 ((1 * 2 ^ (d % 64) % 18446744073709551616 : Nat) : Int), .int .u64 0, .int .u64 0] 24 (0, 0))] 24 (.tmp 2) (.tmp 10) b1 (0) #[.int .u64 0, .int .u64 0, .int .u64 0, .int .u64 0] #[.int .u64 0, .int .u64 ((1 * 2 ^ (d % 64) % 18446744073709551616 : Nat) : Int), .int .u64 0, .int .u64 0] 24 (.agg #[.int .u64 0, .int .u64 ((1 * 2 ^ (d % 64) % 18446744073709551616 : Nat) : Int), .int .u64 0, .int .u64 0]) (by kernel_rfl) (by kernel_rfl) (by kernel_rfl) (by kernel_rfl) (by kernel_rfl) (by kernel_rfl) (of_decide_eq_true (by kernel_rfl)) (by kernel_rfl) (by kernel_rfl) ?_
  intro w4 H4; clear H3
  refine s_nil ?_
  refine g_ret (by kernel_rfl) ?_
  show ∃ vs, Res _ _ _ _ vs ∧ _
  refine ⟨[.agg #[.int .u64 0, .int .u64 ((1 * 2 ^ (d % 64) % 18446744073709551616 : Nat) : Int), .int .u64 0, .int .u64 0]], (.agg (b := b1) #[.int .u64 0, .int .u64 ((1 * 2 ^ (d % 64) % 18446744073709551616 : Nat) : Int), .int .u64 0, .int .u64 0] 24 (0, 0) (by kernel_rfl) (H4.get 1 (by kernel_rfl)) (by kernel_rfl) .nil), ?_, H4.below⟩
  have e := uv_of (N := 2 ^ (64 * 1 + d % 64)) (pow_below (by omega)) (pow_at) (pow_above (by omega) (Nat.mod_lt _ (by omega))) (pow_above (by omega) (Nat.mod_lt _ (by omega)))
  rw [show 64 * 1 + d % 64 = d by omega] at e
  exact e

set_option maxRecDepth 100000 in
set_option maxHeartbeats 2000000 in
theorem power2_fn (d : Nat) (hd : d < 256) (hq : d / 64 = 2) : Fn Try.prog 34 #[.int .i64 ((d : Nat) : Int)] (uv (2 ^ d)) := by
  refine Fn.intro (c := codeOf Try.f34) [.cell 2 24] 11 Try.func34 (by kernel_rfl) (by kernel_rfl) (by kernel_rfl) fun w => ?_
  have H0 := St.start w
  refine g_sreg [0] (by kernel_rfl) (by kernel_rfl) ?_
  refine s_alloc H0 (some 2) 24 (.agg #[.int .u64 0, .int .u64 0, .int .u64 0, .int .u64 0]) (by kernel_rfl) (by kernel_rfl) (by kernel_rfl) ?_
  intro b1 w1 H1; clear H0
  refine s_nil ?_
  refine g_sreg [0] (by kernel_rfl) (by kernel_rfl) ?_
  refine s_alloc H1 (some 3) 24 (.agg #[.int .u64 0, .int .u64 0, .int .u64 0, .int .u64 0]) (by kernel_rfl) (by kernel_rfl) (by kernel_rfl) ?_
  intro b2 w2 H2; clear H1
  refine s_nil ?_
  refine g_sreg [0, 1, 2, 3, 4, 5, 6] (by kernel_rfl) (by kernel_rfl) ?_
  refine s_val (some 4) (.int .i64 ((d : Nat) : Int)) (fun w => by kernel_rfl) (by kernel_rfl) ?_
  refine s_valE (some 5) (.int .i64 (IntKind.i64.wrap (Int.tdiv ((d : Nat) : Int) 64))) (.int .i64 2) (fun w => by kernel_rfl) (int_eq (show IntKind.i64.wrap (Int.tdiv (((d : Nat)) : Int) ((64 : Nat) : Int)) = ((2 : Nat) : Int) by rw [quoN_i64 (by omega), hq])) (by kernel_rfl) ?_
  refine s_val (some 6) (.int .i64 ((d : Nat) : Int)) (fun w => by kernel_rfl) (by kernel_rfl) ?_
  refine s_valE (some 7) (.int .i64 (Int.tmod ((d : Nat) : Int) 64)) (.int .i64 ((d % 64 : Nat) : Int)) (fun w => by kernel_rfl) (int_eq (remN d 64)) (by kernel_rfl) ?_
  refine s_valE (some 8) (.int .u64 (IntKind.u64.wrap ((1) * 2 ^ (min (d % 64) 64)))) (.int .u64 ((1 * 2 ^ (d % 64) % 18446744073709551616 : Nat) : Int)) (fun w => by kernel_rfl) (int_eq (shlN 1 (d % 64))) (by kernel_rfl) ?_
  refine s_val (some 9) (.pointer (some ⟨b2, 2, none⟩)) (fun w => by kernel_rfl) (by kernel_rfl) ?_
  refine s_store H2 0 [(b2, Obj.cells #[.int .u64 0, .int .u64 0, .int .u64 ((1 * 2 ^ (d % 64) % 18446744073709551616 : Nat) : Int), .int .u64 0] 24 (0, 0)), (b1, Obj.cells #[.int .u64 0, .int .u64 0, .int .u64 0, .int .u64 0] 24 (0, 0))] 22 (.tmp 9) (.tmp 8) b2 (2) #[.int .u64 0, .int .u64 0, .int .u64 0, .int .u64 0] #[.int .u64 0, .int .u64 0, .int .u64 ((1 * 2 ^ (d % 64) % 18446744073709551616 : Nat) : Int), .int .u64 0] 24 (.int .u64 ((1 * 2 ^ (d % 64) % 18446744073709551616 : Nat) : Int)) (by kernel_rfl) (by kernel_rfl) (by kernel_rfl) (by kernel_rfl) (by kernel_rfl) (by kernel_rfl) (of_decide_eq_true (by kernel_rfl)) (by kernel_rfl) (by kernel_rfl) ?_
  intro w3 H3; clear H2
  refine s_nil ?_
  refine g_sreg [0, 1] (by kernel_rfl) (by kernel_rfl) ?_
  refine s_load H3 (some 10) 24 (.tmp 3) 0 b2 #[.int .u64 0, .int .u64 0, .int .u64 ((1 * 2 ^ (d % 64) % 18446744073709551616 : Nat) : Int), .int .u64 0] 24 (0, 0) (by kernel_rfl) (by kernel_rfl) (by kernel_rfl) (by kernel_rfl) (by kernel_rfl) ?_
  refine s_store H3 1 [(b2, Obj.cells #[.int .u64 0, .int .u64 0, .int .u64 ((1 * 2 ^ (d % 64) % 18446744073709551616 : Nat) : Int), .int .u64 0] 24 (0, 0)), (b1, Obj.cells #[.int .u64 0, .int .u64 0, .int .u64 ((1 * 2 ^ (d % 64) % 18446744073709551616 : Nat) : Int), .int .u64 0] 24 (0, 0))] 24 (.tmp 2) (.tmp 10) b1 (0) #[.int .u64 0, .int .u64 0, .int .u64 0, .int .u64 0] #[.int .u64 0, .int .u64 0, .int .u64 ((1 * 2 ^ (d % 64) % 18446744073709551616 : Nat) : Int), .int .u64 0] 24 (.agg #[.int .u64 0, .int .u64 0, .int .u64 ((1 * 2 ^ (d % 64) % 18446744073709551616 : Nat) : Int), .int .u64 0]) (by kernel_rfl) (by kernel_rfl) (by kernel_rfl) (by kernel_rfl) (by kernel_rfl) (by kernel_rfl) (of_decide_eq_true (by kernel_rfl)) (by kernel_rfl) (by kernel_rfl) ?_
  intro w4 H4; clear H3
  refine s_nil ?_
  refine g_ret (by kernel_rfl) ?_
  show ∃ vs, Res _ _ _ _ vs ∧ _
  refine ⟨[.agg #[.int .u64 0, .int .u64 0, .int .u64 ((1 * 2 ^ (d % 64) % 18446744073709551616 : Nat) : Int), .int .u64 0]], (.agg (b := b1) #[.int .u64 0, .int .u64 0, .int .u64 ((1 * 2 ^ (d % 64) % 18446744073709551616 : Nat) : Int), .int .u64 0] 24 (0, 0) (by kernel_rfl) (H4.get 1 (by kernel_rfl)) (by kernel_rfl) .nil), ?_, H4.below⟩
  have e := uv_of (N := 2 ^ (64 * 2 + d % 64)) (pow_below (by omega)) (pow_below (by omega)) (pow_at) (pow_above (by omega) (Nat.mod_lt _ (by omega)))
  rw [show 64 * 2 + d % 64 = d by omega] at e
  exact e

set_option maxRecDepth 100000 in
set_option maxHeartbeats 2000000 in
theorem power3_fn (d : Nat) (hd : d < 256) (hq : d / 64 = 3) : Fn Try.prog 34 #[.int .i64 ((d : Nat) : Int)] (uv (2 ^ d)) := by
  refine Fn.intro (c := codeOf Try.f34) [.cell 2 24] 11 Try.func34 (by kernel_rfl) (by kernel_rfl) (by kernel_rfl) fun w => ?_
  have H0 := St.start w
  refine g_sreg [0] (by kernel_rfl) (by kernel_rfl) ?_
  refine s_alloc H0 (some 2) 24 (.agg #[.int .u64 0, .int .u64 0, .int .u64 0, .int .u64 0]) (by kernel_rfl) (by kernel_rfl) (by kernel_rfl) ?_
  intro b1 w1 H1; clear H0
  refine s_nil ?_
  refine g_sreg [0] (by kernel_rfl) (by kernel_rfl) ?_
  refine s_alloc H1 (some 3) 24 (.agg #[.int .u64 0, .int .u64 0, .int .u64 0, .int .u64 0]) (by kernel_rfl) (by kernel_rfl) (by kernel_rfl) ?_
  intro b2 w2 H2; clear H1
  refine s_nil ?_
  refine g_sreg [0, 1, 2, 3, 4, 5, 6] (by kernel_rfl) (by kernel_rfl) ?_
  refine s_val (some 4) (.int .i64 ((d : Nat) : Int)) (fun w => by kernel_rfl) (by kernel_rfl) ?_
  refine s_valE (some 5) (.int .i64 (IntKind.i64.wrap (Int.tdiv ((d : Nat) : Int) 64))) (.int .i64 3) (fun w => by kernel_rfl) (int_eq (show IntKind.i64.wrap (Int.tdiv (((d : Nat)) : Int) ((64 : Nat) : Int)) = ((3 : Nat) : Int) by rw [quoN_i64 (by omega), hq])) (by kernel_rfl) ?_
  refine s_val (some 6) (.int .i64 ((d : Nat) : Int)) (fun w => by kernel_rfl) (by kernel_rfl) ?_
  refine s_valE (some 7) (.int .i64 (Int.tmod ((d : Nat) : Int) 64)) (.int .i64 ((d % 64 : Nat) : Int)) (fun w => by kernel_rfl) (int_eq (remN d 64)) (by kernel_rfl) ?_
  refine s_valE (some 8) (.int .u64 (IntKind.u64.wrap ((1) * 2 ^ (min (d % 64) 64)))) (.int .u64 ((1 * 2 ^ (d % 64) % 18446744073709551616 : Nat) : Int)) (fun w => by kernel_rfl) (int_eq (shlN 1 (d % 64))) (by kernel_rfl) ?_
  refine s_val (some 9) (.pointer (some ⟨b2, 3, none⟩)) (fun w => by kernel_rfl) (by kernel_rfl) ?_
  refine s_store H2 0 [(b2, Obj.cells #[.int .u64 0, .int .u64 0, .int .u64 0, .int .u64 ((1 * 2 ^ (d % 64) % 18446744073709551616 : Nat) : Int)] 24 (0, 0)), (b1, Obj.cells #[.int .u64 0, .int .u64 0, .int .u64 0, .int .u64 0] 24 (0, 0))] 22 (.tmp 9) (.tmp 8) b2 (3) #[.int .u64 0, .int .u64 0, .int .u64 0, .int .u64 0] #[.int .u64 0, .int .u64 0, .int .u64 0, .int .u64 ((1 * 2 ^ (d % 64) % 18446744073709551616 : Nat) : Int)] 24 (.int .u64 ((1 * 2 ^ (d % 64) % 18446744073709551616 : Nat) : Int)) (by kernel_rfl) (by kernel_rfl) (by kernel_rfl) (by kernel_rfl) (by kernel_rfl) (by kernel_rfl) (of_decide_eq_true (by kernel_rfl)) (by kernel_rfl) (by kernel_rfl) ?_
  intro w3 H3; clear H2
  refine s_nil ?_
  refine g_sreg [0, 1] (by kernel_rfl) (by kernel_rfl) ?_
  refine s_load H3 (some 10) 24 (.tmp 3) 0 b2 #[.int .u64 0, .int .u64 0, .int .u64 0, .int .u64 ((1 * 2 ^ (d % 64) % 18446744073709551616 : Nat) : Int)] 24 (0, 0) (by kernel_rfl) (by kernel_rfl) (by kernel_rfl) (by kernel_rfl) (by kernel_rfl) ?_
  refine s_store H3 1 [(b2, Obj.cells #[.int .u64 0, .int .u64 0, .int .u64 0, .int .u64 ((1 * 2 ^ (d % 64) % 18446744073709551616 : Nat) : Int)] 24 (0, 0)), (b1, Obj.cells #[.int .u64 0, .int .u64 0, .int .u64 0, .int .u64 ((1 * 2 ^ (d % 64) % 18446744073709551616 : Nat) : Int)] 24 (0, 0))] 24 (.tmp 2) (.tmp 10) b1 (0) #[.int .u64 0, .int .u64 0, .int .u64 0, .int .u64 0] #[.int .u64 0, .int .u64 0, .int .u64 0, .int .u64 ((1 * 2 ^ (d % 64) % 18446744073709551616 : Nat) : Int)] 24 (.agg #[.int .u64 0, .int .u64 0, .int .u64 0, .int .u64 ((1 * 2 ^ (d % 64) % 18446744073709551616 : Nat) : Int)]) (by kernel_rfl) (by kernel_rfl) (by kernel_rfl) (by kernel_rfl) (by kernel_rfl) (by kernel_rfl) (of_decide_eq_true (by kernel_rfl)) (by kernel_rfl) (by kernel_rfl) ?_
  intro w4 H4; clear H3
  refine s_nil ?_
  refine g_ret (by kernel_rfl) ?_
  show ∃ vs, Res _ _ _ _ vs ∧ _
  refine ⟨[.agg #[.int .u64 0, .int .u64 0, .int .u64 0, .int .u64 ((1 * 2 ^ (d % 64) % 18446744073709551616 : Nat) : Int)]], (.agg (b := b1) #[.int .u64 0, .int .u64 0, .int .u64 0, .int .u64 ((1 * 2 ^ (d % 64) % 18446744073709551616 : Nat) : Int)] 24 (0, 0) (by kernel_rfl) (H4.get 1 (by kernel_rfl)) (by kernel_rfl) .nil), ?_, H4.below⟩
  have e := uv_of (N := 2 ^ (64 * 3 + d % 64)) (pow_below (by omega)) (pow_below (by omega)) (pow_below (by omega)) (pow_at)
  rw [show 64 * 3 + d % 64 = d by omega] at e
  exact e

theorem power_fn (d : Nat) (hd : d < 256) : Fn Try.prog 34 #[.int .i64 ((d : Nat) : Int)] (uv (2 ^ d)) := by
  have hq : d / 64 = 0 ∨ d / 64 = 1 ∨ d / 64 = 2 ∨ d / 64 = 3 := by omega
  rcases hq with hq | hq | hq | hq
  · exact power0_fn d hd hq
  · exact power1_fn d hd hq
  · exact power2_fn d hd hq
  · exact power3_fn d hd hq

set_option maxRecDepth 100000 in
set_option maxHeartbeats 2000000 in
theorem lower0_fn (A d : Nat) (hA : A < big) (hd : d < 256) (hq : d / 64 = 0) : Fn Try.prog 36 #[uv A, .int .i64 ((d : Nat) : Int)] (uv (A / 2 ^ d)) := by
  have hbig : big = 115792089237316195423570985008687907853269984665640564039457584007913129639936 := rfl
  have hs0 := Nat.div_le_self (A % 18446744073709551616) (2 ^ (d % 64))
  have hz0 : 0 ||| (A % 18446744073709551616 / 2 ^ (d % 64)) = A % 18446744073709551616 / 2 ^ (d % 64) := Nat.zero_or _
  have hs1 := Nat.div_le_self (A / 18446744073709551616 % 18446744073709551616) (2 ^ (d % 64))
  have hz1 : 0 ||| (A / 18446744073709551616 % 18446744073709551616 / 2 ^ (d % 64)) = A / 18446744073709551616 % 18446744073709551616 / 2 ^ (d % 64) := Nat.zero_or _
  have hs2 := Nat.div_le_self (A / 340282366920938463463374607431768211456 % 18446744073709551616) (2 ^ (d % 64))
  have hz2 : 0 ||| (A / 340282366920938463463374607431768211456 % 18446744073709551616 / 2 ^ (d % 64)) = A / 340282366920938463463374607431768211456 % 18446744073709551616 / 2 ^ (d % 64) := Nat.zero_or _
  have hs3 := Nat.div_le_self (A / 6277101735386680763835789423207666416102355444464034512896 % 18446744073709551616) (2 ^ (d % 64))
  have hz3 : 0 ||| (A / 6277101735386680763835789423207666416102355444464034512896 % 18446744073709551616 / 2 ^ (d % 64)) = A / 6277101735386680763835789423207666416102355444464034512896 % 18446744073709551616 / 2 ^ (d % 64) := Nat.zero_or _
  refine Fn.intro (c := codeOf Try.f36) [.cell 4 24] 49 Try.func36 (by kernel_rfl) (by kernel_rfl) (by kernel_rfl) fun w => ?_
  have H0 := St.start w
  refine g_sreg [0, 1] (by kernel_rfl) (by kernel_rfl) ?_
  refine s_box H0 (some 2) 24 (.tmp 0) (uv A) (by kernel_rfl) (by kernel_rfl) (by kernel_rfl) ?_
  intro b1 w1 H1; clear H0
  refine s_alloc H1 (some 4) 24 (.agg #[.int .u64 0, .int .u64 0, .int .u64 0, .int .u64 0]) (by kernel_rfl) (by kernel_rfl) (by kernel_rfl) ?_
  intro b2 w2 H2; clear H1
  refine s_nil ?_
  refine g_sreg [0] (by kernel_rfl) (by kernel_rfl) ?_
  refine s_alloc H2 (some 5) 24 (.agg #[.int .u64 0, .int .u64 0, .int .u64 0, .int .u64 0]) (by kernel_rfl) (by kernel_rfl) (by kernel_rfl) ?_
  intro b3 w3 H3; clear H2
  refine s_nil ?_
  refine g_sreg [0, 1, 2, 3, 4, 5] (by kernel_rfl) (by kernel_rfl) ?_
  refine s_val (some 10) (.int .i64 ((d : Nat) : Int)) (fun w => by kernel_rfl) (by kernel_rfl) ?_
  refine s_valE (some 11) (.int .i64 (IntKind.i64.wrap (Int.tdiv ((d : Nat) : Int) 64))) (.int .i64 0) (fun w => by kernel_rfl) (int_eq (show IntKind.i64.wrap (Int.tdiv (((d : Nat)) : Int) ((64 : Nat) : Int)) = ((0 : Nat) : Int) by rw [quoN_i64 (by omega), hq])) (by kernel_rfl) ?_
  refine s_val (some 12) (.int .i64 ((d : Nat) : Int)) (fun w => by kernel_rfl) (by kernel_rfl) ?_
  refine s_valE (some 13) (.int .i64 (Int.tmod ((d : Nat) : Int) 64)) (.int .i64 ((d % 64 : Nat) : Int)) (fun w => by kernel_rfl) (int_eq (remN d 64)) (by kernel_rfl) ?_
  refine s_val (some 6) (.int .i64 0) (fun w => by kernel_rfl) (by kernel_rfl) ?_
  refine s_val (some 7) (.int .i64 ((d % 64 : Nat) : Int)) (fun w => by kernel_rfl) (by kernel_rfl) ?_
  refine s_nil ?_
  refine g_seq (by kernel_rfl) ?_
  refine g_sreg [0, 1] (by kernel_rfl) (by kernel_rfl) ?_
  refine s_load H3 (some 14) 24 (.tmp 2) 2 b1 (Value.cells (uv A)) 24 (0, 0) (by kernel_rfl) (by kernel_rfl) (by kernel_rfl) (by kernel_rfl) (by kernel_rfl) ?_
  refine s_val (some 15) (.int .i64 0) (fun w => by kernel_rfl) (by kernel_rfl) ?_
  refine s_nil ?_
  refine g_block 0 (by kernel_rfl) ?_
  refine g_first (by kernel_rfl) ?_
  refine g_sreg [0] (by kernel_rfl) (by kernel_rfl) ?_
  refine s_val (some 16) (.bool true) (fun w => by kernel_rfl) (by kernel_rfl) ?_
  refine s_nil ?_
  refine g_seq (by kernel_rfl) ?_
  refine g_cond_t (by kernel_rfl) (by kernel_rfl) ?_
  refine g_skip (by kernel_rfl) ?_
  show WP _ _ _ _ _ _
  refine g_seq (by kernel_rfl) ?_
  refine g_block 1 (by kernel_rfl) ?_
  refine g_sreg [0, 1, 2, 3] (by kernel_rfl) (by kernel_rfl) ?_
  refine s_val (some 17) (.int .i64 0) (fun w => by kernel_rfl) (by kernel_rfl) ?_
  refine s_val (some 18) (.int .u64 ((A % 18446744073709551616 : Nat) : Int)) (fun w => by kernel_rfl) (by kernel_rfl) ?_
  refine s_val (some 8) (.int .i64 0) (fun w => by kernel_rfl) (by kernel_rfl) ?_
  refine s_val (some 9) (.int .u64 ((A % 18446744073709551616 : Nat) : Int)) (fun w => by kernel_rfl) (by kernel_rfl) ?_
  refine s_nil ?_
  refine g_seq (by kernel_rfl) ?_
  refine g_sreg [0, 1, 2] (by kernel_rfl) (by kernel_rfl) ?_
  refine s_val (some 19) (.int .i64 0) (fun w => by kernel_rfl) (by kernel_rfl) ?_
  refine s_val (some 20) (.int .i64 0) (fun w => by kernel_rfl) (by kernel_rfl) ?_
  refine s_val (some 21) (.bool true) (fun w => by kernel_rfl) (by kernel_rfl) ?_
  refine s_nil ?_
  refine g_cond_t (by kernel_rfl) (by kernel_rfl) ?_
  refine D2.g_draw0 [0, 1, 2, 3, 4, 5, 6, 7, 8, 9, 10] [((some 22), fun _ => .int .i64 0), ((some 23), fun _ => .int .i64 0), ((some 24), fun _ => .int .i64 0), ((some 25), fun _ => .pointer (some ⟨b3, 0, none⟩)), ((some 26), fun _ => .int .u64 0), ((some 27), fun _ => .int .u64 ((A % 18446744073709551616 : Nat) : Int)), ((some 28), fun _ => .int .i64 ((d % 64 : Nat) : Int)), ((some 29), fun _ => .int .u64 (((A % 18446744073709551616) / 2 ^ (d % 64) : Nat) : Int)), ((some 30), fun _ => .int .u64 ((0 ||| ((A % 18446744073709551616) / 2 ^ (d % 64)) : Nat) : Int)), ((some 31), fun _ => .pointer (some ⟨b3, 0, none⟩)), (none, fun _ => undef)] (D2.Pre w.heap.size w (fun L g => [(true, (bif L 10 then (b3, Obj.cells #[.int .u64 ((0 ||| ((A % 18446744073709551616) / 2 ^ (d % 64)) : Nat) : Int), .int .u64 0, .int .u64 0, .int .u64 0] 24 (0, 0)) else (b3, Obj.cells #[.int .u64 0, .int .u64 0, .int .u64 0, .int .u64 0] 24 (0, 0)))), (true, (b2, Obj.cells #[.int .u64 0, .int .u64 0, .int .u64 0, .int .u64 0] 24 (0, 0))), (true, (b1, Obj.cells (Value.cells (uv A)) 24 (0, 0)))]) (fun L g => True)) (by kernel_rfl) (by kernel_rfl) (by kernel_rfl) ⟨D2.StE.of H3.drew _ (by kernel_rfl), trivial⟩ ⟨?_, ?_, ?_, ?_, ?_, ?_, ?_, ?_, ?_, ?_, ?_, trivial⟩ ?_
  · exact D2.gv_val (fun _ _ _ h => h) (fun g w => by kernel_rfl)
  · exact D2.gv_val (fun _ _ _ h => h) (fun g w => by kernel_rfl)
  · exact D2.gv_val (fun _ _ _ h => h) (fun g w => by kernel_rfl)
  · exact D2.gv_val (fun _ _ _ h => h) (fun g w => by kernel_rfl)
  · exact D2.gv_load1 22 (.tmp 25) 0 (fun g => b3) (fun g => 0) (fun g => #[.int .u64 0, .int .u64 0, .int .u64 0, .int .u64 0]) 24 (0, 0) (fun _ _ _ h => h) (fun g => by kernel_rfl) (fun g => by kernel_rfl) (fun L g hN => (by have hL10 : L 10 = false := (hN.post 10 (by kernel_rfl)); exact D2.ent_get' (p := true) (e := (bif L 10 then (b3, Obj.cells #[.int .u64 ((0 ||| ((A % 18446744073709551616) / 2 ^ (d % 64)) : Nat) : Int), .int .u64 0, .int .u64 0, .int .u64 0] 24 (0, 0)) else (b3, Obj.cells #[.int .u64 0, .int .u64 0, .int .u64 0, .int .u64 0] 24 (0, 0)))) (by kernel_rfl) (by rfl) (by simp only [hL10, cond_true, cond_false] <;> rfl))) (by kernel_rfl) (fun L g hN hF => by kernel_rfl)
  · exact D2.gv_val (fun _ _ _ h => h) (fun g w => by kernel_rfl)
  · exact D2.gv_val (fun _ _ _ h => h) (fun g w => by kernel_rfl)
  · exact D2.gv_valE (fun _ _ _ h => h) (V' := .int .u64 (Int.fdiv ((A % 18446744073709551616 : Nat) : Int) (2 ^ (min (d % 64) 64)))) (fun g w => by kernel_rfl) (int_eq (shr_min (A % 18446744073709551616) (d % 64) 64 (by omega)))
  · exact D2.gv_valE (fun _ _ _ h => h) (V' := .int .u64 (Go.bits .or .u64 (0) ((((A % 18446744073709551616) / 2 ^ (d % 64) : Nat) : Int)))) (fun g w => by kernel_rfl) (int_eq (u64_or_nat 0 ((A % 18446744073709551616) / 2 ^ (d % 64)) (by omega) (by omega)))
  · exact D2.gv_val (fun _ _ _ h => h) (fun g w => by kernel_rfl)
  · exact D2.gv_store 0 22 (.tmp 31) (.tmp 30) (fun g => b3) (fun g => 0) #[.int .u64 0, .int .u64 0, .int .u64 0, .int .u64 0] #[.int .u64 ((0 ||| ((A % 18446744073709551616) / 2 ^ (d % 64)) : Nat) : Int), .int .u64 0, .int .u64 0, .int .u64 0] 24 (.int .u64 ((0 ||| ((A % 18446744073709551616) / 2 ^ (d % 64)) : Nat) : Int)) (fun g => by kernel_rfl) (fun g => by kernel_rfl) (fun g => by kernel_rfl) (by kernel_rfl) (by kernel_rfl) (fun g => (of_decide_eq_true (by kernel_rfl))) (fun g => (by kernel_rfl)) (fun L g hN => ⟨(by have hL10 : L 10 = false := hN.1; exact D2.ent_get' (p := true) (e := (bif L 10 then (b3, Obj.cells #[.int .u64 ((0 ||| ((A % 18446744073709551616) / 2 ^ (d % 64)) : Nat) : Int), .int .u64 0, .int .u64 0, .int .u64 0] 24 (0, 0)) else (b3, Obj.cells #[.int .u64 0, .int .u64 0, .int .u64 0, .int .u64 0] 24 (0, 0)))) (by kernel_rfl) (by rfl) (by simp only [hL10, cond_true, cond_false] <;> rfl)), (by kernel_rfl)⟩) (fun L g hN hF => hF)
  intro L0 G4 w4 hall HL; clear H3
  have H4 : St w.heap.size w w4 [(b3, Obj.cells #[.int .u64 ((0 ||| ((A % 18446744073709551616) / 2 ^ (d % 64)) : Nat) : Int), .int .u64 0, .int .u64 0, .int .u64 0] 24 (0, 0)), (b2, Obj.cells #[.int .u64 0, .int .u64 0, .int .u64 0, .int .u64 0] 24 (0, 0)), (b1, Obj.cells (Value.cells (uv A)) 24 (0, 0))] := by have e10 := hall 10 (Nat.le_of_ble_eq_true (by kernel_rfl)); have hS := D2.StE.st HL.1; simp only [e10, cond_true, D2.pres] at hS; exact hS
  clear HL hall
  show WP _ _ _ _ _ _
  refine g_sreg [0, 1, 2] (by kernel_rfl) (by kernel_rfl) ?_
  refine s_val (some 32) (.int .i64 0) (fun w => by kernel_rfl) (by kernel_rfl) ?_
  refine s_val (some 33) (.int .i64 0) (fun w => by kernel_rfl) (by kernel_rfl) ?_
  refine s_val (some 34) (.bool false) (fun w => by kernel_rfl) (by kernel_rfl) ?_
  refine s_nil ?_
  refine g_cond_f (by kernel_rfl) (by kernel_rfl) ?_
  refine g_skip (by kernel_rfl) ?_
  show WP _ _ _ _ _ _
  refine g_reg0 [0, 1] (by kernel_rfl) ?_
  refine s_val (some 47) (.int .i64 1) (fun w => by kernel_rfl) (by kernel_rfl) ?_
  refine s_val (some 15) (.int .i64 1) (fun w => by kernel_rfl) (by kernel_rfl) ?_
  refine s_nil ?_
  show WPL _ _ _ _ _ _
  refine g_next ?_
  refine g_sreg [0] (by kernel_rfl) (by kernel_rfl) ?_
  refine s_val (some 16) (.bool true) (fun w => by kernel_rfl) (by kernel_rfl) ?_
  refine s_nil ?_
  refine g_seq (by kernel_rfl) ?_
  refine g_cond_t (by kernel_rfl) (by kernel_rfl) ?_
  refine g_skip (by kernel_rfl) ?_
  show WP _ _ _ _ _ _
  refine g_seq (by kernel_rfl) ?_
  refine g_block 1 (by kernel_rfl) ?_
  refine g_sreg [0, 1, 2, 3] (by kernel_rfl) (by kernel_rfl) ?_
  refine s_val (some 17) (.int .i64 1) (fun w => by kernel_rfl) (by kernel_rfl) ?_
  refine s_val (some 18) (.int .u64 ((A / 18446744073709551616 % 18446744073709551616 : Nat) : Int)) (fun w => by kernel_rfl) (by kernel_rfl) ?_
  refine s_val (some 8) (.int .i64 1) (fun w => by kernel_rfl) (by kernel_rfl) ?_
  refine s_val (some 9) (.int .u64 ((A / 18446744073709551616 % 18446744073709551616 : Nat) : Int)) (fun w => by kernel_rfl) (by kernel_rfl) ?_
  refine s_nil ?_
  refine g_seq (by kernel_rfl) ?_
  refine g_sreg [0, 1, 2] (by kernel_rfl) (by kernel_rfl) ?_
  refine s_val (some 19) (.int .i64 1) (fun w => by kernel_rfl) (by kernel_rfl) ?_
  refine s_val (some 20) (.int .i64 0) (fun w => by kernel_rfl) (by kernel_rfl) ?_
  refine s_val (some 21) (.bool true) (fun w => by kernel_rfl) (by kernel_rfl) ?_
  refine s_nil ?_
  refine g_cond_t (by kernel_rfl) (by kernel_rfl) ?_
  refine D2.g_draw0 [0, 1, 2, 3, 4, 5, 6, 7, 8, 9, 10] [((some 22), fun _ => .int .i64 1), ((some 23), fun _ => .int .i64 0), ((some 24), fun _ => .int .i64 1), ((some 25), fun _ => .pointer (some ⟨b3, 1, none⟩)), ((some 26), fun _ => .int .u64 0), ((some 27), fun _ => .int .u64 ((A / 18446744073709551616 % 18446744073709551616 : Nat) : Int)), ((some 28), fun _ => .int .i64 ((d % 64 : Nat) : Int)), ((some 29), fun _ => .int .u64 (((A / 18446744073709551616 % 18446744073709551616) / 2 ^ (d % 64) : Nat) : Int)), ((some 30), fun _ => .int .u64 ((0 ||| ((A / 18446744073709551616 % 18446744073709551616) / 2 ^ (d % 64)) : Nat) : Int)), ((some 31), fun _ => .pointer (some ⟨b3, 1, none⟩)), (none, fun _ => undef)] (D2.Pre w.heap.size w (fun L g => [(true, (bif L 10 then (b3, Obj.cells #[.int .u64 ((0 ||| ((A % 18446744073709551616) / 2 ^ (d % 64)) : Nat) : Int), .int .u64 ((0 ||| ((A / 18446744073709551616 % 18446744073709551616) / 2 ^ (d % 64)) : Nat) : Int), .int .u64 0, .int .u64 0] 24 (0, 0)) else (b3, Obj.cells #[.int .u64 ((0 ||| ((A % 18446744073709551616) / 2 ^ (d % 64)) : Nat) : Int), .int .u64 0, .int .u64 0, .int .u64 0] 24 (0, 0)))), (true, (b2, Obj.cells #[.int .u64 0, .int .u64 0, .int .u64 0, .int .u64 0] 24 (0, 0))), (true, (b1, Obj.cells (Value.cells (uv A)) 24 (0, 0)))]) (fun L g => True)) (by kernel_rfl) (by kernel_rfl) (by kernel_rfl) ⟨D2.StE.of H4.drew _ (by kernel_rfl), trivial⟩ ⟨?_, ?_, ?_, ?_, ?_, ?_, ?_, ?_, ?_, ?_, ?_, trivial⟩ ?_
  · exact D2.gv_val (fun _ _ _ h => h) (fun g w => by kernel_rfl)
  · exact D2.gv_val (fun _ _ _ h => h) (fun g w => by kernel_rfl)
  · exact D2.gv_val (fun _ _ _ h => h) (fun g w => by kernel_rfl)
  · exact D2.gv_val (fun _ _ _ h => h) (fun g w => by kernel_rfl)
  · exact D2.gv_load1 22 (.tmp 25) 0 (fun g => b3) (fun g => 1) (fun g => #[.int .u64 ((0 ||| ((A % 18446744073709551616) / 2 ^ (d % 64)) : Nat) : Int), .int .u64 0, .int .u64 0, .int .u64 0]) 24 (0, 0) (fun _ _ _ h => h) (fun g => by kernel_rfl) (fun g => by kernel_rfl) (fun L g hN => (by have hL10 : L 10 = false := (hN.post 10 (by kernel_rfl)); exact D2.ent_get' (p := true) (e := (bif L 10 then (b3, Obj.cells #[.int .u64 ((0 ||| ((A % 18446744073709551616) / 2 ^ (d % 64)) : Nat) : Int), .int .u64 ((0 ||| ((A / 18446744073709551616 % 18446744073709551616) / 2 ^ (d % 64)) : Nat) : Int), .int .u64 0, .int .u64 0] 24 (0, 0)) else (b3, Obj.cells #[.int .u64 ((0 ||| ((A % 18446744073709551616) / 2 ^ (d % 64)) : Nat) : Int), .int .u64 0, .int .u64 0, .int .u64 0] 24 (0, 0)))) (by kernel_rfl) (by rfl) (by simp only [hL10, cond_true, cond_false] <;> rfl))) (by kernel_rfl) (fun L g hN hF => by kernel_rfl)
  · exact D2.gv_val (fun _ _ _ h => h) (fun g w => by kernel_rfl)
  · exact D2.gv_val (fun _ _ _ h => h) (fun g w => by kernel_rfl)
  · exact D2.gv_valE (fun _ _ _ h => h) (V' := .int .u64 (Int.fdiv ((A / 18446744073709551616 % 18446744073709551616 : Nat) : Int) (2 ^ (min (d % 64) 64)))) (fun g w => by kernel_rfl) (int_eq (shr_min (A / 18446744073709551616 % 18446744073709551616) (d % 64) 64 (by omega)))
  · exact D2.gv_valE (fun _ _ _ h => h) (V' := .int .u64 (Go.bits .or .u64 (0) ((((A / 18446744073709551616 % 18446744073709551616) / 2 ^ (d % 64) : Nat) : Int)))) (fun g w => by kernel_rfl) (int_eq (u64_or_nat 0 ((A / 18446744073709551616 % 18446744073709551616) / 2 ^ (d % 64)) (by omega) (by omega)))
  · exact D2.gv_val (fun _ _ _ h => h) (fun g w => by kernel_rfl)
  · exact D2.gv_store 0 22 (.tmp 31) (.tmp 30) (fun g => b3) (fun g => 1) #[.int .u64 ((0 ||| ((A % 18446744073709551616) / 2 ^ (d % 64)) : Nat) : Int), .int .u64 0, .int .u64 0, .int .u64 0] #[.int .u64 ((0 ||| ((A % 18446744073709551616) / 2 ^ (d % 64)) : Nat) : Int), .int .u64 ((0 ||| ((A / 18446744073709551616 % 18446744073709551616) / 2 ^ (d % 64)) : Nat) : Int), .int .u64 0, .int .u64 0] 24 (.int .u64 ((0 ||| ((A / 18446744073709551616 % 18446744073709551616) / 2 ^ (d % 64)) : Nat) : Int)) (fun g => by kernel_rfl) (fun g => by kernel_rfl) (fun g => by kernel_rfl) (by kernel_rfl) (by kernel_rfl) (fun g => (of_decide_eq_true (by kernel_rfl))) (fun g => (by kernel_rfl)) (fun L g hN => ⟨(by have hL10 : L 10 = false := hN.1; exact D2.ent_get' (p := true) (e := (bif L 10 then (b3, Obj.cells #[.int .u64 ((0 ||| ((A % 18446744073709551616) / 2 ^ (d % 64)) : Nat) : Int), .int .u64 ((0 ||| ((A / 18446744073709551616 % 18446744073709551616) / 2 ^ (d % 64)) : Nat) : Int), .int .u64 0, .int .u64 0] 24 (0, 0)) else (b3, Obj.cells #[.int .u64 ((0 ||| ((A % 18446744073709551616) / 2 ^ (d % 64)) : Nat) : Int), .int .u64 0, .int .u64 0, .int .u64 0] 24 (0, 0)))) (by kernel_rfl) (by rfl) (by simp only [hL10, cond_true, cond_false] <;> rfl)), (by kernel_rfl)⟩) (fun L g hN hF => hF)
  intro L0 G5 w5 hall HL; clear H4
  have H5 : St w.heap.size w w5 [(b3, Obj.cells #[.int .u64 ((0 ||| ((A % 18446744073709551616) / 2 ^ (d % 64)) : Nat) : Int), .int .u64 ((0 ||| ((A / 18446744073709551616 % 18446744073709551616) / 2 ^ (d % 64)) : Nat) : Int), .int .u64 0, .int .u64 0] 24 (0, 0)), (b2, Obj.cells #[.int .u64 0, .int .u64 0, .int .u64 0, .int .u64 0] 24 (0, 0)), (b1, Obj.cells (Value.cells (uv A)) 24 (0, 0))] := by have e10 := hall 10 (Nat.le_of_ble_eq_true (by kernel_rfl)); have hS := D2.StE.st HL.1; simp only [e10, cond_true, D2.pres] at hS; exact hS
  clear HL hall
  show WP _ _ _ _ _ _
  refine g_sreg [0, 1, 2] (by kernel_rfl) (by kernel_rfl) ?_
  refine s_val (some 32) (.int .i64 1) (fun w => by kernel_rfl) (by kernel_rfl) ?_
  refine s_val (some 33) (.int .i64 0) (fun w => by kernel_rfl) (by kernel_rfl) ?_
  refine s_val (some 34) (.bool true) (fun w => by kernel_rfl) (by kernel_rfl) ?_
  refine s_nil ?_
  refine g_cond_t (by kernel_rfl) (by kernel_rfl) ?_
  refine D2.g_draw0 [0, 1, 2, 3, 4, 5, 6, 7, 8, 9, 10, 11, 12] [((some 35), fun _ => .int .i64 1), ((some 36), fun _ => .int .i64 0), ((some 37), fun _ => .int .i64 1), ((some 38), fun _ => .int .i64 0), ((some 39), fun _ => .pointer (some ⟨b3, 0, none⟩)), ((some 40), fun _ => .int .u64 ((0 ||| ((A % 18446744073709551616) / 2 ^ (d % 64)) : Nat) : Int)), ((some 41), fun _ => .int .u64 ((A / 18446744073709551616 % 18446744073709551616 : Nat) : Int)), ((some 42), fun _ => .int .i64 ((d % 64 : Nat) : Int)), ((some 43), fun _ => .int .i64 ((64 - (d % 64) : Nat) : Int)), ((some 44), fun _ => .int .u64 (((A / 18446744073709551616 % 18446744073709551616) * 2 ^ (64 - (d % 64)) % 18446744073709551616 : Nat) : Int)), ((some 45), fun _ => .int .u64 (((0 ||| ((A % 18446744073709551616) / 2 ^ (d % 64))) ||| ((A / 18446744073709551616 % 18446744073709551616) * 2 ^ (64 - (d % 64)) % 18446744073709551616) : Nat) : Int)), ((some 46), fun _ => .pointer (some ⟨b3, 0, none⟩)), (none, fun _ => undef)] (D2.Pre w.heap.size w (fun L g => [(true, (bif L 12 then (b3, Obj.cells #[.int .u64 (((0 ||| ((A % 18446744073709551616) / 2 ^ (d % 64))) ||| ((A / 18446744073709551616 % 18446744073709551616) * 2 ^ (64 - (d % 64)) % 18446744073709551616) : Nat) : Int), .int .u64 ((0 ||| ((A / 18446744073709551616 % 18446744073709551616) / 2 ^ (d % 64)) : Nat) : Int), .int .u64 0, .int .u64 0] 24 (0, 0)) else (b3, Obj.cells #[.int .u64 ((0 ||| ((A % 18446744073709551616) / 2 ^ (d % 64)) : Nat) : Int), .int .u64 ((0 ||| ((A / 18446744073709551616 % 18446744073709551616) / 2 ^ (d % 64)) : Nat) : Int), .int .u64 0, .int .u64 0] 24 (0, 0)))), (true, (b2, Obj.cells #[.int .u64 0, .int .u64 0, .int .u64 0, .int .u64 0] 24 (0, 0))), (true, (b1, Obj.cells (Value.cells (uv A)) 24 (0, 0)))]) (fun L g => True)) (by kernel_rfl) (by kernel_rfl) (by kernel_rfl) ⟨D2.StE.of H5.drew _ (by kernel_rfl), trivial⟩ ⟨?_, ?_, ?_, ?_, ?_, ?_, ?_, ?_, ?_, ?_, ?_, ?_, ?_, trivial⟩ ?_
  · exact D2.gv_val (fun _ _ _ h => h) (fun g w => by kernel_rfl)
  · exact D2.gv_val (fun _ _ _ h => h) (fun g w => by kernel_rfl)
  · exact D2.gv_val (fun _ _ _ h => h) (fun g w => by kernel_rfl)
  · exact D2.gv_val (fun _ _ _ h => h) (fun g w => by kernel_rfl)
  · exact D2.gv_val (fun _ _ _ h => h) (fun g w => by kernel_rfl)
  · exact D2.gv_load1 22 (.tmp 39) 0 (fun g => b3) (fun g => 0) (fun g => #[.int .u64 ((0 ||| ((A % 18446744073709551616) / 2 ^ (d % 64)) : Nat) : Int), .int .u64 ((0 ||| ((A / 18446744073709551616 % 18446744073709551616) / 2 ^ (d % 64)) : Nat) : Int), .int .u64 0, .int .u64 0]) 24 (0, 0) (fun _ _ _ h => h) (fun g => by kernel_rfl) (fun g => by kernel_rfl) (fun L g hN => (by have hL12 : L 12 = false := (hN.post 12 (by kernel_rfl)); exact D2.ent_get' (p := true) (e := (bif L 12 then (b3, Obj.cells #[.int .u64 (((0 ||| ((A % 18446744073709551616) / 2 ^ (d % 64))) ||| ((A / 18446744073709551616 % 18446744073709551616) * 2 ^ (64 - (d % 64)) % 18446744073709551616) : Nat) : Int), .int .u64 ((0 ||| ((A / 18446744073709551616 % 18446744073709551616) / 2 ^ (d % 64)) : Nat) : Int), .int .u64 0, .int .u64 0] 24 (0, 0)) else (b3, Obj.cells #[.int .u64 ((0 ||| ((A % 18446744073709551616) / 2 ^ (d % 64)) : Nat) : Int), .int .u64 ((0 ||| ((A / 18446744073709551616 % 18446744073709551616) / 2 ^ (d % 64)) : Nat) : Int), .int .u64 0, .int .u64 0] 24 (0, 0)))) (by kernel_rfl) (by rfl) (by simp only [hL12, cond_true, cond_false] <;> rfl))) (by kernel_rfl) (fun L g hN hF => by kernel_rfl)
  · exact D2.gv_val (fun _ _ _ h => h) (fun g w => by kernel_rfl)
  · exact D2.gv_val (fun _ _ _ h => h) (fun g w => by kernel_rfl)
  · exact D2.gv_valE (fun _ _ _ h => h) (V' := .int .i64 (IntKind.i64.wrap (64 - ((d % 64 : Nat) : Int)))) (fun g w => by kernel_rfl) (int_eq (wrapSub_i64 (a := 64) (b := d % 64) (by omega)))
  · exact D2.gv_valE (fun _ _ _ h => h) (V' := .int .u64 (IntKind.u64.wrap ((((A / 18446744073709551616 % 18446744073709551616 : Nat) : Int)) * 2 ^ (min (64 - (d % 64)) 64)))) (fun g w => by kernel_rfl) (int_eq (shlN (A / 18446744073709551616 % 18446744073709551616) (64 - (d % 64))))
  · exact D2.gv_valE (fun _ _ _ h => h) (V' := .int .u64 (Go.bits .or .u64 (((0 ||| ((A % 18446744073709551616) / 2 ^ (d % 64)) : Nat) : Int)) ((((A / 18446744073709551616 % 18446744073709551616) * 2 ^ (64 - (d % 64)) % 18446744073709551616 : Nat) : Int)))) (fun g w => by kernel_rfl) (int_eq (u64_or_nat (0 ||| ((A % 18446744073709551616) / 2 ^ (d % 64))) ((A / 18446744073709551616 % 18446744073709551616) * 2 ^ (64 - (d % 64)) % 18446744073709551616) (by omega) (by omega)))
  · exact D2.gv_val (fun _ _ _ h => h) (fun g w => by kernel_rfl)
  · exact D2.gv_store 0 22 (.tmp 46) (.tmp 45) (fun g => b3) (fun g => 0) #[.int .u64 ((0 ||| ((A % 18446744073709551616) / 2 ^ (d % 64)) : Nat) : Int), .int .u64 ((0 ||| ((A / 18446744073709551616 % 18446744073709551616) / 2 ^ (d % 64)) : Nat) : Int), .int .u64 0, .int .u64 0] #[.int .u64 (((0 ||| ((A % 18446744073709551616) / 2 ^ (d % 64))) ||| ((A / 18446744073709551616 % 18446744073709551616) * 2 ^ (64 - (d % 64)) % 18446744073709551616) : Nat) : Int), .int .u64 ((0 ||| ((A / 18446744073709551616 % 18446744073709551616) / 2 ^ (d % 64)) : Nat) : Int), .int .u64 0, .int .u64 0] 24 (.int .u64 (((0 ||| ((A % 18446744073709551616) / 2 ^ (d % 64))) ||| ((A / 18446744073709551616 % 18446744073709551616) * 2 ^ (64 - (d % 64)) % 18446744073709551616) : Nat) : Int)) (fun g => by kernel_rfl) (fun g => by kernel_rfl) (fun g => by kernel_rfl) (by kernel_rfl) (by kernel_rfl) (fun g => (of_decide_eq_true (by kernel_rfl))) (fun g => (by kernel_rfl)) (fun L g hN => ⟨(by have hL12 : L 12 = false := hN.1; exact D2.ent_get' (p := true) (e := (bif L 12 then (b3, Obj.cells #[.int .u64 (((0 ||| ((A % 18446744073709551616) / 2 ^ (d % 64))) ||| ((A / 18446744073709551616 % 18446744073709551616) * 2 ^ (64 - (d % 64)) % 18446744073709551616) : Nat) : Int), .int .u64 ((0 ||| ((A / 18446744073709551616 % 18446744073709551616) / 2 ^ (d % 64)) : Nat) : Int), .int .u64 0, .int .u64 0] 24 (0, 0)) else (b3, Obj.cells #[.int .u64 ((0 ||| ((A % 18446744073709551616) / 2 ^ (d % 64)) : Nat) : Int), .int .u64 ((0 ||| ((A / 18446744073709551616 % 18446744073709551616) / 2 ^ (d % 64)) : Nat) : Int), .int .u64 0, .int .u64 0] 24 (0, 0)))) (by kernel_rfl) (by rfl) (by simp only [hL12, cond_true, cond_false] <;> rfl)), (by kernel_rfl)⟩) (fun L g hN hF => hF)
  intro L0 G6 w6 hall HL; clear H5
  have H6 : St w.heap.size w w6 [(b3, Obj.cells #[.int .u64 (((0 ||| ((A % 18446744073709551616) / 2 ^ (d % 64))) ||| ((A / 18446744073709551616 % 18446744073709551616) * 2 ^ (64 - (d % 64)) % 18446744073709551616) : Nat) : Int), .int .u64 ((0 ||| ((A / 18446744073709551616 % 18446744073709551616) / 2 ^ (d % 64)) : Nat) : Int), .int .u64 0, .int .u64 0] 24 (0, 0)), (b2, Obj.cells #[.int .u64 0, .int .u64 0, .int .u64 0, .int .u64 0] 24 (0, 0)), (b1, Obj.cells (Value.cells (uv A)) 24 (0, 0))] := by have e12 := hall 12 (Nat.le_of_ble_eq_true (by kernel_rfl)); have hS := D2.StE.st HL.1; simp only [e12, cond_true, D2.pres] at hS; exact hS
  clear HL hall
  show WP _ _ _ _ _ _
  refine g_reg0 [0, 1] (by kernel_rfl) ?_
  refine s_val (some 47) (.int .i64 2) (fun w => by kernel_rfl) (by kernel_rfl) ?_
  refine s_val (some 15) (.int .i64 2) (fun w => by kernel_rfl) (by kernel_rfl) ?_
  refine s_nil ?_
  show WPL _ _ _ _ _ _
  refine g_next ?_
  refine g_sreg [0] (by kernel_rfl) (by kernel_rfl) ?_
  refine s_val (some 16) (.bool true) (fun w => by kernel_rfl) (by kernel_rfl) ?_
  refine s_nil ?_
  refine g_seq (by kernel_rfl) ?_
  refine g_cond_t (by kernel_rfl) (by kernel_rfl) ?_
  refine g_skip (by kernel_rfl) ?_
  show WP _ _ _ _ _ _
  refine g_seq (by kernel_rfl) ?_
  refine g_block 1 (by kernel_rfl) ?_
  refine g_sreg [0, 1, 2, 3] (by kernel_rfl) (by kernel_rfl) ?_
  refine s_val (some 17) (.int .i64 2) (fun w => by kernel_rfl) (by kernel_rfl) ?_
  refine s_val (some 18) (.int .u64 ((A / 340282366920938463463374607431768211456 % 18446744073709551616 : Nat) : Int)) (fun w => by kernel_rfl) (by kernel_rfl) ?_
  refine s_val (some 8) (.int .i64 2) (fun w => by kernel_rfl) (by kernel_rfl) ?_
  refine s_val (some 9) (.int .u64 ((A / 340282366920938463463374607431768211456 % 18446744073709551616 : Nat) : Int)) (fun w => by kernel_rfl) (by kernel_rfl) ?_
  refine s_nil ?_
  refine g_seq (by kernel_rfl) ?_
  refine g_sreg [0, 1, 2] (by kernel_rfl) (by kernel_rfl) ?_
  refine s_val (some 19) (.int .i64 2) (fun w => by kernel_rfl) (by kernel_rfl) ?_
  refine s_val (some 20) (.int .i64 0) (fun w => by kernel_rfl) (by kernel_rfl) ?_
  refine s_val (some 21) (.bool true) (fun w => by kernel_rfl) (by kernel_rfl) ?_
  refine s_nil ?_
  refine g_cond_t (by kernel_rfl) (by kernel_rfl) ?_
  refine D2.g_draw0 [0, 1, 2, 3, 4, 5, 6, 7, 8, 9, 10] [((some 22), fun _ => .int .i64 2), ((some 23), fun _ => .int .i64 0), ((some 24), fun _ => .int .i64 2), ((some 25), fun _ => .pointer (some ⟨b3, 2, none⟩)), ((some 26), fun _ => .int .u64 0), ((some 27), fun _ => .int .u64 ((A / 340282366920938463463374607431768211456 % 18446744073709551616 : Nat) : Int)), ((some 28), fun _ => .int .i64 ((d % 64 : Nat) : Int)), ((some 29), fun _ => .int .u64 (((A / 340282366920938463463374607431768211456 % 18446744073709551616) / 2 ^ (d % 64) : Nat) : Int)), ((some 30), fun _ => .int .u64 ((0 ||| ((A / 340282366920938463463374607431768211456 % 18446744073709551616) / 2 ^ (d % 64)) : Nat) : Int)), ((some 31), fun _ => .pointer (some ⟨b3, 2, none⟩)), (none, fun _ => undef)] (D2.Pre w.heap.size w (fun L g => [(true, (bif L 10 then (b3, Obj.cells #[.int .u64 (((0 ||| ((A % 18446744073709551616) / 2 ^ (d % 64))) ||| ((A / 18446744073709551616 % 18446744073709551616) * 2 ^ (64 - (d % 64)) % 18446744073709551616) : Nat) : Int), .int .u64 ((0 ||| ((A / 18446744073709551616 % 18446744073709551616) / 2 ^ (d % 64)) : Nat) : Int), .int .u64 ((0 ||| ((A / 340282366920938463463374607431768211456 % 18446744073709551616) / 2 ^ (d % 64)) : Nat) : Int), .int .u64 0] 24 (0, 0)) else (b3, Obj.cells #[.int .u64 (((0 ||| ((A % 18446744073709551616) / 2 ^ (d % 64))) ||| ((A / 18446744073709551616 % 18446744073709551616) * 2 ^ (64 - (d % 64)) % 18446744073709551616) : Nat) : Int), .int .u64 ((0 ||| ((A / 18446744073709551616 % 18446744073709551616) / 2 ^ (d % 64)) : Nat) : Int), .int .u64 0, .int .u64 0] 24 (0, 0)))), (true, (b2, Obj.cells #[.int .u64 0, .int .u64 0, .int .u64 0, .int .u64 0] 24 (0, 0))), (true, (b1, Obj.cells (Value.cells (uv A)) 24 (0, 0)))]) (fun L g => True)) (by kernel_rfl) (by kernel_rfl) (by kernel_rfl) ⟨D2.StE.of H6.drew _ (by kernel_rfl), trivial⟩ ⟨?_, ?_, ?_, ?_, ?_, ?_, ?_, ?_, ?_, ?_, ?_, trivial⟩ ?_
  · exact D2.gv_val (fun _ _ _ h => h) (fun g w => by kernel_rfl)
  · exact D2.gv_val (fun _ _ _ h => h) (fun g w => by kernel_rfl)
  · exact D2.gv_val (fun _ _ _ h => h) (fun g w => by kernel_rfl)
  · exact D2.gv_val (fun _ _ _ h => h) (fun g w => by kernel_rfl)
  · exact D2.gv_load1 22 (.tmp 25) 0 (fun g => b3) (fun g => 2) (fun g => #[.int .u64 (((0 ||| ((A % 18446744073709551616) / 2 ^ (d % 64))) ||| ((A / 18446744073709551616 % 18446744073709551616) * 2 ^ (64 - (d % 64)) % 18446744073709551616) : Nat) : Int), .int .u64 ((0 ||| ((A / 18446744073709551616 % 18446744073709551616) / 2 ^ (d % 64)) : Nat) : Int), .int .u64 0, .int .u64 0]) 24 (0, 0) (fun _ _ _ h => h) (fun g => by kernel_rfl) (fun g => by kernel_rfl) (fun L g hN => (by have hL10 : L 10 = false := (hN.post 10 (by kernel_rfl)); exact D2.ent_get' (p := true) (e := (bif L 10 then (b3, Obj.cells #[.int .u64 (((0 ||| ((A % 18446744073709551616) / 2 ^ (d % 64))) ||| ((A / 18446744073709551616 % 18446744073709551616) * 2 ^ (64 - (d % 64)) % 18446744073709551616) : Nat) : Int), .int .u64 ((0 ||| ((A / 18446744073709551616 % 18446744073709551616) / 2 ^ (d % 64)) : Nat) : Int), .int .u64 ((0 ||| ((A / 340282366920938463463374607431768211456 % 18446744073709551616) / 2 ^ (d % 64)) : Nat) : Int), .int .u64 0] 24 (0, 0)) else (b3, Obj.cells #[.int .u64 (((0 ||| ((A % 18446744073709551616) / 2 ^ (d % 64))) ||| ((A / 18446744073709551616 % 18446744073709551616) * 2 ^ (64 - (d % 64)) % 18446744073709551616) : Nat) : Int), .int .u64 ((0 ||| ((A / 18446744073709551616 % 18446744073709551616) / 2 ^ (d % 64)) : Nat) : Int), .int .u64 0, .int .u64 0] 24 (0, 0)))) (by kernel_rfl) (by rfl) (by simp only [hL10, cond_true, cond_false] <;> rfl))) (by kernel_rfl) (fun L g hN hF => by kernel_rfl)
  · exact D2.gv_val (fun _ _ _ h => h) (fun g w => by kernel_rfl)
  · exact D2.gv_val (fun _ _ _ h => h) (fun g w => by kernel_rfl)
  · exact D2.gv_valE (fun _ _ _ h => h) (V' := .int .u64 (Int.fdiv ((A / 340282366920938463463374607431768211456 % 18446744073709551616 : Nat) : Int) (2 ^ (min (d % 64) 64)))) (fun g w => by kernel_rfl) (int_eq (shr_min (A / 340282366920938463463374607431768211456 % 18446744073709551616) (d % 64) 64 (by omega)))
  · exact D2.gv_valE (fun _ _ _ h => h) (V' := .int .u64 (Go.bits .or .u64 (0) ((((A / 340282366920938463463374607431768211456 % 18446744073709551616) / 2 ^ (d % 64) : Nat) : Int)))) (fun g w => by kernel_rfl) (int_eq (u64_or_nat 0 ((A / 340282366920938463463374607431768211456 % 18446744073709551616) / 2 ^ (d % 64)) (by omega) (by omega)))
  · exact D2.gv_val (fun _ _ _ h => h) (fun g w => by kernel_rfl)
  · exact D2.gv_store 0 22 (.tmp 31) (.tmp 30) (fun g => b3) (fun g => 2) #[.int .u64 (((0 ||| ((A % 18446744073709551616) / 2 ^ (d % 64))) ||| ((A / 18446744073709551616 % 18446744073709551616) * 2 ^ (64 - (d % 64)) % 18446744073709551616) : Nat) : Int), .int .u64 ((0 ||| ((A / 18446744073709551616 % 18446744073709551616) / 2 ^ (d % 64)) : Nat) : Int), .int .u64 0, .int .u64 0] #[.int .u64 (((0 ||| ((A % 18446744073709551616) / 2 ^ (d % 64))) ||| ((A / 18446744073709551616 % 18446744073709551616) * 2 ^ (64 - (d % 64)) % 18446744073709551616) : Nat) : Int), .int .u64 ((0 ||| ((A / 18446744073709551616 % 18446744073709551616) / 2 ^ (d % 64)) : Nat) : Int), .int .u64 ((0 ||| ((A / 340282366920938463463374607431768211456 % 18446744073709551616) / 2 ^ (d % 64)) : Nat) : Int), .int .u64 0] 24 (.int .u64 ((0 ||| ((A / 340282366920938463463374607431768211456 % 18446744073709551616) / 2 ^ (d % 64)) : Nat) : Int)) (fun g => by kernel_rfl) (fun g => by kernel_rfl) (fun g => by kernel_rfl) (by kernel_rfl) (by kernel_rfl) (fun g => (of_decide_eq_true (by kernel_rfl))) (fun g => (by kernel_rfl)) (fun L g hN => ⟨(by have hL10 : L 10 = false := hN.1; exact D2.ent_get' (p := true) (e := (bif L 10 then (b3, Obj.cells #[.int .u64 (((0 ||| ((A % 18446744073709551616) / 2 ^ (d % 64))) ||| ((A / 18446744073709551616 % 18446744073709551616) * 2 ^ (64 - (d % 64)) % 18446744073709551616) : Nat) : Int), .int .u64 ((0 ||| ((A / 18446744073709551616 % 18446744073709551616) / 2 ^ (d % 64)) : Nat) : Int), .int .u64 ((0 ||| ((A / 340282366920938463463374607431768211456 % 18446744073709551616) / 2 ^ (d % 64)) : Nat) : Int), .int .u64 0] 24 (0, 0)) else (b3, Obj.cells #[.int .u64 (((0 ||| ((A % 18446744073709551616) / 2 ^ (d % 64))) ||| ((A / 18446744073709551616 % 18446744073709551616) * 2 ^ (64 - (d % 64)) % 18446744073709551616) : Nat) : Int), .int .u64 ((0 ||| ((A / 18446744073709551616 % 18446744073709551616) / 2 ^ (d % 64)) : Nat) : Int), .int .u64 0, .int .u64 0] 24 (0, 0)))) (by kernel_rfl) (by rfl) (by simp only [hL10, cond_true, cond_false] <;> rfl)), (by kernel_rfl)⟩) (fun L g hN hF => hF)
  intro L0 G7 w7 hall HL; clear H6
  have H7 : St w.heap.size w w7 [(b3, Obj.cells #[.int .u64 (((0 ||| ((A % 18446744073709551616) / 2 ^ (d % 64))) ||| ((A / 18446744073709551616 % 18446744073709551616) * 2 ^ (64 - (d % 64)) % 18446744073709551616) : Nat) : Int), .int .u64 ((0 ||| ((A / 18446744073709551616 % 18446744073709551616) / 2 ^ (d % 64)) : Nat) : Int), .int .u64 ((0 ||| ((A / 340282366920938463463374607431768211456 % 18446744073709551616) / 2 ^ (d % 64)) : Nat) : Int), .int .u64 0] 24 (0, 0)), (b2, Obj.cells #[.int .u64 0, .int .u64 0, .int .u64 0, .int .u64 0] 24 (0, 0)), (b1, Obj.cells (Value.cells (uv A)) 24 (0, 0))] := by have e10 := hall 10 (Nat.le_of_ble_eq_true (by kernel_rfl)); have hS := D2.StE.st HL.1; simp only [e10, cond_true, D2.pres] at hS; exact hS
  clear HL hall
  show WP _ _ _ _ _ _
  refine g_sreg [0, 1, 2] (by kernel_rfl) (by kernel_rfl) ?_
  refine s_val (some 32) (.int .i64 2) (fun w => by kernel_rfl) (by kernel_rfl) ?_
  refine s_val (some 33) (.int .i64 0) (fun w => by kernel_rfl) (by kernel_rfl) ?_
  refine s_val (some 34) (.bool true) (fun w => by kernel_rfl) (by kernel_rfl) ?_
  refine s_nil ?_
  refine g_cond_t (by kernel_rfl) (by kernel_rfl) ?_
  refine D2.g_draw0 [0, 1, 2, 3, 4, 5, 6, 7, 8, 9, 10, 11, 12] [((some 35), fun _ => .int .i64 2), ((some 36), fun _ => .int .i64 0), ((some 37), fun _ => .int .i64 2), ((some 38), fun _ => .int .i64 1), ((some 39), fun _ => .pointer (some ⟨b3, 1, none⟩)), ((some 40), fun _ => .int .u64 ((0 ||| ((A / 18446744073709551616 % 18446744073709551616) / 2 ^ (d % 64)) : Nat) : Int)), ((some 41), fun _ => .int .u64 ((A / 340282366920938463463374607431768211456 % 18446744073709551616 : Nat) : Int)), ((some 42), fun _ => .int .i64 ((d % 64 : Nat) : Int)), ((some 43), fun _ => .int .i64 ((64 - (d % 64) : Nat) : Int)), ((some 44), fun _ => .int .u64 (((A / 340282366920938463463374607431768211456 % 18446744073709551616) * 2 ^ (64 - (d % 64)) % 18446744073709551616 : Nat) : Int)), ((some 45), fun _ => .int .u64 (((0 ||| ((A / 18446744073709551616 % 18446744073709551616) / 2 ^ (d % 64))) ||| ((A / 340282366920938463463374607431768211456 % 18446744073709551616) * 2 ^ (64 - (d % 64)) % 18446744073709551616) : Nat) : Int)), ((some 46), fun _ => .pointer (some ⟨b3, 1, none⟩)), (none, fun _ => undef)] (D2.Pre w.heap.size w (fun L g => [(true, (bif L 12 then (b3, Obj.cells #[.int .u64 (((0 ||| ((A % 18446744073709551616) / 2 ^ (d % 64))) ||| ((A / 18446744073709551616 % 18446744073709551616) * 2 ^ (64 - (d % 64)) % 18446744073709551616) : Nat) : Int), .int .u64 (((0 ||| ((A / 18446744073709551616 % 18446744073709551616) / 2 ^ (d % 64))) ||| ((A / 340282366920938463463374607431768211456 % 18446744073709551616) * 2 ^ (64 - (d % 64)) % 18446744073709551616) : Nat) : Int), .int .u64 ((0 ||| ((A / 340282366920938463463374607431768211456 % 18446744073709551616) / 2 ^ (d % 64)) : Nat) : Int), .int .u64 0] 24 (0, 0)) else (b3, Obj.cells #[.int .u64 (((0 ||| ((A % 18446744073709551616) / 2 ^ (d % 64))) ||| ((A / 18446744073709551616 % 18446744073709551616) * 2 ^ (64 - (d % 64)) % 18446744073709551616) : Nat) : Int), .int .u64 ((0 ||| ((A / 18446744073709551616 % 18446744073709551616) / 2 ^ (d % 64)) : Nat) : Int), .int .u64 ((0 ||| ((A / 340282366920938463463374607431768211456 % 18446744073709551616) / 2 ^ (d % 64)) : Nat) : Int), .int .u64 0] 24 (0, 0)))), (true, (b2, Obj.cells #[.int .u64 0, .int .u64 0, .int .u64 0, .int .u64 0] 24 (0, 0))), (true, (b1, Obj.cells (Value.cells (uv A)) 24 (0, 0)))]) (fun L g => True)) (by kernel_rfl) (by kernel_rfl) (by kernel_rfl) ⟨D2.StE.of H7.drew _ (by kernel_rfl), trivial⟩ ⟨?_, ?_, ?_, ?_, ?_, ?_, ?_, ?_, ?_, ?_, ?_, ?_, ?_, trivial⟩ ?_
  · exact D2.gv_val (fun _ _ _ h => h) (fun g w => by kernel_rfl)
  · exact D2.gv_val (fun _ _ _ h => h) (fun g w => by kernel_rfl)
  · exact D2.gv_val (fun _ _ _ h => h) (fun g w => by kernel_rfl)
  · exact D2.gv_val (fun _ _ _ h => h) (fun g w => by kernel_rfl)
  · exact D2.gv_val (fun _ _ _ h => h) (fun g w => by kernel_rfl)
  · exact D2.gv_load1 22 (.tmp 39) 0 (fun g => b3) (fun g => 1) (fun g => #[.int .u64 (((0 ||| ((A % 18446744073709551616) / 2 ^ (d % 64))) ||| ((A / 18446744073709551616 % 18446744073709551616) * 2 ^ (64 - (d % 64)) % 18446744073709551616) : Nat) : Int), .int .u64 ((0 ||| ((A / 18446744073709551616 % 18446744073709551616) / 2 ^ (d % 64)) : Nat) : Int), .int .u64 ((0 ||| ((A / 340282366920938463463374607431768211456 % 18446744073709551616) / 2 ^ (d % 64)) : Nat) : Int), .int .u64 0]) 24 (0, 0) (fun _ _ _ h => h) (fun g => by kernel_rfl) (fun g => by kernel_rfl) (fun L g hN => (by have hL12 : L 12 = false := (hN.post 12 (by kernel_rfl)); exact D2.ent_get' (p := true) (e := (bif L 12 then (b3, Obj.cells #[.int .u64 (((0 ||| ((A % 18446744073709551616) / 2 ^ (d % 64))) ||| ((A / 18446744073709551616 % 18446744073709551616) * 2 ^ (64 - (d % 64)) % 18446744073709551616) : Nat) : Int), .int .u64 (((0 ||| ((A / 18446744073709551616 % 18446744073709551616) / 2 ^ (d % 64))) ||| ((A / 340282366920938463463374607431768211456 % 18446744073709551616) * 2 ^ (64 - (d % 64)) % 18446744073709551616) : Nat) : Int), .int .u64 ((0 ||| ((A / 340282366920938463463374607431768211456 % 18446744073709551616) / 2 ^ (d % 64)) : Nat) : Int), .int .u64 0] 24 (0, 0)) else (b3, Obj.cells #[.int .u64 (((0 ||| ((A % 18446744073709551616) / 2 ^ (d % 64))) ||| ((A / 18446744073709551616 % 18446744073709551616) * 2 ^ (64 - (d % 64)) % 18446744073709551616) : Nat) : Int), .int .u64 ((0 ||| ((A / 18446744073709551616 % 18446744073709551616) / 2 ^ (d % 64)) : Nat) : Int), .int .u64 ((0 ||| ((A / 340282366920938463463374607431768211456 % 18446744073709551616) / 2 ^ (d % 64)) : Nat) : Int), .int .u64 0] 24 (0, 0)))) (by kernel_rfl) (by rfl) (by simp only [hL12, cond_true, cond_false] <;> rfl))) (by kernel_rfl) (fun L g hN hF => by kernel_rfl)
  · exact D2.gv_val (fun _ _ _ h => h) (fun g w => by kernel_rfl)
  · exact D2.gv_val (fun _ _ _ h => h) (fun g w => by kernel_rfl)
  · exact D2.gv_valE (fun _ _ _ h => h) (V' := .int .i64 (IntKind.i64.wrap (64 - ((d % 64 : Nat) : Int)))) (fun g w => by kernel_rfl) (int_eq (wrapSub_i64 (a := 64) (b := d % 64) (by omega)))
  · exact D2.gv_valE (fun _ _ _ h => h) (V' := .int .u64 (IntKind.u64.wrap ((((A / 340282366920938463463374607431768211456 % 18446744073709551616 : Nat) : Int)) * 2 ^ (min (64 - (d % 64)) 64)))) (fun g w => by kernel_rfl) (int_eq (shlN (A / 340282366920938463463374607431768211456 % 18446744073709551616) (64 - (d % 64))))
  · exact D2.gv_valE (fun _ _ _ h => h) (V' := .int .u64 (Go.bits .or .u64 (((0 ||| ((A / 18446744073709551616 % 18446744073709551616) / 2 ^ (d % 64)) : Nat) : Int)) ((((A / 340282366920938463463374607431768211456 % 18446744073709551616) * 2 ^ (64 - (d % 64)) % 18446744073709551616 : Nat) : Int)))) (fun g w => by kernel_rfl) (int_eq (u64_or_nat (0 ||| ((A / 18446744073709551616 % 18446744073709551616) / 2 ^ (d % 64))) ((A / 340282366920938463463374607431768211456 % 18446744073709551616) * 2 ^ (64 - (d % 64)) % 18446744073709551616) (by omega) (by omega)))
  · exact D2.gv_val (fun _ _ _ h => h) (fun g w => by kernel_rfl)
  · exact D2.gv_store 0 22 (.tmp 46) (.tmp 45) (fun g => b3) (fun g => 1) #[.int .u64 (((0 ||| ((A % 18446744073709551616) / 2 ^ (d % 64))) ||| ((A / 18446744073709551616 % 18446744073709551616) * 2 ^ (64 - (d % 64)) % 18446744073709551616) : Nat) : Int), .int .u64 ((0 ||| ((A / 18446744073709551616 % 18446744073709551616) / 2 ^ (d % 64)) : Nat) : Int), .int .u64 ((0 ||| ((A / 340282366920938463463374607431768211456 % 18446744073709551616) / 2 ^ (d % 64)) : Nat) : Int), .int .u64 0] #[.int .u64 (((0 ||| ((A % 18446744073709551616) / 2 ^ (d % 64))) ||| ((A / 18446744073709551616 % 18446744073709551616) * 2 ^ (64 - (d % 64)) % 18446744073709551616) : Nat) : Int), .int .u64 (((0 ||| ((A / 18446744073709551616 % 18446744073709551616) / 2 ^ (d % 64))) ||| ((A / 340282366920938463463374607431768211456 % 18446744073709551616) * 2 ^ (64 - (d % 64)) % 18446744073709551616) : Nat) : Int), .int .u64 ((0 ||| ((A / 340282366920938463463374607431768211456 % 18446744073709551616) / 2 ^ (d % 64)) : Nat) : Int), .int .u64 0] 24 (.int .u64 (((0 ||| ((A / 18446744073709551616 % 18446744073709551616) / 2 ^ (d % 64))) ||| ((A / 340282366920938463463374607431768211456 % 18446744073709551616) * 2 ^ (64 - (d % 64)) % 18446744073709551616) : Nat) : Int)) (fun g => by kernel_rfl) (fun g => by kernel_rfl) (fun g => by kernel_rfl) (by kernel_rfl) (by kernel_rfl) (fun g => (of_decide_eq_true (by kernel_rfl))) (fun g => (by kernel_rfl)) (fun L g hN => ⟨(by have hL12 : L 12 = false := hN.1; exact D2.ent_get' (p := true) (e := (bif L 12 then (b3, Obj.cells #[.int .u64 (((0 ||| ((A % 18446744073709551616) / 2 ^ (d % 64))) ||| ((A / 18446744073709551616 % 18446744073709551616) * 2 ^ (64 - (d % 64)) % 18446744073709551616) : Nat) : Int), .int .u64 (((0 ||| ((A / 18446744073709551616 % 18446744073709551616) / 2 ^ (d % 64))) ||| ((A / 340282366920938463463374607431768211456 % 18446744073709551616) * 2 ^ (64 - (d % 64)) % 18446744073709551616) : Nat) : Int), .int .u64 ((0 ||| ((A / 340282366920938463463374607431768211456 % 18446744073709551616) / 2 ^ (d % 64)) : Nat) : Int), .int .u64 0] 24 (0, 0)) else (b3, Obj.cells #[.int .u64 (((0 ||| ((A % 18446744073709551616) / 2 ^ (d % 64))) ||| ((A / 18446744073709551616 % 18446744073709551616) * 2 ^ (64 - (d % 64)) % 18446744073709551616) : Nat) : Int), .int .u64 ((0 ||| ((A / 18446744073709551616 % 18446744073709551616) / 2 ^ (d % 64)) : Nat) : Int), .int .u64 ((0 ||| ((A / 340282366920938463463374607431768211456 % 18446744073709551616) / 2 ^ (d % 64)) : Nat) : Int), .int .u64 0] 24 (0, 0)))) (by kernel_rfl) (by rfl) (by simp only [hL12, cond_true, cond_false] <;> rfl)), (by kernel_rfl)⟩) (fun L g hN hF => hF)
  intro L0 G8 w8 hall HL; clear H7
  have H8 : St w.heap.size w w8 [(b3, Obj.cells #[.int .u64 (((0 ||| ((A % 18446744073709551616) / 2 ^ (d % 64))) ||| ((A / 18446744073709551616 % 18446744073709551616) * 2 ^ (64 - (d % 64)) % 18446744073709551616) : Nat) : Int), .int .u64 (((0 ||| ((A / 18446744073709551616 % 18446744073709551616) / 2 ^ (d % 64))) ||| ((A / 340282366920938463463374607431768211456 % 18446744073709551616) * 2 ^ (64 - (d % 64)) % 18446744073709551616) : Nat) : Int), .int .u64 ((0 ||| ((A / 340282366920938463463374607431768211456 % 18446744073709551616) / 2 ^ (d % 64)) : Nat) : Int), .int .u64 0] 24 (0, 0)), (b2, Obj.cells #[.int .u64 0, .int .u64 0, .int .u64 0, .int .u64 0] 24 (0, 0)), (b1, Obj.cells (Value.cells (uv A)) 24 (0, 0))] := by have e12 := hall 12 (Nat.le_of_ble_eq_true (by kernel_rfl)); have hS := D2.StE.st HL.1; simp only [e12, cond_true, D2.pres] at hS; exact hS
  clear HL hall
  show WP _ _ _ _ _ _
  refine g_reg0 [0, 1] (by kernel_rfl) ?_
  refine s_val (some 47) (.int .i64 3) (fun w => by kernel_rfl) (by kernel_rfl) ?_
  refine s_val (some 15) (.int .i64 3) (fun w => by kernel_rfl) (by kernel_rfl) ?_
  refine s_nil ?_
  show WPL _ _ _ _ _ _
  refine g_next ?_
  refine g_sreg [0] (by kernel_rfl) (by kernel_rfl) ?_
  refine s_val (some 16) (.bool true) (fun w => by kernel_rfl) (by kernel_rfl) ?_
  refine s_nil ?_
  refine g_seq (by kernel_rfl) ?_
  refine g_cond_t (by kernel_rfl) (by kernel_rfl) ?_
  refine g_skip (by kernel_rfl) ?_
  show WP _ _ _ _ _ _
  refine g_seq (by kernel_rfl) ?_
  refine g_block 1 (by kernel_rfl) ?_
  refine g_sreg [0, 1, 2, 3] (by kernel_rfl) (by kernel_rfl) ?_
  refine s_val (some 17) (.int .i64 3) (fun w => by kernel_rfl) (by kernel_rfl) ?_
  refine s_val (some 18) (.int .u64 ((A / 6277101735386680763835789423207666416102355444464034512896 % 18446744073709551616 : Nat) : Int)) (fun w => by kernel_rfl) (by kernel_rfl) ?_
  refine s_val (some 8) (.int .i64 3) (fun w => by kernel_rfl) (by kernel_rfl) ?_
  refine s_val (some 9) (.int .u64 ((A / 6277101735386680763835789423207666416102355444464034512896 % 18446744073709551616 : Nat) : Int)) (fun w => by kernel_rfl) (by kernel_rfl) ?_
  refine s_nil ?_
  refine g_seq (by kernel_rfl) ?_
  refine g_sreg [0, 1, 2] (by kernel_rfl) (by kernel_rfl) ?_
  refine s_val (some 19) (.int .i64 3) (fun w => by kernel_rfl) (by kernel_rfl) ?_
  refine s_val (some 20) (.int .i64 0) (fun w => by kernel_rfl) (by kernel_rfl) ?_
  refine s_val (some 21) (.bool true) (fun w => by kernel_rfl) (by kernel_rfl) ?_
  refine s_nil ?_
  refine g_cond_t (by kernel_rfl) (by kernel_rfl) ?_
  refine D2.g_draw0 [0, 1, 2, 3, 4, 5, 6, 7, 8, 9, 10] [((some 22), fun _ => .int .i64 3), ((some 23), fun _ => .int .i64 0), ((some 24), fun _ => .int .i64 3), ((some 25), fun _ => .pointer (some ⟨b3, 3, none⟩)), ((some 26), fun _ => .int .u64 0), ((some 27), fun _ => .int .u64 ((A / 6277101735386680763835789423207666416102355444464034512896 % 18446744073709551616 : Nat) : Int)), ((some 28), fun _ => .int .i64 ((d % 64 : Nat) : Int)), ((some 29), fun _ => .int .u64 (((A / 6277101735386680763835789423207666416102355444464034512896 % 18446744073709551616) / 2 ^ (d % 64) : Nat) : Int)), ((some 30), fun _ => .int .u64 ((0 ||| ((A / 6277101735386680763835789423207666416102355444464034512896 % 18446744073709551616) / 2 ^ (d % 64)) : Nat) : Int)), ((some 31), fun _ => .pointer (some ⟨b3, 3, none⟩)), (none, fun _ => undef)] (D2.Pre w.heap.size w (fun L g => [(true, (bif L 10 then (b3, Obj.cells #[.int .u64 (((0 ||| ((A % 18446744073709551616) / 2 ^ (d % 64))) ||| ((A / 18446744073709551616 % 18446744073709551616) * 2 ^ (64 - (d % 64)) % 18446744073709551616) : Nat) : Int), .int .u64 (((0 ||| ((A / 18446744073709551616 % 18446744073709551616) / 2 ^ (d % 64))) ||| ((A / 340282366920938463463374607431768211456 % 18446744073709551616) * 2 ^ (64 - (d % 64)) % 18446744073709551616) : Nat) : Int), .int .u64 ((0 ||| ((A / 340282366920938463463374607431768211456 % 18446744073709551616) / 2 ^ (d % 64)) : Nat) : Int), .int .u64 ((0 ||| ((A / 6277101735386680763835789423207666416102355444464034512896 % 18446744073709551616) / 2 ^ (d % 64)) : Nat) : Int)] 24 (0, 0)) else (b3, Obj.cells #[.int .u64 (((0 ||| ((A % 18446744073709551616) / 2 ^ (d % 64))) ||| ((A / 18446744073709551616 % 18446744073709551616) * 2 ^ (64 - (d % 64)) % 18446744073709551616) : Nat) : Int), .int .u64 (((0 ||| ((A / 18446744073709551616 % 18446744073709551616) / 2 ^ (d % 64))) ||| ((A / 340282366920938463463374607431768211456 % 18446744073709551616) * 2 ^ (64 - (d % 64)) % 18446744073709551616) : Nat) : Int), .int .u64 ((0 ||| ((A / 340282366920938463463374607431768211456 % 18446744073709551616) / 2 ^ (d % 64)) : Nat) : Int), .int .u64 0] 24 (0, 0)))), (true, (b2, Obj.cells #[.int .u64 0, .int .u64 0, .int .u64 0, .int .u64 0] 24 (0, 0))), (true, (b1, Obj.cells (Value.cells (uv A)) 24 (0, 0)))]) (fun L g => True)) (by kernel_rfl) (by kernel_rfl) (by kernel_rfl) ⟨D2.StE.of H8.drew _ (by kernel_rfl), trivial⟩ ⟨?_, ?_, ?_, ?_, ?_, ?_, ?_, ?_, ?_, ?_, ?_, trivial⟩ ?_
  · exact D2.gv_val (fun _ _ _ h => h) (fun g w => by kernel_rfl)
  · exact D2.gv_val (fun _ _ _ h => h) (fun g w => by kernel_rfl)
  · exact D2.gv_val (fun _ _ _ h => h) (fun g w => by kernel_rfl)
  · exact D2.gv_val (fun _ _ _ h => h) (fun g w => by kernel_rfl)
  · exact D2.gv_load1 22 (.tmp 25) 0 (fun g => b3) (fun g => 3) (fun g => #[.int .u64 (((0 ||| ((A % 18446744073709551616) / 2 ^ (d % 64))) ||| ((A / 18446744073709551616 % 18446744073709551616) * 2 ^ (64 - (d % 64)) % 18446744073709551616) : Nat) : Int), .int .u64 (((0 ||| ((A / 18446744073709551616 % 18446744073709551616) / 2 ^ (d % 64))) ||| ((A / 340282366920938463463374607431768211456 % 18446744073709551616) * 2 ^ (64 - (d % 64)) % 18446744073709551616) : Nat) : Int), .int .u64 ((0 ||| ((A / 340282366920938463463374607431768211456 % 18446744073709551616) / 2 ^ (d % 64)) : Nat) : Int), .int .u64 0]) 24 (0, 0) (fun _ _ _ h => h) (fun g => by kernel_rfl) (fun g => by kernel_rfl) (fun L g hN => (by have hL10 : L 10 = false := (hN.post 10 (by kernel_rfl)); exact D2.ent_get' (p := true) (e := (bif L 10 then (b3, Obj.cells #[.int .u64 (((0 ||| ((A % 18446744073709551616) / 2 ^ (d % 64))) ||| ((A / 18446744073709551616 % 18446744073709551616) * 2 ^ (64 - (d % 64)) % 18446744073709551616) : Nat) : Int), .int .u64 (((0 ||| ((A / 18446744073709551616 % 18446744073709551616) / 2 ^ (d % 64))) ||| ((A / 340282366920938463463374607431768211456 % 18446744073709551616) * 2 ^ (64 - (d % 64)) % 18446744073709551616) : Nat) : Int), .int .u64 ((0 ||| ((A / 340282366920938463463374607431768211456 % 18446744073709551616) / 2 ^ (d % 64)) : Nat) : Int), .int .u64 ((0 ||| ((A / 6277101735386680763835789423207666416102355444464034512896 % 18446744073709551616) / 2 ^ (d % 64)) : Nat) : Int)] 24 (0, 0)) else (b3, Obj.cells #[.int .u64 (((0 ||| ((A % 18446744073709551616) / 2 ^ (d % 64))) ||| ((A / 18446744073709551616 % 18446744073709551616) * 2 ^ (64 - (d % 64)) % 18446744073709551616) : Nat) : Int), .int .u64 (((0 ||| ((A / 18446744073709551616 % 18446744073709551616) / 2 ^ (d % 64))) ||| ((A / 340282366920938463463374607431768211456 % 18446744073709551616) * 2 ^ (64 - (d % 64)) % 18446744073709551616) : Nat) : Int), .int .u64 ((0 ||| ((A / 340282366920938463463374607431768211456 % 18446744073709551616) / 2 ^ (d % 64)) : Nat) : Int), .int .u64 0] 24 (0, 0)))) (by kernel_rfl) (by rfl) (by simp only [hL10, cond_true, cond_false] <;> rfl))) (by kernel_rfl) (fun L g hN hF => by kernel_rfl)
  · exact D2.gv_val (fun _ _ _ h => h) (fun g w => by kernel_rfl)
  · exact D2.gv_val (fun _ _ _ h => h) (fun g w => by kernel_rfl)
  · exact D2.gv_valE (fun _ _ _ h => h) (V' := .int .u64 (Int.fdiv ((A / 6277101735386680763835789423207666416102355444464034512896 % 18446744073709551616 : Nat) : Int) (2 ^ (min (d % 64) 64)))) (fun g w => by kernel_rfl) (int_eq (shr_min (A / 6277101735386680763835789423207666416102355444464034512896 % 18446744073709551616) (d % 64) 64 (by omega)))
  · exact D2.gv_valE (fun _ _ _ h => h) (V' := .int .u64 (Go.bits .or .u64 (0) ((((A / 6277101735386680763835789423207666416102355444464034512896 % 18446744073709551616) / 2 ^ (d % 64) : Nat) : Int)))) (fun g w => by kernel_rfl) (int_eq (u64_or_nat 0 ((A / 6277101735386680763835789423207666416102355444464034512896 % 18446744073709551616) / 2 ^ (d % 64)) (by omega) (by omega)))
  · exact D2.gv_val (fun _ _ _ h => h) (fun g w => by kernel_rfl)
  · exact D2.gv_store 0 22 (.tmp 31) (.tmp 30) (fun g => b3) (fun g => 3) #[.int .u64 (((0 ||| ((A % 18446744073709551616) / 2 ^ (d % 64))) ||| ((A / 18446744073709551616 % 18446744073709551616) * 2 ^ (64 - (d % 64)) % 18446744073709551616) : Nat) : Int), .int .u64 (((0 ||| ((A / 18446744073709551616 % 18446744073709551616) / 2 ^ (d % 64))) ||| ((A / 340282366920938463463374607431768211456 % 18446744073709551616) * 2 ^ (64 - (d % 64)) % 18446744073709551616) : Nat) : Int), .int .u64 ((0 ||| ((A / 340282366920938463463374607431768211456 % 18446744073709551616) / 2 ^ (d % 64)) : Nat) : Int), .int .u64 0] #[.int .u64 (((0 ||| ((A % 18446744073709551616) / 2 ^ (d % 64))) ||| ((A / 18446744073709551616 % 18446744073709551616) * 2 ^ (64 - (d % 64)) % 18446744073709551616) : Nat) : Int), .int .u64 (((0 ||| ((A / 18446744073709551616 % 18446744073709551616) / 2 ^ (d % 64))) ||| ((A / 340282366920938463463374607431768211456 % 18446744073709551616) * 2 ^ (64 - (d % 64)) % 18446744073709551616) : Nat) : Int), .int .u64 ((0 ||| ((A / 340282366920938463463374607431768211456 % 18446744073709551616) / 2 ^ (d % 64)) : Nat) : Int), .int .u64 ((0 ||| ((A / 6277101735386680763835789423207666416102355444464034512896 % 18446744073709551616) / 2 ^ (d % 64)) : Nat) : Int)] 24 (.int .u64 ((0 ||| ((A / 6277101735386680763835789423207666416102355444464034512896 % 18446744073709551616) / 2 ^ (d % 64)) : Nat) : Int)) (fun g => by kernel_rfl) (fun g => by kernel_rfl) (fun g => by kernel_rfl) (by kernel_rfl) (by kernel_rfl) (fun g => (of_decide_eq_true (by kernel_rfl))) (fun g => (by kernel_rfl)) (fun L g hN => ⟨(by have hL10 : L 10 = false := hN.1; exact D2.ent_get' (p := true) (e := (bif L 10 then (b3, Obj.cells #[.int .u64 (((0 ||| ((A % 18446744073709551616) / 2 ^ (d % 64))) ||| ((A / 18446744073709551616 % 18446744073709551616) * 2 ^ (64 - (d % 64)) % 18446744073709551616) : Nat) : Int), .int .u64 (((0 ||| ((A / 18446744073709551616 % 18446744073709551616) / 2 ^ (d % 64))) ||| ((A / 340282366920938463463374607431768211456 % 18446744073709551616) * 2 ^ (64 - (d % 64)) % 18446744073709551616) : Nat) : Int), .int .u64 ((0 ||| ((A / 340282366920938463463374607431768211456 % 18446744073709551616) / 2 ^ (d % 64)) : Nat) : Int), .int .u64 ((0 ||| ((A / 6277101735386680763835789423207666416102355444464034512896 % 18446744073709551616) / 2 ^ (d % 64)) : Nat) : Int)] 24 (0, 0)) else (b3, Obj.cells #[.int .u64 (((0 ||| ((A % 18446744073709551616) / 2 ^ (d % 64))) ||| ((A / 18446744073709551616 % 18446744073709551616) * 2 ^ (64 - (d % 64)) % 18446744073709551616) : Nat) : Int), .int .u64 (((0 ||| ((A / 18446744073709551616 % 18446744073709551616) / 2 ^ (d % 64))) ||| ((A / 340282366920938463463374607431768211456 % 18446744073709551616) * 2 ^ (64 - (d % 64)) % 18446744073709551616) : Nat) : Int), .int .u64 ((0 ||| ((A / 340282366920938463463374607431768211456 % 18446744073709551616) / 2 ^ (d % 64)) : Nat) : Int), .int .u64 0] 24 (0, 0)))) (by kernel_rfl) (by rfl) (by simp only [hL10, cond_true, cond_false] <;> rfl)), (by kernel_rfl)⟩) (fun L g hN hF => hF)
  intro L0 G9 w9 hall HL; clear H8
  have H9 : St w.heap.size w w9 [(b3, Obj.cells #[.int .u64 (((0 ||| ((A % 18446744073709551616) / 2 ^ (d % 64))) ||| ((A / 18446744073709551616 % 18446744073709551616) * 2 ^ (64 - (d % 64)) % 18446744073709551616) : Nat) : Int), .int .u64 (((0 ||| ((A / 18446744073709551616 % 18446744073709551616) / 2 ^ (d % 64))) ||| ((A / 340282366920938463463374607431768211456 % 18446744073709551616) * 2 ^ (64 - (d % 64)) % 18446744073709551616) : Nat) : Int), .int .u64 ((0 ||| ((A / 340282366920938463463374607431768211456 % 18446744073709551616) / 2 ^ (d % 64)) : Nat) : Int), .int .u64 ((0 ||| ((A / 6277101735386680763835789423207666416102355444464034512896 % 18446744073709551616) / 2 ^ (d % 64)) : Nat) : Int)] 24 (0, 0)), (b2, Obj.cells #[.int .u64 0, .int .u64 0, .int .u64 0, .int .u64 0] 24 (0, 0)), (b1, Obj.cells (Value.cells (uv A)) 24 (0, 0))] := by have e10 := hall 10 (Nat.le_of_ble_eq_true (by kernel_rfl)); have hS := D2.StE.st HL.1; simp only [e10, cond_true, D2.pres] at hS; exact hS
  clear HL hall
  show WP _ _ _ _ _ _
  refine g_sreg [0, 1, 2] (by kernel_rfl) (by kernel_rfl) ?_
  refine s_val (some 32) (.int .i64 3) (fun w => by kernel_rfl) (by kernel_rfl) ?_
  refine s_val (some 33) (.int .i64 0) (fun w => by kernel_rfl) (by kernel_rfl) ?_
  refine s_val (some 34) (.bool true) (fun w => by kernel_rfl) (by kernel_rfl) ?_
  refine s_nil ?_
  refine g_cond_t (by kernel_rfl) (by kernel_rfl) ?_
  refine D2.g_draw0 [0, 1, 2, 3, 4, 5, 6, 7, 8, 9, 10, 11, 12] [((some 35), fun _ => .int .i64 3), ((some 36), fun _ => .int .i64 0), ((some 37), fun _ => .int .i64 3), ((some 38), fun _ => .int .i64 2), ((some 39), fun _ => .pointer (some ⟨b3, 2, none⟩)), ((some 40), fun _ => .int .u64 ((0 ||| ((A / 340282366920938463463374607431768211456 % 18446744073709551616) / 2 ^ (d % 64)) : Nat) : Int)), ((some 41), fun _ => .int .u64 ((A / 6277101735386680763835789423207666416102355444464034512896 % 18446744073709551616 : Nat) : Int)), ((some 42), fun _ => .int .i64 ((d % 64 : Nat) : Int)), ((some 43), fun _ => .int .i64 ((64 - (d % 64) : Nat) : Int)), ((some 44), fun _ => .int .u64 (((A / 6277101735386680763835789423207666416102355444464034512896 % 18446744073709551616) * 2 ^ (64 - (d % 64)) % 18446744073709551616 : Nat) : Int)), ((some 45), fun _ => .int .u64 (((0 ||| ((A / 340282366920938463463374607431768211456 % 18446744073709551616) / 2 ^ (d % 64))) ||| ((A / 6277101735386680763835789423207666416102355444464034512896 % 18446744073709551616) * 2 ^ (64 - (d % 64)) % 18446744073709551616) : Nat) : Int)), ((some 46), fun _ => .pointer (some ⟨b3, 2, none⟩)), (none, fun _ => undef)] (D2.Pre w.heap.size w (fun L g => [(true, (bif L 12 then (b3, Obj.cells #[.int .u64 (((0 ||| ((A % 18446744073709551616) / 2 ^ (d % 64))) ||| ((A / 18446744073709551616 % 18446744073709551616) * 2 ^ (64 - (d % 64)) % 18446744073709551616) : Nat) : Int), .int .u64 (((0 ||| ((A / 18446744073709551616 % 18446744073709551616) / 2 ^ (d % 64))) ||| ((A / 340282366920938463463374607431768211456 % 18446744073709551616) * 2 ^ (64 - (d % 64)) % 18446744073709551616) : Nat) : Int), .int .u64 (((0 ||| ((A / 340282366920938463463374607431768211456 % 18446744073709551616) / 2 ^ (d % 64))) ||| ((A / 6277101735386680763835789423207666416102355444464034512896 % 18446744073709551616) * 2 ^ (64 - (d % 64)) % 18446744073709551616) : Nat) : Int), .int .u64 ((0 ||| ((A / 6277101735386680763835789423207666416102355444464034512896 % 18446744073709551616) / 2 ^ (d % 64)) : Nat) : Int)] 24 (0, 0)) else (b3, Obj.cells #[.int .u64 (((0 ||| ((A % 18446744073709551616) / 2 ^ (d % 64))) ||| ((A / 18446744073709551616 % 18446744073709551616) * 2 ^ (64 - (d % 64)) % 18446744073709551616) : Nat) : Int), .int .u64 (((0 ||| ((A / 18446744073709551616 % 18446744073709551616) / 2 ^ (d % 64))) ||| ((A / 340282366920938463463374607431768211456 % 18446744073709551616) * 2 ^ (64 - (d % 64)) % 18446744073709551616) : Nat) : Int), .int .u64 ((0 ||| ((A / 340282366920938463463374607431768211456 % 18446744073709551616) / 2 ^ (d % 64)) : Nat) : Int), .int .u64 ((0 ||| ((A / 6277101735386680763835789423207666416102355444464034512896 % 18446744073709551616) / 2 ^ (d % 64)) : Nat) : Int)] 24 (0, 0)))), (true, (b2, Obj.cells #[.int .u64 0, .int .u64 0, .int .u64 0, .int .u64 0] 24 (0, 0))), (true, (b1, Obj.cells (Value.cells (uv A)) 24 (0, 0)))]) (fun L g => True)) (by kernel_rfl) (by kernel_rfl) (by kernel_rfl) ⟨D2.StE.of H9.drew _ (by kernel_rfl), trivial⟩ ⟨?_, ?_, ?_, ?_, ?_, ?_, ?_, ?_, ?_, ?_, ?_, ?_, ?_, trivial⟩ ?_
  · exact D2.gv_val (fun _ _ _ h => h) (fun g w => by kernel_rfl)
  · exact D2.gv_val (fun _ _ _ h => h) (fun g w => by kernel_rfl)
  · exact D2.gv_val (fun _ _ _ h => h) (fun g w => by kernel_rfl)
  · exact D2.gv_val (fun _ _ _ h => h) (fun g w => by kernel_rfl)
  · exact D2.gv_val (fun _ _ _ h => h) (fun g w => by kernel_rfl)
  · exact D2.gv_load1 22 (.tmp 39) 0 (fun g => b3) (fun g => 2) (fun g => #[.int .u64 (((0 ||| ((A % 18446744073709551616) / 2 ^ (d % 64))) ||| ((A / 18446744073709551616 % 18446744073709551616) * 2 ^ (64 - (d % 64)) % 18446744073709551616) : Nat) : Int), .int .u64 (((0 ||| ((A / 18446744073709551616 % 18446744073709551616) / 2 ^ (d % 64))) ||| ((A / 340282366920938463463374607431768211456 % 18446744073709551616) * 2 ^ (64 - (d % 64)) % 18446744073709551616) : Nat) : Int), .int .u64 ((0 ||| ((A / 340282366920938463463374607431768211456 % 18446744073709551616) / 2 ^ (d % 64)) : Nat) : Int), .int .u64 ((0 ||| ((A / 6277101735386680763835789423207666416102355444464034512896 % 18446744073709551616) / 2 ^ (d % 64)) : Nat) : Int)]) 24 (0, 0) (fun _ _ _ h => h) (fun g => by kernel_rfl) (fun g => by kernel_rfl) (fun L g hN => (by have hL12 : L 12 = false := (hN.post 12 (by kernel_rfl)); exact D2.ent_get' (p := true) (e := (bif L 12 then (b3, Obj.cells #[.int .u64 (((0 ||| ((A % 18446744073709551616) / 2 ^ (d % 64))) ||| ((A / 18446744073709551616 % 18446744073709551616) * 2 ^ (64 - (d % 64)) % 18446744073709551616) : Nat) : Int), .int .u64 (((0 ||| ((A / 18446744073709551616 % 18446744073709551616) / 2 ^ (d % 64))) ||| ((A / 340282366920938463463374607431768211456 % 18446744073709551616) * 2 ^ (64 - (d % 64)) % 18446744073709551616) : Nat) : Int), .int .u64 (((0 ||| ((A / 340282366920938463463374607431768211456 % 18446744073709551616) / 2 ^ (d % 64))) ||| ((A / 6277101735386680763835789423207666416102355444464034512896 % 18446744073709551616) * 2 ^ (64 - (d % 64)) % 18446744073709551616) : Nat) : Int), .int .u64 ((0 ||| ((A / 6277101735386680763835789423207666416102355444464034512896 % 18446744073709551616) / 2 ^ (d % 64)) : Nat) : Int)] 24 (0, 0)) else (b3, Obj.cells #[.int .u64 (((0 ||| ((A % 18446744073709551616) / 2 ^ (d % 64))) ||| ((A / 18446744073709551616 % 18446744073709551616) * 2 ^ (64 - (d % 64)) % 18446744073709551616) : Nat) : Int), .int .u64 (((0 ||| ((A / 18446744073709551616 % 18446744073709551616) / 2 ^ (d % 64))) ||| ((A / 340282366920938463463374607431768211456 % 18446744073709551616) * 2 ^ (64 - (d % 64)) % 18446744073709551616) : Nat) : Int), .int .u64 ((0 ||| ((A / 340282366920938463463374607431768211456 % 18446744073709551616) / 2 ^ (d % 64)) : Nat) : Int), .int .u64 ((0 ||| ((A / 6277101735386680763835789423207666416102355444464034512896 % 18446744073709551616) / 2 ^ (d % 64)) : Nat) : Int)] 24 (0, 0)))) (by kernel_rfl) (by rfl) (by simp only [hL12, cond_true, cond_false] <;> rfl))) (by kernel_rfl) (fun L g hN hF => by kernel_rfl)
  · exact D2.gv_val (fun _ _ _ h => h) (fun g w => by kernel_rfl)
  · exact D2.gv_val (fun _ _ _ h => h) (fun g w => by kernel_rfl)
  · exact D2.gv_valE (fun _ _ _ h => h) (V' := .int .i64 (IntKind.i64.wrap (64 - ((d % 64 : Nat) : Int)))) (fun g w => by kernel_rfl) (int_eq (wrapSub_i64 (a := 64) (b := d % 64) (by omega)))
  · exact D2.gv_valE (fun _ _ _ h => h) (V' := .int .u64 (IntKind.u64.wrap ((((A / 6277101735386680763835789423207666416102355444464034512896 % 18446744073709551616 : Nat) : Int)) * 2 ^ (min (64 - (d % 64)) 64)))) (fun g w => by kernel_rfl) (int_eq (shlN (A / 6277101735386680763835789423207666416102355444464034512896 % 18446744073709551616) (64 - (d % 64))))
  · exact D2.gv_valE (fun _ _ _ h => h) (V' := .int .u64 (Go.bits .or .u64 (((0 ||| ((A / 340282366920938463463374607431768211456 % 18446744073709551616) / 2 ^ (d % 64)) : Nat) : Int)) ((((A / 6277101735386680763835789423207666416102355444464034512896 % 18446744073709551616) * 2 ^ (64 - (d % 64)) % 18446744073709551616 : Nat) : Int)))) (fun g w => by kernel_rfl) (int_eq (u64_or_nat (0 ||| ((A / 340282366920938463463374607431768211456 % 18446744073709551616) / 2 ^ (d % 64))) ((A / 6277101735386680763835789423207666416102355444464034512896 % 18446744073709551616) * 2 ^ (64 - (d % 64)) % 18446744073709551616) (by omega) (by omega)))
  · exact D2.gv_val (fun _ _ _ h => h) (fun g w => by kernel_rfl)
  · exact D2.gv_store 0 22 (.tmp 46) (.tmp 45) (fun g => b3) (fun g => 2) #[.int .u64 (((0 ||| ((A % 18446744073709551616) / 2 ^ (d % 64))) ||| ((A / 18446744073709551616 % 18446744073709551616) * 2 ^ (64 - (d % 64)) % 18446744073709551616) : Nat) : Int), .int .u64 (((0 ||| ((A / 18446744073709551616 % 18446744073709551616) / 2 ^ (d % 64))) ||| ((A / 340282366920938463463374607431768211456 % 18446744073709551616) * 2 ^ (64 - (d % 64)) % 18446744073709551616) : Nat) : Int), .int .u64 ((0 ||| ((A / 340282366920938463463374607431768211456 % 18446744073709551616) / 2 ^ (d % 64)) : Nat) : Int), .int .u64 ((0 ||| ((A / 6277101735386680763835789423207666416102355444464034512896 % 18446744073709551616) / 2 ^ (d % 64)) : Nat) : Int)] #[.int .u64 (((0 ||| ((A % 18446744073709551616) / 2 ^ (d % 64))) ||| ((A / 18446744073709551616 % 18446744073709551616) * 2 ^ (64 - (d % 64)) % 18446744073709551616) : Nat) : Int), .int .u64 (((0 ||| ((A / 18446744073709551616 % 18446744073709551616) / 2 ^ (d % 64))) ||| ((A / 340282366920938463463374607431768211456 % 18446744073709551616) * 2 ^ (64 - (d % 64)) % 18446744073709551616) : Nat) : Int), .int .u64 (((0 ||| ((A / 340282366920938463463374607431768211456 % 18446744073709551616) / 2 ^ (d % 64))) ||| ((A / 6277101735386680763835789423207666416102355444464034512896 % 18446744073709551616) * 2 ^ (64 - (d % 64)) % 18446744073709551616) : Nat) : Int), .int .u64 ((0 ||| ((A / 6277101735386680763835789423207666416102355444464034512896 % 18446744073709551616) / 2 ^ (d % 64)) : Nat) : Int)] 24 (.int .u64 (((0 ||| ((A / 340282366920938463463374607431768211456 % 18446744073709551616) / 2 ^ (d % 64))) ||| ((A / 6277101735386680763835789423207666416102355444464034512896 % 18446744073709551616) * 2 ^ (64 - (d % 64)) % 18446744073709551616) : Nat) : Int)) (fun g => by kernel_rfl) (fun g => by kernel_rfl) (fun g => by kernel_rfl) (by kernel_rfl) (by kernel_rfl) (fun g => (of_decide_eq_true (by kernel_rfl))) (fun g => (by kernel_rfl)) (fun L g hN => ⟨(by have hL12 : L 12 = false := hN.1; exact D2.ent_get' (p := true) (e := (bif L 12 then (b3, Obj.cells #[.int .u64 (((0 ||| ((A % 18446744073709551616) / 2 ^ (d % 64))) ||| ((A / 18446744073709551616 % 18446744073709551616) * 2 ^ (64 - (d % 64)) % 18446744073709551616) : Nat) : Int), .int .u64 (((0 ||| ((A / 18446744073709551616 % 18446744073709551616) / 2 ^ (d % 64))) ||| ((A / 340282366920938463463374607431768211456 % 18446744073709551616) * 2 ^ (64 - (d % 64)) % 18446744073709551616) : Nat) : Int), .int .u64 (((0 ||| ((A / 340282366920938463463374607431768211456 % 18446744073709551616) / 2 ^ (d % 64))) ||| ((A / 6277101735386680763835789423207666416102355444464034512896 % 18446744073709551616) * 2 ^ (64 - (d % 64)) % 18446744073709551616) : Nat) : Int), .int .u64 ((0 ||| ((A / 6277101735386680763835789423207666416102355444464034512896 % 18446744073709551616) / 2 ^ (d % 64)) : Nat) : Int)] 24 (0, 0)) else (b3, Obj.cells #[.int .u64 (((0 ||| ((A % 18446744073709551616) / 2 ^ (d % 64))) ||| ((A / 18446744073709551616 % 18446744073709551616) * 2 ^ (64 - (d % 64)) % 18446744073709551616) : Nat) : Int), .int .u64 (((0 ||| ((A / 18446744073709551616 % 18446744073709551616) / 2 ^ (d % 64))) ||| ((A / 340282366920938463463374607431768211456 % 18446744073709551616) * 2 ^ (64 - (d % 64)) % 18446744073709551616) : Nat) : Int), .int .u64 ((0 ||| ((A / 340282366920938463463374607431768211456 % 18446744073709551616) / 2 ^ (d % 64)) : Nat) : Int), .int .u64 ((0 ||| ((A / 6277101735386680763835789423207666416102355444464034512896 % 18446744073709551616) / 2 ^ (d % 64)) : Nat) : Int)] 24 (0, 0)))) (by kernel_rfl) (by rfl) (by simp only [hL12, cond_true, cond_false] <;> rfl)), (by kernel_rfl)⟩) (fun L g hN hF => hF)
  intro L0 G10 w10 hall HL; clear H9
  have H10 : St w.heap.size w w10 [(b3, Obj.cells #[.int .u64 (((0 ||| ((A % 18446744073709551616) / 2 ^ (d % 64))) ||| ((A / 18446744073709551616 % 18446744073709551616) * 2 ^ (64 - (d % 64)) % 18446744073709551616) : Nat) : Int), .int .u64 (((0 ||| ((A / 18446744073709551616 % 18446744073709551616) / 2 ^ (d % 64))) ||| ((A / 340282366920938463463374607431768211456 % 18446744073709551616) * 2 ^ (64 - (d % 64)) % 18446744073709551616) : Nat) : Int), .int .u64 (((0 ||| ((A / 340282366920938463463374607431768211456 % 18446744073709551616) / 2 ^ (d % 64))) ||| ((A / 6277101735386680763835789423207666416102355444464034512896 % 18446744073709551616) * 2 ^ (64 - (d % 64)) % 18446744073709551616) : Nat) : Int), .int .u64 ((0 ||| ((A / 6277101735386680763835789423207666416102355444464034512896 % 18446744073709551616) / 2 ^ (d % 64)) : Nat) : Int)] 24 (0, 0)), (b2, Obj.cells #[.int .u64 0, .int .u64 0, .int .u64 0, .int .u64 0] 24 (0, 0)), (b1, Obj.cells (Value.cells (uv A)) 24 (0, 0))] := by have e12 := hall 12 (Nat.le_of_ble_eq_true (by kernel_rfl)); have hS := D2.StE.st HL.1; simp only [e12, cond_true, D2.pres] at hS; exact hS
  clear HL hall
  show WP _ _ _ _ _ _
  refine g_reg0 [0, 1] (by kernel_rfl) ?_
  refine s_val (some 47) (.int .i64 4) (fun w => by kernel_rfl) (by kernel_rfl) ?_
  refine s_val (some 15) (.int .i64 4) (fun w => by kernel_rfl) (by kernel_rfl) ?_
  refine s_nil ?_
  show WPL _ _ _ _ _ _
  refine g_next ?_
  refine g_sreg [0] (by kernel_rfl) (by kernel_rfl) ?_
  refine s_val (some 16) (.bool false) (fun w => by kernel_rfl) (by kernel_rfl) ?_
  refine s_nil ?_
  refine g_seq (by kernel_rfl) ?_
  refine g_cond_f (by kernel_rfl) (by kernel_rfl) ?_
  refine g_exit 0 (by kernel_rfl) ?_
  show WP _ _ _ _ _ _
  refine g_sreg [0, 1] (by kernel_rfl) (by kernel_rfl) ?_
  refine s_load H10 (some 48) 24 (.tmp 5) 0 b3 #[.int .u64 (((0 ||| ((A % 18446744073709551616) / 2 ^ (d % 64))) ||| ((A / 18446744073709551616 % 18446744073709551616) * 2 ^ (64 - (d % 64)) % 18446744073709551616) : Nat) : Int), .int .u64 (((0 ||| ((A / 18446744073709551616 % 18446744073709551616) / 2 ^ (d % 64))) ||| ((A / 340282366920938463463374607431768211456 % 18446744073709551616) * 2 ^ (64 - (d % 64)) % 18446744073709551616) : Nat) : Int), .int .u64 (((0 ||| ((A / 340282366920938463463374607431768211456 % 18446744073709551616) / 2 ^ (d % 64))) ||| ((A / 6277101735386680763835789423207666416102355444464034512896 % 18446744073709551616) * 2 ^ (64 - (d % 64)) % 18446744073709551616) : Nat) : Int), .int .u64 ((0 ||| ((A / 6277101735386680763835789423207666416102355444464034512896 % 18446744073709551616) / 2 ^ (d % 64)) : Nat) : Int)] 24 (0, 0) (by kernel_rfl) (by kernel_rfl) (by kernel_rfl) (by kernel_rfl) (by kernel_rfl) ?_
  refine s_store H10 1 [(b3, Obj.cells #[.int .u64 (((0 ||| ((A % 18446744073709551616) / 2 ^ (d % 64))) ||| ((A / 18446744073709551616 % 18446744073709551616) * 2 ^ (64 - (d % 64)) % 18446744073709551616) : Nat) : Int), .int .u64 (((0 ||| ((A / 18446744073709551616 % 18446744073709551616) / 2 ^ (d % 64))) ||| ((A / 340282366920938463463374607431768211456 % 18446744073709551616) * 2 ^ (64 - (d % 64)) % 18446744073709551616) : Nat) : Int), .int .u64 (((0 ||| ((A / 340282366920938463463374607431768211456 % 18446744073709551616) / 2 ^ (d % 64))) ||| ((A / 6277101735386680763835789423207666416102355444464034512896 % 18446744073709551616) * 2 ^ (64 - (d % 64)) % 18446744073709551616) : Nat) : Int), .int .u64 ((0 ||| ((A / 6277101735386680763835789423207666416102355444464034512896 % 18446744073709551616) / 2 ^ (d % 64)) : Nat) : Int)] 24 (0, 0)), (b2, Obj.cells #[.int .u64 (((0 ||| ((A % 18446744073709551616) / 2 ^ (d % 64))) ||| ((A / 18446744073709551616 % 18446744073709551616) * 2 ^ (64 - (d % 64)) % 18446744073709551616) : Nat) : Int), .int .u64 (((0 ||| ((A / 18446744073709551616 % 18446744073709551616) / 2 ^ (d % 64))) ||| ((A / 340282366920938463463374607431768211456 % 18446744073709551616) * 2 ^ (64 - (d % 64)) % 18446744073709551616) : Nat) : Int), .int .u64 (((0 ||| ((A / 340282366920938463463374607431768211456 % 18446744073709551616) / 2 ^ (d % 64))) ||| ((A / 6277101735386680763835789423207666416102355444464034512896 % 18446744073709551616) * 2 ^ (64 - (d % 64)) % 18446744073709551616) : Nat) : Int), .int .u64 ((0 ||| ((A / 6277101735386680763835789423207666416102355444464034512896 % 18446744073709551616) / 2 ^ (d % 64)) : Nat) : Int)] 24 (0, 0)), (b1, Obj.cells (Value.cells (uv A)) 24 (0, 0))] 24 (.tmp 4) (.tmp 48) b2 (0) #[.int .u64 0, .int .u64 0, .int .u64 0, .int .u64 0] #[.int .u64 (((0 ||| ((A % 18446744073709551616) / 2 ^ (d % 64))) ||| ((A / 18446744073709551616 % 18446744073709551616) * 2 ^ (64 - (d % 64)) % 18446744073709551616) : Nat) : Int), .int .u64 (((0 ||| ((A / 18446744073709551616 % 18446744073709551616) / 2 ^ (d % 64))) ||| ((A / 340282366920938463463374607431768211456 % 18446744073709551616) * 2 ^ (64 - (d % 64)) % 18446744073709551616) : Nat) : Int), .int .u64 (((0 ||| ((A / 340282366920938463463374607431768211456 % 18446744073709551616) / 2 ^ (d % 64))) ||| ((A / 6277101735386680763835789423207666416102355444464034512896 % 18446744073709551616) * 2 ^ (64 - (d % 64)) % 18446744073709551616) : Nat) : Int), .int .u64 ((0 ||| ((A / 6277101735386680763835789423207666416102355444464034512896 % 18446744073709551616) / 2 ^ (d % 64)) : Nat) : Int)] 24 (.agg #[.int .u64 (((0 ||| ((A % 18446744073709551616) / 2 ^ (d % 64))) ||| ((A / 18446744073709551616 % 18446744073709551616) * 2 ^ (64 - (d % 64)) % 18446744073709551616) : Nat) : Int), .int .u64 (((0 ||| ((A / 18446744073709551616 % 18446744073709551616) / 2 ^ (d % 64))) ||| ((A / 340282366920938463463374607431768211456 % 18446744073709551616) * 2 ^ (64 - (d % 64)) % 18446744073709551616) : Nat) : Int), .int .u64 (((0 ||| ((A / 340282366920938463463374607431768211456 % 18446744073709551616) / 2 ^ (d % 64))) ||| ((A / 6277101735386680763835789423207666416102355444464034512896 % 18446744073709551616) * 2 ^ (64 - (d % 64)) % 18446744073709551616) : Nat) : Int), .int .u64 ((0 ||| ((A / 6277101735386680763835789423207666416102355444464034512896 % 18446744073709551616) / 2 ^ (d % 64)) : Nat) : Int)]) (by kernel_rfl) (by kernel_rfl) (by kernel_rfl) (by kernel_rfl) (by kernel_rfl) (by kernel_rfl) (of_decide_eq_true (by kernel_rfl)) (by kernel_rfl) (by kernel_rfl) ?_
  intro w11 H11; clear H10
  refine s_nil ?_
  refine g_ret (by kernel_rfl) ?_
  show ∃ vs, Res _ _ _ _ vs ∧ _
  refine ⟨[.agg #[.int .u64 (((0 ||| ((A % 18446744073709551616) / 2 ^ (d % 64))) ||| ((A / 18446744073709551616 % 18446744073709551616) * 2 ^ (64 - (d % 64)) % 18446744073709551616) : Nat) : Int), .int .u64 (((0 ||| ((A / 18446744073709551616 % 18446744073709551616) / 2 ^ (d % 64))) ||| ((A / 340282366920938463463374607431768211456 % 18446744073709551616) * 2 ^ (64 - (d % 64)) % 18446744073709551616) : Nat) : Int), .int .u64 (((0 ||| ((A / 340282366920938463463374607431768211456 % 18446744073709551616) / 2 ^ (d % 64))) ||| ((A / 6277101735386680763835789423207666416102355444464034512896 % 18446744073709551616) * 2 ^ (64 - (d % 64)) % 18446744073709551616) : Nat) : Int), .int .u64 ((0 ||| ((A / 6277101735386680763835789423207666416102355444464034512896 % 18446744073709551616) / 2 ^ (d % 64)) : Nat) : Int)]], (.agg (b := b2) #[.int .u64 (((0 ||| ((A % 18446744073709551616) / 2 ^ (d % 64))) ||| ((A / 18446744073709551616 % 18446744073709551616) * 2 ^ (64 - (d % 64)) % 18446744073709551616) : Nat) : Int), .int .u64 (((0 ||| ((A / 18446744073709551616 % 18446744073709551616) / 2 ^ (d % 64))) ||| ((A / 340282366920938463463374607431768211456 % 18446744073709551616) * 2 ^ (64 - (d % 64)) % 18446744073709551616) : Nat) : Int), .int .u64 (((0 ||| ((A / 340282366920938463463374607431768211456 % 18446744073709551616) / 2 ^ (d % 64))) ||| ((A / 6277101735386680763835789423207666416102355444464034512896 % 18446744073709551616) * 2 ^ (64 - (d % 64)) % 18446744073709551616) : Nat) : Int), .int .u64 ((0 ||| ((A / 6277101735386680763835789423207666416102355444464034512896 % 18446744073709551616) / 2 ^ (d % 64)) : Nat) : Int)] 24 (0, 0) (by kernel_rfl) (H11.get 1 (by kernel_rfl)) (by kernel_rfl) .nil), ?_, H11.below⟩
  have e0 := word_join (A / 2 ^ (64 * (0 + 0))) (d % 64) (Nat.mod_lt _ (by omega)); rw [← w_sh A 0 (d % 64) 0, Nat.div_div_eq_div_mul (A) (2 ^ (64 * (0 + 0))) (2 ^ 64)] at e0
  have e1 := word_join (A / 2 ^ (64 * (0 + 1))) (d % 64) (Nat.mod_lt _ (by omega)); rw [← w_sh A 0 (d % 64) 1, Nat.div_div_eq_div_mul (A) (2 ^ (64 * (0 + 1))) (2 ^ 64)] at e1
  have e2 := word_join (A / 2 ^ (64 * (0 + 2))) (d % 64) (Nat.mod_lt _ (by omega)); rw [← w_sh A 0 (d % 64) 2, Nat.div_div_eq_div_mul (A) (2 ^ (64 * (0 + 2))) (2 ^ 64)] at e2
  have e3 := word_last (A / 2 ^ (64 * (0 + 3))) (d % 64) (by show A / 6277101735386680763835789423207666416102355444464034512896 < _; unfold big at hA; omega); rw [← w_sh A 0 (d % 64) 3] at e3
  have e := uv_of (N := A / 2 ^ (64 * 0 + d % 64)) e0 e1 e2 e3
  rw [show 64 * 0 + d % 64 = d by omega] at e
  simp only [Nat.reduceMul, Nat.reduceAdd, Nat.reducePow, Nat.div_one] at e
  exact e

set_option maxRecDepth 100000 in
set_option maxHeartbeats 2000000 in
theorem lower1_fn (A d : Nat) (hA : A < big) (hd : d < 256) (hq : d / 64 = 1) : Fn Try.prog 36 #[uv A, .int .i64 ((d : Nat) : Int)] (uv (A / 2 ^ d)) := by
  have hbig : big = 115792089237316195423570985008687907853269984665640564039457584007913129639936 := rfl
  have hs0 := Nat.div_le_self (A % 18446744073709551616) (2 ^ (d % 64))
  have hz0 : 0 ||| (A % 18446744073709551616 / 2 ^ (d % 64)) = A % 18446744073709551616 / 2 ^ (d % 64) := Nat.zero_or _
  have hs1 := Nat.div_le_self (A / 18446744073709551616 % 18446744073709551616) (2 ^ (d % 64))
  have hz1 : 0 ||| (A / 18446744073709551616 % 18446744073709551616 / 2 ^ (d % 64)) = A / 18446744073709551616 % 18446744073709551616 / 2 ^ (d % 64) := Nat.zero_or _
  have hs2 := Nat.div_le_self (A / 340282366920938463463374607431768211456 % 18446744073709551616) (2 ^ (d % 64))
  have hz2 : 0 ||| (A / 340282366920938463463374607431768211456 % 18446744073709551616 / 2 ^ (d % 64)) = A / 340282366920938463463374607431768211456 % 18446744073709551616 / 2 ^ (d % 64) := Nat.zero_or _
  have hs3 := Nat.div_le_self (A / 6277101735386680763835789423207666416102355444464034512896 % 18446744073709551616) (2 ^ (d % 64))
  have hz3 : 0 ||| (A / 6277101735386680763835789423207666416102355444464034512896 % 18446744073709551616 / 2 ^ (d % 64)) = A / 6277101735386680763835789423207666416102355444464034512896 % 18446744073709551616 / 2 ^ (d % 64) := Nat.zero_or _
  refine Fn.intro (c := codeOf Try.f36) [.cell 4 24] 49 Try.func36 (by kernel_rfl) (by kernel_rfl) (by kernel_rfl) fun w => ?_
  have H0 := St.start w
  refine g_sreg [0, 1] (by kernel_rfl) (by kernel_rfl) ?_
  refine s_box H0 (some 2) 24 (.tmp 0) (uv A) (by kernel_rfl) (by kernel_rfl) (by kernel_rfl) ?_
  intro b1 w1 H1; clear H0
  refine s_alloc H1 (some 4) 24 (.agg #[.int .u64 0, .int .u64 0, .int .u64 0, .int .u64 0]) (by kernel_rfl) (by kernel_rfl) (by kernel_rfl) ?_
  intro b2 w2 H2; clear H1
  refine s_nil ?_
  refine g_sreg [0] (by kernel_rfl) (by kernel_rfl) ?_
  refine s_alloc H2 (some 5) 24 (.agg #[.int .u64 0, .int .u64 0, .int .u64 0, .int .u64 0]) (by kernel_rfl) (by kernel_rfl) (by kernel_rfl) ?_
  intro b3 w3 H3; clear H2
  refine s_nil ?_
  refine g_sreg [0, 1, 2, 3, 4, 5] (by kernel_rfl) (by kernel_rfl) ?_
  refine s_val (some 10) (.int .i64 ((d : Nat) : Int)) (fun w => by kernel_rfl) (by kernel_rfl) ?_
  refine s_valE (some 11) (.int .i64 (IntKind.i64.wrap (Int.tdiv ((d : Nat) : Int) 64))) (.int .i64 1) (fun w => by kernel_rfl) (int_eq (show IntKind.i64.wrap (Int.tdiv (((d : Nat)) : Int) ((64 : Nat) : Int)) = ((1 : Nat) : Int) by rw [quoN_i64 (by omega), hq])) (by kernel_rfl) ?_
  refine s_val (some 12) (.int .i64 ((d : Nat) : Int)) (fun w => by kernel_rfl) (by kernel_rfl) ?_
  refine s_valE (some 13) (.int .i64 (Int.tmod ((d : Nat) : Int) 64)) (.int .i64 ((d % 64 : Nat) : Int)) (fun w => by kernel_rfl) (int_eq (remN d 64)) (by kernel_rfl) ?_
  refine s_val (some 6) (.int .i64 1) (fun w => by kernel_rfl) (by kernel_rfl) ?_
  refine s_val (some 7) (.int .i64 ((d % 64 : Nat) : Int)) (fun w => by kernel_rfl) (by kernel_rfl) ?_
  refine s_nil ?_
  refine g_seq (by kernel_rfl) ?_
  refine g_sreg [0, 1] (by kernel_rfl) (by kernel_rfl) ?_
  refine s_load H3 (some 14) 24 (.tmp 2) 2 b1 (Value.cells (uv A)) 24 (0, 0) (by kernel_rfl) (by kernel_rfl) (by kernel_rfl) (by kernel_rfl) (by kernel_rfl) ?_
  refine s_val (some 15) (.int .i64 0) (fun w => by kernel_rfl) (by kernel_rfl) ?_
  refine s_nil ?_
  refine g_block 0 (by kernel_rfl) ?_
  refine g_first (by kernel_rfl) ?_
  refine g_sreg [0] (by kernel_rfl) (by kernel_rfl) ?_
  refine s_val (some 16) (.bool true) (fun w => by kernel_rfl) (by kernel_rfl) ?_
  refine s_nil ?_
  refine g_seq (by kernel_rfl) ?_
  refine g_cond_t (by kernel_rfl) (by kernel_rfl) ?_
  refine g_skip (by kernel_rfl) ?_
  show WP _ _ _ _ _ _
  refine g_seq (by kernel_rfl) ?_
  refine g_block 1 (by kernel_rfl) ?_
  refine g_sreg [0, 1, 2, 3] (by kernel_rfl) (by kernel_rfl) ?_
  refine s_val (some 17) (.int .i64 0) (fun w => by kernel_rfl) (by kernel_rfl) ?_
  refine s_val (some 18) (.int .u64 ((A % 18446744073709551616 : Nat) : Int)) (fun w => by kernel_rfl) (by kernel_rfl) ?_
  refine s_val (some 8) (.int .i64 0) (fun w => by kernel_rfl) (by kernel_rfl) ?_
  refine s_val (some 9) (.int .u64 ((A % 18446744073709551616 : Nat) : Int)) (fun w => by kernel_rfl) (by kernel_rfl) ?_
  refine s_nil ?_
  refine g_seq (by kernel_rfl) ?_
  refine g_sreg [0, 1, 2] (by kernel_rfl) (by kernel_rfl) ?_
  refine s_val (some 19) (.int .i64 0) (fun w => by kernel_rfl) (by kernel_rfl) ?_
  refine s_val (some 20) (.int .i64 1) (fun w => by kernel_rfl) (by kernel_rfl) ?_
  refine s_val (some 21) (.bool false) (fun w => by kernel_rfl) (by kernel_rfl) ?_
  refine s_nil ?_
  refine g_cond_f (by kernel_rfl) (by kernel_rfl) ?_
  refine g_skip (by kernel_rfl) ?_
  show WP _ _ _ _ _ _
  refine g_sreg [0, 1, 2] (by kernel_rfl) (by kernel_rfl) ?_
  refine s_val (some 32) (.int .i64 0) (fun w => by kernel_rfl) (by kernel_rfl) ?_
  refine s_val (some 33) (.int .i64 1) (fun w => by kernel_rfl) (by kernel_rfl) ?_
  refine s_val (some 34) (.bool false) (fun w => by kernel_rfl) (by kernel_rfl) ?_
  refine s_nil ?_
  refine g_cond_f (by kernel_rfl) (by kernel_rfl) ?_
  refine g_skip (by kernel_rfl) ?_
  show WP _ _ _ _ _ _
  refine g_reg0 [0, 1] (by kernel_rfl) ?_
  refine s_val (some 47) (.int .i64 1) (fun w => by kernel_rfl) (by kernel_rfl) ?_
  refine s_val (some 15) (.int .i64 1) (fun w => by kernel_rfl) (by kernel_rfl) ?_
  refine s_nil ?_
  show WPL _ _ _ _ _ _
  refine g_next ?_
  refine g_sreg [0] (by kernel_rfl) (by kernel_rfl) ?_
  refine s_val (some 16) (.bool true) (fun w => by kernel_rfl) (by kernel_rfl) ?_
  refine s_nil ?_
  refine g_seq (by kernel_rfl) ?_
  refine g_cond_t (by kernel_rfl) (by kernel_rfl) ?_
  refine g_skip (by kernel_rfl) ?_
  show WP _ _ _ _ _ _
  refine g_seq (by kernel_rfl) ?_
  refine g_block 1 (by kernel_rfl) ?_
  refine g_sreg [0, 1, 2, 3] (by kernel_rfl) (by kernel_rfl) ?_
  refine s_val (some 17) (.int .i64 1) (fun w => by kernel_rfl) (by kernel_rfl) ?_
  refine s_val (some 18) (.int .u64 ((A / 18446744073709551616 % 18446744073709551616 : Nat) : Int)) (fun w => by kernel_rfl) (by kernel_rfl) ?_
  refine s_val (some 8) (.int .i64 1) (fun w => by kernel_rfl) (by kernel_rfl) ?_
  refine s_val (some 9) (.int .u64 ((A / 18446744073709551616 % 18446744073709551616 : Nat) : Int)) (fun w => by kernel_rfl) (by kernel_rfl) ?_
  refine s_nil ?_
  refine g_seq (by kernel_rfl) ?_
  refine g_sreg [0, 1, 2] (by kernel_rfl) (by kernel_rfl) ?_
  refine s_val (some 19) (.int .i64 1) (fun w => by kernel_rfl) (by kernel_rfl) ?_
  refine s_val (some 20) (.int .i64 1) (fun w => by kernel_rfl) (by kernel_rfl) ?_
  refine s_val (some 21) (.bool true) (fun w => by kernel_rfl) (by kernel_rfl) ?_
  refine s_nil ?_
  refine g_cond_t (by kernel_rfl) (by kernel_rfl) ?_
  refine D2.g_draw0 [0, 1, 2, 3, 4, 5, 6, 7, 8, 9, 10] [((some 22), fun _ => .int .i64 1), ((some 23), fun _ => .int .i64 1), ((some 24), fun _ => .int .i64 0), ((some 25), fun _ => .pointer (some ⟨b3, 0, none⟩)), ((some 26), fun _ => .int .u64 0), ((some 27), fun _ => .int .u64 ((A / 18446744073709551616 % 18446744073709551616 : Nat) : Int)), ((some 28), fun _ => .int .i64 ((d % 64 : Nat) : Int)), ((some 29), fun _ => .int .u64 (((A / 18446744073709551616 % 18446744073709551616) / 2 ^ (d % 64) : Nat) : Int)), ((some 30), fun _ => .int .u64 ((0 ||| ((A / 18446744073709551616 % 18446744073709551616) / 2 ^ (d % 64)) : Nat) : Int)), ((some 31), fun _ => .pointer (some ⟨b3, 0, none⟩)), (none, fun _ => undef)] (D2.Pre w.heap.size w (fun L g => [(true, (bif L 10 then (b3, Obj.cells #[.int .u64 ((0 ||| ((A / 18446744073709551616 % 18446744073709551616) / 2 ^ (d % 64)) : Nat) : Int), .int .u64 0, .int .u64 0, .int .u64 0] 24 (0, 0)) else (b3, Obj.cells #[.int .u64 0, .int .u64 0, .int .u64 0, .int .u64 0] 24 (0, 0)))), (true, (b2, Obj.cells #[.int .u64 0, .int .u64 0, .int .u64 0, .int .u64 0] 24 (0, 0))), (true, (b1, Obj.cells (Value.cells (uv A)) 24 (0, 0)))]) (fun L g => True)) (by kernel_rfl) (by kernel_rfl) (by kernel_rfl) ⟨D2.StE.of H3.drew _ (by kernel_rfl), trivial⟩ ⟨?_, ?_, ?_, ?_, ?_, ?_, ?_, ?_, ?_, ?_, ?_, trivial⟩ ?_
  · exact D2.gv_val (fun _ _ _ h => h) (fun g w => by kernel_rfl)
  · exact D2.gv_val (fun _ _ _ h => h) (fun g w => by kernel_rfl)
  · exact D2.gv_val (fun _ _ _ h => h) (fun g w => by kernel_rfl)
  · exact D2.gv_val (fun _ _ _ h => h) (fun g w => by kernel_rfl)
  · exact D2.gv_load1 22 (.tmp 25) 0 (fun g => b3) (fun g => 0) (fun g => #[.int .u64 0, .int .u64 0, .int .u64 0, .int .u64 0]) 24 (0, 0) (fun _ _ _ h => h) (fun g => by kernel_rfl) (fun g => by kernel_rfl) (fun L g hN => (by have hL10 : L 10 = false := (hN.post 10 (by kernel_rfl)); exact D2.ent_get' (p := true) (e := (bif L 10 then (b3, Obj.cells #[.int .u64 ((0 ||| ((A / 18446744073709551616 % 18446744073709551616) / 2 ^ (d % 64)) : Nat) : Int), .int .u64 0, .int .u64 0, .int .u64 0] 24 (0, 0)) else (b3, Obj.cells #[.int .u64 0, .int .u64 0, .int .u64 0, .int .u64 0] 24 (0, 0)))) (by kernel_rfl) (by rfl) (by simp only [hL10, cond_true, cond_false] <;> rfl))) (by kernel_rfl) (fun L g hN hF => by kernel_rfl)
  · exact D2.gv_val (fun _ _ _ h => h) (fun g w => by kernel_rfl)
  · exact D2.gv_val (fun _ _ _ h => h) (fun g w => by kernel_rfl)
  · exact D2.gv_valE (fun _ _ _ h => h) (V' := .int .u64 (Int.fdiv ((A / 18446744073709551616 % 18446744073709551616 : Nat) : Int) (2 ^ (min (d % 64) 64)))) (fun g w => by kernel_rfl) (int_eq (shr_min (A / 18446744073709551616 % 18446744073709551616) (d % 64) 64 (by omega)))
  · exact D2.gv_valE (fun _ _ _ h => h) (V' := .int .u64 (Go.bits .or .u64 (0) ((((A / 18446744073709551616 % 18446744073709551616) / 2 ^ (d % 64) : Nat) : Int)))) (fun g w => by kernel_rfl) (int_eq (u64_or_nat 0 ((A / 18446744073709551616 % 18446744073709551616) / 2 ^ (d % 64)) (by omega) (by omega)))
  · exact D2.gv_val (fun _ _ _ h => h) (fun g w => by kernel_rfl)
  · exact D2.gv_store 0 22 (.tmp 31) (.tmp 30) (fun g => b3) (fun g => 0) #[.int .u64 0, .int .u64 0, .int .u64 0, .int .u64 0] #[.int .u64 ((0 ||| ((A / 18446744073709551616 % 18446744073709551616) / 2 ^ (d % 64)) : Nat) : Int), .int .u64 0, .int .u64 0, .int .u64 0] 24 (.int .u64 ((0 ||| ((A / 18446744073709551616 % 18446744073709551616) / 2 ^ (d % 64)) : Nat) : Int)) (fun g => by kernel_rfl) (fun g => by kernel_rfl) (fun g => by kernel_rfl) (by kernel_rfl) (by kernel_rfl) (fun g => (of_decide_eq_true (by kernel_rfl))) (fun g => (by kernel_rfl)) (fun L g hN => ⟨(by have hL10 : L 10 = false := hN.1; exact D2.ent_get' (p := true) (e := (bif L 10 then (b3, Obj.cells #[.int .u64 ((0 ||| ((A / 18446744073709551616 % 18446744073709551616) / 2 ^ (d % 64)) : Nat) : Int), .int .u64 0, .int .u64 0, .int .u64 0] 24 (0, 0)) else (b3, Obj.cells #[.int .u64 0, .int .u64 0, .int .u64 0, .int .u64 0] 24 (0, 0)))) (by kernel_rfl) (by rfl) (by simp only [hL10, cond_true, cond_false] <;> rfl)), (by kernel_rfl)⟩) (fun L g hN hF => hF)
  intro L0 G4 w4 hall HL; clear H3
  have H4 : St w.heap.size w w4 [(b3, Obj.cells #[.int .u64 ((0 ||| ((A / 18446744073709551616 % 18446744073709551616) / 2 ^ (d % 64)) : Nat) : Int), .int .u64 0, .int .u64 0, .int .u64 0] 24 (0, 0)), (b2, Obj.cells #[.int .u64 0, .int .u64 0, .int .u64 0, .int .u64 0] 24 (0, 0)), (b1, Obj.cells (Value.cells (uv A)) 24 (0, 0))] := by have e10 := hall 10 (Nat.le_of_ble_eq_true (by kernel_rfl)); have hS := D2.StE.st HL.1; simp only [e10, cond_true, D2.pres] at hS; exact hS
  clear HL hall
  show WP _ _ _ _ _ _
  refine g_sreg [0, 1, 2] (by kernel_rfl) (by kernel_rfl) ?_
  refine s_val (some 32) (.int .i64 1) (fun w => by kernel_rfl) (by kernel_rfl) ?_
  refine s_val (some 33) (.int .i64 1) (fun w => by kernel_rfl) (by kernel_rfl) ?_
  refine s_val (some 34) (.bool false) (fun w => by kernel_rfl) (by kernel_rfl) ?_
  refine s_nil ?_
  refine g_cond_f (by kernel_rfl) (by kernel_rfl) ?_
  refine g_skip (by kernel_rfl) ?_
  show WP _ _ _ _ _ _
  refine g_reg0 [0, 1] (by kernel_rfl) ?_
  refine s_val (some 47) (.int .i64 2) (fun w => by kernel_rfl) (by kernel_rfl) ?_
  refine s_val (some 15) (.int .i64 2) (fun w => by kernel_rfl) (by kernel_rfl) ?_
  refine s_nil ?_
  show WPL _ _ _ _ _ _
  refine g_next ?_
  refine g_sreg [0] (by kernel_rfl) (by kernel_rfl) ?_
  refine s_val (some 16) (.bool true) (fun w => by kernel_rfl) (by kernel_rfl) ?_
  refine s_nil ?_
  refine g_seq (by kernel_rfl) ?_
  refine g_cond_t (by kernel_rfl) (by kernel_rfl) ?_
  refine g_skip (by kernel_rfl) ?_
  show WP _ _ _ _ _ _
  refine g_seq (by kernel_rfl) ?_
  refine g_block 1 (by kernel_rfl) ?_
  refine g_sreg [0, 1, 2, 3] (by kernel_rfl) (by kernel_rfl) ?_
  refine s_val (some 17) (.int .i64 2) (fun w => by kernel_rfl) (by kernel_rfl) ?_
  refine s_val (some 18) (.int .u64 ((A / 340282366920938463463374607431768211456 % 18446744073709551616 : Nat) : Int)) (fun w => by kernel_rfl) (by kernel_rfl) ?_
  refine s_val (some 8) (.int .i64 2) (fun w => by kernel_rfl) (by kernel_rfl) ?_
  refine s_val (some 9) (.int .u64 ((A / 340282366920938463463374607431768211456 % 18446744073709551616 : Nat) : Int)) (fun w => by kernel_rfl) (by kernel_rfl) ?_
  refine s_nil ?_
  refine g_seq (by kernel_rfl) ?_
  refine g_sreg [0, 1, 2] (by kernel_rfl) (by kernel_rfl) ?_
  refine s_val (some 19) (.int .i64 2) (fun w => by kernel_rfl) (by kernel_rfl) ?_
  refine s_val (some 20) (.int .i64 1) (fun w => by kernel_rfl) (by kernel_rfl) ?_
  refine s_val (some 21) (.bool true) (fun w => by kernel_rfl) (by kernel_rfl) ?_
  refine s_nil ?_
  refine g_cond_t (by kernel_rfl) (by kernel_rfl) ?_
  refine D2.g_draw0 [0, 1, 2, 3, 4, 5, 6, 7, 8, 9, 10] [((some 22), fun _ => .int .i64 2), ((some 23), fun _ => .int .i64 1), ((some 24), fun _ => .int .i64 1), ((some 25), fun _ => .pointer (some ⟨b3, 1, none⟩)), ((some 26), fun _ => .int .u64 0), ((some 27), fun _ => .int .u64 ((A / 340282366920938463463374607431768211456 % 18446744073709551616 : Nat) : Int)), ((some 28), fun _ => .int .i64 ((d % 64 : Nat) : Int)), ((some 29), fun _ => .int .u64 (((A / 340282366920938463463374607431768211456 % 18446744073709551616) / 2 ^ (d % 64) : Nat) : Int)), ((some 30), fun _ => .int .u64 ((0 ||| ((A / 340282366920938463463374607431768211456 % 18446744073709551616) / 2 ^ (d % 64)) : Nat) : Int)), ((some 31), fun _ => .pointer (some ⟨b3, 1, none⟩)), (none, fun _ => undef)] (D2.Pre w.heap.size w (fun L g => [(true, (bif L 10 then (b3, Obj.cells #[.int .u64 ((0 ||| ((A / 18446744073709551616 % 18446744073709551616) / 2 ^ (d % 64)) : Nat) : Int), .int .u64 ((0 ||| ((A / 340282366920938463463374607431768211456 % 18446744073709551616) / 2 ^ (d % 64)) : Nat) : Int), .int .u64 0, .int .u64 0] 24 (0, 0)) else (b3, Obj.cells #[.int .u64 ((0 ||| ((A / 18446744073709551616 % 18446744073709551616) / 2 ^ (d % 64)) : Nat) : Int), .int .u64 0, .int .u64 0, .int .u64 0] 24 (0, 0)))), (true, (b2, Obj.cells #[.int .u64 0, .int .u64 0, .int .u64 0, .int .u64 0] 24 (0, 0))), (true, (b1, Obj.cells (Value.cells (uv A)) 24 (0, 0)))]) (fun L g => True)) (by kernel_rfl) (by kernel_rfl) (by kernel_rfl) ⟨D2.StE.of H4.drew _ (by kernel_rfl), trivial⟩ ⟨?_, ?_, ?_, ?_, ?_, ?_, ?_, ?_, ?_, ?_, ?_, trivial⟩ ?_
  · exact D2.gv_val (fun _ _ _ h => h) (fun g w => by kernel_rfl)
  · exact D2.gv_val (fun _ _ _ h => h) (fun g w => by kernel_rfl)
  · exact D2.gv_val (fun _ _ _ h => h) (fun g w => by kernel_rfl)
  · exact D2.gv_val (fun _ _ _ h => h) (fun g w => by kernel_rfl)
  · exact D2.gv_load1 22 (.tmp 25) 0 (fun g => b3) (fun g => 1) (fun g => #[.int .u64 ((0 ||| ((A / 18446744073709551616 % 18446744073709551616) / 2 ^ (d % 64)) : Nat) : Int), .int .u64 0, .int .u64 0, .int .u64 0]) 24 (0, 0) (fun _ _ _ h => h) (fun g => by kernel_rfl) (fun g => by kernel_rfl) (fun L g hN => (by have hL10 : L 10 = false := (hN.post 10 (by kernel_rfl)); exact D2.ent_get' (p := true) (e := (bif L 10 then (b3, Obj.cells #[.int .u64 ((0 ||| ((A / 18446744073709551616 % 18446744073709551616) / 2 ^ (d % 64)) : Nat) : Int), .int .u64 ((0 ||| ((A / 340282366920938463463374607431768211456 % 18446744073709551616) / 2 ^ (d % 64)) : Nat) : Int), .int .u64 0, .int .u64 0] 24 (0, 0)) else (b3, Obj.cells #[.int .u64 ((0 ||| ((A / 18446744073709551616 % 18446744073709551616) / 2 ^ (d % 64)) : Nat) : Int), .int .u64 0, .int .u64 0, .int .u64 0] 24 (0, 0)))) (by kernel_rfl) (by rfl) (by simp only [hL10, cond_true, cond_false] <;> rfl))) (by kernel_rfl) (fun L g hN hF => by kernel_rfl)
  · exact D2.gv_val (fun _ _ _ h => h) (fun g w => by kernel_rfl)
  · exact D2.gv_val (fun _ _ _ h => h) (fun g w => by kernel_rfl)
  · exact D2.gv_valE (fun _ _ _ h => h) (V' := .int .u64 (Int.fdiv ((A / 340282366920938463463374607431768211456 % 18446744073709551616 : Nat) : Int) (2 ^ (min (d % 64) 64)))) (fun g w => by kernel_rfl) (int_eq (shr_min (A / 340282366920938463463374607431768211456 % 18446744073709551616) (d % 64) 64 (by omega)))
  · exact D2.gv_valE (fun _ _ _ h => h) (V' := .int .u64 (Go.bits .or .u64 (0) ((((A / 340282366920938463463374607431768211456 % 18446744073709551616) / 2 ^ (d % 64) : Nat) : Int)))) (fun g w => by kernel_rfl) (int_eq (u64_or_nat 0 ((A / 340282366920938463463374607431768211456 % 18446744073709551616) / 2 ^ (d % 64)) (by omega) (by omega)))
  · exact D2.gv_val (fun _ _ _ h => h) (fun g w => by kernel_rfl)
  · exact D2.gv_store 0 22 (.tmp 31) (.tmp 30) (fun g => b3) (fun g => 1) #[.int .u64 ((0 ||| ((A / 18446744073709551616 % 18446744073709551616) / 2 ^ (d % 64)) : Nat) : Int), .int .u64 0, .int .u64 0, .int .u64 0] #[.int .u64 ((0 ||| ((A / 18446744073709551616 % 18446744073709551616) / 2 ^ (d % 64)) : Nat) : Int), .int .u64 ((0 ||| ((A / 340282366920938463463374607431768211456 % 18446744073709551616) / 2 ^ (d % 64)) : Nat) : Int), .int .u64 0, .int .u64 0] 24 (.int .u64 ((0 ||| ((A / 340282366920938463463374607431768211456 % 18446744073709551616) / 2 ^ (d % 64)) : Nat) : Int)) (fun g => by kernel_rfl) (fun g => by kernel_rfl) (fun g => by kernel_rfl) (by kernel_rfl) (by kernel_rfl) (fun g => (of_decide_eq_true (by kernel_rfl))) (fun g => (by kernel_rfl)) (fun L g hN => ⟨(by have hL10 : L 10 = false := hN.1; exact D2.ent_get' (p := true) (e := (bif L 10 then (b3, Obj.cells #[.int .u64 ((0 ||| ((A / 18446744073709551616 % 18446744073709551616) / 2 ^ (d % 64)) : Nat) : Int), .int .u64 ((0 ||| ((A / 340282366920938463463374607431768211456 % 18446744073709551616) / 2 ^ (d % 64)) : Nat) : Int), .int .u64 0, .int .u64 0] 24 (0, 0)) else (b3, Obj.cells #[.int .u64 ((0 ||| ((A / 18446744073709551616 % 18446744073709551616) / 2 ^ (d % 64)) : Nat) : Int), .int .u64 0, .int .u64 0, .int .u64 0] 24 (0, 0)))) (by kernel_rfl) (by rfl) (by simp only [hL10, cond_true, cond_false] <;> rfl)), (by kernel_rfl)⟩) (fun L g hN hF => hF)
  intro L0 G5 w5 hall HL; clear H4
  have H5 : St w.heap.size w w5 [(b3, Obj.cells #[.int .u64 ((0 ||| ((A / 18446744073709551616 % 18446744073709551616) / 2 ^ (d % 64)) : Nat) : Int), .int .u64 ((0 ||| ((A / 340282366920938463463374607431768211456 % 18446744073709551616) / 2 ^ (d % 64)) : Nat) : Int), .int .u64 0, .int .u64 0] 24 (0, 0)), (b2, Obj.cells #[.int .u64 0, .int .u64 0, .int .u64 0, .int .u64 0] 24 (0, 0)), (b1, Obj.cells (Value.cells (uv A)) 24 (0, 0))] := by have e10 := hall 10 (Nat.le_of_ble_eq_true (by kernel_rfl)); have hS := D2.StE.st HL.1; simp only [e10, cond_true, D2.pres] at hS; exact hS
  clear HL hall
  show WP _ _ _ _ _ _
  refine g_sreg [0, 1, 2] (by kernel_rfl) (by kernel_rfl) ?_
  refine s_val (some 32) (.int .i64 2) (fun w => by kernel_rfl) (by kernel_rfl) ?_
  refine s_val (some 33) (.int .i64 1) (fun w => by kernel_rfl) (by kernel_rfl) ?_
  refine s_val (some 34) (.bool true) (fun w => by kernel_rfl) (by kernel_rfl) ?_
  refine s_nil ?_
  refine g_cond_t (by kernel_rfl) (by kernel_rfl) ?_
  refine D2.g_draw0 [0, 1, 2, 3, 4, 5, 6, 7, 8, 9, 10, 11, 12] [((some 35), fun _ => .int .i64 2), ((some 36), fun _ => .int .i64 1), ((some 37), fun _ => .int .i64 1), ((some 38), fun _ => .int .i64 0), ((some 39), fun _ => .pointer (some ⟨b3, 0, none⟩)), ((some 40), fun _ => .int .u64 ((0 ||| ((A / 18446744073709551616 % 18446744073709551616) / 2 ^ (d % 64)) : Nat) : Int)), ((some 41), fun _ => .int .u64 ((A / 340282366920938463463374607431768211456 % 18446744073709551616 : Nat) : Int)), ((some 42), fun _ => .int .i64 ((d % 64 : Nat) : Int)), ((some 43), fun _ => .int .i64 ((64 - (d % 64) : Nat) : Int)), ((some 44), fun _ => .int .u64 (((A / 340282366920938463463374607431768211456 % 18446744073709551616) * 2 ^ (64 - (d % 64)) % 18446744073709551616 : Nat) : Int)), ((some 45), fun _ => .int .u64 (((0 ||| ((A / 18446744073709551616 % 18446744073709551616) / 2 ^ (d % 64))) ||| ((A / 340282366920938463463374607431768211456 % 18446744073709551616) * 2 ^ (64 - (d % 64)) % 18446744073709551616) : Nat) : Int)), ((some 46), fun _ => .pointer (some ⟨b3, 0, none⟩)), (none, fun _ => undef)] (D2.Pre w.heap.size w (fun L g => [(true, (bif L 12 then (b3, Obj.cells #[.int .u64 (((0 ||| ((A / 18446744073709551616 % 18446744073709551616) / 2 ^ (d % 64))) ||| ((A / 340282366920938463463374607431768211456 % 18446744073709551616) * 2 ^ (64 - (d % 64)) % 18446744073709551616) : Nat) : Int), .int .u64 ((0 ||| ((A / 340282366920938463463374607431768211456 % 18446744073709551616) / 2 ^ (d % 64)) : Nat) : Int), .int .u64 0, .int .u64 0] 24 (0, 0)) else (b3, Obj.cells #[.int .u64 ((0 ||| ((A / 18446744073709551616 % 18446744073709551616) / 2 ^ (d % 64)) : Nat) : Int), .int .u64 ((0 ||| ((A / 340282366920938463463374607431768211456 % 18446744073709551616) / 2 ^ (d % 64)) : Nat) : Int), .int .u64 0, .int .u64 0] 24 (0, 0)))), (true, (b2, Obj.cells #[.int .u64 0, .int .u64 0, .int .u64 0, .int .u64 0] 24 (0, 0))), (true, (b1, Obj.cells (Value.cells (uv A)) 24 (0, 0)))]) (fun L g => True)) (by kernel_rfl) (by kernel_rfl) (by kernel_rfl) ⟨D2.StE.of H5.drew _ (by kernel_rfl), trivial⟩ ⟨?_, ?_, ?_, ?_, ?_, ?_, ?_, ?_, ?_, ?_, ?_, ?_, ?_, trivial⟩ ?_
  · exact D2.gv_val (fun _ _ _ h => h) (fun g w => by kernel_rfl)
  · exact D2.gv_val (fun _ _ _ h => h) (fun g w => by kernel_rfl)
  · exact D2.gv_val (fun _ _ _ h => h) (fun g w => by kernel_rfl)
  · exact D2.gv_val (fun _ _ _ h => h) (fun g w => by kernel_rfl)
  · exact D2.gv_val (fun _ _ _ h => h) (fun g w => by kernel_rfl)
  · exact D2.gv_load1 22 (.tmp 39) 0 (fun g => b3) (fun g => 0) (fun g => #[.int .u64 ((0 ||| ((A / 18446744073709551616 % 18446744073709551616) / 2 ^ (d % 64)) : Nat) : Int), .int .u64 ((0 ||| ((A / 340282366920938463463374607431768211456 % 18446744073709551616) / 2 ^ (d % 64)) : Nat) : Int), .int .u64 0, .int .u64 0]) 24 (0, 0) (fun _ _ _ h => h) (fun g => by kernel_rfl) (fun g => by kernel_rfl) (fun L g hN => (by have hL12 : L 12 = false := (hN.post 12 (by kernel_rfl)); exact D2.ent_get' (p := true) (e := (bif L 12 then (b3, Obj.cells #[.int .u64 (((0 ||| ((A / 18446744073709551616 % 18446744073709551616) / 2 ^ (d % 64))) ||| ((A / 340282366920938463463374607431768211456 % 18446744073709551616) * 2 ^ (64 - (d % 64)) % 18446744073709551616) : Nat) : Int), .int .u64 ((0 ||| ((A / 340282366920938463463374607431768211456 % 18446744073709551616) / 2 ^ (d % 64)) : Nat) : Int), .int .u64 0, .int .u64 0] 24 (0, 0)) else (b3, Obj.cells #[.int .u64 ((0 ||| ((A / 18446744073709551616 % 18446744073709551616) / 2 ^ (d % 64)) : Nat) : Int), .int .u64 ((0 ||| ((A / 340282366920938463463374607431768211456 % 18446744073709551616) / 2 ^ (d % 64)) : Nat) : Int), .int .u64 0, .int .u64 0] 24 (0, 0)))) (by kernel_rfl) (by rfl) (by simp only [hL12, cond_true, cond_false] <;> rfl))) (by kernel_rfl) (fun L g hN hF => by kernel_rfl)
  · exact D2.gv_val (fun _ _ _ h => h) (fun g w => by kernel_rfl)
  · exact D2.gv_val (fun _ _ _ h => h) (fun g w => by kernel_rfl)
  · exact D2.gv_valE (fun _ _ _ h => h) (V' := .int .i64 (IntKind.i64.wrap (64 - ((d % 64 : Nat) : Int)))) (fun g w => by kernel_rfl) (int_eq (wrapSub_i64 (a := 64) (b := d % 64) (by omega)))
  · exact D2.gv_valE (fun _ _ _ h => h) (V' := .int .u64 (IntKind.u64.wrap ((((A / 340282366920938463463374607431768211456 % 18446744073709551616 : Nat) : Int)) * 2 ^ (min (64 - (d % 64)) 64)))) (fun g w => by kernel_rfl) (int_eq (shlN (A / 340282366920938463463374607431768211456 % 18446744073709551616) (64 - (d % 64))))
  · exact D2.gv_valE (fun _ _ _ h => h) (V' := .int .u64 (Go.bits .or .u64 (((0 ||| ((A / 18446744073709551616 % 18446744073709551616) / 2 ^ (d % 64)) : Nat) : Int)) ((((A / 340282366920938463463374607431768211456 % 18446744073709551616) * 2 ^ (64 - (d % 64)) % 18446744073709551616 : Nat) : Int)))) (fun g w => by kernel_rfl) (int_eq (u64_or_nat (0 ||| ((A / 18446744073709551616 % 18446744073709551616) / 2 ^ (d % 64))) ((A / 340282366920938463463374607431768211456 % 18446744073709551616) * 2 ^ (64 - (d % 64)) % 18446744073709551616) (by omega) (by omega)))
  · exact D2.gv_val (fun _ _ _ h => h) (fun g w => by kernel_rfl)
  · exact D2.gv_store 0 22 (.tmp 46) (.tmp 45) (fun g => b3) (fun g => 0) #[.int .u64 ((0 ||| ((A / 18446744073709551616 % 18446744073709551616) / 2 ^ (d % 64)) : Nat) : Int), .int .u64 ((0 ||| ((A / 340282366920938463463374607431768211456 % 18446744073709551616) / 2 ^ (d % 64)) : Nat) : Int), .int .u64 0, .int .u64 0] #[.int .u64 (((0 ||| ((A / 18446744073709551616 % 18446744073709551616) / 2 ^ (d % 64))) ||| ((A / 340282366920938463463374607431768211456 % 18446744073709551616) * 2 ^ (64 - (d % 64)) % 18446744073709551616) : Nat) : Int), .int .u64 ((0 ||| ((A / 340282366920938463463374607431768211456 % 18446744073709551616) / 2 ^ (d % 64)) : Nat) : Int), .int .u64 0, .int .u64 0] 24 (.int .u64 (((0 ||| ((A / 18446744073709551616 % 18446744073709551616) / 2 ^ (d % 64))) ||| ((A / 340282366920938463463374607431768211456 % 18446744073709551616) * 2 ^ (64 - (d % 64)) % 18446744073709551616) : Nat) : Int)) (fun g => by kernel_rfl) (fun g => by kernel_rfl) (fun g => by kernel_rfl) (by kernel_rfl) (by kernel_rfl) (fun g => (of_decide_eq_true (by kernel_rfl))) (fun g => (by kernel_rfl)) (fun L g hN => ⟨(by have hL12 : L 12 = false := hN.1; exact D2.ent_get' (p := true) (e := (bif L 12 then (b3, Obj.cells #[.int .u64 (((0 ||| ((A / 18446744073709551616 % 18446744073709551616) / 2 ^ (d % 64))) ||| ((A / 340282366920938463463374607431768211456 % 18446744073709551616) * 2 ^ (64 - (d % 64)) % 18446744073709551616) : Nat) : Int), .int .u64 ((0 ||| ((A / 340282366920938463463374607431768211456 % 18446744073709551616) / 2 ^ (d % 64)) : Nat) : Int), .int .u64 0, .int .u64 0] 24 (0, 0)) else (b3, Obj.cells #[.int .u64 ((0 ||| ((A / 18446744073709551616 % 18446744073709551616) / 2 ^ (d % 64)) : Nat) : Int), .int .u64 ((0 ||| ((A / 340282366920938463463374607431768211456 % 18446744073709551616) / 2 ^ (d % 64)) : Nat) : Int), .int .u64 0, .int .u64 0] 24 (0, 0)))) (by kernel_rfl) (by rfl) (by simp only [hL12, cond_true, cond_false] <;> rfl)), (by kernel_rfl)⟩) (fun L g hN hF => hF)
  intro L0 G6 w6 hall HL; clear H5
  have H6 : St w.heap.size w w6 [(b3, Obj.cells #[.int .u64 (((0 ||| ((A / 18446744073709551616 % 18446744073709551616) / 2 ^ (d % 64))) ||| ((A / 340282366920938463463374607431768211456 % 18446744073709551616) * 2 ^ (64 - (d % 64)) % 18446744073709551616) : Nat) : Int), .int .u64 ((0 ||| ((A / 340282366920938463463374607431768211456 % 18446744073709551616) / 2 ^ (d % 64)) : Nat) : Int), .int .u64 0, .int .u64 0] 24 (0, 0)), (b2, Obj.cells #[.int .u64 0, .int .u64 0, .int .u64 0, .int .u64 0] 24 (0, 0)), (b1, Obj.cells (Value.cells (uv A)) 24 (0, 0))] := by have e12 := hall 12 (Nat.le_of_ble_eq_true (by kernel_rfl)); have hS := D2.StE.st HL.1; simp only [e12, cond_true, D2.pres] at hS; exact hS
  clear HL hall
  show WP _ _ _ _ _ _
  refine g_reg0 [0, 1] (by kernel_rfl) ?_
  refine s_val (some 47) (.int .i64 3) (fun w => by kernel_rfl) (by kernel_rfl) ?_
  refine s_val (some 15) (.int .i64 3) (fun w => by kernel_rfl) (by kernel_rfl) ?_
  refine s_nil ?_
  show WPL _ _ _ _ _ _
  refine g_next ?_
  refine g_sreg [0] (by kernel_rfl) (by kernel_rfl) ?_
  refine s_val (some 16) (.bool true) (fun w => by kernel_rfl) (by kernel_rfl) ?_
  refine s_nil ?_
  refine g_seq (by kernel_rfl) ?_
  refine g_cond_t (by kernel_rfl) (by kernel_rfl) ?_
  refine g_skip (by kernel_rfl) ?_
  show WP _ _ _ _ _ _
  refine g_seq (by kernel_rfl) ?_
  refine g_block 1 (by kernel_rfl) ?_
  refine g_sreg [0, 1, 2, 3] (by kernel_rfl) (by kernel_rfl) ?_
  refine s_val (some 17) (.int .i64 3) (fun w => by kernel_rfl) (by kernel_rfl) ?_
  refine s_val (some 18) (.int .u64 ((A / 6277101735386680763835789423207666416102355444464034512896 % 18446744073709551616 : Nat) : Int)) (fun w => by kernel_rfl) (by kernel_rfl) ?_
  refine s_val (some 8) (.int .i64 3) (fun w => by kernel_rfl) (by kernel_rfl) ?_
  refine s_val (some 9) (.int .u64 ((A / 6277101735386680763835789423207666416102355444464034512896 % 18446744073709551616 : Nat) : Int)) (fun w => by kernel_rfl) (by kernel_rfl) ?_
  refine s_nil ?_
  refine g_seq (by kernel_rfl) ?_
  refine g_sreg [0, 1, 2] (by kernel_rfl) (by kernel_rfl) ?_
  refine s_val (some 19) (.int .i64 3) (fun w => by kernel_rfl) (by kernel_rfl) ?_
  refine s_val (some 20) (.int .i64 1) (fun w => by kernel_rfl) (by kernel_rfl) ?_
  refine s_val (some 21) (.bool true) (fun w => by kernel_rfl) (by kernel_rfl) ?_
  refine s_nil ?_
  refine g_cond_t (by kernel_rfl) (by kernel_rfl) ?_
  refine D2.g_draw0 [0, 1, 2, 3, 4, 5, 6, 7, 8, 9, 10] [((some 22), fun _ => .int .i64 3), ((some 23), fun _ => .int .i64 1), ((some 24), fun _ => .int .i64 2), ((some 25), fun _ => .pointer (some ⟨b3, 2, none⟩)), ((some 26), fun _ => .int .u64 0), ((some 27), fun _ => .int .u64 ((A / 6277101735386680763835789423207666416102355444464034512896 % 18446744073709551616 : Nat) : Int)), ((some 28), fun _ => .int .i64 ((d % 64 : Nat) : Int)), ((some 29), fun _ => .int .u64 (((A / 6277101735386680763835789423207666416102355444464034512896 % 18446744073709551616) / 2 ^ (d % 64) : Nat) : Int)), ((some 30), fun _ => .int .u64 ((0 ||| ((A / 6277101735386680763835789423207666416102355444464034512896 % 18446744073709551616) / 2 ^ (d % 64)) : Nat) : Int)), ((some 31), fun _ => .pointer (some ⟨b3, 2, none⟩)), (none, fun _ => undef)] (D2.Pre w.heap.size w (fun L g => [(true, (bif L 10 then (b3, Obj.cells #[.int .u64 (((0 ||| ((A / 18446744073709551616 % 18446744073709551616) / 2 ^ (d % 64))) ||| ((A / 340282366920938463463374607431768211456 % 18446744073709551616) * 2 ^ (64 - (d % 64)) % 18446744073709551616) : Nat) : Int), .int .u64 ((0 ||| ((A / 340282366920938463463374607431768211456 % 18446744073709551616) / 2 ^ (d % 64)) : Nat) : Int), .int .u64 ((0 ||| ((A / 6277101735386680763835789423207666416102355444464034512896 % 18446744073709551616) / 2 ^ (d % 64)) : Nat) : Int), .int .u64 0] 24 (0, 0)) else (b3, Obj.cells #[.int .u64 (((0 ||| ((A / 18446744073709551616 % 18446744073709551616) / 2 ^ (d % 64))) ||| ((A / 340282366920938463463374607431768211456 % 18446744073709551616) * 2 ^ (64 - (d % 64)) % 18446744073709551616) : Nat) : Int), .int .u64 ((0 ||| ((A / 340282366920938463463374607431768211456 % 18446744073709551616) / 2 ^ (d % 64)) : Nat) : Int), .int .u64 0, .int .u64 0] 24 (0, 0)))), (true, (b2, Obj.cells #[.int .u64 0, .int .u64 0, .int .u64 0, .int .u64 0] 24 (0, 0))), (true, (b1, Obj.cells (Value.cells (uv A)) 24 (0, 0)))]) (fun L g => True)) (by kernel_rfl) (by kernel_rfl) (by kernel_rfl) ⟨D2.StE.of H6.drew _ (by kernel_rfl), trivial⟩ ⟨?_, ?_, ?_, ?_, ?_, ?_, ?_, ?_, ?_, ?_, ?_, trivial⟩ ?_
  · exact D2.gv_val (fun _ _ _ h => h) (fun g w => by kernel_rfl)
  · exact D2.gv_val (fun _ _ _ h => h) (fun g w => by kernel_rfl)
  · exact D2.gv_val (fun _ _ _ h => h) (fun g w => by kernel_rfl)
  · exact D2.gv_val (fun _ _ _ h => h) (fun g w => by kernel_rfl)
  · exact D2.gv_load1 22 (.tmp 25) 0 (fun g => b3) (fun g => 2) (fun g => #[.int .u64 (((0 ||| ((A / 18446744073709551616 % 18446744073709551616) / 2 ^ (d % 64))) ||| ((A / 340282366920938463463374607431768211456 % 18446744073709551616) * 2 ^ (64 - (d % 64)) % 18446744073709551616) : Nat) : Int), .int .u64 ((0 ||| ((A / 340282366920938463463374607431768211456 % 18446744073709551616) / 2 ^ (d % 64)) : Nat) : Int), .int .u64 0, .int .u64 0]) 24 (0, 0) (fun _ _ _ h => h) (fun g => by kernel_rfl) (fun g => by kernel_rfl) (fun L g hN => (by have hL10 : L 10 = false := (hN.post 10 (by kernel_rfl)); exact D2.ent_get' (p := true) (e := (bif L 10 then (b3, Obj.cells #[.int .u64 (((0 ||| ((A / 18446744073709551616 % 18446744073709551616) / 2 ^ (d % 64))) ||| ((A / 340282366920938463463374607431768211456 % 18446744073709551616) * 2 ^ (64 - (d % 64)) % 18446744073709551616) : Nat) : Int), .int .u64 ((0 ||| ((A / 340282366920938463463374607431768211456 % 18446744073709551616) / 2 ^ (d % 64)) : Nat) : Int), .int .u64 ((0 ||| ((A / 6277101735386680763835789423207666416102355444464034512896 % 18446744073709551616) / 2 ^ (d % 64)) : Nat) : Int), .int .u64 0] 24 (0, 0)) else (b3, Obj.cells #[.int .u64 (((0 ||| ((A / 18446744073709551616 % 18446744073709551616) / 2 ^ (d % 64))) ||| ((A / 340282366920938463463374607431768211456 % 18446744073709551616) * 2 ^ (64 - (d % 64)) % 18446744073709551616) : Nat) : Int), .int .u64 ((0 ||| ((A / 340282366920938463463374607431768211456 % 18446744073709551616) / 2 ^ (d % 64)) : Nat) : Int), .int .u64 0, .int .u64 0] 24 (0, 0)))) (by kernel_rfl) (by rfl) (by simp only [hL10, cond_true, cond_false] <;> rfl))) (by kernel_rfl) (fun L g hN hF => by kernel_rfl)
  · exact D2.gv_val (fun _ _ _ h => h) (fun g w => by kernel_rfl)
  · exact D2.gv_val (fun _ _ _ h => h) (fun g w => by kernel_rfl)
  · exact D2.gv_valE (fun _ _ _ h => h) (V' := .int .u64 (Int.fdiv ((A / 6277101735386680763835789423207666416102355444464034512896 % 18446744073709551616 : Nat) : Int) (2 ^ (min (d % 64) 64)))) (fun g w => by kernel_rfl) (int_eq (shr_min (A / 6277101735386680763835789423207666416102355444464034512896 % 18446744073709551616) (d % 64) 64 (by omega)))
  · exact D2.gv_valE (fun _ _ _ h => h) (V' := .int .u64 (Go.bits .or .u64 (0) ((((A / 6277101735386680763835789423207666416102355444464034512896 % 18446744073709551616) / 2 ^ (d % 64) : Nat) : Int)))) (fun g w => by kernel_rfl) (int_eq (u64_or_nat 0 ((A / 6277101735386680763835789423207666416102355444464034512896 % 18446744073709551616) / 2 ^ (d % 64)) (by omega) (by omega)))
  · exact D2.gv_val (fun _ _ _ h => h) (fun g w => by kernel_rfl)
  · exact D2.gv_store 0 22 (.tmp 31) (.tmp 30) (fun g => b3) (fun g => 2) #[.int .u64 (((0 ||| ((A / 18446744073709551616 % 18446744073709551616) / 2 ^ (d % 64))) ||| ((A / 340282366920938463463374607431768211456 % 18446744073709551616) * 2 ^ (64 - (d % 64)) % 18446744073709551616) : Nat) : Int), .int .u64 ((0 ||| ((A / 340282366920938463463374607431768211456 % 18446744073709551616) / 2 ^ (d % 64)) : Nat) : Int), .int .u64 0, .int .u64 0] #[.int .u64 (((0 ||| ((A / 18446744073709551616 % 18446744073709551616) / 2 ^ (d % 64))) ||| ((A / 340282366920938463463374607431768211456 % 18446744073709551616) * 2 ^ (64 - (d % 64)) % 18446744073709551616) : Nat) : Int), .int .u64 ((0 ||| ((A / 340282366920938463463374607431768211456 % 18446744073709551616) / 2 ^ (d % 64)) : Nat) : Int), .int .u64 ((0 ||| ((A / 6277101735386680763835789423207666416102355444464034512896 % 18446744073709551616) / 2 ^ (d % 64)) : Nat) : Int), .int .u64 0] 24 (.int .u64 ((0 ||| ((A / 6277101735386680763835789423207666416102355444464034512896 % 18446744073709551616) / 2 ^ (d % 64)) : Nat) : Int)) (fun g => by kernel_rfl) (fun g => by kernel_rfl) (fun g => by kernel_rfl) (by kernel_rfl) (by kernel_rfl) (fun g => (of_decide_eq_true (by kernel_rfl))) (fun g => (by kernel_rfl)) (fun L g hN => ⟨(by have hL10 : L 10 = false := hN.1; exact D2.ent_get' (p := true) (e := (bif L 10 then (b3, Obj.cells #[.int .u64 (((0 ||| ((A / 18446744073709551616 % 18446744073709551616) / 2 ^ (d % 64))) ||| ((A / 340282366920938463463374607431768211456 % 18446744073709551616) * 2 ^ (64 - (d % 64)) % 18446744073709551616) : Nat) : Int), .int .u64 ((0 ||| ((A / 340282366920938463463374607431768211456 % 18446744073709551616) / 2 ^ (d % 64)) : Nat) : Int), .int .u64 ((0 ||| ((A / 6277101735386680763835789423207666416102355444464034512896 % 18446744073709551616) / 2 ^ (d % 64)) : Nat) : Int), .int .u64 0] 24 (0, 0)) else (b3, Obj.cells #[.int .u64 (((0 ||| ((A / 18446744073709551616 % 18446744073709551616) / 2 ^ (d % 64))) ||| ((A / 340282366920938463463374607431768211456 % 18446744073709551616) * 2 ^ (64 - (d % 64)) % 18446744073709551616) : Nat) : Int), .int .u64 ((0 ||| ((A / 340282366920938463463374607431768211456 % 18446744073709551616) / 2 ^ (d % 64)) : Nat) : Int), .int .u64 0, .int .u64 0] 24 (0, 0)))) (by kernel_rfl) (by rfl) (by simp only [hL10, cond_true, cond_false] <;> rfl)), (by kernel_rfl)⟩) (fun L g hN hF => hF)
  intro L0 G7 w7 hall HL; clear H6
  have H7 : St w.heap.size w w7 [(b3, Obj.cells #[.int .u64 (((0 ||| ((A / 18446744073709551616 % 18446744073709551616) / 2 ^ (d % 64))) ||| ((A / 340282366920938463463374607431768211456 % 18446744073709551616) * 2 ^ (64 - (d % 64)) % 18446744073709551616) : Nat) : Int), .int .u64 ((0 ||| ((A / 340282366920938463463374607431768211456 % 18446744073709551616) / 2 ^ (d % 64)) : Nat) : Int), .int .u64 ((0 ||| ((A / 6277101735386680763835789423207666416102355444464034512896 % 18446744073709551616) / 2 ^ (d % 64)) : Nat) : Int), .int .u64 0] 24 (0, 0)), (b2, Obj.cells #[.int .u64 0, .int .u64 0, .int .u64 0, .int .u64 0] 24 (0, 0)), (b1, Obj.cells (Value.cells (uv A)) 24 (0, 0))] := by have e10 := hall 10 (Nat.le_of_ble_eq_true (by kernel_rfl)); have hS := D2.StE.st HL.1; simp only [e10, cond_true, D2.pres] at hS; exact hS
  clear HL hall
  show WP _ _ _ _ _ _
  refine g_sreg [0, 1, 2] (by kernel_rfl) (by kernel_rfl) ?_
  refine s_val (some 32) (.int .i64 3) (fun w => by kernel_rfl) (by kernel_rfl) ?_
  refine s_val (some 33) (.int .i64 1) (fun w => by kernel_rfl) (by kernel_rfl) ?_
  refine s_val (some 34) (.bool true) (fun w => by kernel_rfl) (by kernel_rfl) ?_
  refine s_nil ?_
  refine g_cond_t (by kernel_rfl) (by kernel_rfl) ?_
  refine D2.g_draw0 [0, 1, 2, 3, 4, 5, 6, 7, 8, 9, 10, 11, 12] [((some 35), fun _ => .int .i64 3), ((some 36), fun _ => .int .i64 1), ((some 37), fun _ => .int .i64 2), ((some 38), fun _ => .int .i64 1), ((some 39), fun _ => .pointer (some ⟨b3, 1, none⟩)), ((some 40), fun _ => .int .u64 ((0 ||| ((A / 340282366920938463463374607431768211456 % 18446744073709551616) / 2 ^ (d % 64)) : Nat) : Int)), ((some 41), fun _ => .int .u64 ((A / 6277101735386680763835789423207666416102355444464034512896 % 18446744073709551616 : Nat) : Int)), ((some 42), fun _ => .int .i64 ((d % 64 : Nat) : Int)), ((some 43), fun _ => .int .i64 ((64 - (d % 64) : Nat) : Int)), ((some 44), fun _ => .int .u64 (((A / 6277101735386680763835789423207666416102355444464034512896 % 18446744073709551616) * 2 ^ (64 - (d % 64)) % 18446744073709551616 : Nat) : Int)), ((some 45), fun _ => .int .u64 (((0 ||| ((A / 340282366920938463463374607431768211456 % 18446744073709551616) / 2 ^ (d % 64))) ||| ((A / 6277101735386680763835789423207666416102355444464034512896 % 18446744073709551616) * 2 ^ (64 - (d % 64)) % 18446744073709551616) : Nat) : Int)), ((some 46), fun _ => .pointer (some ⟨b3, 1, none⟩)), (none, fun _ => undef)] (D2.Pre w.heap.size w (fun L g => [(true, (bif L 12 then (b3, Obj.cells #[.int .u64 (((0 ||| ((A / 18446744073709551616 % 18446744073709551616) / 2 ^ (d % 64))) ||| ((A / 340282366920938463463374607431768211456 % 18446744073709551616) * 2 ^ (64 - (d % 64)) % 18446744073709551616) : Nat) : Int), .int .u64 (((0 ||| ((A / 340282366920938463463374607431768211456 % 18446744073709551616) / 2 ^ (d % 64))) ||| ((A / 6277101735386680763835789423207666416102355444464034512896 % 18446744073709551616) * 2 ^ (64 - (d % 64)) % 18446744073709551616) : Nat) : Int), .int .u64 ((0 ||| ((A / 6277101735386680763835789423207666416102355444464034512896 % 18446744073709551616) / 2 ^ (d % 64)) : Nat) : Int), .int .u64 0] 24 (0, 0)) else (b3, Obj.cells #[.int .u64 (((0 ||| ((A / 18446744073709551616 % 18446744073709551616) / 2 ^ (d % 64))) ||| ((A / 340282366920938463463374607431768211456 % 18446744073709551616) * 2 ^ (64 - (d % 64)) % 18446744073709551616) : Nat) : Int), .int .u64 ((0 ||| ((A / 340282366920938463463374607431768211456 % 18446744073709551616) / 2 ^ (d % 64)) : Nat) : Int), .int .u64 ((0 ||| ((A / 6277101735386680763835789423207666416102355444464034512896 % 18446744073709551616) / 2 ^ (d % 64)) : Nat) : Int), .int .u64 0] 24 (0, 0)))), (true, (b2, Obj.cells #[.int .u64 0, .int .u64 0, .int .u64 0, .int .u64 0] 24 (0, 0))), (true, (b1, Obj.cells (Value.cells (uv A)) 24 (0, 0)))]) (fun L g => True)) (by kernel_rfl) (by kernel_rfl) (by kernel_rfl) ⟨D2.StE.of H7.drew _ (by kernel_rfl), trivial⟩ ⟨?_, ?_, ?_, ?_, ?_, ?_, ?_, ?_, ?_, ?_, ?_, ?_, ?_, trivial⟩ ?_
  · exact D2.gv_val (fun _ _ _ h => h) (fun g w => by kernel_rfl)
  · exact D2.gv_val (fun _ _ _ h => h) (fun g w => by kernel_rfl)
  · exact D2.gv_val (fun _ _ _ h => h) (fun g w => by kernel_rfl)
  · exact D2.gv_val (fun _ _ _ h => h) (fun g w => by kernel_rfl)
  · exact D2.gv_val (fun _ _ _ h => h) (fun g w => by kernel_rfl)
  · exact D2.gv_load1 22 (.tmp 39) 0 (fun g => b3) (fun g => 1) (fun g => #[.int .u64 (((0 ||| ((A / 18446744073709551616 % 18446744073709551616) / 2 ^ (d % 64))) ||| ((A / 340282366920938463463374607431768211456 % 18446744073709551616) * 2 ^ (64 - (d % 64)) % 18446744073709551616) : Nat) : Int), .int .u64 ((0 ||| ((A / 340282366920938463463374607431768211456 % 18446744073709551616) / 2 ^ (d % 64)) : Nat) : Int), .int .u64 ((0 ||| ((A / 6277101735386680763835789423207666416102355444464034512896 % 18446744073709551616) / 2 ^ (d % 64)) : Nat) : Int), .int .u64 0]) 24 (0, 0) (fun _ _ _ h => h) (fun g => by kernel_rfl) (fun g => by kernel_rfl) (fun L g hN => (by have hL12 : L 12 = false := (hN.post 12 (by kernel_rfl)); exact D2.ent_get' (p := true) (e := (bif L 12 then (b3, Obj.cells #[.int .u64 (((0 ||| ((A / 18446744073709551616 % 18446744073709551616) / 2 ^ (d % 64))) ||| ((A / 340282366920938463463374607431768211456 % 18446744073709551616) * 2 ^ (64 - (d % 64)) % 18446744073709551616) : Nat) : Int), .int .u64 (((0 ||| ((A / 340282366920938463463374607431768211456 % 18446744073709551616) / 2 ^ (d % 64))) ||| ((A / 6277101735386680763835789423207666416102355444464034512896 % 18446744073709551616) * 2 ^ (64 - (d % 64)) % 18446744073709551616) : Nat) : Int), .int .u64 ((0 ||| ((A / 6277101735386680763835789423207666416102355444464034512896 % 18446744073709551616) / 2 ^ (d % 64)) : Nat) : Int), .int .u64 0] 24 (0, 0)) else (b3, Obj.cells #[.int .u64 (((0 ||| ((A / 18446744073709551616 % 18446744073709551616) / 2 ^ (d % 64))) ||| ((A / 340282366920938463463374607431768211456 % 18446744073709551616) * 2 ^ (64 - (d % 64)) % 18446744073709551616) : Nat) : Int), .int .u64 ((0 ||| ((A / 340282366920938463463374607431768211456 % 18446744073709551616) / 2 ^ (d % 64)) : Nat) : Int), .int .u64 ((0 ||| ((A / 6277101735386680763835789423207666416102355444464034512896 % 18446744073709551616) / 2 ^ (d % 64)) : Nat) : Int), .int .u64 0] 24 (0, 0)))) (by kernel_rfl) (by rfl) (by simp only [hL12, cond_true, cond_false] <;> rfl))) (by kernel_rfl) (fun L g hN hF => by kernel_rfl)
  · exact D2.gv_val (fun _ _ _ h => h) (fun g w => by kernel_rfl)
  · exact D2.gv_val (fun _ _ _ h => h) (fun g w => by kernel_rfl)
  · exact D2.gv_valE (fun _ _ _ h => h) (V' := .int .i64 (IntKind.i64.wrap (64 - ((d % 64 : Nat) : Int)))) (fun g w => by kernel_rfl) (int_eq (wrapSub_i64 (a := 64) (b := d % 64) (by omega)))
  · exact D2.gv_valE (fun _ _ _ h => h) (V' := .int .u64 (IntKind.u64.wrap ((((A / 6277101735386680763835789423207666416102355444464034512896 % 18446744073709551616 : Nat) : Int)) * 2 ^ (min (64 - (d % 64)) 64)))) (fun g w => by kernel_rfl) (int_eq (shlN (A / 6277101735386680763835789423207666416102355444464034512896 % 18446744073709551616) (64 - (d % 64))))
  · exact D2.gv_valE (fun _ _ _ h => h) (V' := .int .u64 (Go.bits .or .u64 (((0 ||| ((A / 340282366920938463463374607431768211456 % 18446744073709551616) / 2 ^ (d % 64)) : Nat) : Int)) ((((A / 6277101735386680763835789423207666416102355444464034512896 % 18446744073709551616) * 2 ^ (64 - (d % 64)) % 18446744073709551616 : Nat) : Int)))) (fun g w => by kernel_rfl) (int_eq (u64_or_nat (0 ||| ((A / 340282366920938463463374607431768211456 % 18446744073709551616) / 2 ^ (d % 64))) ((A / 6277101735386680763835789423207666416102355444464034512896 % 18446744073709551616) * 2 ^ (64 - (d % 64)) % 18446744073709551616) (by omega) (by omega)))
  · exact D2.gv_val (fun _ _ _ h => h) (fun g w => by kernel_rfl)
  · exact D2.gv_store 0 22 (.tmp 46) (.tmp 45) (fun g => b3) (fun g => 1) #[.int .u64 (((0 ||| ((A / 18446744073709551616 % 18446744073709551616) / 2 ^ (d % 64))) ||| ((A / 340282366920938463463374607431768211456 % 18446744073709551616) * 2 ^ (64 - (d % 64)) % 18446744073709551616) : Nat) : Int), .int .u64 ((0 ||| ((A / 340282366920938463463374607431768211456 % 18446744073709551616) / 2 ^ (d % 64)) : Nat) : Int), .int .u64 ((0 ||| ((A / 6277101735386680763835789423207666416102355444464034512896 % 18446744073709551616) / 2 ^ (d % 64)) : Nat) : Int), .int .u64 0] #[.int .u64 (((0 ||| ((A / 18446744073709551616 % 18446744073709551616) / 2 ^ (d % 64))) ||| ((A / 340282366920938463463374607431768211456 % 18446744073709551616) * 2 ^ (64 - (d % 64)) % 18446744073709551616) : Nat) : Int), .int .u64 (((0 ||| ((A / 340282366920938463463374607431768211456 % 18446744073709551616) / 2 ^ (d % 64))) ||| ((A / 6277101735386680763835789423207666416102355444464034512896 % 18446744073709551616) * 2 ^ (64 - (d % 64)) % 18446744073709551616) : Nat) : Int), .int .u64 ((0 ||| ((A / 6277101735386680763835789423207666416102355444464034512896 % 18446744073709551616) / 2 ^ (d % 64)) : Nat) : Int), .int .u64 0] 24 (.int .u64 (((0 ||| ((A / 340282366920938463463374607431768211456 % 18446744073709551616) / 2 ^ (d % 64))) ||| ((A / 6277101735386680763835789423207666416102355444464034512896 % 18446744073709551616) * 2 ^ (64 - (d % 64)) % 18446744073709551616) : Nat) : Int)) (fun g => by kernel_rfl) (fun g => by kernel_rfl) (fun g => by kernel_rfl) (by kernel_rfl) (by kernel_rfl) (fun g => (of_decide_eq_true (by kernel_rfl))) (fun g => (by kernel_rfl)) (fun L g hN => ⟨(by have hL12 : L 12 = false := hN.1; exact D2.ent_get' (p := true) (e := (bif L 12 then (b3, Obj.cells #[.int .u64 (((0 ||| ((A / 18446744073709551616 % 18446744073709551616) / 2 ^ (d % 64))) ||| ((A / 340282366920938463463374607431768211456 % 18446744073709551616) * 2 ^ (64 - (d % 64)) % 18446744073709551616) : Nat) : Int), .int .u64 (((0 ||| ((A / 340282366920938463463374607431768211456 % 18446744073709551616) / 2 ^ (d % 64))) ||| ((A / 6277101735386680763835789423207666416102355444464034512896 % 18446744073709551616) * 2 ^ (64 - (d % 64)) % 18446744073709551616) : Nat) : Int), .int .u64 ((0 ||| ((A / 6277101735386680763835789423207666416102355444464034512896 % 18446744073709551616) / 2 ^ (d % 64)) : Nat) : Int), .int .u64 0] 24 (0, 0)) else (b3, Obj.cells #[.int .u64 (((0 ||| ((A / 18446744073709551616 % 18446744073709551616) / 2 ^ (d % 64))) ||| ((A / 340282366920938463463374607431768211456 % 18446744073709551616) * 2 ^ (64 - (d % 64)) % 18446744073709551616) : Nat) : Int), .int .u64 ((0 ||| ((A / 340282366920938463463374607431768211456 % 18446744073709551616) / 2 ^ (d % 64)) : Nat) : Int), .int .u64 ((0 ||| ((A / 6277101735386680763835789423207666416102355444464034512896 % 18446744073709551616) / 2 ^ (d % 64)) : Nat) : Int), .int .u64 0] 24 (0, 0)))) (by kernel_rfl) (by rfl) (by simp only [hL12, cond_true, cond_false] <;> rfl)), (by kernel_rfl)⟩) (fun L g hN hF => hF)
  intro L0 G8 w8 hall HL; clear H7
  have H8 : St w.heap.size w w8 [(b3, Obj.cells #[.int .u64 (((0 ||| ((A / 18446744073709551616 % 18446744073709551616) / 2 ^ (d % 64))) ||| ((A / 340282366920938463463374607431768211456 % 18446744073709551616) * 2 ^ (64 - (d % 64)) % 18446744073709551616) : Nat) : Int), .int .u64 (((0 ||| ((A / 340282366920938463463374607431768211456 % 18446744073709551616) / 2 ^ (d % 64))) ||| ((A / 6277101735386680763835789423207666416102355444464034512896 % 18446744073709551616) * 2 ^ (64 - (d % 64)) % 18446744073709551616) : Nat) : Int), .int .u64 ((0 ||| ((A / 6277101735386680763835789423207666416102355444464034512896 % 18446744073709551616) / 2 ^ (d % 64)) : Nat) : Int), .int .u64 0] 24 (0, 0)), (b2, Obj.cells #[.int .u64 0, .int .u64 0, .int .u64 0, .int .u64 0] 24 (0, 0)), (b1, Obj.cells (Value.cells (uv A)) 24 (0, 0))] := by have e12 := hall 12 (Nat.le_of_ble_eq_true (by kernel_rfl)); have hS := D2.StE.st HL.1; simp only [e12, cond_true, D2.pres] at hS; exact hS
  clear HL hall
  show WP _ _ _ _ _ _
  refine g_reg0 [0, 1] (by kernel_rfl) ?_
  refine s_val (some 47) (.int .i64 4) (fun w => by kernel_rfl) (by kernel_rfl) ?_
  refine s_val (some 15) (.int .i64 4) (fun w => by kernel_rfl) (by kernel_rfl) ?_
  refine s_nil ?_
  show WPL _ _ _ _ _ _
  refine g_next ?_
  refine g_sreg [0] (by kernel_rfl) (by kernel_rfl) ?_
  refine s_val (some 16) (.bool false) (fun w => by kernel_rfl) (by kernel_rfl) ?_
  refine s_nil ?_
  refine g_seq (by kernel_rfl) ?_
  refine g_cond_f (by kernel_rfl) (by kernel_rfl) ?_
  refine g_exit 0 (by kernel_rfl) ?_
  show WP _ _ _ _ _ _
  refine g_sreg [0, 1] (by kernel_rfl) (by kernel_rfl) ?_
  refine s_load H8 (some 48) 24 (.tmp 5) 0 b3 #[.int .u64 (((0 ||| ((A / 18446744073709551616 % 18446744073709551616) / 2 ^ (d % 64))) ||| ((A / 340282366920938463463374607431768211456 % 18446744073709551616) * 2 ^ (64 - (d % 64)) % 18446744073709551616) : Nat) : Int), .int .u64 (((0 ||| ((A / 340282366920938463463374607431768211456 % 18446744073709551616) / 2 ^ (d % 64))) ||| ((A / 6277101735386680763835789423207666416102355444464034512896 % 18446744073709551616) * 2 ^ (64 - (d % 64)) % 18446744073709551616) : Nat) : Int), .int .u64 ((0 ||| ((A / 6277101735386680763835789423207666416102355444464034512896 % 18446744073709551616) / 2 ^ (d % 64)) : Nat) : Int), .int .u64 0] 24 (0, 0) (by kernel_rfl) (by kernel_rfl) (by kernel_rfl) (by kernel_rfl) (by kernel_rfl) ?_
  refine s_store H8 1 [(b3, Obj.cells #[.int .u64 (((0 ||| ((A / 18446744073709551616 % 18446744073709551616) / 2 ^ (d % 64))) ||| ((A / 340282366920938463463374607431768211456 % 18446744073709551616) * 2 ^ (64 - (d % 64)) % 18446744073709551616) : Nat) : Int), .int .u64 (((0 ||| ((A / 340282366920938463463374607431768211456 % 18446744073709551616) / 2 ^ (d % 64))) ||| ((A / 6277101735386680763835789423207666416102355444464034512896 % 18446744073709551616) * 2 ^ (64 - (d % 64)) % 18446744073709551616) : Nat) : Int), .int .u64 ((0 ||| ((A / 6277101735386680763835789423207666416102355444464034512896 % 18446744073709551616) / 2 ^ (d % 64)) : Nat) : Int), .int .u64 0] 24 (0, 0)), (b2, Obj.cells #[.int .u64 (((0 ||| ((A / 18446744073709551616 % 18446744073709551616) / 2 ^ (d % 64))) ||| ((A / 340282366920938463463374607431768211456 % 18446744073709551616) * 2 ^ (64 - (d % 64)) % 18446744073709551616) : Nat) : Int), .int .u64 (((0 ||| ((A / 340282366920938463463374607431768211456 % 18446744073709551616) / 2 ^ (d % 64))) ||| ((A / 6277101735386680763835789423207666416102355444464034512896 % 18446744073709551616) * 2 ^ (64 - (d % 64)) % 18446744073709551616) : Nat) : Int), .int .u64 ((0 ||| ((A / 6277101735386680763835789423207666416102355444464034512896 % 18446744073709551616) / 2 ^ (d % 64)) : Nat) : Int), .int .u64 0] 24 (0, 0)), (b1, Obj.cells (Value.cells (uv A)) 24 (0, 0))] 24 (.tmp 4) (.tmp 48) b2 (0) #[.int .u64 0, .int .u64 0, .int .u64 0, .int .u64 0] #[.int .u64 (((0 ||| ((A / 18446744073709551616 % 18446744073709551616) / 2 ^ (d % 64))) ||| ((A / 340282366920938463463374607431768211456 % 18446744073709551616) * 2 ^ (64 - (d % 64)) % 18446744073709551616) : Nat) : Int), .int .u64 (((0 ||| ((A / 340282366920938463463374607431768211456 % 18446744073709551616) / 2 ^ (d % 64))) ||| ((A / 6277101735386680763835789423207666416102355444464034512896 % 18446744073709551616) * 2 ^ (64 - (d % 64)) % 18446744073709551616) : Nat) : Int), .int .u64 ((0 ||| ((A / 6277101735386680763835789423207666416102355444464034512896 % 18446744073709551616) / 2 ^ (d % 64)) : Nat) : Int), .int .u64 0] 24 (.agg #[.int .u64 (((0 ||| ((A / 18446744073709551616 % 18446744073709551616) / 2 ^ (d % 64))) ||| ((A / 340282366920938463463374607431768211456 % 18446744073709551616) * 2 ^ (64 - (d % 64)) % 18446744073709551616) : Nat) : Int), .int .u64 (((0 ||| ((A / 340282366920938463463374607431768211456 % 18446744073709551616) / 2 ^ (d % 64))) ||| ((A / 6277101735386680763835789423207666416102355444464034512896 % 18446744073709551616) * 2 ^ (64 - (d % 64)) % 18446744073709551616) : Nat) : Int), .int .u64 ((0 ||| ((A / 6277101735386680763835789423207666416102355444464034512896 % 18446744073709551616) / 2 ^ (d % 64)) : Nat) : Int), .int .u64 0]) (by kernel_rfl) (by kernel_rfl) (by kernel_rfl) (by kernel_rfl) (by kernel_rfl) (by kernel_rfl) (of_decide_eq_true (by kernel_rfl)) (by kernel_rfl) (by kernel_rfl) ?_
  intro w9 H9; clear H8
  refine s_nil ?_
  refine g_ret (by kernel_rfl) ?_
  show ∃ vs, Res _ _ _ _ vs ∧ _
  refine ⟨[.agg #[.int .u64 (((0 ||| ((A / 18446744073709551616 % 18446744073709551616) / 2 ^ (d % 64))) ||| ((A / 340282366920938463463374607431768211456 % 18446744073709551616) * 2 ^ (64 - (d % 64)) % 18446744073709551616) : Nat) : Int), .int .u64 (((0 ||| ((A / 340282366920938463463374607431768211456 % 18446744073709551616) / 2 ^ (d % 64))) ||| ((A / 6277101735386680763835789423207666416102355444464034512896 % 18446744073709551616) * 2 ^ (64 - (d % 64)) % 18446744073709551616) : Nat) : Int), .int .u64 ((0 ||| ((A / 6277101735386680763835789423207666416102355444464034512896 % 18446744073709551616) / 2 ^ (d % 64)) : Nat) : Int), .int .u64 0]], (.agg (b := b2) #[.int .u64 (((0 ||| ((A / 18446744073709551616 % 18446744073709551616) / 2 ^ (d % 64))) ||| ((A / 340282366920938463463374607431768211456 % 18446744073709551616) * 2 ^ (64 - (d % 64)) % 18446744073709551616) : Nat) : Int), .int .u64 (((0 ||| ((A / 340282366920938463463374607431768211456 % 18446744073709551616) / 2 ^ (d % 64))) ||| ((A / 6277101735386680763835789423207666416102355444464034512896 % 18446744073709551616) * 2 ^ (64 - (d % 64)) % 18446744073709551616) : Nat) : Int), .int .u64 ((0 ||| ((A / 6277101735386680763835789423207666416102355444464034512896 % 18446744073709551616) / 2 ^ (d % 64)) : Nat) : Int), .int .u64 0] 24 (0, 0) (by kernel_rfl) (H9.get 1 (by kernel_rfl)) (by kernel_rfl) .nil), ?_, H9.below⟩
  have e0 := word_join (A / 2 ^ (64 * (1 + 0))) (d % 64) (Nat.mod_lt _ (by omega)); rw [← w_sh A 1 (d % 64) 0, Nat.div_div_eq_div_mul (A) (2 ^ (64 * (1 + 0))) (2 ^ 64)] at e0
  have e1 := word_join (A / 2 ^ (64 * (1 + 1))) (d % 64) (Nat.mod_lt _ (by omega)); rw [← w_sh A 1 (d % 64) 1, Nat.div_div_eq_div_mul (A) (2 ^ (64 * (1 + 1))) (2 ^ 64)] at e1
  have e2 := word_last (A / 2 ^ (64 * (1 + 2))) (d % 64) (by show A / 6277101735386680763835789423207666416102355444464034512896 < _; unfold big at hA; omega); rw [← w_sh A 1 (d % 64) 2] at e2
  have e3 : 0 = A / 2 ^ (64 * 1 + d % 64) / 2 ^ (64 * 3) % 2 ^ 64 := by rw [w_sh, Nat.div_eq_of_lt (a := A) (Nat.lt_of_lt_of_le hA (show big ≤ 2 ^ (64 * (1 + 3)) from Nat.le_of_ble_eq_true (by kernel_rfl))), Nat.zero_div]
  have e := uv_of (N := A / 2 ^ (64 * 1 + d % 64)) e0 e1 e2 e3
  rw [show 64 * 1 + d % 64 = d by omega] at e
  simp only [Nat.reduceMul, Nat.reduceAdd, Nat.reducePow] at e
  exact e

set_option maxRecDepth 100000 in
set_option maxHeartbeats 2000000 in
theorem lower2_fn (A d : Nat) (hA : A < big) (hd : d < 256) (hq : d / 64 = 2) : Fn Try.prog 36 #[uv A, .int .i64 ((d : Nat) : Int)] (uv (A / 2 ^ d)) := by
  have hbig : big = 115792089237316195423570985008687907853269984665640564039457584007913129639936 := rfl
  have hs0 := Nat.div_le_self (A % 18446744073709551616) (2 ^ (d % 64))
  have hz0 : 0 ||| (A % 18446744073709551616 / 2 ^ (d % 64)) = A % 18446744073709551616 / 2 ^ (d % 64) := Nat.zero_or _
  have hs1 := Nat.div_le_self (A / 18446744073709551616 % 18446744073709551616) (2 ^ (d % 64))
  have hz1 : 0 ||| (A / 18446744073709551616 % 18446744073709551616 / 2 ^ (d % 64)) = A / 18446744073709551616 % 18446744073709551616 / 2 ^ (d % 64) := Nat.zero_or _
  have hs2 := Nat.div_le_self (A / 340282366920938463463374607431768211456 % 18446744073709551616) (2 ^ (d % 64))
  have hz2 : 0 ||| (A / 340282366920938463463374607431768211456 % 18446744073709551616 / 2 ^ (d % 64)) = A / 340282366920938463463374607431768211456 % 18446744073709551616 / 2 ^ (d % 64) := Nat.zero_or _
  have hs3 := Nat.div_le_self (A / 6277101735386680763835789423207666416102355444464034512896 % 18446744073709551616) (2 ^ (d % 64))
  have hz3 : 0 ||| (A / 6277101735386680763835789423207666416102355444464034512896 % 18446744073709551616 / 2 ^ (d % 64)) = A / 6277101735386680763835789423207666416102355444464034512896 % 18446744073709551616 / 2 ^ (d % 64) := Nat.zero_or _
  refine Fn.intro (c := codeOf Try.f36) [.cell 4 24] 49 Try.func36 (by kernel_rfl) (by kernel_rfl) (by kernel_rfl) fun w => ?_
  have H0 := St.start w
  refine g_sreg [0, 1] (by kernel_rfl) (by kernel_rfl) ?_
  refine s_box H0 (some 2) 24 (.tmp 0) (uv A) (by kernel_rfl) (by kernel_rfl) (by kernel_rfl) ?_
  intro b1 w1 H1; clear H0
  refine s_alloc H1 (some 4) 24 (.agg #[.int .u64 0, .int .u64 0, .int .u64 0, .int .u64 0]) (by kernel_rfl) (by kernel_rfl) (by kernel_rfl) ?_
  intro b2 w2 H2; clear H1
  refine s_nil ?_
  refine g_sreg [0] (by kernel_rfl) (by kernel_rfl) ?_
  refine s_alloc H2 (some 5) 24 (.agg #[.int .u64 0, .int .u64 0, .int .u64 0, .int .u64 0]) (by kernel_rfl) (by kernel_rfl) (by kernel_rfl) ?_
  intro b3 w3 H3; clear H2
  refine s_nil ?_
  refine g_sreg [0, 1, 2, 3, 4, 5] (by kernel_rfl) (by kernel_rfl) ?_
  refine s_val (some 10) (.int .i64 ((d : Nat) : Int)) (fun w => by kernel_rfl) (by kernel_rfl) ?_
  refine s_valE (some 11) (.int .i64 (IntKind.i64.wrap (Int.tdiv ((d : Nat) : Int) 64))) (.int .i64 2) (fun w => by kernel_rfl) (int_eq (show IntKind.i64.wrap (Int.tdiv (((d : Nat)) : Int) ((64 : Nat) : Int)) = ((2 : Nat) : Int) by rw [quoN_i64 (by omega), hq])) (by kernel_rfl) ?_
  refine s_val (some 12) (.int .i64 ((d : Nat) : Int)) (fun w => by kernel_rfl) (by kernel_rfl) ?_
  refine s_valE (some 13) (.int .i64 (Int.tmod ((d : Nat) : Int) 64)) (.int .i64 ((d % 64 : Nat) : Int)) (fun w => by kernel_rfl) (int_eq (remN d 64)) (by kernel_rfl) ?_
  refine s_val (some 6) (.int .i64 2) (fun w => by kernel_rfl) (by kernel_rfl) ?_
  refine s_val (some 7) (.int .i64 ((d % 64 : Nat) : Int)) (fun w => by kernel_rfl) (by kernel_rfl) ?_
  refine s_nil ?_
  refine g_seq (by kernel_rfl) ?_
  refine g_sreg [0, 1] (by kernel_rfl) (by kernel_rfl) ?_
  refine s_load H3 (some 14) 24 (.tmp 2) 2 b1 (Value.cells (uv A)) 24 (0, 0) (by kernel_rfl) (by kernel_rfl) (by kernel_rfl) (by kernel_rfl) (by kernel_rfl) ?_
  refine s_val (some 15) (.int .i64 0) (fun w => by kernel_rfl) (by kernel_rfl) ?_
  refine s_nil ?_
  refine g_block 0 (by kernel_rfl) ?_
  refine g_first (by kernel_rfl) ?_
  refine g_sreg [0] (by kernel_rfl) (by kernel_rfl) ?_
  refine s_val (some 16) (.bool true) (fun w => by kernel_rfl) (by kernel_rfl) ?_
  refine s_nil ?_
  refine g_seq (by kernel_rfl) ?_
  refine g_cond_t (by kernel_rfl) (by kernel_rfl) ?_
  refine g_skip (by kernel_rfl) ?_
  show WP _ _ _ _ _ _
  refine g_seq (by kernel_rfl) ?_
  refine g_block 1 (by kernel_rfl) ?_
  refine g_sreg [0, 1, 2, 3] (by kernel_rfl) (by kernel_rfl) ?_
  refine s_val (some 17) (.int .i64 0) (fun w => by kernel_rfl) (by kernel_rfl) ?_
  refine s_val (some 18) (.int .u64 ((A % 18446744073709551616 : Nat) : Int)) (fun w => by kernel_rfl) (by kernel_rfl) ?_
  refine s_val (some 8) (.int .i64 0) (fun w => by kernel_rfl) (by kernel_rfl) ?_
  refine s_val (some 9) (.int .u64 ((A % 18446744073709551616 : Nat) : Int)) (fun w => by kernel_rfl) (by kernel_rfl) ?_
  refine s_nil ?_
  refine g_seq (by kernel_rfl) ?_
  refine g_sreg [0, 1, 2] (by kernel_rfl) (by kernel_rfl) ?_
  refine s_val (some 19) (.int .i64 0) (fun w => by kernel_rfl) (by kernel_rfl) ?_
  refine s_val (some 20) (.int .i64 2) (fun w => by kernel_rfl) (by kernel_rfl) ?_
  refine s_val (some 21) (.bool false) (fun w => by kernel_rfl) (by kernel_rfl) ?_
  refine s_nil ?_
  refine g_cond_f (by kernel_rfl) (by kernel_rfl) ?_
  refine g_skip (by kernel_rfl) ?_
  show WP _ _ _ _ _ _
  refine g_sreg [0, 1, 2] (by kernel_rfl) (by kernel_rfl) ?_
  refine s_val (some 32) (.int .i64 0) (fun w => by kernel_rfl) (by kernel_rfl) ?_
  refine s_val (some 33) (.int .i64 2) (fun w => by kernel_rfl) (by kernel_rfl) ?_
  refine s_val (some 34) (.bool false) (fun w => by kernel_rfl) (by kernel_rfl) ?_
  refine s_nil ?_
  refine g_cond_f (by kernel_rfl) (by kernel_rfl) ?_
  refine g_skip (by kernel_rfl) ?_
  show WP _ _ _ _ _ _
  refine g_reg0 [0, 1] (by kernel_rfl) ?_
  refine s_val (some 47) (.int .i64 1) (fun w => by kernel_rfl) (by kernel_rfl) ?_
  refine s_val (some 15) (.int .i64 1) (fun w => by kernel_rfl) (by kernel_rfl) ?_
  refine s_nil ?_
  show WPL _ _ _ _ _ _
  refine g_next ?_
  refine g_sreg [0] (by kernel_rfl) (by kernel_rfl) ?_
  refine s_val (some 16) (.bool true) (fun w => by kernel_rfl) (by kernel_rfl) ?_
  refine s_nil ?_
  refine g_seq (by kernel_rfl) ?_
  refine g_cond_t (by kernel_rfl) (by kernel_rfl) ?_
  refine g_skip (by kernel_rfl) ?_
  show WP _ _ _ _ _ _
  refine g_seq (by kernel_rfl) ?_
  refine g_block 1 (by kernel_rfl) ?_
  refine g_sreg [0, 1, 2, 3] (by kernel_rfl) (by kernel_rfl) ?_
  refine s_val (some 17) (.int .i64 1) (fun w => by kernel_rfl) (by kernel_rfl) ?_
  refine s_val (some 18) (.int .u64 ((A / 18446744073709551616 % 18446744073709551616 : Nat) : Int)) (fun w => by kernel_rfl) (by kernel_rfl) ?_
  refine s_val (some 8) (.int .i64 1) (fun w => by kernel_rfl) (by kernel_rfl) ?_
  refine s_val (some 9) (.int .u64 ((A / 18446744073709551616 % 18446744073709551616 : Nat) : Int)) (fun w => by kernel_rfl) (by kernel_rfl) ?_
  refine s_nil ?_
  refine g_seq (by kernel_rfl) ?_
  refine g_sreg [0, 1, 2] (by kernel_rfl) (by kernel_rfl) ?_
  refine s_val (some 19) (.int .i64 1) (fun w => by kernel_rfl) (by kernel_rfl) ?_
  refine s_val (some 20) (.int .i64 2) (fun w => by kernel_rfl) (by kernel_rfl) ?_
  refine s_val (some 21) (.bool false) (fun w => by kernel_rfl) (by kernel_rfl) ?_
  refine s_nil ?_
  refine g_cond_f (by kernel_rfl) (by kernel_rfl) ?_
  refine g_skip (by kernel_rfl) ?_
  show WP _ _ _ _ _ _
  refine g_sreg [0, 1, 2] (by kernel_rfl) (by kernel_rfl) ?_
  refine s_val (some 32) (.int .i64 1) (fun w => by kernel_rfl) (by kernel_rfl) ?_
  refine s_val (some 33) (.int .i64 2) (fun w => by kernel_rfl) (by kernel_rfl) ?_
  refine s_val (some 34) (.bool false) (fun w => by kernel_rfl) (by kernel_rfl) ?_
  refine s_nil ?_
  refine g_cond_f (by kernel_rfl) (by kernel_rfl) ?_
  refine g_skip (by kernel_rfl) ?_
  show WP _ _ _ _ _ _
  refine g_reg0 [0, 1] (by kernel_rfl) ?_
  refine s_val (some 47) (.int .i64 2) (fun w => by kernel_rfl) (by kernel_rfl) ?_
  refine s_val (some 15) (.int .i64 2) (fun w => by kernel_rfl) (by kernel_rfl) ?_
  refine s_nil ?_
  show WPL _ _ _ _ _ _
  refine g_next ?_
  refine g_sreg [0] (by kernel_rfl) (by kernel_rfl) ?_
  refine s_val (some 16) (.bool true) (fun w => by kernel_rfl) (by kernel_rfl) ?_
  refine s_nil ?_
  refine g_seq (by kernel_rfl) ?_
  refine g_cond_t (by kernel_rfl) (by kernel_rfl) ?_
  refine g_skip (by kernel_rfl) ?_
  show WP _ _ _ _ _ _
  refine g_seq (by kernel_rfl) ?_
  refine g_block 1 (by kernel_rfl) ?_
  refine g_sreg [0, 1, 2, 3] (by kernel_rfl) (by kernel_rfl) ?_
  refine s_val (some 17) (.int .i64 2) (fun w => by kernel_rfl) (by kernel_rfl) ?_
  refine s_val (some 18) (.int .u64 ((A / 340282366920938463463374607431768211456 % 18446744073709551616 : Nat) : Int)) (fun w => by kernel_rfl) (by kernel_rfl) ?_
  refine s_val (some 8) (.int .i64 2) (fun w => by kernel_rfl) (by kernel_rfl) ?_
  refine s_val (some 9) (.int .u64 ((A / 340282366920938463463374607431768211456 % 18446744073709551616 : Nat) : Int)) (fun w => by kernel_rfl) (by kernel_rfl) ?_
  refine s_nil ?_
  refine g_seq (by kernel_rfl) ?_
  refine g_sreg [0, 1, 2] (by kernel_rfl) (by kernel_rfl) ?_
  refine s_val (some 19) (.int .i64 2) (fun w => by kernel_rfl) (by kernel_rfl) ?_
  refine s_val (some 20) (.int .i64 2) (fun w => by kernel_rfl) (by kernel_rfl) ?_
  refine s_val (some 21) (.bool true) (fun w => by kernel_rfl) (by kernel_rfl) ?_
  refine s_nil ?_
  refine g_cond_t (by kernel_rfl) (by kernel_rfl) ?_
  refine D2.g_draw0 [0, 1, 2, 3, 4, 5, 6, 7, 8, 9, 10] [((some 22), fun _ => .int .i64 2), ((some 23), fun _ => .int .i64 2), ((some 24), fun _ => .int .i64 0), ((some 25), fun _ => .pointer (some ⟨b3, 0, none⟩)), ((some 26), fun _ => .int .u64 0), ((some 27), fun _ => .int .u64 ((A / 340282366920938463463374607431768211456 % 18446744073709551616 : Nat) : Int)), ((some 28), fun _ => .int .i64 ((d % 64 : Nat) : Int)), ((some 29), fun _ => .int .u64 (((A / 340282366920938463463374607431768211456 % 18446744073709551616) / 2 ^ (d % 64) : Nat) : Int)), ((some 30), fun _ => .int .u64 ((0 ||| ((A / 340282366920938463463374607431768211456 % 18446744073709551616) / 2 ^ (d % 64)) : Nat) : Int)), ((some 31), fun _ => .pointer (some ⟨b3, 0, none⟩)), (none, fun _ => undef)] (D2.Pre w.heap.size w (fun L g => [(true, (bif L 10 then (b3, Obj.cells #[.int .u64 ((0 ||| ((A / 340282366920938463463374607431768211456 % 18446744073709551616) / 2 ^ (d % 64)) : Nat) : Int), .int .u64 0, .int .u64 0, .int .u64 0] 24 (0, 0)) else (b3, Obj.cells #[.int .u64 0, .int .u64 0, .int .u64 0, .int .u64 0] 24 (0, 0)))), (true, (b2, Obj.cells #[.int .u64 0, .int .u64 0, .int .u64 0, .int .u64 0] 24 (0, 0))), (true, (b1, Obj.cells (Value.cells (uv A)) 24 (0, 0)))]) (fun L g => True)) (by kernel_rfl) (by kernel_rfl) (by kernel_rfl) ⟨D2.StE.of H3.drew _ (by kernel_rfl), trivial⟩ ⟨?_, ?_, ?_, ?_, ?_, ?_, ?_, ?_, ?_, ?_, ?_, trivial⟩ ?_
  · exact D2.gv_val (fun _ _ _ h => h) (fun g w => by kernel_rfl)
  · exact D2.gv_val (fun _ _ _ h => h) (fun g w => by kernel_rfl)
  · exact D2.gv_val (fun _ _ _ h => h) (fun g w => by kernel_rfl)
  · exact D2.gv_val (fun _ _ _ h => h) (fun g w => by kernel_rfl)
  · exact D2.gv_load1 22 (.tmp 25) 0 (fun g => b3) (fun g => 0) (fun g => #[.int .u64 0, .int .u64 0, .int .u64 0, .int .u64 0]) 24 (0, 0) (fun _ _ _ h => h) (fun g => by kernel_rfl) (fun g => by kernel_rfl) (fun L g hN => (by have hL10 : L 10 = false := (hN.post 10 (by kernel_rfl)); exact D2.ent_get' (p := true) (e := (bif L 10 then (b3, Obj.cells #[.int .u64 ((0 ||| ((A / 340282366920938463463374607431768211456 % 18446744073709551616) / 2 ^ (d % 64)) : Nat) : Int), .int .u64 0, .int .u64 0, .int .u64 0] 24 (0, 0)) else (b3, Obj.cells #[.int .u64 0, .int .u64 0, .int .u64 0, .int .u64 0] 24 (0, 0)))) (by kernel_rfl) (by rfl) (by simp only [hL10, cond_true, cond_false] <;> rfl))) (by kernel_rfl) (fun L g hN hF => by kernel_rfl)
  · exact D2.gv_val (fun _ _ _ h => h) (fun g w => by kernel_rfl)
  · exact D2.gv_val (fun _ _ _ h => h) (fun g w => by kernel_rfl)
  · exact D2.gv_valE (fun _ _ _ h => h) (V' := .int .u64 (Int.fdiv ((A / 340282366920938463463374607431768211456 % 18446744073709551616 : Nat) : Int) (2 ^ (min (d % 64) 64)))) (fun g w => by kernel_rfl) (int_eq (shr_min (A / 340282366920938463463374607431768211456 % 18446744073709551616) (d % 64) 64 (by omega)))
  · exact D2.gv_valE (fun _ _ _ h => h) (V' := .int .u64 (Go.bits .or .u64 (0) ((((A / 340282366920938463463374607431768211456 % 18446744073709551616) / 2 ^ (d % 64) : Nat) : Int)))) (fun g w => by kernel_rfl) (int_eq (u64_or_nat 0 ((A / 340282366920938463463374607431768211456 % 18446744073709551616) / 2 ^ (d % 64)) (by omega) (by omega)))
  · exact D2.gv_val (fun _ _ _ h => h) (fun g w => by kernel_rfl)
  · exact D2.gv_store 0 22 (.tmp 31) (.tmp 30) (fun g => b3) (fun g => 0) #[.int .u64 0, .int .u64 0, .int .u64 0, .int .u64 0] #[.int .u64 ((0 ||| ((A / 340282366920938463463374607431768211456 % 18446744073709551616) / 2 ^ (d % 64)) : Nat) : Int), .int .u64 0, .int .u64 0, .int .u64 0] 24 (.int .u64 ((0 ||| ((A / 340282366920938463463374607431768211456 % 18446744073709551616) / 2 ^ (d % 64)) : Nat) : Int)) (fun g => by kernel_rfl) (fun g => by kernel_rfl) (fun g => by kernel_rfl) (by kernel_rfl) (by kernel_rfl) (fun g => (of_decide_eq_true (by kernel_rfl))) (fun g => (by kernel_rfl)) (fun L g hN => ⟨(by have hL10 : L 10 = false := hN.1; exact D2.ent_get' (p := true) (e := (bif L 10 then (b3, Obj.cells #[.int .u64 ((0 ||| ((A / 340282366920938463463374607431768211456 % 18446744073709551616) / 2 ^ (d % 64)) : Nat) : Int), .int .u64 0, .int .u64 0, .int .u64 0] 24 (0, 0)) else (b3, Obj.cells #[.int .u64 0, .int .u64 0, .int .u64 0, .int .u64 0] 24 (0, 0)))) (by kernel_rfl) (by rfl) (by simp only [hL10, cond_true, cond_false] <;> rfl)), (by kernel_rfl)⟩) (fun L g hN hF => hF)
  intro L0 G4 w4 hall HL; clear H3
  have H4 : St w.heap.size w w4 [(b3, Obj.cells #[.int .u64 ((0 ||| ((A / 340282366920938463463374607431768211456 % 18446744073709551616) / 2 ^ (d % 64)) : Nat) : Int), .int .u64 0, .int .u64 0, .int .u64 0] 24 (0, 0)), (b2, Obj.cells #[.int .u64 0, .int .u64 0, .int .u64 0, .int .u64 0] 24 (0, 0)), (b1, Obj.cells (Value.cells (uv A)) 24 (0, 0))] := by have e10 := hall 10 (Nat.le_of_ble_eq_true (by kernel_rfl)); have hS := D2.StE.st HL.1; simp only [e10, cond_true, D2.pres] at hS; exact hS
  clear HL hall
  show WP _ _ _ _ _ _
  refine g_sreg [0, 1, 2] (by kernel_rfl) (by kernel_rfl) ?_
  refine s_val (some 32) (.int .i64 2) (fun w => by kernel_rfl) (by kernel_rfl) ?_
  refine s_val (some 33) (.int .i64 2) (fun w => by kernel_rfl) (by kernel_rfl) ?_
  refine s_val (some 34) (.bool false) (fun w => by kernel_rfl) (by kernel_rfl) ?_
  refine s_nil ?_
  refine g_cond_f (by kernel_rfl) (by kernel_rfl) ?_
  refine g_skip (by kernel_rfl) ?_
  show WP _ _ _ _ _ _
  refine g_reg0 [0, 1] (by kernel_rfl) ?_
  refine s_val (some 47) (.int .i64 3) (fun w => by kernel_rfl) (by kernel_rfl) ?_
  refine s_val (some 15) (.int .i64 3) (fun w => by kernel_rfl) (by kernel_rfl) ?_
  refine s_nil ?_
  show WPL _ _ _ _ _ _
  refine g_next ?_
  refine g_sreg [0] (by kernel_rfl) (by kernel_rfl) ?_
  refine s_val (some 16) (.bool true) (fun w => by kernel_rfl) (by kernel_rfl) ?_
  refine s_nil ?_
  refine g_seq (by kernel_rfl) ?_
  refine g_cond_t (by kernel_rfl) (by kernel_rfl) ?_
  refine g_skip (by kernel_rfl) ?_
  show WP _ _ _ _ _ _
  refine g_seq (by kernel_rfl) ?_
  refine g_block 1 (by kernel_rfl) ?_
  refine g_sreg [0, 1, 2, 3] (by kernel_rfl) (by kernel_rfl) ?_
  refine s_val (some 17) (.int .i64 3) (fun w => by kernel_rfl) (by kernel_rfl) ?_
  refine s_val (some 18) (.int .u64 ((A / 6277101735386680763835789423207666416102355444464034512896 % 18446744073709551616 : Nat) : Int)) (fun w => by kernel_rfl) (by kernel_rfl) ?_
  refine s_val (some 8) (.int .i64 3) (fun w => by kernel_rfl) (by kernel_rfl) ?_
  refine s_val (some 9) (.int .u64 ((A / 6277101735386680763835789423207666416102355444464034512896 % 18446744073709551616 : Nat) : Int)) (fun w => by kernel_rfl) (by kernel_rfl) ?_
  refine s_nil ?_
  refine g_seq (by kernel_rfl) ?_
  refine g_sreg [0, 1, 2] (by kernel_rfl) (by kernel_rfl) ?_
  refine s_val (some 19) (.int .i64 3) (fun w => by kernel_rfl) (by kernel_rfl) ?_
  refine s_val (some 20) (.int .i64 2) (fun w => by kernel_rfl) (by kernel_rfl) ?_
  refine s_val (some 21) (.bool true) (fun w => by kernel_rfl) (by kernel_rfl) ?_
  refine s_nil ?_
  refine g_cond_t (by kernel_rfl) (by kernel_rfl) ?_
  refine D2.g_draw0 [0, 1, 2, 3, 4, 5, 6, 7, 8, 9, 10] [((some 22), fun _ => .int .i64 3), ((some 23), fun _ => .int .i64 2), ((some 24), fun _ => .int .i64 1), ((some 25), fun _ => .pointer (some ⟨b3, 1, none⟩)), ((some 26), fun _ => .int .u64 0), ((some 27), fun _ => .int .u64 ((A / 6277101735386680763835789423207666416102355444464034512896 % 18446744073709551616 : Nat) : Int)), ((some 28), fun _ => .int .i64 ((d % 64 : Nat) : Int)), ((some 29), fun _ => .int .u64 (((A / 6277101735386680763835789423207666416102355444464034512896 % 18446744073709551616) / 2 ^ (d % 64) : Nat) : Int)), ((some 30), fun _ => .int .u64 ((0 ||| ((A / 6277101735386680763835789423207666416102355444464034512896 % 18446744073709551616) / 2 ^ (d % 64)) : Nat) : Int)), ((some 31), fun _ => .pointer (some ⟨b3, 1, none⟩)), (none, fun _ => undef)] (D2.Pre w.heap.size w (fun L g => [(true, (bif L 10 then (b3, Obj.cells #[.int .u64 ((0 ||| ((A / 340282366920938463463374607431768211456 % 18446744073709551616) / 2 ^ (d % 64)) : Nat) : Int), .int .u64 ((0 ||| ((A / 6277101735386680763835789423207666416102355444464034512896 % 18446744073709551616) / 2 ^ (d % 64)) : Nat) : Int), .int .u64 0, .int .u64 0] 24 (0, 0)) else (b3, Obj.cells #[.int .u64 ((0 ||| ((A / 340282366920938463463374607431768211456 % 18446744073709551616) / 2 ^ (d % 64)) : Nat) : Int), .int .u64 0, .int .u64 0, .int .u64 0] 24 (0, 0)))), (true, (b2, Obj.cells #[.int .u64 0, .int .u64 0, .int .u64 0, .int .u64 0] 24 (0, 0))), (true, (b1, Obj.cells (Value.cells (uv A)) 24 (0, 0)))]) (fun L g => True)) (by kernel_rfl) (by kernel_rfl) (by kernel_rfl) ⟨D2.StE.of H4.drew _ (by kernel_rfl), trivial⟩ ⟨?_, ?_, ?_, ?_, ?_, ?_, ?_, ?_, ?_, ?_, ?_, trivial⟩ ?_
  · exact D2.gv_val (fun _ _ _ h => h) (fun g w => by kernel_rfl)
  · exact D2.gv_val (fun _ _ _ h => h) (fun g w => by kernel_rfl)
  · exact D2.gv_val (fun _ _ _ h => h) (fun g w => by kernel_rfl)
  · exact D2.gv_val (fun _ _ _ h => h) (fun g w => by kernel_rfl)
  · exact D2.gv_load1 22 (.tmp 25) 0 (fun g => b3) (fun g => 1) (fun g => #[.int .u64 ((0 ||| ((A / 340282366920938463463374607431768211456 % 18446744073709551616) / 2 ^ (d % 64)) : Nat) : Int), .int .u64 0, .int .u64 0, .int .u64 0]) 24 (0, 0) (fun _ _ _ h => h) (fun g => by kernel_rfl) (fun g => by kernel_rfl) (fun L g hN => (by have hL10 : L 10 = false := (hN.post 10 (by kernel_rfl)); exact D2.ent_get' (p := true) (e := (bif L 10 then (b3, Obj.cells #[.int .u64 ((0 ||| ((A / 340282366920938463463374607431768211456 % 18446744073709551616) / 2 ^ (d % 64)) : Nat) : Int), .int .u64 ((0 ||| ((A / 6277101735386680763835789423207666416102355444464034512896 % 18446744073709551616) / 2 ^ (d % 64)) : Nat) : Int), .int .u64 0, .int .u64 0] 24 (0, 0)) else (b3, Obj.cells #[.int .u64 ((0 ||| ((A / 340282366920938463463374607431768211456 % 18446744073709551616) / 2 ^ (d % 64)) : Nat) : Int), .int .u64 0, .int .u64 0, .int .u64 0] 24 (0, 0)))) (by kernel_rfl) (by rfl) (by simp only [hL10, cond_true, cond_false] <;> rfl))) (by kernel_rfl) (fun L g hN hF => by kernel_rfl)
  · exact D2.gv_val (fun _ _ _ h => h) (fun g w => by kernel_rfl)
  · exact D2.gv_val (fun _ _ _ h => h) (fun g w => by kernel_rfl)
  · exact D2.gv_valE (fun _ _ _ h => h) (V' := .int .u64 (Int.fdiv ((A / 6277101735386680763835789423207666416102355444464034512896 % 18446744073709551616 : Nat) : Int) (2 ^ (min (d % 64) 64)))) (fun g w => by kernel_rfl) (int_eq (shr_min (A / 6277101735386680763835789423207666416102355444464034512896 % 18446744073709551616) (d % 64) 64 (by omega)))
  · exact D2.gv_valE (fun _ _ _ h => h) (V' := .int .u64 (Go.bits .or .u64 (0) ((((A / 6277101735386680763835789423207666416102355444464034512896 % 18446744073709551616) / 2 ^ (d % 64) : Nat) : Int)))) (fun g w => by kernel_rfl) (int_eq (u64_or_nat 0 ((A / 6277101735386680763835789423207666416102355444464034512896 % 18446744073709551616) / 2 ^ (d % 64)) (by omega) (by omega)))
  · exact D2.gv_val (fun _ _ _ h => h) (fun g w => by kernel_rfl)
  · exact D2.gv_store 0 22 (.tmp 31) (.tmp 30) (fun g => b3) (fun g => 1) #[.int .u64 ((0 ||| ((A / 340282366920938463463374607431768211456 % 18446744073709551616) / 2 ^ (d % 64)) : Nat) : Int), .int .u64 0, .int .u64 0, .int .u64 0] #[.int .u64 ((0 ||| ((A / 340282366920938463463374607431768211456 % 18446744073709551616) / 2 ^ (d % 64)) : Nat) : Int), .int .u64 ((0 ||| ((A / 6277101735386680763835789423207666416102355444464034512896 % 18446744073709551616) / 2 ^ (d % 64)) : Nat) : Int), .int .u64 0, .int .u64 0] 24 (.int .u64 ((0 ||| ((A / 6277101735386680763835789423207666416102355444464034512896 % 18446744073709551616) / 2 ^ (d % 64)) : Nat) : Int)) (fun g => by kernel_rfl) (fun g => by kernel_rfl) (fun g => by kernel_rfl) (by kernel_rfl) (by kernel_rfl) (fun g => (of_decide_eq_true (by kernel_rfl))) (fun g => (by kernel_rfl)) (fun L g hN => ⟨(by have hL10 : L 10 = false := hN.1; exact D2.ent_get' (p := true) (e := (bif L 10 then (b3, Obj.cells #[.int .u64 ((0 ||| ((A / 340282366920938463463374607431768211456 % 18446744073709551616) / 2 ^ (d % 64)) : Nat) : Int), .int .u64 ((0 ||| ((A / 6277101735386680763835789423207666416102355444464034512896 % 18446744073709551616) / 2 ^ (d % 64)) : Nat) : Int), .int .u64 0, .int .u64 0] 24 (0, 0)) else (b3, Obj.cells #[.int .u64 ((0 ||| ((A / 340282366920938463463374607431768211456 % 18446744073709551616) / 2 ^ (d % 64)) : Nat) : Int), .int .u64 0, .int .u64 0, .int .u64 0] 24 (0, 0)))) (by kernel_rfl) (by rfl) (by simp only [hL10, cond_true, cond_false] <;> rfl)), (by kernel_rfl)⟩) (fun L g hN hF => hF)
  intro L0 G5 w5 hall HL; clear H4
  have H5 : St w.heap.size w w5 [(b3, Obj.cells #[.int .u64 ((0 ||| ((A / 340282366920938463463374607431768211456 % 18446744073709551616) / 2 ^ (d % 64)) : Nat) : Int), .int .u64 ((0 ||| ((A / 6277101735386680763835789423207666416102355444464034512896 % 18446744073709551616) / 2 ^ (d % 64)) : Nat) : Int), .int .u64 0, .int .u64 0] 24 (0, 0)), (b2, Obj.cells #[.int .u64 0, .int .u64 0, .int .u64 0, .int .u64 0] 24 (0, 0)), (b1, Obj.cells (Value.cells (uv A)) 24 (0, 0))] := by have e10 := hall 10 (Nat.le_of_ble_eq_true (by kernel_rfl)); have hS := D2.StE.st HL.1; simp only [e10, cond_true, D2.pres] at hS; exact hS
  clear HL hall
  show WP _ _ _ _ _ _
  refine g_sreg [0, 1, 2] (by kernel_rfl) (by kernel_rfl) ?_
  refine s_val (some 32) (.int .i64 3) (fun w => by kernel_rfl) (by kernel_rfl) ?_
  refine s_val (some 33) (.int .i64 2) (fun w => by kernel_rfl) (by kernel_rfl) ?_
  refine s_val (some 34) (.bool true) (fun w => by kernel_rfl) (by kernel_rfl) ?_
  refine s_nil ?_
  refine g_cond_t (by kernel_rfl) (by kernel_rfl) ?_
  refine D2.g_draw0 [0, 1, 2, 3, 4, 5, 6, 7, 8, 9, 10, 11, 12] [((some 35), fun _ => .int .i64 3), ((some 36), fun _ => .int .i64 2), ((some 37), fun _ => .int .i64 1), ((some 38), fun _ => .int .i64 0), ((some 39), fun _ => .pointer (some ⟨b3, 0, none⟩)), ((some 40), fun _ => .int .u64 ((0 ||| ((A / 340282366920938463463374607431768211456 % 18446744073709551616) / 2 ^ (d % 64)) : Nat) : Int)), ((some 41), fun _ => .int .u64 ((A / 6277101735386680763835789423207666416102355444464034512896 % 18446744073709551616 : Nat) : Int)), ((some 42), fun _ => .int .i64 ((d % 64 : Nat) : Int)), ((some 43), fun _ => .int .i64 ((64 - (d % 64) : Nat) : Int)), ((some 44), fun _ => .int .u64 (((A / 6277101735386680763835789423207666416102355444464034512896 % 18446744073709551616) * 2 ^ (64 - (d % 64)) % 18446744073709551616 : Nat) : Int)), ((some 45), fun _ => .int .u64 (((0 ||| ((A / 340282366920938463463374607431768211456 % 18446744073709551616) / 2 ^ (d % 64))) ||| ((A / 6277101735386680763835789423207666416102355444464034512896 % 18446744073709551616) * 2 ^ (64 - (d % 64)) % 18446744073709551616) : Nat) : Int)), ((some 46), fun _ => .pointer (some ⟨b3, 0, none⟩)), (none, fun _ => undef)] (D2.Pre w.heap.size w (fun L g => [(true, (bif L 12 then (b3, Obj.cells #[.int .u64 (((0 ||| ((A / 340282366920938463463374607431768211456 % 18446744073709551616) / 2 ^ (d % 64))) ||| ((A / 6277101735386680763835789423207666416102355444464034512896 % 18446744073709551616) * 2 ^ (64 - (d % 64)) % 18446744073709551616) : Nat) : Int), .int .u64 ((0 ||| ((A / 6277101735386680763835789423207666416102355444464034512896 % 18446744073709551616) / 2 ^ (d % 64)) : Nat) : Int), .int .u64 0, .int .u64 0] 24 (0, 0)) else (b3, Obj.cells #[.int .u64 ((0 ||| ((A / 340282366920938463463374607431768211456 % 18446744073709551616) / 2 ^ (d % 64)) : Nat) : Int), .int .u64 ((0 ||| ((A / 6277101735386680763835789423207666416102355444464034512896 % 18446744073709551616) / 2 ^ (d % 64)) : Nat) : Int), .int .u64 0, .int .u64 0] 24 (0, 0)))), (true, (b2, Obj.cells #[.int .u64 0, .int .u64 0, .int .u64 0, .int .u64 0] 24 (0, 0))), (true, (b1, Obj.cells (Value.cells (uv A)) 24 (0, 0)))]) (fun L g => True)) (by kernel_rfl) (by kernel_rfl) (by kernel_rfl) ⟨D2.StE.of H5.drew _ (by kernel_rfl), trivial⟩ ⟨?_, ?_, ?_, ?_, ?_, ?_, ?_, ?_, ?_, ?_, ?_, ?_, ?_, trivial⟩ ?_
  · exact D2.gv_val (fun _ _ _ h => h) (fun g w => by kernel_rfl)
  · exact D2.gv_val (fun _ _ _ h => h) (fun g w => by kernel_rfl)
  · exact D2.gv_val (fun _ _ _ h => h) (fun g w => by kernel_rfl)
  · exact D2.gv_val (fun _ _ _ h => h) (fun g w => by kernel_rfl)
  · exact D2.gv_val (fun _ _ _ h => h) (fun g w => by kernel_rfl)
  · exact D2.gv_load1 22 (.tmp 39) 0 (fun g => b3) (fun g => 0) (fun g => #[.int .u64 ((0 ||| ((A / 340282366920938463463374607431768211456 % 18446744073709551616) / 2 ^ (d % 64)) : Nat) : Int), .int .u64 ((0 ||| ((A / 6277101735386680763835789423207666416102355444464034512896 % 18446744073709551616) / 2 ^ (d % 64)) : Nat) : Int), .int .u64 0, .int .u64 0]) 24 (0, 0) (fun _ _ _ h => h) (fun g => by kernel_rfl) (fun g => by kernel_rfl) (fun L g hN => (by have hL12 : L 12 = false := (hN.post 12 (by kernel_rfl)); exact D2.ent_get' (p := true) (e := (bif L 12 then (b3, Obj.cells #[.int .u64 (((0 ||| ((A / 340282366920938463463374607431768211456 % 18446744073709551616) / 2 ^ (d % 64))) ||| ((A / 6277101735386680763835789423207666416102355444464034512896 % 18446744073709551616) * 2 ^ (64 - (d % 64)) % 18446744073709551616) : Nat) : Int), .int .u64 ((0 ||| ((A / 6277101735386680763835789423207666416102355444464034512896 % 18446744073709551616) / 2 ^ (d % 64)) : Nat) : Int), .int .u64 0, .int .u64 0] 24 (0, 0)) else (b3, Obj.cells #[.int .u64 ((0 ||| ((A / 340282366920938463463374607431768211456 % 18446744073709551616) / 2 ^ (d % 64)) : Nat) : Int), .int .u64 ((0 ||| ((A / 6277101735386680763835789423207666416102355444464034512896 % 18446744073709551616) / 2 ^ (d % 64)) : Nat) : Int), .int .u64 0, .int .u64 0] 24 (0, 0)))) (by kernel_rfl) (by rfl) (by simp only [hL12, cond_true, cond_false] <;> rfl))) (by kernel_rfl) (fun L g hN hF => by kernel_rfl)
  · exact D2.gv_val (fun _ _ _ h => h) (fun g w => by kernel_rfl)
  · exact D2.gv_val (fun _ _ _ h => h) (fun g w => by kernel_rfl)
  · exact D2.gv_valE (fun _ _ _ h => h) (V' := .int .i64 (IntKind.i64.wrap (64 - ((d % 64 : Nat) : Int)))) (fun g w => by kernel_rfl) (int_eq (wrapSub_i64 (a := 64) (b := d % 64) (by omega)))
  · exact D2.gv_valE (fun _ _ _ h => h) (V' := .int .u64 (IntKind.u64.wrap ((((A / 6277101735386680763835789423207666416102355444464034512896 % 18446744073709551616 : Nat) : Int)) * 2 ^ (min (64 - (d % 64)) 64)))) (fun g w => by kernel_rfl) (int_eq (shlN (A / 6277101735386680763835789423207666416102355444464034512896 % 18446744073709551616) (64 - (d % 64))))
  · exact D2.gv_valE (fun _ _ _ h => h) (V' := .int .u64 (Go.bits .or .u64 (((0 ||| ((A / 340282366920938463463374607431768211456 % 18446744073709551616) / 2 ^ (d % 64)) : Nat) : Int)) ((((A / 6277101735386680763835789423207666416102355444464034512896 % 18446744073709551616) * 2 ^ (64 - (d % 64)) % 18446744073709551616 : Nat) : Int)))) (fun g w => by kernel_rfl) (int_eq (u64_or_nat (0 ||| ((A / 340282366920938463463374607431768211456 % 18446744073709551616) / 2 ^ (d % 64))) ((A / 6277101735386680763835789423207666416102355444464034512896 % 18446744073709551616) * 2 ^ (64 - (d % 64)) % 18446744073709551616) (by omega) (by omega)))
  · exact D2.gv_val (fun _ _ _ h => h) (fun g w => by kernel_rfl)
  · exact D2.gv_store 0 22 (.tmp 46) (.tmp 45) (fun g => b3) (fun g => 0) #[.int .u64 ((0 ||| ((A / 340282366920938463463374607431768211456 % 18446744073709551616) / 2 ^ (d % 64)) : Nat) : Int), .int .u64 ((0 ||| ((A / 6277101735386680763835789423207666416102355444464034512896 % 18446744073709551616) / 2 ^ (d % 64)) : Nat) : Int), .int .u64 0, .int .u64 0] #[.int .u64 (((0 ||| ((A / 340282366920938463463374607431768211456 % 18446744073709551616) / 2 ^ (d % 64))) ||| ((A / 6277101735386680763835789423207666416102355444464034512896 % 18446744073709551616) * 2 ^ (64 - (d % 64)) % 18446744073709551616) : Nat) : Int), .int .u64 ((0 ||| ((A / 6277101735386680763835789423207666416102355444464034512896 % 18446744073709551616) / 2 ^ (d % 64)) : Nat) : Int), .int .u64 0, .int .u64 0] 24 (.int .u64 (((0 ||| ((A / 340282366920938463463374607431768211456 % 18446744073709551616) / 2 ^ (d % 64))) ||| ((A / 6277101735386680763835789423207666416102355444464034512896 % 18446744073709551616) * 2 ^ (64 - (d % 64)) % 18446744073709551616) : Nat) : Int)) (fun g => by kernel_rfl) (fun g => by kernel_rfl) (fun g => by kernel_rfl) (by kernel_rfl) (by kernel_rfl) (fun g => (of_decide_eq_true (by kernel_rfl))) (fun g => (by kernel_rfl)) (fun L g hN => ⟨(by have hL12 : L 12 = false := hN.1; exact D2.ent_get' (p := true) (e := (bif L 12 then (b3, Obj.cells #[.int .u64 (((0 ||| ((A / 340282366920938463463374607431768211456 % 18446744073709551616) / 2 ^ (d % 64))) ||| ((A / 6277101735386680763835789423207666416102355444464034512896 % 18446744073709551616) * 2 ^ (64 - (d % 64)) % 18446744073709551616) : Nat) : Int), .int .u64 ((0 ||| ((A / 6277101735386680763835789423207666416102355444464034512896 % 18446744073709551616) / 2 ^ (d % 64)) : Nat) : Int), .int .u64 0, .int .u64 0] 24 (0, 0)) else (b3, Obj.cells #[.int .u64 ((0 ||| ((A / 340282366920938463463374607431768211456 % 18446744073709551616) / 2 ^ (d % 64)) : Nat) : Int), .int .u64 ((0 ||| ((A / 6277101735386680763835789423207666416102355444464034512896 % 18446744073709551616) / 2 ^ (d % 64)) : Nat) : Int), .int .u64 0, .int .u64 0] 24 (0, 0)))) (by kernel_rfl) (by rfl) (by simp only [hL12, cond_true, cond_false] <;> rfl)), (by kernel_rfl)⟩) (fun L g hN hF => hF)
  intro L0 G6 w6 hall HL; clear H5
  have H6 : St w.heap.size w w6 [(b3, Obj.cells #[.int .u64 (((0 ||| ((A / 340282366920938463463374607431768211456 % 18446744073709551616) / 2 ^ (d % 64))) ||| ((A / 6277101735386680763835789423207666416102355444464034512896 % 18446744073709551616) * 2 ^ (64 - (d % 64)) % 18446744073709551616) : Nat) : Int), .int .u64 ((0 ||| ((A / 6277101735386680763835789423207666416102355444464034512896 % 18446744073709551616) / 2 ^ (d % 64)) : Nat) : Int), .int .u64 0, .int .u64 0] 24 (0, 0)), (b2, Obj.cells #[.int .u64 0, .int .u64 0, .int .u64 0, .int .u64 0] 24 (0, 0)), (b1, Obj.cells (Value.cells (uv A)) 24 (0, 0))] := by have e12 := hall 12 (Nat.le_of_ble_eq_true (by kernel_rfl)); have hS := D2.StE.st HL.1; simp only [e12, cond_true, D2.pres] at hS; exact hS
  clear HL hall
  show WP _ _ _ _ _ _
  refine g_reg0 [0, 1] (by kernel_rfl) ?_
  refine s_val (some 47) (.int .i64 4) (fun w => by kernel_rfl) (by kernel_rfl) ?_
  refine s_val (some 15) (.int .i64 4) (fun w => by kernel_rfl) (by kernel_rfl) ?_
  refine s_nil ?_
  show WPL _ _ _ _ _ _
  refine g_next ?_
  refine g_sreg [0] (by kernel_rfl) (by kernel_rfl) ?_
  refine s_val (some 16) (.bool false) (fun w => by kernel_rfl) (by kernel_rfl) ?_
  refine s_nil ?_
  refine g_seq (by kernel_rfl) ?_
  refine g_cond_f (by kernel_rfl) (by kernel_rfl) ?_
  refine g_exit 0 (by kernel_rfl) ?_
  show WP _ _ _ _ _ _
  refine g_sreg [0, 1] (by kernel_rfl) (by kernel_rfl) ?_
  refine s_load H6 (some 48) 24 (.tmp 5) 0 b3 #[.int .u64 (((0 ||| ((A / 340282366920938463463374607431768211456 % 18446744073709551616) / 2 ^ (d % 64))) ||| ((A / 6277101735386680763835789423207666416102355444464034512896 % 18446744073709551616) * 2 ^ (64 - (d % 64)) % 18446744073709551616) : Nat) : Int), .int .u64 ((0 ||| ((A / 6277101735386680763835789423207666416102355444464034512896 % 18446744073709551616) / 2 ^ (d % 64)) : Nat) : Int), .int .u64 0, .int .u64 0] 24 (0, 0) (by kernel_rfl) (by kernel_rfl) (by kernel_rfl) (by kernel_rfl) (by kernel_rfl) ?_
  refine s_store H6 1 [(b3, Obj.cells #[.int .u64 (((0 ||| ((A / 340282366920938463463374607431768211456 % 18446744073709551616) / 2 ^ (d % 64))) ||| ((A / 6277101735386680763835789423207666416102355444464034512896 % 18446744073709551616) * 2 ^ (64 - (d % 64)) % 18446744073709551616) : Nat) : Int), .int .u64 ((0 ||| ((A / 6277101735386680763835789423207666416102355444464034512896 % 18446744073709551616) / 2 ^ (d % 64)) : Nat) : Int), .int .u64 0, .int .u64 0] 24 (0, 0)), (b2, Obj.cells #[.int .u64 (((0 ||| ((A / 340282366920938463463374607431768211456 % 18446744073709551616) / 2 ^ (d % 64))) ||| ((A / 6277101735386680763835789423207666416102355444464034512896 % 18446744073709551616) * 2 ^ (64 - (d % 64)) % 18446744073709551616) : Nat) : Int), .int .u64 ((0 ||| ((A / 6277101735386680763835789423207666416102355444464034512896 % 18446744073709551616) / 2 ^ (d % 64)) : Nat) : Int), .int .u64 0, .int .u64 0] 24 (0, 0)), (b1, Obj.cells (Value.cells (uv A)) 24 (0, 0))] 24 (.tmp 4) (.tmp 48) b2 (0) #[.int .u64 0, .int .u64 0, .int .u64 0, .int .u64 0] #[.int .u64 (((0 ||| ((A / 340282366920938463463374607431768211456 % 18446744073709551616) / 2 ^ (d % 64))) ||| ((A / 6277101735386680763835789423207666416102355444464034512896 % 18446744073709551616) * 2 ^ (64 - (d % 64)) % 18446744073709551616) : Nat) : Int), .int .u64 ((0 ||| ((A / 6277101735386680763835789423207666416102355444464034512896 % 18446744073709551616) / 2 ^ (d % 64)) : Nat) : Int), .int .u64 0, .int .u64 0] 24 (.agg #[.int .u64 (((0 ||| ((A / 340282366920938463463374607431768211456 % 18446744073709551616) / 2 ^ (d % 64))) ||| ((A / 6277101735386680763835789423207666416102355444464034512896 % 18446744073709551616) * 2 ^ (64 - (d % 64)) % 18446744073709551616) : Nat) : Int), .int .u64 ((0 ||| ((A / 6277101735386680763835789423207666416102355444464034512896 % 18446744073709551616) / 2 ^ (d % 64)) : Nat) : Int), .int .u64 0, .int .u64 0]) (by kernel_rfl) (by kernel_rfl) (by kernel_rfl) (by kernel_rfl) (by kernel_rfl) (by kernel_rfl) (of_decide_eq_true (by kernel_rfl)) (by kernel_rfl) (by kernel_rfl) ?_
  intro w7 H7; clear H6
  refine s_nil ?_
  refine g_ret (by kernel_rfl) ?_
  show ∃ vs, Res _ _ _ _ vs ∧ _
  refine ⟨[.agg #[.int .u64 (((0 ||| ((A / 340282366920938463463374607431768211456 % 18446744073709551616) / 2 ^ (d % 64))) ||| ((A / 6277101735386680763835789423207666416102355444464034512896 % 18446744073709551616) * 2 ^ (64 - (d % 64)) % 18446744073709551616) : Nat) : Int), .int .u64 ((0 ||| ((A / 6277101735386680763835789423207666416102355444464034512896 % 18446744073709551616) / 2 ^ (d % 64)) : Nat) : Int), .int .u64 0, .int .u64 0]], (.agg (b := b2) #[.int .u64 (((0 ||| ((A / 340282366920938463463374607431768211456 % 18446744073709551616) / 2 ^ (d % 64))) ||| ((A / 6277101735386680763835789423207666416102355444464034512896 % 18446744073709551616) * 2 ^ (64 - (d % 64)) % 18446744073709551616) : Nat) : Int), .int .u64 ((0 ||| ((A / 6277101735386680763835789423207666416102355444464034512896 % 18446744073709551616) / 2 ^ (d % 64)) : Nat) : Int), .int .u64 0, .int .u64 0] 24 (0, 0) (by kernel_rfl) (H7.get 1 (by kernel_rfl)) (by kernel_rfl) .nil), ?_, H7.below⟩
  have e0 := word_join (A / 2 ^ (64 * (2 + 0))) (d % 64) (Nat.mod_lt _ (by omega)); rw [← w_sh A 2 (d % 64) 0, Nat.div_div_eq_div_mul (A) (2 ^ (64 * (2 + 0))) (2 ^ 64)] at e0
  have e1 := word_last (A / 2 ^ (64 * (2 + 1))) (d % 64) (by show A / 6277101735386680763835789423207666416102355444464034512896 < _; unfold big at hA; omega); rw [← w_sh A 2 (d % 64) 1] at e1
  have e2 : 0 = A / 2 ^ (64 * 2 + d % 64) / 2 ^ (64 * 2) % 2 ^ 64 := by rw [w_sh, Nat.div_eq_of_lt (a := A) (Nat.lt_of_lt_of_le hA (show big ≤ 2 ^ (64 * (2 + 2)) from Nat.le_of_ble_eq_true (by kernel_rfl))), Nat.zero_div]
  have e3 : 0 = A / 2 ^ (64 * 2 + d % 64) / 2 ^ (64 * 3) % 2 ^ 64 := by rw [w_sh, Nat.div_eq_of_lt (a := A) (Nat.lt_of_lt_of_le hA (show big ≤ 2 ^ (64 * (2 + 3)) from Nat.le_of_ble_eq_true (by kernel_rfl))), Nat.zero_div]
  have e := uv_of (N := A / 2 ^ (64 * 2 + d % 64)) e0 e1 e2 e3
  rw [show 64 * 2 + d % 64 = d by omega] at e
  simp only [Nat.reduceMul, Nat.reduceAdd, Nat.reducePow] at e
  exact e

set_option maxRecDepth 100000 in
set_option maxHeartbeats 2000000 in
theorem lower3_fn (A d : Nat) (hA : A < big) (hd : d < 256) (hq : d / 64 = 3) : Fn Try.prog 36 #[uv A, .int .i64 ((d : Nat) : Int)] (uv (A / 2 ^ d)) := by
  have hbig : big = 115792089237316195423570985008687907853269984665640564039457584007913129639936 := rfl
  have hs0 := Nat.div_le_self (A % 18446744073709551616) (2 ^ (d % 64))
  have hz0 : 0 ||| (A % 18446744073709551616 / 2 ^ (d % 64)) = A % 18446744073709551616 / 2 ^ (d % 64) := Nat.zero_or _
  have hs1 := Nat.div_le_self (A / 18446744073709551616 % 18446744073709551616) (2 ^ (d % 64))
  have hz1 : 0 ||| (A / 18446744073709551616 % 18446744073709551616 / 2 ^ (d % 64)) = A / 18446744073709551616 % 18446744073709551616 / 2 ^ (d % 64) := Nat.zero_or _
  have hs2 := Nat.div_le_self (A / 340282366920938463463374607431768211456 % 18446744073709551616) (2 ^ (d % 64))
  have hz2 : 0 ||| (A / 340282366920938463463374607431768211456 % 18446744073709551616 / 2 ^ (d % 64)) = A / 340282366920938463463374607431768211456 % 18446744073709551616 / 2 ^ (d % 64) := Nat.zero_or _
  have hs3 := Nat.div_le_self (A / 6277101735386680763835789423207666416102355444464034512896 % 18446744073709551616) (2 ^ (d % 64))
  have hz3 : 0 ||| (A / 6277101735386680763835789423207666416102355444464034512896 % 18446744073709551616 / 2 ^ (d % 64)) = A / 6277101735386680763835789423207666416102355444464034512896 % 18446744073709551616 / 2 ^ (d % 64) := Nat.zero_or _
  refine Fn.intro (c := codeOf Try.f36) [.cell 4 24] 49 Try.func36 (by kernel_rfl) (by kernel_rfl) (by kernel_rfl) fun w => ?_
  have H0 := St.start w
  refine g_sreg [0, 1] (by kernel_rfl) (by kernel_rfl) ?_
  refine s_box H0 (some 2) 24 (.tmp 0) (uv A) (by kernel_rfl) (by kernel_rfl) (by kernel_rfl) ?_
  intro b1 w1 H1; clear H0
  refine s_alloc H1 (some 4) 24 (.agg #[.int .u64 0, .int .u64 0, .int .u64 0, .int .u64 0]) (by kernel_rfl) (by kernel_rfl) (by kernel_rfl) ?_
  intro b2 w2 H2; clear H1
  refine s_nil ?_
  refine g_sreg [0] (by kernel_rfl) (by kernel_rfl) ?_
  refine s_alloc H2 (some 5) 24 (.agg #[.int .u64 0, .int .u64 0, .int .u64 0, .int .u64 0]) (by kernel_rfl) (by kernel_rfl) (by kernel_rfl) ?_
  intro b3 w3 H3; clear H2
  refine s_nil ?_
  refine g_sreg [0, 1, 2, 3, 4, 5] (by kernel_rfl) (by kernel_rfl) ?_
  refine s_val (some 10) (.int .i64 ((d : Nat) : Int)) (fun w => by kernel_rfl) (by kernel_rfl) ?_
  refine s_valE (some 11) (.int .i64 (IntKind.i64.wrap (Int.tdiv ((d : Nat) : Int) 64))) (.int .i64 3) (fun w => by kernel_rfl) (int_eq (show IntKind.i64.wrap (Int.tdiv (((d : Nat)) : Int) ((64 : Nat) : Int)) = ((3 : Nat) : Int) by rw [quoN_i64 (by omega), hq])) (by kernel_rfl) ?_
  refine s_val (some 12) (.int .i64 ((d : Nat) : Int)) (fun w => by kernel_rfl) (by kernel_rfl) ?_
  refine s_valE (some 13) (.int .i64 (Int.tmod ((d : Nat) : Int) 64)) (.int .i64 ((d % 64 : Nat) : Int)) (fun w => by kernel_rfl) (int_eq (remN d 64)) (by kernel_rfl) ?_
  refine s_val (some 6) (.int .i64 3) (fun w => by kernel_rfl) (by kernel_rfl) ?_
  refine s_val (some 7) (.int .i64 ((d % 64 : Nat) : Int)) (fun w => by kernel_rfl) (by kernel_rfl) ?_
  refine s_nil ?_
  refine g_seq (by kernel_rfl) ?_
  refine g_sreg [0, 1] (by kernel_rfl) (by kernel_rfl) ?_
  refine s_load H3 (some 14) 24 (.tmp 2) 2 b1 (Value.cells (uv A)) 24 (0, 0) (by kernel_rfl) (by kernel_rfl) (by kernel_rfl) (by kernel_rfl) (by kernel_rfl) ?_
  refine s_val (some 15) (.int .i64 0) (fun w => by kernel_rfl) (by kernel_rfl) ?_
  refine s_nil ?_
  refine g_block 0 (by kernel_rfl) ?_
  refine g_first (by kernel_rfl) ?_
  refine g_sreg [0] (by kernel_rfl) (by kernel_rfl) ?_
  refine s_val (some 16) (.bool true) (fun w => by kernel_rfl) (by kernel_rfl) ?_
  refine s_nil ?_
  refine g_seq (by kernel_rfl) ?_
  refine g_cond_t (by kernel_rfl) (by kernel_rfl) ?_
  refine g_skip (by kernel_rfl) ?_
  show WP _ _ _ _ _ _
  refine g_seq (by kernel_rfl) ?_
  refine g_block 1 (by kernel_rfl) ?_
  refine g_sreg [0, 1, 2, 3] (by kernel_rfl) (by kernel_rfl) ?_
  refine s_val (some 17) (.int .i64 0) (fun w => by kernel_rfl) (by kernel_rfl) ?_
  refine s_val (some 18) (.int .u64 ((A % 18446744073709551616 : Nat) : Int)) (fun w => by kernel_rfl) (by kernel_rfl) ?_
  refine s_val (some 8) (.int .i64 0) (fun w => by kernel_rfl) (by kernel_rfl) ?_
  refine s_val (some 9) (.int .u64 ((A % 18446744073709551616 : Nat) : Int)) (fun w => by kernel_rfl) (by kernel_rfl) ?_
  refine s_nil ?_
  refine g_seq (by kernel_rfl) ?_
  refine g_sreg [0, 1, 2] (by kernel_rfl) (by kernel_rfl) ?_
  refine s_val (some 19) (.int .i64 0) (fun w => by kernel_rfl) (by kernel_rfl) ?_
  refine s_val (some 20) (.int .i64 3) (fun w => by kernel_rfl) (by kernel_rfl) ?_
  refine s_val (some 21) (.bool false) (fun w => by kernel_rfl) (by kernel_rfl) ?_
  refine s_nil ?_
  refine g_cond_f (by kernel_rfl) (by kernel_rfl) ?_
  refine g_skip (by kernel_rfl) ?_
  show WP _ _ _ _ _ _
  refine g_sreg [0, 1, 2] (by kernel_rfl) (by kernel_rfl) ?_
  refine s_val (some 32) (.int .i64 0) (fun w => by kernel_rfl) (by kernel_rfl) ?_
  refine s_val (some 33) (.int .i64 3) (fun w => by kernel_rfl) (by kernel_rfl) ?_
  refine s_val (some 34) (.bool false) (fun w => by kernel_rfl) (by kernel_rfl) ?_
  refine s_nil ?_
  refine g_cond_f (by kernel_rfl) (by kernel_rfl) ?_
  refine g_skip (by kernel_rfl) ?_
  show WP _ _ _ _ _ _
  refine g_reg0 [0, 1] (by kernel_rfl) ?_
  refine s_val (some 47) (.int .i64 1) (fun w => by kernel_rfl) (by kernel_rfl) ?_
  refine s_val (some 15) (.int .i64 1) (fun w => by kernel_rfl) (by kernel_rfl) ?_
  refine s_nil ?_
  show WPL _ _ _ _ _ _
  refine g_next ?_
  refine g_sreg [0] (by kernel_rfl) (by kernel_rfl) ?_
  refine s_val (some 16) (.bool true) (fun w => by kernel_rfl) (by kernel_rfl) ?_
  refine s_nil ?_
  refine g_seq (by kernel_rfl) ?_
  refine g_cond_t (by kernel_rfl) (by kernel_rfl) ?_
  refine g_skip (by kernel_rfl) ?_
  show WP _ _ _ _ _ _
  refine g_seq (by kernel_rfl) ?_
  refine g_block 1 (by kernel_rfl) ?_
  refine g_sreg [0, 1, 2, 3] (by kernel_rfl) (by kernel_rfl) ?_
  refine s_val (some 17) (.int .i64 1) (fun w => by kernel_rfl) (by kernel_rfl) ?_
  refine s_val (some 18) (.int .u64 ((A / 18446744073709551616 % 18446744073709551616 : Nat) : Int)) (fun w => by kernel_rfl) (by kernel_rfl) ?_
  refine s_val (some 8) (.int .i64 1) (fun w => by kernel_rfl) (by kernel_rfl) ?_
  refine s_val (some 9) (.int .u64 ((A / 18446744073709551616 % 18446744073709551616 : Nat) : Int)) (fun w => by kernel_rfl) (by kernel_rfl) ?_
  refine s_nil ?_
  refine g_seq (by kernel_rfl) ?_
  refine g_sreg [0, 1, 2] (by kernel_rfl) (by kernel_rfl) ?_
  refine s_val (some 19) (.int .i64 1) (fun w => by kernel_rfl) (by kernel_rfl) ?_
  refine s_val (some 20) (.int .i64 3) (fun w => by kernel_rfl) (by kernel_rfl) ?_
  refine s_val (some 21) (.bool false) (fun w => by kernel_rfl) (by kernel_rfl) ?_
  refine s_nil ?_
  refine g_cond_f (by kernel_rfl) (by kernel_rfl) ?_
  refine g_skip (by kernel_rfl) ?_
  show WP _ _ _ _ _ _
  refine g_sreg [0, 1, 2] (by kernel_rfl) (by kernel_rfl) ?_
  refine s_val (some 32) (.int .i64 1) (fun w => by kernel_rfl) (by kernel_rfl) ?_
  refine s_val (some 33) (.int .i64 3) (fun w => by kernel_rfl) (by kernel_rfl) ?_
  refine s_val (some 34) (.bool false) (fun w => by kernel_rfl) (by kernel_rfl) ?_
  refine s_nil ?_
  refine g_cond_f (by kernel_rfl) (by kernel_rfl) ?_
  refine g_skip (by kernel_rfl) ?_
  show WP _ _ _ _ _ _
  refine g_reg0 [0, 1] (by kernel_rfl) ?_
  refine s_val (some 47) (.int .i64 2) (fun w => by kernel_rfl) (by kernel_rfl) ?_
  refine s_val (some 15) (.int .i64 2) (fun w => by kernel_rfl) (by kernel_rfl) ?_
  refine s_nil ?_
  show WPL _ _ _ _ _ _
  refine g_next ?_
  refine g_sreg [0] (by kernel_rfl) (by kernel_rfl) ?_
  refine s_val (some 16) (.bool true) (fun w => by kernel_rfl) (by kernel_rfl) ?_
  refine s_nil ?_
  refine g_seq (by kernel_rfl) ?_
  refine g_cond_t (by kernel_rfl) (by kernel_rfl) ?_
  refine g_skip (by kernel_rfl) ?_
  show WP _ _ _ _ _ _
  refine g_seq (by kernel_rfl) ?_
  refine g_block 1 (by kernel_rfl) ?_
  refine g_sreg [0, 1, 2, 3] (by kernel_rfl) (by kernel_rfl) ?_
  refine s_val (some 17) (.int .i64 2) (fun w => by kernel_rfl) (by kernel_rfl) ?_
  refine s_val (some 18) (.int .u64 ((A / 340282366920938463463374607431768211456 % 18446744073709551616 : Nat) : Int)) (fun w => by kernel_rfl) (by kernel_rfl) ?_
  refine s_val (some 8) (.int .i64 2) (fun w => by kernel_rfl) (by kernel_rfl) ?_
  refine s_val (some 9) (.int .u64 ((A / 340282366920938463463374607431768211456 % 18446744073709551616 : Nat) : Int)) (fun w => by kernel_rfl) (by kernel_rfl) ?_
  refine s_nil ?_
  refine g_seq (by kernel_rfl) ?_
  refine g_sreg [0, 1, 2] (by kernel_rfl) (by kernel_rfl) ?_
  refine s_val (some 19) (.int .i64 2) (fun w => by kernel_rfl) (by kernel_rfl) ?_
  refine s_val (some 20) (.int .i64 3) (fun w => by kernel_rfl) (by kernel_rfl) ?_
  refine s_val (some 21) (.bool false) (fun w => by kernel_rfl) (by kernel_rfl) ?_
  refine s_nil ?_
  refine g_cond_f (by kernel_rfl) (by kernel_rfl) ?_
  refine g_skip (by kernel_rfl) ?_
  show WP _ _ _ _ _ _
  refine g_sreg [0, 1, 2] (by kernel_rfl) (by kernel_rfl) ?_
  refine s_val (some 32) (.int .i64 2) (fun w => by kernel_rfl) (by kernel_rfl) ?_
  refine s_val (some 33) (.int .i64 3) (fun w => by kernel_rfl) (by kernel_rfl) ?_
  refine s_val (some 34) (.bool false) (fun w => by kernel_rfl) (by kernel_rfl) ?_
  refine s_nil ?_
  refine g_cond_f (by kernel_rfl) (by kernel_rfl) ?_
  refine g_skip (by kernel_rfl) ?_
  show WP _ _ _ _ _ _
  refine g_reg0 [0, 1] (by kernel_rfl) ?_
  refine s_val (some 47) (.int .i64 3) (fun w => by kernel_rfl) (by kernel_rfl) ?_
  refine s_val (some 15) (.int .i64 3) (fun w => by kernel_rfl) (by kernel_rfl) ?_
  refine s_nil ?_
  show WPL _ _ _ _ _ _
  refine g_next ?_
  refine g_sreg [0] (by kernel_rfl) (by kernel_rfl) ?_
  refine s_val (some 16) (.bool true) (fun w => by kernel_rfl) (by kernel_rfl) ?_
  refine s_nil ?_
  refine g_seq (by kernel_rfl) ?_
  refine g_cond_t (by kernel_rfl) (by kernel_rfl) ?_
  refine g_skip (by kernel_rfl) ?_
  show WP _ _ _ _ _ _
  refine g_seq (by kernel_rfl) ?_
  refine g_block 1 (by kernel_rfl) ?_
  refine g_sreg [0, 1, 2, 3] (by kernel_rfl) (by kernel_rfl) ?_
  refine s_val (some 17) (.int .i64 3) (fun w => by kernel_rfl) (by kernel_rfl) ?_
  refine s_val (some 18) (.int .u64 ((A / 6277101735386680763835789423207666416102355444464034512896 % 18446744073709551616 : Nat) : Int)) (fun w => by kernel_rfl) (by kernel_rfl) ?_
  refine s_val (some 8) (.int .i64 3) (fun w => by kernel_rfl) (by kernel_rfl) ?_
  refine s_val (some 9) (.int .u64 ((A / 6277101735386680763835789423207666416102355444464034512896 % 18446744073709551616 : Nat) : Int)) (fun w => by kernel_rfl) (by kernel_rfl) ?_
  refine s_nil ?_
  refine g_seq (by kernel_rfl) ?_
  refine g_sreg [0, 1, 2] (by kernel_rfl) (by kernel_rfl) ?_
  refine s_val (some 19) (.int .i64 3) (fun w => by kernel_rfl) (by kernel_rfl) ?_
  refine s_val (some 20) (.int .i64 3) (fun w => by kernel_rfl) (by kernel_rfl) ?_
  refine s_val (some 21) (.bool true) (fun w => by kernel_rfl) (by kernel_rfl) ?_
  refine s_nil ?_
  refine g_cond_t (by kernel_rfl) (by kernel_rfl) ?_
  refine D2.g_draw0 [0, 1, 2, 3, 4, 5, 6, 7, 8, 9, 10] [((some 22), fun _ => .int .i64 3), ((some 23), fun _ => .int .i64 3), ((some 24), fun _ => .int .i64 0), ((some 25), fun _ => .pointer (some ⟨b3, 0, none⟩)), ((some 26), fun _ => .int .u64 0), ((some 27), fun _ => .int .u64 ((A / 6277101735386680763835789423207666416102355444464034512896 % 18446744073709551616 : Nat) : Int)), ((some 28), fun _ => .int .i64 ((d % 64 : Nat) : Int)), ((some 29), fun _ => .int .u64 (((A / 6277101735386680763835789423207666416102355444464034512896 % 18446744073709551616) / 2 ^ (d % 64) : Nat) : Int)), ((some 30), fun _ => .int .u64 ((0 ||| ((A / 6277101735386680763835789423207666416102355444464034512896 % 18446744073709551616) / 2 ^ (d % 64)) : Nat) : Int)), ((some 31), fun _ => .pointer (some ⟨b3, 0, none⟩)), (none, fun _ => undef)] (D2.Pre w.heap.size w (fun L g => [(true, (bif L 10 then (b3, Obj.cells #[.int .u64 ((0 ||| ((A / 6277101735386680763835789423207666416102355444464034512896 % 18446744073709551616) / 2 ^ (d % 64)) : Nat) : Int), .int .u64 0, .int .u64 0, .int .u64 0] 24 (0, 0)) else (b3, Obj.cells #[.int .u64 0, .int .u64 0, .int .u64 0, .int .u64 0] 24 (0, 0)))), (true, (b2, Obj.cells #[.int .u64 0, .int .u64 0, .int .u64 0, .int .u64 0] 24 (0, 0))), (true, (b1, Obj.cells (Value.cells (uv A)) 24 (0, 0)))]) (fun L g => True)) (by kernel_rfl) (by kernel_rfl) (by kernel_rfl) ⟨D2.StE.of H3.drew _ (by kernel_rfl), trivial⟩ ⟨?_, ?_, ?_, ?_, ?_, ?_, ?_, ?_, ?_, ?_, ?_, trivial⟩ ?_
  · exact D2.gv_val (fun _ _ _ h => h) (fun g w => by kernel_rfl)
  · exact D2.gv_val (fun _ _ _ h => h) (fun g w => by kernel_rfl)
  · exact D2.gv_val (fun _ _ _ h => h) (fun g w => by kernel_rfl)
  · exact D2.gv_val (fun _ _ _ h => h) (fun g w => by kernel_rfl)
  · exact D2.gv_load1 22 (.tmp 25) 0 (fun g => b3) (fun g => 0) (fun g => #[.int .u64 0, .int .u64 0, .int .u64 0, .int .u64 0]) 24 (0, 0) (fun _ _ _ h => h) (fun g => by kernel_rfl) (fun g => by kernel_rfl) (fun L g hN => (by have hL10 : L 10 = false := (hN.post 10 (by kernel_rfl)); exact D2.ent_get' (p := true) (e := (bif L 10 then (b3, Obj.cells #[.int .u64 ((0 ||| ((A / 6277101735386680763835789423207666416102355444464034512896 % 18446744073709551616) / 2 ^ (d % 64)) : Nat) : Int), .int .u64 0, .int .u64 0, .int .u64 0] 24 (0, 0)) else (b3, Obj.cells #[.int .u64 0, .int .u64 0, .int .u64 0, .int .u64 0] 24 (0, 0)))) (by kernel_rfl) (by rfl) (by simp only [hL10, cond_true, cond_false] <;> rfl))) (by kernel_rfl) (fun L g hN hF => by kernel_rfl)
  · exact D2.gv_val (fun _ _ _ h => h) (fun g w => by kernel_rfl)
  · exact D2.gv_val (fun _ _ _ h => h) (fun g w => by kernel_rfl)
  · exact D2.gv_valE (fun _ _ _ h => h) (V' := .int .u64 (Int.fdiv ((A / 6277101735386680763835789423207666416102355444464034512896 % 18446744073709551616 : Nat) : Int) (2 ^ (min (d % 64) 64)))) (fun g w => by kernel_rfl) (int_eq (shr_min (A / 6277101735386680763835789423207666416102355444464034512896 % 18446744073709551616) (d % 64) 64 (by omega)))
  · exact D2.gv_valE (fun _ _ _ h => h) (V' := .int .u64 (Go.bits .or .u64 (0) ((((A / 6277101735386680763835789423207666416102355444464034512896 % 18446744073709551616) / 2 ^ (d % 64) : Nat) : Int)))) (fun g w => by kernel_rfl) (int_eq (u64_or_nat 0 ((A / 6277101735386680763835789423207666416102355444464034512896 % 18446744073709551616) / 2 ^ (d % 64)) (by omega) (by omega)))
  · exact D2.gv_val (fun _ _ _ h => h) (fun g w => by kernel_rfl)
  · exact D2.gv_store 0 22 (.tmp 31) (.tmp 30) (fun g => b3) (fun g => 0) #[.int .u64 0, .int .u64 0, .int .u64 0, .int .u64 0] #[.int .u64 ((0 ||| ((A / 6277101735386680763835789423207666416102355444464034512896 % 18446744073709551616) / 2 ^ (d % 64)) : Nat) : Int), .int .u64 0, .int .u64 0, .int .u64 0] 24 (.int .u64 ((0 ||| ((A / 6277101735386680763835789423207666416102355444464034512896 % 18446744073709551616) / 2 ^ (d % 64)) : Nat) : Int)) (fun g => by kernel_rfl) (fun g => by kernel_rfl) (fun g => by kernel_rfl) (by kernel_rfl) (by kernel_rfl) (fun g => (of_decide_eq_true (by kernel_rfl))) (fun g => (by kernel_rfl)) (fun L g hN => ⟨(by have hL10 : L 10 = false := hN.1; exact D2.ent_get' (p := true) (e := (bif L 10 then (b3, Obj.cells #[.int .u64 ((0 ||| ((A / 6277101735386680763835789423207666416102355444464034512896 % 18446744073709551616) / 2 ^ (d % 64)) : Nat) : Int), .int .u64 0, .int .u64 0, .int .u64 0] 24 (0, 0)) else (b3, Obj.cells #[.int .u64 0, .int .u64 0, .int .u64 0, .int .u64 0] 24 (0, 0)))) (by kernel_rfl) (by rfl) (by simp only [hL10, cond_true, cond_false] <;> rfl)), (by kernel_rfl)⟩) (fun L g hN hF => hF)
  intro L0 G4 w4 hall HL; clear H3
  have H4 : St w.heap.size w w4 [(b3, Obj.cells #[.int .u64 ((0 ||| ((A / 6277101735386680763835789423207666416102355444464034512896 % 18446744073709551616) / 2 ^ (d % 64)) : Nat) : Int), .int .u64 0, .int .u64 0, .int .u64 0] 24 (0, 0)), (b2, Obj.cells #[.int .u64 0, .int .u64 0, .int .u64 0, .int .u64 0] 24 (0, 0)), (b1, Obj.cells (Value.cells (uv A)) 24 (0, 0))] := by have e10 := hall 10 (Nat.le_of_ble_eq_true (by kernel_rfl)); have hS := D2.StE.st HL.1; simp only [e10, cond_true, D2.pres] at hS; exact hS
  clear HL hall
  show WP _ _ _ _ _ _
  refine g_sreg [0, 1, 2] (by kernel_rfl) (by kernel_rfl) ?_
  refine s_val (some 32) (.int .i64 3) (fun w => by kernel_rfl) (by kernel_rfl) ?_
  refine s_val (some 33) (.int .i64 3) (fun w => by kernel_rfl) (by kernel_rfl) ?_
  refine s_val (some 34) (.bool false) (fun w => by kernel_rfl) (by kernel_rfl) ?_
  refine s_nil ?_
  refine g_cond_f (by kernel_rfl) (by kernel_rfl) ?_
  refine g_skip (by kernel_rfl) ?_
  show WP _ _ _ _ _ _
  refine g_reg0 [0, 1] (by kernel_rfl) ?_
  refine s_val (some 47) (.int .i64 4) (fun w => by kernel_rfl) (by kernel_rfl) ?_
  refine s_val (some 15) (.int .i64 4) (fun w => by kernel_rfl) (by kernel_rfl) ?_
  refine s_nil ?_
  show WPL _ _ _ _ _ _
  refine g_next ?_
  refine g_sreg [0] (by kernel_rfl) (by kernel_rfl) ?_
  refine s_val (some 16) (.bool false) (fun w => by kernel_rfl) (by kernel_rfl) ?_
  refine s_nil ?_
  refine g_seq (by kernel_rfl) ?_
  refine g_cond_f (by kernel_rfl) (by kernel_rfl) ?_
  refine g_exit 0 (by kernel_rfl) ?_
  show WP _ _ _ _ _ _
  refine g_sreg [0, 1] (by kernel_rfl) (by kernel_rfl) ?_
  refine s_load H4 (some 48) 24 (.tmp 5) 0 b3 #[.int .u64 ((0 ||| ((A / 6277101735386680763835789423207666416102355444464034512896 % 18446744073709551616) / 2 ^ (d % 64)) : Nat) : Int), .int .u64 0, .int .u64 0, .int .u64 0] 24 (0, 0) (by kernel_rfl) (by kernel_rfl) (by kernel_rfl) (by kernel_rfl) (by kernel_rfl) ?_
  refine s_store H4 1 [(b3, Obj.cells #[.int .u64 ((0 ||| ((A / 6277101735386680763835789423207666416102355444464034512896 % 18446744073709551616) / 2 ^ (d % 64)) : Nat) : Int), .int .u64 0, .int .u64 0, .int .u64 0] 24 (0, 0)), (b2, Obj.cells #[.int .u64 ((0 ||| ((A / 6277101735386680763835789423207666416102355444464034512896 % 18446744073709551616) / 2 ^ (d % 64)) : Nat) : Int), .int .u64 0, .int .u64 0, .int .u64 0] 24 (0, 0)), (b1, Obj.cells (Value.cells (uv A)) 24 (0, 0))] 24 (.tmp 4) (.tmp 48) b2 (0) #[.int .u64 0, .int .u64 0, .int .u64 0, .int .u64 0] #[.int .u64 ((0 ||| ((A / 6277101735386680763835789423207666416102355444464034512896 % 18446744073709551616) / 2 ^ (d % 64)) : Nat) : Int), .int .u64 0, .int .u64 0, .int .u64 0] 24 (.agg #[.int .u64 ((0 ||| ((A / 6277101735386680763835789423207666416102355444464034512896 % 18446744073709551616) / 2 ^ (d % 64)) : Nat) : Int), .int .u64 0, .int .u64 0, .int .u64 0]) (by kernel_rfl) (by kernel_rfl) (by kernel_rfl) (by kernel_rfl) (by kernel_rfl) (by kernel_rfl) (of_decide_eq_true (by kernel_rfl)) (by kernel_rfl) (by kernel_rfl) ?_
  intro w5 H5; clear H4
  refine s_nil ?_
  refine g_ret (by kernel_rfl) ?_
  show ∃ vs, Res _ _ _ _ vs ∧ _
  refine ⟨[.agg #[.int .u64 ((0 ||| ((A / 6277101735386680763835789423207666416102355444464034512896 % 18446744073709551616) / 2 ^ (d % 64)) : Nat) : Int), .int .u64 0, .int .u64 0, .int .u64 0]], (.agg (b := b2) #[.int .u64 ((0 ||| ((A / 6277101735386680763835789423207666416102355444464034512896 % 18446744073709551616) / 2 ^ (d % 64)) : Nat) : Int), .int .u64 0, .int .u64 0, .int .u64 0] 24 (0, 0) (by kernel_rfl) (H5.get 1 (by kernel_rfl)) (by kernel_rfl) .nil), ?_, H5.below⟩
  have e0 := word_last (A / 2 ^ (64 * (3 + 0))) (d % 64) (by show A / 6277101735386680763835789423207666416102355444464034512896 < _; unfold big at hA; omega); rw [← w_sh A 3 (d % 64) 0] at e0
  have e1 : 0 = A / 2 ^ (64 * 3 + d % 64) / 2 ^ (64 * 1) % 2 ^ 64 := by rw [w_sh, Nat.div_eq_of_lt (a := A) (Nat.lt_of_lt_of_le hA (show big ≤ 2 ^ (64 * (3 + 1)) from Nat.le_of_ble_eq_true (by kernel_rfl))), Nat.zero_div]
  have e2 : 0 = A / 2 ^ (64 * 3 + d % 64) / 2 ^ (64 * 2) % 2 ^ 64 := by rw [w_sh, Nat.div_eq_of_lt (a := A) (Nat.lt_of_lt_of_le hA (show big ≤ 2 ^ (64 * (3 + 2)) from Nat.le_of_ble_eq_true (by kernel_rfl))), Nat.zero_div]
  have e3 : 0 = A / 2 ^ (64 * 3 + d % 64) / 2 ^ (64 * 3) % 2 ^ 64 := by rw [w_sh, Nat.div_eq_of_lt (a := A) (Nat.lt_of_lt_of_le hA (show big ≤ 2 ^ (64 * (3 + 3)) from Nat.le_of_ble_eq_true (by kernel_rfl))), Nat.zero_div]
  have e := uv_of (N := A / 2 ^ (64 * 3 + d % 64)) e0 e1 e2 e3
  rw [show 64 * 3 + d % 64 = d by omega] at e
  simp only [Nat.reduceMul, Nat.reduceAdd, Nat.reducePow] at e
  exact e

theorem lower_fn (A d : Nat) (hA : A < big) (hd : d < 256) : Fn Try.prog 36 #[uv A, .int .i64 ((d : Nat) : Int)] (uv (A / 2 ^ d)) := by
  have hq : d / 64 = 0 ∨ d / 64 = 1 ∨ d / 64 = 2 ∨ d / 64 = 3 := by omega
  rcases hq with hq | hq | hq | hq
  · exact lower0_fn A d hA hd hq
  · exact lower1_fn A d hA hd hq
  · exact lower2_fn A d hA hd hq
  · exact lower3_fn A d hA hd hq
end Go.Proofs.Ythomanpefekaaaa
