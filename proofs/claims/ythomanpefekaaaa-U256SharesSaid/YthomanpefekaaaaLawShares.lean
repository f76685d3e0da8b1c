/-
  The law U256Shares, walked.
-/
import Derived.Test.YthomanpefekaaaaDivM
import Derived.Test.YthomanpefekaaaaMod
import Derived.Test.YthomanpefekaaaaAlive
namespace Go.Proofs.Ythomanpefekaaaa
open Go Go.RowKit
set_option linter.unusedVariables false
theorem share_sum (A B C : Nat) : pl A (sm B C) = sm (pl A B) (pl A C) := by
  unfold pl sm
  rw [Nat.mul_mod, Nat.mod_mod, ← Nat.mul_mod, Nat.mul_add, Nat.add_mod]
theorem share_mod (A B m : Nat) : (pl A B + big * ph A B) % m = (pl ((A + big * 0) % m) ((B + big * 0) % m) + big * ph ((A + big * 0) % m) ((B + big * 0) % m)) % m := by
  have e : ∀ x y : Nat, pl x y + big * ph x y = x * y := fun x y => by unfold pl ph; exact Nat.mod_add_div _ _
  rw [e, e, Nat.mul_zero, Nat.add_zero, Nat.add_zero, ← Nat.mul_mod]

set_option maxRecDepth 100000 in
set_option maxHeartbeats 2000000 in
theorem shares0_fn (A B C : Nat) (hA : A < big) (hB : B < big) (hC : C < big) : Fn Try.prog 5 #[uv A, uv B, uv C, uv 0] (.bool true) := by
  refine Fn.intro (c := codeOf Try.f5) [.tmp 8] 128 Try.func5 (by kernel_rfl) (by kernel_rfl) (by kernel_rfl) fun w => ?_
  have H0 := St.start w
  refine g_sreg [0, 1, 2, 3, 4] (by kernel_rfl) (by kernel_rfl) ?_
  refine s_box H0 (some 4) 24 (.tmp 0) (uv A) (by kernel_rfl) (by kernel_rfl) (by kernel_rfl) ?_
  intro b1 w1 H1; clear H0
  refine s_box H1 (some 5) 24 (.tmp 1) (uv B) (by kernel_rfl) (by kernel_rfl) (by kernel_rfl) ?_
  intro b2 w2 H2; clear H1
  refine s_box H2 (some 6) 24 (.tmp 2) (uv C) (by kernel_rfl) (by kernel_rfl) (by kernel_rfl) ?_
  intro b3 w3 H3; clear H2
  refine s_box H3 (some 7) 24 (.tmp 3) (uv 0) (by kernel_rfl) (by kernel_rfl) (by kernel_rfl) ?_
  intro b4 w4 H4; clear H3
  refine s_val (some 8) (.bool false) (fun w => by kernel_rfl) (by kernel_rfl) ?_
  refine s_nil ?_
  refine g_sreg [0, 1, 2, 3, 4, 5, 6, 7, 8] (by kernel_rfl) (by kernel_rfl) ?_
  refine s_load H4 (some 30) 24 (.tmp 5) 2 b2 (Value.cells (uv B)) 24 (0, 0) (by kernel_rfl) (by kernel_rfl) (by kernel_rfl) (by kernel_rfl) (by kernel_rfl) ?_
  refine s_load H4 (some 31) 24 (.tmp 6) 1 b3 (Value.cells (uv C)) 24 (0, 0) (by kernel_rfl) (by kernel_rfl) (by kernel_rfl) (by kernel_rfl) (by kernel_rfl) ?_
  refine s_call H4 (some 32) 21 #[uv B, uv C] (.tuple #[uv (sm B C), .bool (ov B C)]) (add_fn B C hB hC) (fun w => by kernel_rfl) (by kernel_rfl) ?_
  intro w5 H5; clear H4
  refine s_val (some 29) (.tuple #[uv (sm B C), .bool (ov B C)]) (fun w => by kernel_rfl) (by kernel_rfl) ?_
  refine s_val (some 33) (uv (sm B C)) (fun w => by kernel_rfl) (by kernel_rfl) ?_
  refine s_val (some 34) (.bool (ov B C)) (fun w => by kernel_rfl) (by kernel_rfl) ?_
  refine s_alloc H5 (some 9) 24 (.agg #[.int .u64 0, .int .u64 0, .int .u64 0, .int .u64 0]) (by kernel_rfl) (by kernel_rfl) (by kernel_rfl) ?_
  intro b5 w6 H6; clear H5
  refine s_store H6 0 [(b5, Obj.cells (Value.cells (uv (sm B C))) 24 (0, 0)), (b4, Obj.cells (Value.cells (uv 0)) 24 (0, 0)), (b3, Obj.cells (Value.cells (uv C)) 24 (0, 0)), (b2, Obj.cells (Value.cells (uv B)) 24 (0, 0)), (b1, Obj.cells (Value.cells (uv A)) 24 (0, 0))] 24 (.tmp 9) (.tmp 33) b5 (0) #[.int .u64 0, .int .u64 0, .int .u64 0, .int .u64 0] (Value.cells (uv (sm B C))) 24 (uv (sm B C)) (by kernel_rfl) (by kernel_rfl) (by kernel_rfl) (by kernel_rfl) (by kernel_rfl) (by kernel_rfl) (of_decide_eq_true (by kernel_rfl)) (by kernel_rfl) (by kernel_rfl) ?_
  intro w7 H7; clear H6
  refine s_val (some 10) (.bool (ov B C)) (fun w => by kernel_rfl) (by kernel_rfl) ?_
  refine s_nil ?_
  refine g_sreg [0, 1, 2, 3, 4, 5, 6, 7, 8, 9] (by kernel_rfl) (by kernel_rfl) ?_
  refine s_load H7 (some 36) 24 (.tmp 4) 4 b1 (Value.cells (uv A)) 24 (0, 0) (by kernel_rfl) (by kernel_rfl) (by kernel_rfl) (by kernel_rfl) (by kernel_rfl) ?_
  refine s_load H7 (some 37) 24 (.tmp 9) 0 b5 (Value.cells (uv (sm B C))) 24 (0, 0) (by kernel_rfl) (by kernel_rfl) (by kernel_rfl) (by kernel_rfl) (by kernel_rfl) ?_
  refine s_call H7 (some 38) 22 #[uv A, uv (sm B C)] (.tuple #[uv (pl A (sm B C)), uv (ph A (sm B C))]) (mul_fn A (sm B C) hA (sm_lt2 _ _)) (fun w => by kernel_rfl) (by kernel_rfl) ?_
  intro w8 H8; clear H7
  refine s_val (some 35) (.tuple #[uv (pl A (sm B C)), uv (ph A (sm B C))]) (fun w => by kernel_rfl) (by kernel_rfl) ?_
  refine s_val (some 39) (uv (pl A (sm B C))) (fun w => by kernel_rfl) (by kernel_rfl) ?_
  refine s_val (some 40) (uv (ph A (sm B C))) (fun w => by kernel_rfl) (by kernel_rfl) ?_
  refine s_alloc H8 (some 11) 24 (.agg #[.int .u64 0, .int .u64 0, .int .u64 0, .int .u64 0]) (by kernel_rfl) (by kernel_rfl) (by kernel_rfl) ?_
  intro b6 w9 H9; clear H8
  refine s_alloc H9 (some 12) 24 (.agg #[.int .u64 0, .int .u64 0, .int .u64 0, .int .u64 0]) (by kernel_rfl) (by kernel_rfl) (by kernel_rfl) ?_
  intro b7 w10 H10; clear H9
  refine s_store H10 1 [(b7, Obj.cells #[.int .u64 0, .int .u64 0, .int .u64 0, .int .u64 0] 24 (0, 0)), (b6, Obj.cells (Value.cells (uv (pl A (sm B C)))) 24 (0, 0)), (b5, Obj.cells (Value.cells (uv (sm B C))) 24 (0, 0)), (b4, Obj.cells (Value.cells (uv 0)) 24 (0, 0)), (b3, Obj.cells (Value.cells (uv C)) 24 (0, 0)), (b2, Obj.cells (Value.cells (uv B)) 24 (0, 0)), (b1, Obj.cells (Value.cells (uv A)) 24 (0, 0))] 24 (.tmp 11) (.tmp 39) b6 (0) #[.int .u64 0, .int .u64 0, .int .u64 0, .int .u64 0] (Value.cells (uv (pl A (sm B C)))) 24 (uv (pl A (sm B C))) (by kernel_rfl) (by kernel_rfl) (by kernel_rfl) (by kernel_rfl) (by kernel_rfl) (by kernel_rfl) (of_decide_eq_true (by kernel_rfl)) (by kernel_rfl) (by kernel_rfl) ?_
  intro w11 H11; clear H10
  refine s_store H11 0 [(b7, Obj.cells (Value.cells (uv (ph A (sm B C)))) 24 (0, 0)), (b6, Obj.cells (Value.cells (uv (pl A (sm B C)))) 24 (0, 0)), (b5, Obj.cells (Value.cells (uv (sm B C))) 24 (0, 0)), (b4, Obj.cells (Value.cells (uv 0)) 24 (0, 0)), (b3, Obj.cells (Value.cells (uv C)) 24 (0, 0)), (b2, Obj.cells (Value.cells (uv B)) 24 (0, 0)), (b1, Obj.cells (Value.cells (uv A)) 24 (0, 0))] 24 (.tmp 12) (.tmp 40) b7 (0) #[.int .u64 0, .int .u64 0, .int .u64 0, .int .u64 0] (Value.cells (uv (ph A (sm B C)))) 24 (uv (ph A (sm B C))) (by kernel_rfl) (by kernel_rfl) (by kernel_rfl) (by kernel_rfl) (by kernel_rfl) (by kernel_rfl) (of_decide_eq_true (by kernel_rfl)) (by kernel_rfl) (by kernel_rfl) ?_
  intro w12 H12; clear H11
  refine s_nil ?_
  refine g_sreg [0, 1, 2, 3, 4, 5, 6, 7, 8, 9] (by kernel_rfl) (by kernel_rfl) ?_
  refine s_load H12 (some 42) 24 (.tmp 4) 6 b1 (Value.cells (uv A)) 24 (0, 0) (by kernel_rfl) (by kernel_rfl) (by kernel_rfl) (by kernel_rfl) (by kernel_rfl) ?_
  refine s_load H12 (some 43) 24 (.tmp 5) 5 b2 (Value.cells (uv B)) 24 (0, 0) (by kernel_rfl) (by kernel_rfl) (by kernel_rfl) (by kernel_rfl) (by kernel_rfl) ?_
  refine s_call H12 (some 44) 22 #[uv A, uv B] (.tuple #[uv (pl A B), uv (ph A B)]) (mul_fn A B hA hB) (fun w => by kernel_rfl) (by kernel_rfl) ?_
  intro w13 H13; clear H12
  refine s_val (some 41) (.tuple #[uv (pl A B), uv (ph A B)]) (fun w => by kernel_rfl) (by kernel_rfl) ?_
  refine s_val (some 45) (uv (pl A B)) (fun w => by kernel_rfl) (by kernel_rfl) ?_
  refine s_val (some 46) (uv (ph A B)) (fun w => by kernel_rfl) (by kernel_rfl) ?_
  refine s_alloc H13 (some 13) 24 (.agg #[.int .u64 0, .int .u64 0, .int .u64 0, .int .u64 0]) (by kernel_rfl) (by kernel_rfl) (by kernel_rfl) ?_
  intro b8 w14 H14; clear H13
  refine s_alloc H14 (some 14) 24 (.agg #[.int .u64 0, .int .u64 0, .int .u64 0, .int .u64 0]) (by kernel_rfl) (by kernel_rfl) (by kernel_rfl) ?_
  intro b9 w15 H15; clear H14
  refine s_store H15 1 [(b9, Obj.cells #[.int .u64 0, .int .u64 0, .int .u64 0, .int .u64 0] 24 (0, 0)), (b8, Obj.cells (Value.cells (uv (pl A B))) 24 (0, 0)), (b7, Obj.cells (Value.cells (uv (ph A (sm B C)))) 24 (0, 0)), (b6, Obj.cells (Value.cells (uv (pl A (sm B C)))) 24 (0, 0)), (b5, Obj.cells (Value.cells (uv (sm B C))) 24 (0, 0)), (b4, Obj.cells (Value.cells (uv 0)) 24 (0, 0)), (b3, Obj.cells (Value.cells (uv C)) 24 (0, 0)), (b2, Obj.cells (Value.cells (uv B)) 24 (0, 0)), (b1, Obj.cells (Value.cells (uv A)) 24 (0, 0))] 24 (.tmp 13) (.tmp 45) b8 (0) #[.int .u64 0, .int .u64 0, .int .u64 0, .int .u64 0] (Value.cells (uv (pl A B))) 24 (uv (pl A B)) (by kernel_rfl) (by kernel_rfl) (by kernel_rfl) (by kernel_rfl) (by kernel_rfl) (by kernel_rfl) (of_decide_eq_true (by kernel_rfl)) (by kernel_rfl) (by kernel_rfl) ?_
  intro w16 H16; clear H15
  refine s_store H16 0 [(b9, Obj.cells (Value.cells (uv (ph A B))) 24 (0, 0)), (b8, Obj.cells (Value.cells (uv (pl A B))) 24 (0, 0)), (b7, Obj.cells (Value.cells (uv (ph A (sm B C)))) 24 (0, 0)), (b6, Obj.cells (Value.cells (uv (pl A (sm B C)))) 24 (0, 0)), (b5, Obj.cells (Value.cells (uv (sm B C))) 24 (0, 0)), (b4, Obj.cells (Value.cells (uv 0)) 24 (0, 0)), (b3, Obj.cells (Value.cells (uv C)) 24 (0, 0)), (b2, Obj.cells (Value.cells (uv B)) 24 (0, 0)), (b1, Obj.cells (Value.cells (uv A)) 24 (0, 0))] 24 (.tmp 14) (.tmp 46) b9 (0) #[.int .u64 0, .int .u64 0, .int .u64 0, .int .u64 0] (Value.cells (uv (ph A B))) 24 (uv (ph A B)) (by kernel_rfl) (by kernel_rfl) (by kernel_rfl) (by kernel_rfl) (by kernel_rfl) (by kernel_rfl) (of_decide_eq_true (by kernel_rfl)) (by kernel_rfl) (by kernel_rfl) ?_
  intro w17 H17; clear H16
  refine s_nil ?_
  refine g_sreg [0, 1, 2, 3, 4, 5, 6, 7, 8, 9] (by kernel_rfl) (by kernel_rfl) ?_
  refine s_load H17 (some 48) 24 (.tmp 4) 8 b1 (Value.cells (uv A)) 24 (0, 0) (by kernel_rfl) (by kernel_rfl) (by kernel_rfl) (by kernel_rfl) (by kernel_rfl) ?_
  refine s_load H17 (some 49) 24 (.tmp 6) 6 b3 (Value.cells (uv C)) 24 (0, 0) (by kernel_rfl) (by kernel_rfl) (by kernel_rfl) (by kernel_rfl) (by kernel_rfl) ?_
  refine s_call H17 (some 50) 22 #[uv A, uv C] (.tuple #[uv (pl A C), uv (ph A C)]) (mul_fn A C hA hC) (fun w => by kernel_rfl) (by kernel_rfl) ?_
  intro w18 H18; clear H17
  refine s_val (some 47) (.tuple #[uv (pl A C), uv (ph A C)]) (fun w => by kernel_rfl) (by kernel_rfl) ?_
  refine s_val (some 51) (uv (pl A C)) (fun w => by kernel_rfl) (by kernel_rfl) ?_
  refine s_val (some 52) (uv (ph A C)) (fun w => by kernel_rfl) (by kernel_rfl) ?_
  refine s_alloc H18 (some 15) 24 (.agg #[.int .u64 0, .int .u64 0, .int .u64 0, .int .u64 0]) (by kernel_rfl) (by kernel_rfl) (by kernel_rfl) ?_
  intro b10 w19 H19; clear H18
  refine s_alloc H19 (some 16) 24 (.agg #[.int .u64 0, .int .u64 0, .int .u64 0, .int .u64 0]) (by kernel_rfl) (by kernel_rfl) (by kernel_rfl) ?_
  intro b11 w20 H20; clear H19
  refine s_store H20 1 [(b11, Obj.cells #[.int .u64 0, .int .u64 0, .int .u64 0, .int .u64 0] 24 (0, 0)), (b10, Obj.cells (Value.cells (uv (pl A C))) 24 (0, 0)), (b9, Obj.cells (Value.cells (uv (ph A B))) 24 (0, 0)), (b8, Obj.cells (Value.cells (uv (pl A B))) 24 (0, 0)), (b7, Obj.cells (Value.cells (uv (ph A (sm B C)))) 24 (0, 0)), (b6, Obj.cells (Value.cells (uv (pl A (sm B C)))) 24 (0, 0)), (b5, Obj.cells (Value.cells (uv (sm B C))) 24 (0, 0)), (b4, Obj.cells (Value.cells (uv 0)) 24 (0, 0)), (b3, Obj.cells (Value.cells (uv C)) 24 (0, 0)), (b2, Obj.cells (Value.cells (uv B)) 24 (0, 0)), (b1, Obj.cells (Value.cells (uv A)) 24 (0, 0))] 24 (.tmp 15) (.tmp 51) b10 (0) #[.int .u64 0, .int .u64 0, .int .u64 0, .int .u64 0] (Value.cells (uv (pl A C))) 24 (uv (pl A C)) (by kernel_rfl) (by kernel_rfl) (by kernel_rfl) (by kernel_rfl) (by kernel_rfl) (by kernel_rfl) (of_decide_eq_true (by kernel_rfl)) (by kernel_rfl) (by kernel_rfl) ?_
  intro w21 H21; clear H20
  refine s_store H21 0 [(b11, Obj.cells (Value.cells (uv (ph A C))) 24 (0, 0)), (b10, Obj.cells (Value.cells (uv (pl A C))) 24 (0, 0)), (b9, Obj.cells (Value.cells (uv (ph A B))) 24 (0, 0)), (b8, Obj.cells (Value.cells (uv (pl A B))) 24 (0, 0)), (b7, Obj.cells (Value.cells (uv (ph A (sm B C)))) 24 (0, 0)), (b6, Obj.cells (Value.cells (uv (pl A (sm B C)))) 24 (0, 0)), (b5, Obj.cells (Value.cells (uv (sm B C))) 24 (0, 0)), (b4, Obj.cells (Value.cells (uv 0)) 24 (0, 0)), (b3, Obj.cells (Value.cells (uv C)) 24 (0, 0)), (b2, Obj.cells (Value.cells (uv B)) 24 (0, 0)), (b1, Obj.cells (Value.cells (uv A)) 24 (0, 0))] 24 (.tmp 16) (.tmp 52) b11 (0) #[.int .u64 0, .int .u64 0, .int .u64 0, .int .u64 0] (Value.cells (uv (ph A C))) 24 (uv (ph A C)) (by kernel_rfl) (by kernel_rfl) (by kernel_rfl) (by kernel_rfl) (by kernel_rfl) (by kernel_rfl) (of_decide_eq_true (by kernel_rfl)) (by kernel_rfl) (by kernel_rfl) ?_
  intro w22 H22; clear H21
  refine s_nil ?_
  refine g_sreg [0, 1, 2, 3, 4, 5, 6, 7, 8] (by kernel_rfl) (by kernel_rfl) ?_
  refine s_load H22 (some 54) 24 (.tmp 13) 3 b8 (Value.cells (uv (pl A B))) 24 (0, 0) (by kernel_rfl) (by kernel_rfl) (by kernel_rfl) (by kernel_rfl) (by kernel_rfl) ?_
  refine s_load H22 (some 55) 24 (.tmp 15) 1 b10 (Value.cells (uv (pl A C))) 24 (0, 0) (by kernel_rfl) (by kernel_rfl) (by kernel_rfl) (by kernel_rfl) (by kernel_rfl) ?_
  refine s_call H22 (some 56) 21 #[uv (pl A B), uv (pl A C)] (.tuple #[uv (sm (pl A B) (pl A C)), .bool (ov (pl A B) (pl A C))]) (add_fn (pl A B) (pl A C) (pl_lt2 _ _) (pl_lt2 _ _)) (fun w => by kernel_rfl) (by kernel_rfl) ?_
  intro w23 H23; clear H22
  refine s_val (some 53) (.tuple #[uv (sm (pl A B) (pl A C)), .bool (ov (pl A B) (pl A C))]) (fun w => by kernel_rfl) (by kernel_rfl) ?_
  refine s_val (some 57) (uv (sm (pl A B) (pl A C))) (fun w => by kernel_rfl) (by kernel_rfl) ?_
  refine s_val (some 58) (.bool (ov (pl A B) (pl A C))) (fun w => by kernel_rfl) (by kernel_rfl) ?_
  refine s_alloc H23 (some 17) 24 (.agg #[.int .u64 0, .int .u64 0, .int .u64 0, .int .u64 0]) (by kernel_rfl) (by kernel_rfl) (by kernel_rfl) ?_
  intro b12 w24 H24; clear H23
  refine s_store H24 0 [(b12, Obj.cells (Value.cells (uv (sm (pl A B) (pl A C)))) 24 (0, 0)), (b11, Obj.cells (Value.cells (uv (ph A C))) 24 (0, 0)), (b10, Obj.cells (Value.cells (uv (pl A C))) 24 (0, 0)), (b9, Obj.cells (Value.cells (uv (ph A B))) 24 (0, 0)), (b8, Obj.cells (Value.cells (uv (pl A B))) 24 (0, 0)), (b7, Obj.cells (Value.cells (uv (ph A (sm B C)))) 24 (0, 0)), (b6, Obj.cells (Value.cells (uv (pl A (sm B C)))) 24 (0, 0)), (b5, Obj.cells (Value.cells (uv (sm B C))) 24 (0, 0)), (b4, Obj.cells (Value.cells (uv 0)) 24 (0, 0)), (b3, Obj.cells (Value.cells (uv C)) 24 (0, 0)), (b2, Obj.cells (Value.cells (uv B)) 24 (0, 0)), (b1, Obj.cells (Value.cells (uv A)) 24 (0, 0))] 24 (.tmp 17) (.tmp 57) b12 (0) #[.int .u64 0, .int .u64 0, .int .u64 0, .int .u64 0] (Value.cells (uv (sm (pl A B) (pl A C)))) 24 (uv (sm (pl A B) (pl A C))) (by kernel_rfl) (by kernel_rfl) (by kernel_rfl) (by kernel_rfl) (by kernel_rfl) (by kernel_rfl) (of_decide_eq_true (by kernel_rfl)) (by kernel_rfl) (by kernel_rfl) ?_
  intro w25 H25; clear H24
  refine s_val (some 18) (.bool (ov (pl A B) (pl A C))) (fun w => by kernel_rfl) (by kernel_rfl) ?_
  refine s_nil ?_
  refine g_seq (by kernel_rfl) ?_
  refine g_sreg [0, 1, 2, 3, 4, 5, 6] (by kernel_rfl) (by kernel_rfl) ?_
  refine s_load H25 (some 59) 24 (.tmp 11) 6 b6 (Value.cells (uv (pl A (sm B C)))) 24 (0, 0) (by kernel_rfl) (by kernel_rfl) (by kernel_rfl) (by kernel_rfl) (by kernel_rfl) ?_
  refine s_load H25 (some 60) 24 (.tmp 17) 0 b12 (Value.cells (uv (sm (pl A B) (pl A C)))) 24 (0, 0) (by kernel_rfl) (by kernel_rfl) (by kernel_rfl) (by kernel_rfl) (by kernel_rfl) ?_
  refine s_opE (some 61) _ (.bool (!decide ((pl A (sm B C)) = (sm (pl A B) (pl A C))))) (.bool false) (by kernel_rfl) (fun o w ho => neU_run (x := (.tmp 59)) (y := (.tmp 60)) (pl A (sm B C)) (sm (pl A B) (pl A C)) (pl_lt2 _ _) (sm_lt2 _ _) w ho (by kernel_rfl) (by kernel_rfl)) (by rw [decide_eq_true (share_sum A B C)] <;> rfl) (by kernel_rfl) ?_
  refine s_val (some 62) (.bool false) (fun w => by kernel_rfl) (by kernel_rfl) ?_
  refine s_call H25 (some 63) 8 #[] (.bool true) alive_any (fun w => by kernel_rfl) (by kernel_rfl) ?_
  intro w26 H26; clear H25
  refine s_val (some 64) (.bool false) (fun w => by kernel_rfl) (by kernel_rfl) ?_
  refine s_val (some 65) (.bool false) (fun w => by kernel_rfl) (by kernel_rfl) ?_
  refine s_nil ?_
  refine g_cond_f (by kernel_rfl) (by kernel_rfl) ?_
  refine g_skip (by kernel_rfl) ?_
  show WP _ _ _ _ _ _
  refine g_seq (by kernel_rfl) ?_
  refine g_sreg [0, 1, 2] (by kernel_rfl) (by kernel_rfl) ?_
  refine s_load H26 (some 66) 24 (.tmp 7) 8 b4 (Value.cells (uv 0)) 24 (0, 0) (by kernel_rfl) (by kernel_rfl) (by kernel_rfl) (by kernel_rfl) (by kernel_rfl) ?_
  refine s_val (some 67) (.agg #[.int .u64 0, .int .u64 0, .int .u64 0, .int .u64 0]) (fun w => by kernel_rfl) (by kernel_rfl) ?_
  refine s_opE (some 68) _ (.bool (decide (0 = 0))) (.bool true) (by kernel_rfl) (fun o w ho => eqU_run (x := (.tmp 66)) (y := (.tmp 67)) 0 0 (by unfold big; omega) (by unfold big; omega) w ho (by kernel_rfl) (by kernel_rfl)) (by rw [decide_eq_true rfl] <;> rfl) (by kernel_rfl) ?_
  refine s_nil ?_
  refine g_cond_t (by kernel_rfl) (by kernel_rfl) ?_
  refine g_sreg [0] (by kernel_rfl) (by kernel_rfl) ?_
  refine s_val (some 8) (.bool true) (fun w => by kernel_rfl) (by kernel_rfl) ?_
  refine s_nil ?_
  refine g_ret (by kernel_rfl) ?_
  show ∃ vs, Res _ _ _ _ vs ∧ _
  refine ⟨[.bool true], (.tmp (.bool true) (by kernel_rfl) .nil), ?_, H26.below⟩
  rfl

set_option maxRecDepth 100000 in
set_option maxHeartbeats 2000000 in
theorem shares_fn (A B C m : Nat) (hA : A < big) (hB : B < big) (hC : C < big) (hm : m < big) (h0 : m ≠ 0) : Fn Try.prog 5 #[uv A, uv B, uv C, uv m] (.bool true) := by
  refine Fn.intro (c := codeOf Try.f5) [.tmp 8] 128 Try.func5 (by kernel_rfl) (by kernel_rfl) (by kernel_rfl) fun w => ?_
  have H0 := St.start w
  refine g_sreg [0, 1, 2, 3, 4] (by kernel_rfl) (by kernel_rfl) ?_
  refine s_box H0 (some 4) 24 (.tmp 0) (uv A) (by kernel_rfl) (by kernel_rfl) (by kernel_rfl) ?_
  intro b1 w1 H1; clear H0
  refine s_box H1 (some 5) 24 (.tmp 1) (uv B) (by kernel_rfl) (by kernel_rfl) (by kernel_rfl) ?_
  intro b2 w2 H2; clear H1
  refine s_box H2 (some 6) 24 (.tmp 2) (uv C) (by kernel_rfl) (by kernel_rfl) (by kernel_rfl) ?_
  intro b3 w3 H3; clear H2
  refine s_box H3 (some 7) 24 (.tmp 3) (uv m) (by kernel_rfl) (by kernel_rfl) (by kernel_rfl) ?_
  intro b4 w4 H4; clear H3
  refine s_val (some 8) (.bool false) (fun w => by kernel_rfl) (by kernel_rfl) ?_
  refine s_nil ?_
  refine g_sreg [0, 1, 2, 3, 4, 5, 6, 7, 8] (by kernel_rfl) (by kernel_rfl) ?_
  refine s_load H4 (some 30) 24 (.tmp 5) 2 b2 (Value.cells (uv B)) 24 (0, 0) (by kernel_rfl) (by kernel_rfl) (by kernel_rfl) (by kernel_rfl) (by kernel_rfl) ?_
  refine s_load H4 (some 31) 24 (.tmp 6) 1 b3 (Value.cells (uv C)) 24 (0, 0) (by kernel_rfl) (by kernel_rfl) (by kernel_rfl) (by kernel_rfl) (by kernel_rfl) ?_
  refine s_call H4 (some 32) 21 #[uv B, uv C] (.tuple #[uv (sm B C), .bool (ov B C)]) (add_fn B C hB hC) (fun w => by kernel_rfl) (by kernel_rfl) ?_
  intro w5 H5; clear H4
  refine s_val (some 29) (.tuple #[uv (sm B C), .bool (ov B C)]) (fun w => by kernel_rfl) (by kernel_rfl) ?_
  refine s_val (some 33) (uv (sm B C)) (fun w => by kernel_rfl) (by kernel_rfl) ?_
  refine s_val (some 34) (.bool (ov B C)) (fun w => by kernel_rfl) (by kernel_rfl) ?_
  refine s_alloc H5 (some 9) 24 (.agg #[.int .u64 0, .int .u64 0, .int .u64 0, .int .u64 0]) (by kernel_rfl) (by kernel_rfl) (by kernel_rfl) ?_
  intro b5 w6 H6; clear H5
  refine s_store H6 0 [(b5, Obj.cells (Value.cells (uv (sm B C))) 24 (0, 0)), (b4, Obj.cells (Value.cells (uv m)) 24 (0, 0)), (b3, Obj.cells (Value.cells (uv C)) 24 (0, 0)), (b2, Obj.cells (Value.cells (uv B)) 24 (0, 0)), (b1, Obj.cells (Value.cells (uv A)) 24 (0, 0))] 24 (.tmp 9) (.tmp 33) b5 (0) #[.int .u64 0, .int .u64 0, .int .u64 0, .int .u64 0] (Value.cells (uv (sm B C))) 24 (uv (sm B C)) (by kernel_rfl) (by kernel_rfl) (by kernel_rfl) (by kernel_rfl) (by kernel_rfl) (by kernel_rfl) (of_decide_eq_true (by kernel_rfl)) (by kernel_rfl) (by kernel_rfl) ?_
  intro w7 H7; clear H6
  refine s_val (some 10) (.bool (ov B C)) (fun w => by kernel_rfl) (by kernel_rfl) ?_
  refine s_nil ?_
  refine g_sreg [0, 1, 2, 3, 4, 5, 6, 7, 8, 9] (by kernel_rfl) (by kernel_rfl) ?_
  refine s_load H7 (some 36) 24 (.tmp 4) 4 b1 (Value.cells (uv A)) 24 (0, 0) (by kernel_rfl) (by kernel_rfl) (by kernel_rfl) (by kernel_rfl) (by kernel_rfl) ?_
  refine s_load H7 (some 37) 24 (.tmp 9) 0 b5 (Value.cells (uv (sm B C))) 24 (0, 0) (by kernel_rfl) (by kernel_rfl) (by kernel_rfl) (by kernel_rfl) (by kernel_rfl) ?_
  refine s_call H7 (some 38) 22 #[uv A, uv (sm B C)] (.tuple #[uv (pl A (sm B C)), uv (ph A (sm B C))]) (mul_fn A (sm B C) hA (sm_lt2 _ _)) (fun w => by kernel_rfl) (by kernel_rfl) ?_
  intro w8 H8; clear H7
  refine s_val (some 35) (.tuple #[uv (pl A (sm B C)), uv (ph A (sm B C))]) (fun w => by kernel_rfl) (by kernel_rfl) ?_
  refine s_val (some 39) (uv (pl A (sm B C))) (fun w => by kernel_rfl) (by kernel_rfl) ?_
  refine s_val (some 40) (uv (ph A (sm B C))) (fun w => by kernel_rfl) (by kernel_rfl) ?_
  refine s_alloc H8 (some 11) 24 (.agg #[.int .u64 0, .int .u64 0, .int .u64 0, .int .u64 0]) (by kernel_rfl) (by kernel_rfl) (by kernel_rfl) ?_
  intro b6 w9 H9; clear H8
  refine s_alloc H9 (some 12) 24 (.agg #[.int .u64 0, .int .u64 0, .int .u64 0, .int .u64 0]) (by kernel_rfl) (by kernel_rfl) (by kernel_rfl) ?_
  intro b7 w10 H10; clear H9
  refine s_store H10 1 [(b7, Obj.cells #[.int .u64 0, .int .u64 0, .int .u64 0, .int .u64 0] 24 (0, 0)), (b6, Obj.cells (Value.cells (uv (pl A (sm B C)))) 24 (0, 0)), (b5, Obj.cells (Value.cells (uv (sm B C))) 24 (0, 0)), (b4, Obj.cells (Value.cells (uv m)) 24 (0, 0)), (b3, Obj.cells (Value.cells (uv C)) 24 (0, 0)), (b2, Obj.cells (Value.cells (uv B)) 24 (0, 0)), (b1, Obj.cells (Value.cells (uv A)) 24 (0, 0))] 24 (.tmp 11) (.tmp 39) b6 (0) #[.int .u64 0, .int .u64 0, .int .u64 0, .int .u64 0] (Value.cells (uv (pl A (sm B C)))) 24 (uv (pl A (sm B C))) (by kernel_rfl) (by kernel_rfl) (by kernel_rfl) (by kernel_rfl) (by kernel_rfl) (by kernel_rfl) (of_decide_eq_true (by kernel_rfl)) (by kernel_rfl) (by kernel_rfl) ?_
  intro w11 H11; clear H10
  refine s_store H11 0 [(b7, Obj.cells (Value.cells (uv (ph A (sm B C)))) 24 (0, 0)), (b6, Obj.cells (Value.cells (uv (pl A (sm B C)))) 24 (0, 0)), (b5, Obj.cells (Value.cells (uv (sm B C))) 24 (0, 0)), (b4, Obj.cells (Value.cells (uv m)) 24 (0, 0)), (b3, Obj.cells (Value.cells (uv C)) 24 (0, 0)), (b2, Obj.cells (Value.cells (uv B)) 24 (0, 0)), (b1, Obj.cells (Value.cells (uv A)) 24 (0, 0))] 24 (.tmp 12) (.tmp 40) b7 (0) #[.int .u64 0, .int .u64 0, .int .u64 0, .int .u64 0] (Value.cells (uv (ph A (sm B C)))) 24 (uv (ph A (sm B C))) (by kernel_rfl) (by kernel_rfl) (by kernel_rfl) (by kernel_rfl) (by kernel_rfl) (by kernel_rfl) (of_decide_eq_true (by kernel_rfl)) (by kernel_rfl) (by kernel_rfl) ?_
  intro w12 H12; clear H11
  refine s_nil ?_
  refine g_sreg [0, 1, 2, 3, 4, 5, 6, 7, 8, 9] (by kernel_rfl) (by kernel_rfl) ?_
  refine s_load H12 (some 42) 24 (.tmp 4) 6 b1 (Value.cells (uv A)) 24 (0, 0) (by kernel_rfl) (by kernel_rfl) (by kernel_rfl) (by kernel_rfl) (by kernel_rfl) ?_
  refine s_load H12 (some 43) 24 (.tmp 5) 5 b2 (Value.cells (uv B)) 24 (0, 0) (by kernel_rfl) (by kernel_rfl) (by kernel_rfl) (by kernel_rfl) (by kernel_rfl) ?_
  refine s_call H12 (some 44) 22 #[uv A, uv B] (.tuple #[uv (pl A B), uv (ph A B)]) (mul_fn A B hA hB) (fun w => by kernel_rfl) (by kernel_rfl) ?_
  intro w13 H13; clear H12
  refine s_val (some 41) (.tuple #[uv (pl A B), uv (ph A B)]) (fun w => by kernel_rfl) (by kernel_rfl) ?_
  refine s_val (some 45) (uv (pl A B)) (fun w => by kernel_rfl) (by kernel_rfl) ?_
  refine s_val (some 46) (uv (ph A B)) (fun w => by kernel_rfl) (by kernel_rfl) ?_
  refine s_alloc H13 (some 13) 24 (.agg #[.int .u64 0, .int .u64 0, .int .u64 0, .int .u64 0]) (by kernel_rfl) (by kernel_rfl) (by kernel_rfl) ?_
  intro b8 w14 H14; clear H13
  refine s_alloc H14 (some 14) 24 (.agg #[.int .u64 0, .int .u64 0, .int .u64 0, .int .u64 0]) (by kernel_rfl) (by kernel_rfl) (by kernel_rfl) ?_
  intro b9 w15 H15; clear H14
  refine s_store H15 1 [(b9, Obj.cells #[.int .u64 0, .int .u64 0, .int .u64 0, .int .u64 0] 24 (0, 0)), (b8, Obj.cells (Value.cells (uv (pl A B))) 24 (0, 0)), (b7, Obj.cells (Value.cells (uv (ph A (sm B C)))) 24 (0, 0)), (b6, Obj.cells (Value.cells (uv (pl A (sm B C)))) 24 (0, 0)), (b5, Obj.cells (Value.cells (uv (sm B C))) 24 (0, 0)), (b4, Obj.cells (Value.cells (uv m)) 24 (0, 0)), (b3, Obj.cells (Value.cells (uv C)) 24 (0, 0)), (b2, Obj.cells (Value.cells (uv B)) 24 (0, 0)), (b1, Obj.cells (Value.cells (uv A)) 24 (0, 0))] 24 (.tmp 13) (.tmp 45) b8 (0) #[.int .u64 0, .int .u64 0, .int .u64 0, .int .u64 0] (Value.cells (uv (pl A B))) 24 (uv (pl A B)) (by kernel_rfl) (by kernel_rfl) (by kernel_rfl) (by kernel_rfl) (by kernel_rfl) (by kernel_rfl) (of_decide_eq_true (by kernel_rfl)) (by kernel_rfl) (by kernel_rfl) ?_
  intro w16 H16; clear H15
  refine s_store H16 0 [(b9, Obj.cells (Value.cells (uv (ph A B))) 24 (0, 0)), (b8, Obj.cells (Value.cells (uv (pl A B))) 24 (0, 0)), (b7, Obj.cells (Value.cells (uv (ph A (sm B C)))) 24 (0, 0)), (b6, Obj.cells (Value.cells (uv (pl A (sm B C)))) 24 (0, 0)), (b5, Obj.cells (Value.cells (uv (sm B C))) 24 (0, 0)), (b4, Obj.cells (Value.cells (uv m)) 24 (0, 0)), (b3, Obj.cells (Value.cells (uv C)) 24 (0, 0)), (b2, Obj.cells (Value.cells (uv B)) 24 (0, 0)), (b1, Obj.cells (Value.cells (uv A)) 24 (0, 0))] 24 (.tmp 14) (.tmp 46) b9 (0) #[.int .u64 0, .int .u64 0, .int .u64 0, .int .u64 0] (Value.cells (uv (ph A B))) 24 (uv (ph A B)) (by kernel_rfl) (by kernel_rfl) (by kernel_rfl) (by kernel_rfl) (by kernel_rfl) (by kernel_rfl) (of_decide_eq_true (by kernel_rfl)) (by kernel_rfl) (by kernel_rfl) ?_
  intro w17 H17; clear H16
  refine s_nil ?_
  refine g_sreg [0, 1, 2, 3, 4, 5, 6, 7, 8, 9] (by kernel_rfl) (by kernel_rfl) ?_
  refine s_load H17 (some 48) 24 (.tmp 4) 8 b1 (Value.cells (uv A)) 24 (0, 0) (by kernel_rfl) (by kernel_rfl) (by kernel_rfl) (by kernel_rfl) (by kernel_rfl) ?_
  refine s_load H17 (some 49) 24 (.tmp 6) 6 b3 (Value.cells (uv C)) 24 (0, 0) (by kernel_rfl) (by kernel_rfl) (by kernel_rfl) (by kernel_rfl) (by kernel_rfl) ?_
  refine s_call H17 (some 50) 22 #[uv A, uv C] (.tuple #[uv (pl A C), uv (ph A C)]) (mul_fn A C hA hC) (fun w => by kernel_rfl) (by kernel_rfl) ?_
  intro w18 H18; clear H17
  refine s_val (some 47) (.tuple #[uv (pl A C), uv (ph A C)]) (fun w => by kernel_rfl) (by kernel_rfl) ?_
  refine s_val (some 51) (uv (pl A C)) (fun w => by kernel_rfl) (by kernel_rfl) ?_
  refine s_val (some 52) (uv (ph A C)) (fun w => by kernel_rfl) (by kernel_rfl) ?_
  refine s_alloc H18 (some 15) 24 (.agg #[.int .u64 0, .int .u64 0, .int .u64 0, .int .u64 0]) (by kernel_rfl) (by kernel_rfl) (by kernel_rfl) ?_
  intro b10 w19 H19; clear H18
  refine s_alloc H19 (some 16) 24 (.agg #[.int .u64 0, .int .u64 0, .int .u64 0, .int .u64 0]) (by kernel_rfl) (by kernel_rfl) (by kernel_rfl) ?_
  intro b11 w20 H20; clear H19
  refine s_store H20 1 [(b11, Obj.cells #[.int .u64 0, .int .u64 0, .int .u64 0, .int .u64 0] 24 (0, 0)), (b10, Obj.cells (Value.cells (uv (pl A C))) 24 (0, 0)), (b9, Obj.cells (Value.cells (uv (ph A B))) 24 (0, 0)), (b8, Obj.cells (Value.cells (uv (pl A B))) 24 (0, 0)), (b7, Obj.cells (Value.cells (uv (ph A (sm B C)))) 24 (0, 0)), (b6, Obj.cells (Value.cells (uv (pl A (sm B C)))) 24 (0, 0)), (b5, Obj.cells (Value.cells (uv (sm B C))) 24 (0, 0)), (b4, Obj.cells (Value.cells (uv m)) 24 (0, 0)), (b3, Obj.cells (Value.cells (uv C)) 24 (0, 0)), (b2, Obj.cells (Value.cells (uv B)) 24 (0, 0)), (b1, Obj.cells (Value.cells (uv A)) 24 (0, 0))] 24 (.tmp 15) (.tmp 51) b10 (0) #[.int .u64 0, .int .u64 0, .int .u64 0, .int .u64 0] (Value.cells (uv (pl A C))) 24 (uv (pl A C)) (by kernel_rfl) (by kernel_rfl) (by kernel_rfl) (by kernel_rfl) (by kernel_rfl) (by kernel_rfl) (of_decide_eq_true (by kernel_rfl)) (by kernel_rfl) (by kernel_rfl) ?_
  intro w21 H21; clear H20
  refine s_store H21 0 [(b11, Obj.cells (Value.cells (uv (ph A C))) 24 (0, 0)), (b10, Obj.cells (Value.cells (uv (pl A C))) 24 (0, 0)), (b9, Obj.cells (Value.cells (uv (ph A B))) 24 (0, 0)), (b8, Obj.cells (Value.cells (uv (pl A B))) 24 (0, 0)), (b7, Obj.cells (Value.cells (uv (ph A (sm B C)))) 24 (0, 0)), (b6, Obj.cells (Value.cells (uv (pl A (sm B C)))) 24 (0, 0)), (b5, Obj.cells (Value.cells (uv (sm B C))) 24 (0, 0)), (b4, Obj.cells (Value.cells (uv m)) 24 (0, 0)), (b3, Obj.cells (Value.cells (uv C)) 24 (0, 0)), (b2, Obj.cells (Value.cells (uv B)) 24 (0, 0)), (b1, Obj.cells (Value.cells (uv A)) 24 (0, 0))] 24 (.tmp 16) (.tmp 52) b11 (0) #[.int .u64 0, .int .u64 0, .int .u64 0, .int .u64 0] (Value.cells (uv (ph A C))) 24 (uv (ph A C)) (by kernel_rfl) (by kernel_rfl) (by kernel_rfl) (by kernel_rfl) (by kernel_rfl) (by kernel_rfl) (of_decide_eq_true (by kernel_rfl)) (by kernel_rfl) (by kernel_rfl) ?_
  intro w22 H22; clear H21
  refine s_nil ?_
  refine g_sreg [0, 1, 2, 3, 4, 5, 6, 7, 8] (by kernel_rfl) (by kernel_rfl) ?_
  refine s_load H22 (some 54) 24 (.tmp 13) 3 b8 (Value.cells (uv (pl A B))) 24 (0, 0) (by kernel_rfl) (by kernel_rfl) (by kernel_rfl) (by kernel_rfl) (by kernel_rfl) ?_
  refine s_load H22 (some 55) 24 (.tmp 15) 1 b10 (Value.cells (uv (pl A C))) 24 (0, 0) (by kernel_rfl) (by kernel_rfl) (by kernel_rfl) (by kernel_rfl) (by kernel_rfl) ?_
  refine s_call H22 (some 56) 21 #[uv (pl A B), uv (pl A C)] (.tuple #[uv (sm (pl A B) (pl A C)), .bool (ov (pl A B) (pl A C))]) (add_fn (pl A B) (pl A C) (pl_lt2 _ _) (pl_lt2 _ _)) (fun w => by kernel_rfl) (by kernel_rfl) ?_
  intro w23 H23; clear H22
  refine s_val (some 53) (.tuple #[uv (sm (pl A B) (pl A C)), .bool (ov (pl A B) (pl A C))]) (fun w => by kernel_rfl) (by kernel_rfl) ?_
  refine s_val (some 57) (uv (sm (pl A B) (pl A C))) (fun w => by kernel_rfl) (by kernel_rfl) ?_
  refine s_val (some 58) (.bool (ov (pl A B) (pl A C))) (fun w => by kernel_rfl) (by kernel_rfl) ?_
  refine s_alloc H23 (some 17) 24 (.agg #[.int .u64 0, .int .u64 0, .int .u64 0, .int .u64 0]) (by kernel_rfl) (by kernel_rfl) (by kernel_rfl) ?_
  intro b12 w24 H24; clear H23
  refine s_store H24 0 [(b12, Obj.cells (Value.cells (uv (sm (pl A B) (pl A C)))) 24 (0, 0)), (b11, Obj.cells (Value.cells (uv (ph A C))) 24 (0, 0)), (b10, Obj.cells (Value.cells (uv (pl A C))) 24 (0, 0)), (b9, Obj.cells (Value.cells (uv (ph A B))) 24 (0, 0)), (b8, Obj.cells (Value.cells (uv (pl A B))) 24 (0, 0)), (b7, Obj.cells (Value.cells (uv (ph A (sm B C)))) 24 (0, 0)), (b6, Obj.cells (Value.cells (uv (pl A (sm B C)))) 24 (0, 0)), (b5, Obj.cells (Value.cells (uv (sm B C))) 24 (0, 0)), (b4, Obj.cells (Value.cells (uv m)) 24 (0, 0)), (b3, Obj.cells (Value.cells (uv C)) 24 (0, 0)), (b2, Obj.cells (Value.cells (uv B)) 24 (0, 0)), (b1, Obj.cells (Value.cells (uv A)) 24 (0, 0))] 24 (.tmp 17) (.tmp 57) b12 (0) #[.int .u64 0, .int .u64 0, .int .u64 0, .int .u64 0] (Value.cells (uv (sm (pl A B) (pl A C)))) 24 (uv (sm (pl A B) (pl A C))) (by kernel_rfl) (by kernel_rfl) (by kernel_rfl) (by kernel_rfl) (by kernel_rfl) (by kernel_rfl) (of_decide_eq_true (by kernel_rfl)) (by kernel_rfl) (by kernel_rfl) ?_
  intro w25 H25; clear H24
  refine s_val (some 18) (.bool (ov (pl A B) (pl A C))) (fun w => by kernel_rfl) (by kernel_rfl) ?_
  refine s_nil ?_
  refine g_seq (by kernel_rfl) ?_
  refine g_sreg [0, 1, 2, 3, 4, 5, 6] (by kernel_rfl) (by kernel_rfl) ?_
  refine s_load H25 (some 59) 24 (.tmp 11) 6 b6 (Value.cells (uv (pl A (sm B C)))) 24 (0, 0) (by kernel_rfl) (by kernel_rfl) (by kernel_rfl) (by kernel_rfl) (by kernel_rfl) ?_
  refine s_load H25 (some 60) 24 (.tmp 17) 0 b12 (Value.cells (uv (sm (pl A B) (pl A C)))) 24 (0, 0) (by kernel_rfl) (by kernel_rfl) (by kernel_rfl) (by kernel_rfl) (by kernel_rfl) ?_
  refine s_opE (some 61) _ (.bool (!decide ((pl A (sm B C)) = (sm (pl A B) (pl A C))))) (.bool false) (by kernel_rfl) (fun o w ho => neU_run (x := (.tmp 59)) (y := (.tmp 60)) (pl A (sm B C)) (sm (pl A B) (pl A C)) (pl_lt2 _ _) (sm_lt2 _ _) w ho (by kernel_rfl) (by kernel_rfl)) (by rw [decide_eq_true (share_sum A B C)] <;> rfl) (by kernel_rfl) ?_
  refine s_val (some 62) (.bool false) (fun w => by kernel_rfl) (by kernel_rfl) ?_
  refine s_call H25 (some 63) 8 #[] (.bool true) alive_any (fun w => by kernel_rfl) (by kernel_rfl) ?_
  intro w26 H26; clear H25
  refine s_val (some 64) (.bool false) (fun w => by kernel_rfl) (by kernel_rfl) ?_
  refine s_val (some 65) (.bool false) (fun w => by kernel_rfl) (by kernel_rfl) ?_
  refine s_nil ?_
  refine g_cond_f (by kernel_rfl) (by kernel_rfl) ?_
  refine g_skip (by kernel_rfl) ?_
  show WP _ _ _ _ _ _
  refine g_seq (by kernel_rfl) ?_
  refine g_sreg [0, 1, 2] (by kernel_rfl) (by kernel_rfl) ?_
  refine s_load H26 (some 66) 24 (.tmp 7) 8 b4 (Value.cells (uv m)) 24 (0, 0) (by kernel_rfl) (by kernel_rfl) (by kernel_rfl) (by kernel_rfl) (by kernel_rfl) ?_
  refine s_val (some 67) (.agg #[.int .u64 0, .int .u64 0, .int .u64 0, .int .u64 0]) (fun w => by kernel_rfl) (by kernel_rfl) ?_
  refine s_opE (some 68) _ (.bool (decide (m = 0))) (.bool false) (by kernel_rfl) (fun o w ho => eqU_run (x := (.tmp 66)) (y := (.tmp 67)) m 0 hm (by unfold big; omega) w ho (by kernel_rfl) (by kernel_rfl)) (by rw [decide_eq_false h0] <;> rfl) (by kernel_rfl) ?_
  refine s_nil ?_
  refine g_cond_f (by kernel_rfl) (by kernel_rfl) ?_
  refine g_skip (by kernel_rfl) ?_
  show WP _ _ _ _ _ _
  refine g_sreg [0, 1, 2, 3, 4, 5, 6, 7, 8, 9] (by kernel_rfl) (by kernel_rfl) ?_
  refine s_load H26 (some 70) 24 (.tmp 4) 11 b1 (Value.cells (uv A)) 24 (0, 0) (by kernel_rfl) (by kernel_rfl) (by kernel_rfl) (by kernel_rfl) (by kernel_rfl) ?_
  refine s_load H26 (some 71) 24 (.tmp 5) 10 b2 (Value.cells (uv B)) 24 (0, 0) (by kernel_rfl) (by kernel_rfl) (by kernel_rfl) (by kernel_rfl) (by kernel_rfl) ?_
  refine s_call H26 (some 72) 22 #[uv A, uv B] (.tuple #[uv (pl A B), uv (ph A B)]) (mul_fn A B hA hB) (fun w => by kernel_rfl) (by kernel_rfl) ?_
  intro w27 H27; clear H26
  refine s_val (some 69) (.tuple #[uv (pl A B), uv (ph A B)]) (fun w => by kernel_rfl) (by kernel_rfl) ?_
  refine s_val (some 73) (uv (pl A B)) (fun w => by kernel_rfl) (by kernel_rfl) ?_
  refine s_val (some 74) (uv (ph A B)) (fun w => by kernel_rfl) (by kernel_rfl) ?_
  refine s_alloc H27 (some 19) 24 (.agg #[.int .u64 0, .int .u64 0, .int .u64 0, .int .u64 0]) (by kernel_rfl) (by kernel_rfl) (by kernel_rfl) ?_
  intro b13 w28 H28; clear H27
  refine s_alloc H28 (some 20) 24 (.agg #[.int .u64 0, .int .u64 0, .int .u64 0, .int .u64 0]) (by kernel_rfl) (by kernel_rfl) (by kernel_rfl) ?_
  intro b14 w29 H29; clear H28
  refine s_store H29 1 [(b14, Obj.cells #[.int .u64 0, .int .u64 0, .int .u64 0, .int .u64 0] 24 (0, 0)), (b13, Obj.cells (Value.cells (uv (pl A B))) 24 (0, 0)), (b12, Obj.cells (Value.cells (uv (sm (pl A B) (pl A C)))) 24 (0, 0)), (b11, Obj.cells (Value.cells (uv (ph A C))) 24 (0, 0)), (b10, Obj.cells (Value.cells (uv (pl A C))) 24 (0, 0)), (b9, Obj.cells (Value.cells (uv (ph A B))) 24 (0, 0)), (b8, Obj.cells (Value.cells (uv (pl A B))) 24 (0, 0)), (b7, Obj.cells (Value.cells (uv (ph A (sm B C)))) 24 (0, 0)), (b6, Obj.cells (Value.cells (uv (pl A (sm B C)))) 24 (0, 0)), (b5, Obj.cells (Value.cells (uv (sm B C))) 24 (0, 0)), (b4, Obj.cells (Value.cells (uv m)) 24 (0, 0)), (b3, Obj.cells (Value.cells (uv C)) 24 (0, 0)), (b2, Obj.cells (Value.cells (uv B)) 24 (0, 0)), (b1, Obj.cells (Value.cells (uv A)) 24 (0, 0))] 24 (.tmp 19) (.tmp 73) b13 (0) #[.int .u64 0, .int .u64 0, .int .u64 0, .int .u64 0] (Value.cells (uv (pl A B))) 24 (uv (pl A B)) (by kernel_rfl) (by kernel_rfl) (by kernel_rfl) (by kernel_rfl) (by kernel_rfl) (by kernel_rfl) (of_decide_eq_true (by kernel_rfl)) (by kernel_rfl) (by kernel_rfl) ?_
  intro w30 H30; clear H29
  refine s_store H30 0 [(b14, Obj.cells (Value.cells (uv (ph A B))) 24 (0, 0)), (b13, Obj.cells (Value.cells (uv (pl A B))) 24 (0, 0)), (b12, Obj.cells (Value.cells (uv (sm (pl A B) (pl A C)))) 24 (0, 0)), (b11, Obj.cells (Value.cells (uv (ph A C))) 24 (0, 0)), (b10, Obj.cells (Value.cells (uv (pl A C))) 24 (0, 0)), (b9, Obj.cells (Value.cells (uv (ph A B))) 24 (0, 0)), (b8, Obj.cells (Value.cells (uv (pl A B))) 24 (0, 0)), (b7, Obj.cells (Value.cells (uv (ph A (sm B C)))) 24 (0, 0)), (b6, Obj.cells (Value.cells (uv (pl A (sm B C)))) 24 (0, 0)), (b5, Obj.cells (Value.cells (uv (sm B C))) 24 (0, 0)), (b4, Obj.cells (Value.cells (uv m)) 24 (0, 0)), (b3, Obj.cells (Value.cells (uv C)) 24 (0, 0)), (b2, Obj.cells (Value.cells (uv B)) 24 (0, 0)), (b1, Obj.cells (Value.cells (uv A)) 24 (0, 0))] 24 (.tmp 20) (.tmp 74) b14 (0) #[.int .u64 0, .int .u64 0, .int .u64 0, .int .u64 0] (Value.cells (uv (ph A B))) 24 (uv (ph A B)) (by kernel_rfl) (by kernel_rfl) (by kernel_rfl) (by kernel_rfl) (by kernel_rfl) (by kernel_rfl) (of_decide_eq_true (by kernel_rfl)) (by kernel_rfl) (by kernel_rfl) ?_
  intro w31 H31; clear H30
  refine s_nil ?_
  refine g_sreg [0, 1, 2, 3, 4, 5, 6, 7, 8, 9] (by kernel_rfl) (by kernel_rfl) ?_
  refine s_load H31 (some 76) 24 (.tmp 19) 1 b13 (Value.cells (uv (pl A B))) 24 (0, 0) (by kernel_rfl) (by kernel_rfl) (by kernel_rfl) (by kernel_rfl) (by kernel_rfl) ?_
  refine s_load H31 (some 77) 24 (.tmp 20) 0 b14 (Value.cells (uv (ph A B))) 24 (0, 0) (by kernel_rfl) (by kernel_rfl) (by kernel_rfl) (by kernel_rfl) (by kernel_rfl) ?_
  refine s_load H31 (some 78) 24 (.tmp 7) 10 b4 (Value.cells (uv m)) 24 (0, 0) (by kernel_rfl) (by kernel_rfl) (by kernel_rfl) (by kernel_rfl) (by kernel_rfl) ?_
  refine s_call H31 (some 79) 7 #[uv (pl A B), uv (ph A B), uv m] (.tuple #[uv (((pl A B) + big * (ph A B)) % m), .int .i64 0]) (mod_fn (pl A B) (ph A B) m (pl_lt2 _ _) (ph_lt2 hA hB) hm h0) (fun w => by kernel_rfl) (by kernel_rfl) ?_
  intro w32 H32; clear H31
  refine s_val (some 75) (.tuple #[uv (((pl A B) + big * (ph A B)) % m), .int .i64 0]) (fun w => by kernel_rfl) (by kernel_rfl) ?_
  refine s_val (some 80) (uv (((pl A B) + big * (ph A B)) % m)) (fun w => by kernel_rfl) (by kernel_rfl) ?_
  refine s_val (some 81) (.int .i64 0) (fun w => by kernel_rfl) (by kernel_rfl) ?_
  refine s_alloc H32 (some 21) 24 (.agg #[.int .u64 0, .int .u64 0, .int .u64 0, .int .u64 0]) (by kernel_rfl) (by kernel_rfl) (by kernel_rfl) ?_
  intro b15 w33 H33; clear H32
  refine s_store H33 0 [(b15, Obj.cells (Value.cells (uv (((pl A B) + big * (ph A B)) % m))) 24 (0, 0)), (b14, Obj.cells (Value.cells (uv (ph A B))) 24 (0, 0)), (b13, Obj.cells (Value.cells (uv (pl A B))) 24 (0, 0)), (b12, Obj.cells (Value.cells (uv (sm (pl A B) (pl A C)))) 24 (0, 0)), (b11, Obj.cells (Value.cells (uv (ph A C))) 24 (0, 0)), (b10, Obj.cells (Value.cells (uv (pl A C))) 24 (0, 0)), (b9, Obj.cells (Value.cells (uv (ph A B))) 24 (0, 0)), (b8, Obj.cells (Value.cells (uv (pl A B))) 24 (0, 0)), (b7, Obj.cells (Value.cells (uv (ph A (sm B C)))) 24 (0, 0)), (b6, Obj.cells (Value.cells (uv (pl A (sm B C)))) 24 (0, 0)), (b5, Obj.cells (Value.cells (uv (sm B C))) 24 (0, 0)), (b4, Obj.cells (Value.cells (uv m)) 24 (0, 0)), (b3, Obj.cells (Value.cells (uv C)) 24 (0, 0)), (b2, Obj.cells (Value.cells (uv B)) 24 (0, 0)), (b1, Obj.cells (Value.cells (uv A)) 24 (0, 0))] 24 (.tmp 21) (.tmp 80) b15 (0) #[.int .u64 0, .int .u64 0, .int .u64 0, .int .u64 0] (Value.cells (uv (((pl A B) + big * (ph A B)) % m))) 24 (uv (((pl A B) + big * (ph A B)) % m)) (by kernel_rfl) (by kernel_rfl) (by kernel_rfl) (by kernel_rfl) (by kernel_rfl) (by kernel_rfl) (of_decide_eq_true (by kernel_rfl)) (by kernel_rfl) (by kernel_rfl) ?_
  intro w34 H34; clear H33
  refine s_val (some 22) (.int .i64 0) (fun w => by kernel_rfl) (by kernel_rfl) ?_
  refine s_nil ?_
  refine g_sreg [0, 1, 2, 3, 4, 5, 6, 7, 8, 9] (by kernel_rfl) (by kernel_rfl) ?_
  refine s_load H34 (some 83) 24 (.tmp 4) 14 b1 (Value.cells (uv A)) 24 (0, 0) (by kernel_rfl) (by kernel_rfl) (by kernel_rfl) (by kernel_rfl) (by kernel_rfl) ?_
  refine s_val (some 84) (.agg #[.int .u64 0, .int .u64 0, .int .u64 0, .int .u64 0]) (fun w => by kernel_rfl) (by kernel_rfl) ?_
  refine s_load H34 (some 85) 24 (.tmp 7) 11 b4 (Value.cells (uv m)) 24 (0, 0) (by kernel_rfl) (by kernel_rfl) (by kernel_rfl) (by kernel_rfl) (by kernel_rfl) ?_
  refine s_call H34 (some 86) 7 #[uv A, .agg #[.int .u64 0, .int .u64 0, .int .u64 0, .int .u64 0], uv m] (.tuple #[uv ((A + big * 0) % m), .int .i64 0]) (mod_fn A 0 m hA (by unfold big; omega) hm h0) (fun w => by kernel_rfl) (by kernel_rfl) ?_
  intro w35 H35; clear H34
  refine s_val (some 82) (.tuple #[uv ((A + big * 0) % m), .int .i64 0]) (fun w => by kernel_rfl) (by kernel_rfl) ?_
  refine s_val (some 87) (uv ((A + big * 0) % m)) (fun w => by kernel_rfl) (by kernel_rfl) ?_
  refine s_val (some 88) (.int .i64 0) (fun w => by kernel_rfl) (by kernel_rfl) ?_
  refine s_alloc H35 (some 23) 24 (.agg #[.int .u64 0, .int .u64 0, .int .u64 0, .int .u64 0]) (by kernel_rfl) (by kernel_rfl) (by kernel_rfl) ?_
  intro b16 w36 H36; clear H35
  refine s_store H36 0 [(b16, Obj.cells (Value.cells (uv ((A + big * 0) % m))) 24 (0, 0)), (b15, Obj.cells (Value.cells (uv (((pl A B) + big * (ph A B)) % m))) 24 (0, 0)), (b14, Obj.cells (Value.cells (uv (ph A B))) 24 (0, 0)), (b13, Obj.cells (Value.cells (uv (pl A B))) 24 (0, 0)), (b12, Obj.cells (Value.cells (uv (sm (pl A B) (pl A C)))) 24 (0, 0)), (b11, Obj.cells (Value.cells (uv (ph A C))) 24 (0, 0)), (b10, Obj.cells (Value.cells (uv (pl A C))) 24 (0, 0)), (b9, Obj.cells (Value.cells (uv (ph A B))) 24 (0, 0)), (b8, Obj.cells (Value.cells (uv (pl A B))) 24 (0, 0)), (b7, Obj.cells (Value.cells (uv (ph A (sm B C)))) 24 (0, 0)), (b6, Obj.cells (Value.cells (uv (pl A (sm B C)))) 24 (0, 0)), (b5, Obj.cells (Value.cells (uv (sm B C))) 24 (0, 0)), (b4, Obj.cells (Value.cells (uv m)) 24 (0, 0)), (b3, Obj.cells (Value.cells (uv C)) 24 (0, 0)), (b2, Obj.cells (Value.cells (uv B)) 24 (0, 0)), (b1, Obj.cells (Value.cells (uv A)) 24 (0, 0))] 24 (.tmp 23) (.tmp 87) b16 (0) #[.int .u64 0, .int .u64 0, .int .u64 0, .int .u64 0] (Value.cells (uv ((A + big * 0) % m))) 24 (uv ((A + big * 0) % m)) (by kernel_rfl) (by kernel_rfl) (by kernel_rfl) (by kernel_rfl) (by kernel_rfl) (by kernel_rfl) (of_decide_eq_true (by kernel_rfl)) (by kernel_rfl) (by kernel_rfl) ?_
  intro w37 H37; clear H36
  refine s_val (some 24) (.int .i64 0) (fun w => by kernel_rfl) (by kernel_rfl) ?_
  refine s_nil ?_
  refine g_sreg [0, 1, 2, 3, 4, 5, 6, 7, 8, 9] (by kernel_rfl) (by kernel_rfl) ?_
  refine s_load H37 (some 90) 24 (.tmp 5) 14 b2 (Value.cells (uv B)) 24 (0, 0) (by kernel_rfl) (by kernel_rfl) (by kernel_rfl) (by kernel_rfl) (by kernel_rfl) ?_
  refine s_val (some 91) (.agg #[.int .u64 0, .int .u64 0, .int .u64 0, .int .u64 0]) (fun w => by kernel_rfl) (by kernel_rfl) ?_
  refine s_load H37 (some 92) 24 (.tmp 7) 12 b4 (Value.cells (uv m)) 24 (0, 0) (by kernel_rfl) (by kernel_rfl) (by kernel_rfl) (by kernel_rfl) (by kernel_rfl) ?_
  refine s_call H37 (some 93) 7 #[uv B, .agg #[.int .u64 0, .int .u64 0, .int .u64 0, .int .u64 0], uv m] (.tuple #[uv ((B + big * 0) % m), .int .i64 0]) (mod_fn B 0 m hB (by unfold big; omega) hm h0) (fun w => by kernel_rfl) (by kernel_rfl) ?_
  intro w38 H38; clear H37
  refine s_val (some 89) (.tuple #[uv ((B + big * 0) % m), .int .i64 0]) (fun w => by kernel_rfl) (by kernel_rfl) ?_
  refine s_val (some 94) (uv ((B + big * 0) % m)) (fun w => by kernel_rfl) (by kernel_rfl) ?_
  refine s_val (some 95) (.int .i64 0) (fun w => by kernel_rfl) (by kernel_rfl) ?_
  refine s_alloc H38 (some 25) 24 (.agg #[.int .u64 0, .int .u64 0, .int .u64 0, .int .u64 0]) (by kernel_rfl) (by kernel_rfl) (by kernel_rfl) ?_
  intro b17 w39 H39; clear H38
  refine s_store H39 0 [(b17, Obj.cells (Value.cells (uv ((B + big * 0) % m))) 24 (0, 0)), (b16, Obj.cells (Value.cells (uv ((A + big * 0) % m))) 24 (0, 0)), (b15, Obj.cells (Value.cells (uv (((pl A B) + big * (ph A B)) % m))) 24 (0, 0)), (b14, Obj.cells (Value.cells (uv (ph A B))) 24 (0, 0)), (b13, Obj.cells (Value.cells (uv (pl A B))) 24 (0, 0)), (b12, Obj.cells (Value.cells (uv (sm (pl A B) (pl A C)))) 24 (0, 0)), (b11, Obj.cells (Value.cells (uv (ph A C))) 24 (0, 0)), (b10, Obj.cells (Value.cells (uv (pl A C))) 24 (0, 0)), (b9, Obj.cells (Value.cells (uv (ph A B))) 24 (0, 0)), (b8, Obj.cells (Value.cells (uv (pl A B))) 24 (0, 0)), (b7, Obj.cells (Value.cells (uv (ph A (sm B C)))) 24 (0, 0)), (b6, Obj.cells (Value.cells (uv (pl A (sm B C)))) 24 (0, 0)), (b5, Obj.cells (Value.cells (uv (sm B C))) 24 (0, 0)), (b4, Obj.cells (Value.cells (uv m)) 24 (0, 0)), (b3, Obj.cells (Value.cells (uv C)) 24 (0, 0)), (b2, Obj.cells (Value.cells (uv B)) 24 (0, 0)), (b1, Obj.cells (Value.cells (uv A)) 24 (0, 0))] 24 (.tmp 25) (.tmp 94) b17 (0) #[.int .u64 0, .int .u64 0, .int .u64 0, .int .u64 0] (Value.cells (uv ((B + big * 0) % m))) 24 (uv ((B + big * 0) % m)) (by kernel_rfl) (by kernel_rfl) (by kernel_rfl) (by kernel_rfl) (by kernel_rfl) (by kernel_rfl) (of_decide_eq_true (by kernel_rfl)) (by kernel_rfl) (by kernel_rfl) ?_
  intro w40 H40; clear H39
  refine s_val (some 26) (.int .i64 0) (fun w => by kernel_rfl) (by kernel_rfl) ?_
  refine s_nil ?_
  refine g_sreg [0, 1, 2, 3, 4, 5, 6, 7] (by kernel_rfl) (by kernel_rfl) ?_
  refine s_load H40 (some 97) 24 (.tmp 23) 1 b16 (Value.cells (uv ((A + big * 0) % m))) 24 (0, 0) (by kernel_rfl) (by kernel_rfl) (by kernel_rfl) (by kernel_rfl) (by kernel_rfl) ?_
  refine s_load H40 (some 98) 24 (.tmp 25) 0 b17 (Value.cells (uv ((B + big * 0) % m))) 24 (0, 0) (by kernel_rfl) (by kernel_rfl) (by kernel_rfl) (by kernel_rfl) (by kernel_rfl) ?_
  refine s_call H40 (some 99) 22 #[uv ((A + big * 0) % m), uv ((B + big * 0) % m)] (.tuple #[uv (pl ((A + big * 0) % m) ((B + big * 0) % m)), uv (ph ((A + big * 0) % m) ((B + big * 0) % m))]) (mul_fn ((A + big * 0) % m) ((B + big * 0) % m) (Nat.lt_trans (Nat.mod_lt _ (by omega)) (by omega)) (Nat.lt_trans (Nat.mod_lt _ (by omega)) (by omega))) (fun w => by kernel_rfl) (by kernel_rfl) ?_
  intro w41 H41; clear H40
  refine s_val (some 96) (.tuple #[uv (pl ((A + big * 0) % m) ((B + big * 0) % m)), uv (ph ((A + big * 0) % m) ((B + big * 0) % m))]) (fun w => by kernel_rfl) (by kernel_rfl) ?_
  refine s_val (some 100) (uv (pl ((A + big * 0) % m) ((B + big * 0) % m))) (fun w => by kernel_rfl) (by kernel_rfl) ?_
  refine s_val (some 101) (uv (ph ((A + big * 0) % m) ((B + big * 0) % m))) (fun w => by kernel_rfl) (by kernel_rfl) ?_
  refine s_store H41 4 [(b17, Obj.cells (Value.cells (uv ((B + big * 0) % m))) 24 (0, 0)), (b16, Obj.cells (Value.cells (uv ((A + big * 0) % m))) 24 (0, 0)), (b15, Obj.cells (Value.cells (uv (((pl A B) + big * (ph A B)) % m))) 24 (0, 0)), (b14, Obj.cells (Value.cells (uv (ph A B))) 24 (0, 0)), (b13, Obj.cells (Value.cells (uv (pl ((A + big * 0) % m) ((B + big * 0) % m)))) 24 (0, 0)), (b12, Obj.cells (Value.cells (uv (sm (pl A B) (pl A C)))) 24 (0, 0)), (b11, Obj.cells (Value.cells (uv (ph A C))) 24 (0, 0)), (b10, Obj.cells (Value.cells (uv (pl A C))) 24 (0, 0)), (b9, Obj.cells (Value.cells (uv (ph A B))) 24 (0, 0)), (b8, Obj.cells (Value.cells (uv (pl A B))) 24 (0, 0)), (b7, Obj.cells (Value.cells (uv (ph A (sm B C)))) 24 (0, 0)), (b6, Obj.cells (Value.cells (uv (pl A (sm B C)))) 24 (0, 0)), (b5, Obj.cells (Value.cells (uv (sm B C))) 24 (0, 0)), (b4, Obj.cells (Value.cells (uv m)) 24 (0, 0)), (b3, Obj.cells (Value.cells (uv C)) 24 (0, 0)), (b2, Obj.cells (Value.cells (uv B)) 24 (0, 0)), (b1, Obj.cells (Value.cells (uv A)) 24 (0, 0))] 24 (.tmp 19) (.tmp 100) b13 (0) (Value.cells (uv (pl A B))) (Value.cells (uv (pl ((A + big * 0) % m) ((B + big * 0) % m)))) 24 (uv (pl ((A + big * 0) % m) ((B + big * 0) % m))) (by kernel_rfl) (by kernel_rfl) (by kernel_rfl) (by kernel_rfl) (by kernel_rfl) (by kernel_rfl) (of_decide_eq_true (by kernel_rfl)) (by kernel_rfl) (by kernel_rfl) ?_
  intro w42 H42; clear H41
  refine s_store H42 3 [(b17, Obj.cells (Value.cells (uv ((B + big * 0) % m))) 24 (0, 0)), (b16, Obj.cells (Value.cells (uv ((A + big * 0) % m))) 24 (0, 0)), (b15, Obj.cells (Value.cells (uv (((pl A B) + big * (ph A B)) % m))) 24 (0, 0)), (b14, Obj.cells (Value.cells (uv (ph ((A + big * 0) % m) ((B + big * 0) % m)))) 24 (0, 0)), (b13, Obj.cells (Value.cells (uv (pl ((A + big * 0) % m) ((B + big * 0) % m)))) 24 (0, 0)), (b12, Obj.cells (Value.cells (uv (sm (pl A B) (pl A C)))) 24 (0, 0)), (b11, Obj.cells (Value.cells (uv (ph A C))) 24 (0, 0)), (b10, Obj.cells (Value.cells (uv (pl A C))) 24 (0, 0)), (b9, Obj.cells (Value.cells (uv (ph A B))) 24 (0, 0)), (b8, Obj.cells (Value.cells (uv (pl A B))) 24 (0, 0)), (b7, Obj.cells (Value.cells (uv (ph A (sm B C)))) 24 (0, 0)), (b6, Obj.cells (Value.cells (uv (pl A (sm B C)))) 24 (0, 0)), (b5, Obj.cells (Value.cells (uv (sm B C))) 24 (0, 0)), (b4, Obj.cells (Value.cells (uv m)) 24 (0, 0)), (b3, Obj.cells (Value.cells (uv C)) 24 (0, 0)), (b2, Obj.cells (Value.cells (uv B)) 24 (0, 0)), (b1, Obj.cells (Value.cells (uv A)) 24 (0, 0))] 24 (.tmp 20) (.tmp 101) b14 (0) (Value.cells (uv (ph A B))) (Value.cells (uv (ph ((A + big * 0) % m) ((B + big * 0) % m)))) 24 (uv (ph ((A + big * 0) % m) ((B + big * 0) % m))) (by kernel_rfl) (by kernel_rfl) (by kernel_rfl) (by kernel_rfl) (by kernel_rfl) (by kernel_rfl) (of_decide_eq_true (by kernel_rfl)) (by kernel_rfl) (by kernel_rfl) ?_
  intro w43 H43; clear H42
  refine s_nil ?_
  refine g_sreg [0, 1, 2, 3, 4, 5, 6, 7, 8, 9] (by kernel_rfl) (by kernel_rfl) ?_
  refine s_load H43 (some 103) 24 (.tmp 19) 4 b13 (Value.cells (uv (pl ((A + big * 0) % m) ((B + big * 0) % m)))) 24 (0, 0) (by kernel_rfl) (by kernel_rfl) (by kernel_rfl) (by kernel_rfl) (by kernel_rfl) ?_
  refine s_load H43 (some 104) 24 (.tmp 20) 3 b14 (Value.cells (uv (ph ((A + big * 0) % m) ((B + big * 0) % m)))) 24 (0, 0) (by kernel_rfl) (by kernel_rfl) (by kernel_rfl) (by kernel_rfl) (by kernel_rfl) ?_
  refine s_load H43 (some 105) 24 (.tmp 7) 13 b4 (Value.cells (uv m)) 24 (0, 0) (by kernel_rfl) (by kernel_rfl) (by kernel_rfl) (by kernel_rfl) (by kernel_rfl) ?_
  refine s_call H43 (some 106) 7 #[uv (pl ((A + big * 0) % m) ((B + big * 0) % m)), uv (ph ((A + big * 0) % m) ((B + big * 0) % m)), uv m] (.tuple #[uv (((pl ((A + big * 0) % m) ((B + big * 0) % m)) + big * (ph ((A + big * 0) % m) ((B + big * 0) % m))) % m), .int .i64 0]) (mod_fn (pl ((A + big * 0) % m) ((B + big * 0) % m)) (ph ((A + big * 0) % m) ((B + big * 0) % m)) m (pl_lt2 _ _) (ph_lt2 (Nat.lt_trans (Nat.mod_lt _ (by omega)) (by omega)) (Nat.lt_trans (Nat.mod_lt _ (by omega)) (by omega))) hm h0) (fun w => by kernel_rfl) (by kernel_rfl) ?_
  intro w44 H44; clear H43
  refine s_val (some 102) (.tuple #[uv (((pl ((A + big * 0) % m) ((B + big * 0) % m)) + big * (ph ((A + big * 0) % m) ((B + big * 0) % m))) % m), .int .i64 0]) (fun w => by kernel_rfl) (by kernel_rfl) ?_
  refine s_val (some 107) (uv (((pl ((A + big * 0) % m) ((B + big * 0) % m)) + big * (ph ((A + big * 0) % m) ((B + big * 0) % m))) % m)) (fun w => by kernel_rfl) (by kernel_rfl) ?_
  refine s_val (some 108) (.int .i64 0) (fun w => by kernel_rfl) (by kernel_rfl) ?_
  refine s_alloc H44 (some 27) 24 (.agg #[.int .u64 0, .int .u64 0, .int .u64 0, .int .u64 0]) (by kernel_rfl) (by kernel_rfl) (by kernel_rfl) ?_
  intro b18 w45 H45; clear H44
  refine s_store H45 0 [(b18, Obj.cells (Value.cells (uv (((pl ((A + big * 0) % m) ((B + big * 0) % m)) + big * (ph ((A + big * 0) % m) ((B + big * 0) % m))) % m))) 24 (0, 0)), (b17, Obj.cells (Value.cells (uv ((B + big * 0) % m))) 24 (0, 0)), (b16, Obj.cells (Value.cells (uv ((A + big * 0) % m))) 24 (0, 0)), (b15, Obj.cells (Value.cells (uv (((pl A B) + big * (ph A B)) % m))) 24 (0, 0)), (b14, Obj.cells (Value.cells (uv (ph ((A + big * 0) % m) ((B + big * 0) % m)))) 24 (0, 0)), (b13, Obj.cells (Value.cells (uv (pl ((A + big * 0) % m) ((B + big * 0) % m)))) 24 (0, 0)), (b12, Obj.cells (Value.cells (uv (sm (pl A B) (pl A C)))) 24 (0, 0)), (b11, Obj.cells (Value.cells (uv (ph A C))) 24 (0, 0)), (b10, Obj.cells (Value.cells (uv (pl A C))) 24 (0, 0)), (b9, Obj.cells (Value.cells (uv (ph A B))) 24 (0, 0)), (b8, Obj.cells (Value.cells (uv (pl A B))) 24 (0, 0)), (b7, Obj.cells (Value.cells (uv (ph A (sm B C)))) 24 (0, 0)), (b6, Obj.cells (Value.cells (uv (pl A (sm B C)))) 24 (0, 0)), (b5, Obj.cells (Value.cells (uv (sm B C))) 24 (0, 0)), (b4, Obj.cells (Value.cells (uv m)) 24 (0, 0)), (b3, Obj.cells (Value.cells (uv C)) 24 (0, 0)), (b2, Obj.cells (Value.cells (uv B)) 24 (0, 0)), (b1, Obj.cells (Value.cells (uv A)) 24 (0, 0))] 24 (.tmp 27) (.tmp 107) b18 (0) #[.int .u64 0, .int .u64 0, .int .u64 0, .int .u64 0] (Value.cells (uv (((pl ((A + big * 0) % m) ((B + big * 0) % m)) + big * (ph ((A + big * 0) % m) ((B + big * 0) % m))) % m))) 24 (uv (((pl ((A + big * 0) % m) ((B + big * 0) % m)) + big * (ph ((A + big * 0) % m) ((B + big * 0) % m))) % m)) (by kernel_rfl) (by kernel_rfl) (by kernel_rfl) (by kernel_rfl) (by kernel_rfl) (by kernel_rfl) (of_decide_eq_true (by kernel_rfl)) (by kernel_rfl) (by kernel_rfl) ?_
  intro w46 H46; clear H45
  refine s_val (some 28) (.int .i64 0) (fun w => by kernel_rfl) (by kernel_rfl) ?_
  refine s_nil ?_
  refine g_sreg [0, 1, 2, 3, 4, 5, 6, 7, 8, 9, 10, 11, 12, 13, 14, 15, 16, 17, 18, 19] (by kernel_rfl) (by kernel_rfl) ?_
  refine s_val (some 109) (.int .i64 0) (fun w => by kernel_rfl) (by kernel_rfl) ?_
  refine s_val (some 110) (.bool true) (fun w => by kernel_rfl) (by kernel_rfl) ?_
  refine s_val (some 111) (.bool true) (fun w => by kernel_rfl) (by kernel_rfl) ?_
  refine s_val (some 112) (.int .i64 0) (fun w => by kernel_rfl) (by kernel_rfl) ?_
  refine s_val (some 113) (.bool true) (fun w => by kernel_rfl) (by kernel_rfl) ?_
  refine s_val (some 114) (.bool true) (fun w => by kernel_rfl) (by kernel_rfl) ?_
  refine s_val (some 115) (.bool true) (fun w => by kernel_rfl) (by kernel_rfl) ?_
  refine s_val (some 116) (.int .i64 0) (fun w => by kernel_rfl) (by kernel_rfl) ?_
  refine s_val (some 117) (.bool true) (fun w => by kernel_rfl) (by kernel_rfl) ?_
  refine s_val (some 118) (.bool true) (fun w => by kernel_rfl) (by kernel_rfl) ?_
  refine s_val (some 119) (.bool true) (fun w => by kernel_rfl) (by kernel_rfl) ?_
  refine s_val (some 120) (.int .i64 0) (fun w => by kernel_rfl) (by kernel_rfl) ?_
  refine s_val (some 121) (.bool true) (fun w => by kernel_rfl) (by kernel_rfl) ?_
  refine s_val (some 122) (.bool true) (fun w => by kernel_rfl) (by kernel_rfl) ?_
  refine s_val (some 123) (.bool true) (fun w => by kernel_rfl) (by kernel_rfl) ?_
  refine s_load H46 (some 124) 24 (.tmp 21) 3 b15 (Value.cells (uv (((pl A B) + big * (ph A B)) % m))) 24 (0, 0) (by kernel_rfl) (by kernel_rfl) (by kernel_rfl) (by kernel_rfl) (by kernel_rfl) ?_
  refine s_load H46 (some 125) 24 (.tmp 27) 0 b18 (Value.cells (uv (((pl ((A + big * 0) % m) ((B + big * 0) % m)) + big * (ph ((A + big * 0) % m) ((B + big * 0) % m))) % m))) 24 (0, 0) (by kernel_rfl) (by kernel_rfl) (by kernel_rfl) (by kernel_rfl) (by kernel_rfl) ?_
  refine s_opE (some 126) _ (.bool (decide ((((pl A B) + big * (ph A B)) % m) = (((pl ((A + big * 0) % m) ((B + big * 0) % m)) + big * (ph ((A + big * 0) % m) ((B + big * 0) % m))) % m)))) (.bool true) (by kernel_rfl) (fun o w ho => eqU_run (x := (.tmp 124)) (y := (.tmp 125)) (((pl A B) + big * (ph A B)) % m) (((pl ((A + big * 0) % m) ((B + big * 0) % m)) + big * (ph ((A + big * 0) % m) ((B + big * 0) % m))) % m) (Nat.lt_trans (Nat.mod_lt _ (by omega)) (by omega)) (Nat.lt_trans (Nat.mod_lt _ (by omega)) (by omega)) w ho (by kernel_rfl) (by kernel_rfl)) (by rw [decide_eq_true (share_mod A B m)] <;> rfl) (by kernel_rfl) ?_
  refine s_val (some 127) (.bool true) (fun w => by kernel_rfl) (by kernel_rfl) ?_
  refine s_val (some 8) (.bool true) (fun w => by kernel_rfl) (by kernel_rfl) ?_
  refine s_nil ?_
  refine g_ret (by kernel_rfl) ?_
  show ∃ vs, Res _ _ _ _ vs ∧ _
  refine ⟨[.bool true], (.tmp (.bool true) (by kernel_rfl) .nil), ?_, H46.below⟩
  rfl

theorem shares_walk (a : Nat) (ha : a < big) (b : Nat) (hb : b < big) (c : Nat) (hc : c < big) (m : Nat) (hm : m < big) (w : World) : Calls Try.prog 5 #[uv a, uv b, uv c, uv m] w fun e w' => e = .returned (.bool true) ∧ Below w.heap.size w w' := by
  by_cases h0 : m = 0
  · subst h0; exact shares0_fn a b c ha hb hc w
  · exact shares_fn a b c m ha hb hc hm h0 w
end Go.Proofs.Ythomanpefekaaaa
