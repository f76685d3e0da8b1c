/-  SHRUNK
  All rounds of Keccak.
-/
import Derived.Test.YtddhadddpllbcaaDoorProg
import Derived.Test.YtddhadddpllbcaaDoorStr
import Derived.Test.YtddhadddpllbcaaDoorKecM
import Derived.Test.YtddhadddpllbcaaDoorKecR
namespace Go.Proofs.YtddhadddpllbcaaDoor
open Go Go.RowKit Go.Proofs.Kec
set_option linter.unusedVariables false
def marksC : Array Value := #[.int .u64 1, .int .u64 32898, .int .u64 9223372036854808714, .int .u64 9223372039002292224, .int .u64 32907, .int .u64 2147483649, .int .u64 9223372039002292353, .int .u64 9223372036854808585, .int .u64 138, .int .u64 136, .int .u64 2147516425, .int .u64 2147483658, .int .u64 2147516555, .int .u64 9223372036854775947, .int .u64 9223372036854808713, .int .u64 9223372036854808579, .int .u64 9223372036854808578, .int .u64 9223372036854775936, .int .u64 32778, .int .u64 9223372039002259466, .int .u64 9223372039002292353, .int .u64 9223372036854808704, .int .u64 2147483649, .int .u64 9223372039002292232]
def Marks (w : World) : Prop := ∃ T fz, w.heap[0]? = some (.cells marksC T fz)

theorem nth_rmS (s : List (BitVec 64)) (m : BitVec 64) (k : Nat) : nth (rm s m) (k + 1) = nth (rnd s) (k + 1) := by
  unfold rm markX nth; simp
theorem svn_rm (s : List (BitVec 64)) (m : BitVec 64) : ((Value.cells (svn (rnd s))).toList.take 0 ++ (Value.cells (wv (nth (rnd s) 0 ^^^ m))).toList ++ (Value.cells (svn (rnd s))).toList.drop (0 + 1)).toArray = Value.cells (svn (rm s m)) := by
  have e1 : nth (rm s m) 1 = nth (rnd s) 1 := nth_rmS s m 0
  have e2 : nth (rm s m) 2 = nth (rnd s) 2 := nth_rmS s m 1
  have e3 : nth (rm s m) 3 = nth (rnd s) 3 := nth_rmS s m 2
  have e4 : nth (rm s m) 4 = nth (rnd s) 4 := nth_rmS s m 3
  have e5 : nth (rm s m) 5 = nth (rnd s) 5 := nth_rmS s m 4
  have e6 : nth (rm s m) 6 = nth (rnd s) 6 := nth_rmS s m 5
  have e7 : nth (rm s m) 7 = nth (rnd s) 7 := nth_rmS s m 6
  have e8 : nth (rm s m) 8 = nth (rnd s) 8 := nth_rmS s m 7
  have e9 : nth (rm s m) 9 = nth (rnd s) 9 := nth_rmS s m 8
  have e10 : nth (rm s m) 10 = nth (rnd s) 10 := nth_rmS s m 9
  have e11 : nth (rm s m) 11 = nth (rnd s) 11 := nth_rmS s m 10
  have e12 : nth (rm s m) 12 = nth (rnd s) 12 := nth_rmS s m 11
  have e13 : nth (rm s m) 13 = nth (rnd s) 13 := nth_rmS s m 12
  have e14 : nth (rm s m) 14 = nth (rnd s) 14 := nth_rmS s m 13
  have e15 : nth (rm s m) 15 = nth (rnd s) 15 := nth_rmS s m 14
  have e16 : nth (rm s m) 16 = nth (rnd s) 16 := nth_rmS s m 15
  have e17 : nth (rm s m) 17 = nth (rnd s) 17 := nth_rmS s m 16
  have e18 : nth (rm s m) 18 = nth (rnd s) 18 := nth_rmS s m 17
  have e19 : nth (rm s m) 19 = nth (rnd s) 19 := nth_rmS s m 18
  have e20 : nth (rm s m) 20 = nth (rnd s) 20 := nth_rmS s m 19
  have e21 : nth (rm s m) 21 = nth (rnd s) 21 := nth_rmS s m 20
  have e22 : nth (rm s m) 22 = nth (rnd s) 22 := nth_rmS s m 21
  have e23 : nth (rm s m) 23 = nth (rnd s) 23 := nth_rmS s m 22
  have e24 : nth (rm s m) 24 = nth (rnd s) 24 := nth_rmS s m 23
  have e0 : nth (rm s m) 0 = nth (rnd s) 0 ^^^ m := rfl
  unfold svn
  rw [e0, e1, e2, e3, e4, e5, e6, e7, e8, e9, e10, e11, e12, e13, e14, e15, e16, e17, e18, e19, e20, e21, e22, e23, e24]; rfl

abbrev mS1 (s : List (BitVec 64)) : List (BitVec 64) := rm s (1 : BitVec 64)
abbrev mS2 (s : List (BitVec 64)) : List (BitVec 64) := rm (mS1 s) (32898 : BitVec 64)
abbrev mS3 (s : List (BitVec 64)) : List (BitVec 64) := rm (mS2 s) (9223372036854808714 : BitVec 64)
abbrev mS4 (s : List (BitVec 64)) : List (BitVec 64) := rm (mS3 s) (9223372039002292224 : BitVec 64)
abbrev mS5 (s : List (BitVec 64)) : List (BitVec 64) := rm (mS4 s) (32907 : BitVec 64)
abbrev mS6 (s : List (BitVec 64)) : List (BitVec 64) := rm (mS5 s) (2147483649 : BitVec 64)
abbrev mS7 (s : List (BitVec 64)) : List (BitVec 64) := rm (mS6 s) (9223372039002292353 : BitVec 64)
abbrev mS8 (s : List (BitVec 64)) : List (BitVec 64) := rm (mS7 s) (9223372036854808585 : BitVec 64)
abbrev mS9 (s : List (BitVec 64)) : List (BitVec 64) := rm (mS8 s) (138 : BitVec 64)
abbrev mS10 (s : List (BitVec 64)) : List (BitVec 64) := rm (mS9 s) (136 : BitVec 64)
abbrev mS11 (s : List (BitVec 64)) : List (BitVec 64) := rm (mS10 s) (2147516425 : BitVec 64)
abbrev mS12 (s : List (BitVec 64)) : List (BitVec 64) := rm (mS11 s) (2147483658 : BitVec 64)
abbrev mS13 (s : List (BitVec 64)) : List (BitVec 64) := rm (mS12 s) (2147516555 : BitVec 64)
abbrev mS14 (s : List (BitVec 64)) : List (BitVec 64) := rm (mS13 s) (9223372036854775947 : BitVec 64)
abbrev mS15 (s : List (BitVec 64)) : List (BitVec 64) := rm (mS14 s) (9223372036854808713 : BitVec 64)
abbrev mS16 (s : List (BitVec 64)) : List (BitVec 64) := rm (mS15 s) (9223372036854808579 : BitVec 64)
abbrev mS17 (s : List (BitVec 64)) : List (BitVec 64) := rm (mS16 s) (9223372036854808578 : BitVec 64)
abbrev mS18 (s : List (BitVec 64)) : List (BitVec 64) := rm (mS17 s) (9223372036854775936 : BitVec 64)
abbrev mS19 (s : List (BitVec 64)) : List (BitVec 64) := rm (mS18 s) (32778 : BitVec 64)
abbrev mS20 (s : List (BitVec 64)) : List (BitVec 64) := rm (mS19 s) (9223372039002259466 : BitVec 64)
abbrev mS21 (s : List (BitVec 64)) : List (BitVec 64) := rm (mS20 s) (9223372039002292353 : BitVec 64)
abbrev mS22 (s : List (BitVec 64)) : List (BitVec 64) := rm (mS21 s) (9223372036854808704 : BitVec 64)
abbrev mS23 (s : List (BitVec 64)) : List (BitVec 64) := rm (mS22 s) (2147483649 : BitVec 64)
abbrev mS24 (s : List (BitVec 64)) : List (BitVec 64) := rm (mS23 s) (9223372039002292232 : BitVec 64)
set_option maxRecDepth 100000 in
set_option maxHeartbeats 2000000 in
theorem mix_fnT (s : List (BitVec 64)) (T : TypeId) (fz : Nat × Nat) : FnP Tryd.prog 10 #[svn s] (fun w => w.heap[0]? = some (.cells marksC T fz)) (svn (mix s)) := by
  refine FnP.intro (c := codeOf Tryd.f10) [.cell 2 26] 18 Tryd.func10 (by kernel_rfl) (by kernel_rfl) (by kernel_rfl) fun w hpre => ?_
  have H0 := St.start w
  refine g_sreg [0, 1] (by kernel_rfl) (by kernel_rfl) ?_
  refine s_box H0 (some 1) 26 (.tmp 0) (svn s) (by kernel_rfl) (by kernel_rfl) (by kernel_rfl) ?_
  intro b1 w1 H1; clear H0
  refine s_alloc H1 (some 2) 26 (.agg Z25) (by kernel_rfl) (by kernel_rfl) (by kernel_rfl) ?_
  intro b2 w2 H2; clear H1
  refine s_nil ?_
  refine g_seq (by kernel_rfl) ?_
  refine g_sreg [0, 1] (by kernel_rfl) (by kernel_rfl) ?_
  refine s_loadF H2 (some 5) 35 (.global 0) 0 (Value.cells (.agg marksC)) T fz (by kernel_rfl) (by kernel_rfl) (by kernel_rfl) hpre (lt_of_heap hpre) (by kernel_rfl) ?_
  refine s_val (some 6) (.int .i64 0) (fun w => by kernel_rfl) (by kernel_rfl) ?_
  refine s_nil ?_
  refine g_block 0 (by kernel_rfl) ?_
  refine g_first (by kernel_rfl) ?_
  refine g_sreg [0] (by kernel_rfl) (by kernel_rfl) ?_
  refine s_val (some 7) (.bool true) (fun w => by kernel_rfl) (by kernel_rfl) ?_
  refine s_nil ?_
  refine g_seq (by kernel_rfl) ?_
  refine g_cond_t (by kernel_rfl) (by kernel_rfl) ?_
  refine g_skip (by kernel_rfl) ?_
  show WP _ _ _ _ _ _
  refine g_seq (by kernel_rfl) ?_
  refine g_block 1 (by kernel_rfl) ?_
  refine g_sreg [0, 1] (by kernel_rfl) (by kernel_rfl) ?_
  refine s_val (some 8) (.int .u64 1) (fun w => by kernel_rfl) (by kernel_rfl) ?_
  refine s_val (some 4) (.int .u64 1) (fun w => by kernel_rfl) (by kernel_rfl) ?_
  refine s_nil ?_
  refine g_sreg [0, 1, 2] (by kernel_rfl) (by kernel_rfl) ?_
  refine s_load H2 (some 9) 26 (.tmp 1) 1 b1 (Value.cells (svn s)) 26 (0, 0) (by kernel_rfl) (by kernel_rfl) (by kernel_rfl) (by kernel_rfl) (by kernel_rfl) ?_
  refine s_call H2 (some 10) 14 #[svn s] (svn (rnd s)) (round_fn s) (fun w => by kernel_rfl) (by kernel_rfl) ?_
  intro w3 H3; clear H2
  refine s_store H3 1 [(b2, Obj.cells Z25 26 (0, 0)), (b1, Obj.cells (Value.cells (svn (rnd s))) 26 (0, 0))] 26 (.tmp 1) (.tmp 10) b1 (0) (Value.cells (svn s)) (Value.cells (svn (rnd s))) 26 (svn (rnd s)) (by kernel_rfl) (by kernel_rfl) (by kernel_rfl) (by kernel_rfl) (by kernel_rfl) (by kernel_rfl) (of_decide_eq_true (by kernel_rfl)) (by kernel_rfl) (by kernel_rfl) ?_
  intro w4 H4; clear H3
  refine s_nil ?_
  refine g_reg0 [0, 1, 2, 3, 4, 5] (by kernel_rfl) ?_
  refine s_val (some 11) (.pointer (some ⟨b1, 0, none⟩)) (fun w => by kernel_rfl) (by kernel_rfl) ?_
  refine s_load1 H4 (some 12) 25 (.tmp 11) 1 b1 0 (Value.cells (svn (rnd s))) 26 (0, 0) (wv (nth (rnd s) 0)) (by kernel_rfl) (by kernel_rfl) (by kernel_rfl) (by kernel_rfl) (by kernel_rfl) (by kernel_rfl) ?_
  refine s_val (some 13) (.int .u64 1) (fun w => by kernel_rfl) (by kernel_rfl) ?_
  refine s_valE (some 14) (.int .u64 (Go.bits .xor .u64 (((BitVec.toNat (nth (rnd s) 0) : Nat) : Int)) (1))) (wv ((nth (rnd s) 0) ^^^ (1 : BitVec 64))) (fun w => by kernel_rfl) (bv_xor_u64 (nth (rnd s) 0) (1 : BitVec 64)) (by kernel_rfl) ?_
  refine s_val (some 15) (.pointer (some ⟨b1, 0, none⟩)) (fun w => by kernel_rfl) (by kernel_rfl) ?_
  refine s_store H4 1 [(b2, Obj.cells Z25 26 (0, 0)), (b1, Obj.cells (Value.cells (svn (mS1 s))) 26 (0, 0))] 25 (.tmp 15) (.tmp 14) b1 (0) (Value.cells (svn (rnd s))) (Value.cells (svn (mS1 s))) 26 (wv ((nth (rnd s) 0) ^^^ (1 : BitVec 64))) (by kernel_rfl) (by kernel_rfl) (by kernel_rfl) (by kernel_rfl) (by kernel_rfl) (by kernel_rfl) (of_decide_eq_true (by kernel_rfl)) (svn_rm s (1 : BitVec 64)) (by kernel_rfl) ?_
  intro w5 H5; clear H4
  refine s_nil ?_
  show WP _ _ _ _ _ _
  refine g_reg0 [0, 1] (by kernel_rfl) ?_
  refine s_val (some 16) (.int .i64 1) (fun w => by kernel_rfl) (by kernel_rfl) ?_
  refine s_val (some 6) (.int .i64 1) (fun w => by kernel_rfl) (by kernel_rfl) ?_
  refine s_nil ?_
  show WPL _ _ _ _ _ _
  refine g_next ?_
  refine g_sreg [0] (by kernel_rfl) (by kernel_rfl) ?_
  refine s_val (some 7) (.bool true) (fun w => by kernel_rfl) (by kernel_rfl) ?_
  refine s_nil ?_
  refine g_seq (by kernel_rfl) ?_
  refine g_cond_t (by kernel_rfl) (by kernel_rfl) ?_
  refine g_skip (by kernel_rfl) ?_
  show WP _ _ _ _ _ _
  refine g_seq (by kernel_rfl) ?_
  refine g_block 1 (by kernel_rfl) ?_
  refine g_sreg [0, 1] (by kernel_rfl) (by kernel_rfl) ?_
  refine s_val (some 8) (.int .u64 32898) (fun w => by kernel_rfl) (by kernel_rfl) ?_
  refine s_val (some 4) (.int .u64 32898) (fun w => by kernel_rfl) (by kernel_rfl) ?_
  refine s_nil ?_
  refine g_sreg [0, 1, 2] (by kernel_rfl) (by kernel_rfl) ?_
  refine s_load H5 (some 9) 26 (.tmp 1) 1 b1 (Value.cells (svn (mS1 s))) 26 (0, 0) (by kernel_rfl) (by kernel_rfl) (by kernel_rfl) (by kernel_rfl) (by kernel_rfl) ?_
  refine s_call H5 (some 10) 14 #[svn (mS1 s)] (svn (rnd (mS1 s))) (round_fn (mS1 s)) (fun w => by kernel_rfl) (by kernel_rfl) ?_
  intro w6 H6; clear H5
  refine s_store H6 1 [(b2, Obj.cells Z25 26 (0, 0)), (b1, Obj.cells (Value.cells (svn (rnd (mS1 s)))) 26 (0, 0))] 26 (.tmp 1) (.tmp 10) b1 (0) (Value.cells (svn (mS1 s))) (Value.cells (svn (rnd (mS1 s)))) 26 (svn (rnd (mS1 s))) (by kernel_rfl) (by kernel_rfl) (by kernel_rfl) (by kernel_rfl) (by kernel_rfl) (by kernel_rfl) (of_decide_eq_true (by kernel_rfl)) (by kernel_rfl) (by kernel_rfl) ?_
  intro w7 H7; clear H6
  refine s_nil ?_
  refine g_reg0 [0, 1, 2, 3, 4, 5] (by kernel_rfl) ?_
  refine s_val (some 11) (.pointer (some ⟨b1, 0, none⟩)) (fun w => by kernel_rfl) (by kernel_rfl) ?_
  refine s_load1 H7 (some 12) 25 (.tmp 11) 1 b1 0 (Value.cells (svn (rnd (mS1 s)))) 26 (0, 0) (wv (nth (rnd (mS1 s)) 0)) (by kernel_rfl) (by kernel_rfl) (by kernel_rfl) (by kernel_rfl) (by kernel_rfl) (by kernel_rfl) ?_
  refine s_val (some 13) (.int .u64 32898) (fun w => by kernel_rfl) (by kernel_rfl) ?_
  refine s_valE (some 14) (.int .u64 (Go.bits .xor .u64 (((BitVec.toNat (nth (rnd (mS1 s)) 0) : Nat) : Int)) (32898))) (wv ((nth (rnd (mS1 s)) 0) ^^^ (32898 : BitVec 64))) (fun w => by kernel_rfl) (bv_xor_u64 (nth (rnd (mS1 s)) 0) (32898 : BitVec 64)) (by kernel_rfl) ?_
  refine s_val (some 15) (.pointer (some ⟨b1, 0, none⟩)) (fun w => by kernel_rfl) (by kernel_rfl) ?_
  refine s_store H7 1 [(b2, Obj.cells Z25 26 (0, 0)), (b1, Obj.cells (Value.cells (svn (mS2 s))) 26 (0, 0))] 25 (.tmp 15) (.tmp 14) b1 (0) (Value.cells (svn (rnd (mS1 s)))) (Value.cells (svn (mS2 s))) 26 (wv ((nth (rnd (mS1 s)) 0) ^^^ (32898 : BitVec 64))) (by kernel_rfl) (by kernel_rfl) (by kernel_rfl) (by kernel_rfl) (by kernel_rfl) (by kernel_rfl) (of_decide_eq_true (by kernel_rfl)) (svn_rm (mS1 s) (32898 : BitVec 64)) (by kernel_rfl) ?_
  intro w8 H8; clear H7
  refine s_nil ?_
  show WP _ _ _ _ _ _
  refine g_reg0 [0, 1] (by kernel_rfl) ?_
  refine s_val (some 16) (.int .i64 2) (fun w => by kernel_rfl) (by kernel_rfl) ?_
  refine s_val (some 6) (.int .i64 2) (fun w => by kernel_rfl) (by kernel_rfl) ?_
  refine s_nil ?_
  show WPL _ _ _ _ _ _
  refine g_next ?_
  refine g_sreg [0] (by kernel_rfl) (by kernel_rfl) ?_
  refine s_val (some 7) (.bool true) (fun w => by kernel_rfl) (by kernel_rfl) ?_
  refine s_nil ?_
  refine g_seq (by kernel_rfl) ?_
  refine g_cond_t (by kernel_rfl) (by kernel_rfl) ?_
  refine g_skip (by kernel_rfl) ?_
  show WP _ _ _ _ _ _
  refine g_seq (by kernel_rfl) ?_
  refine g_block 1 (by kernel_rfl) ?_
  refine g_sreg [0, 1] (by kernel_rfl) (by kernel_rfl) ?_
  refine s_val (some 8) (.int .u64 9223372036854808714) (fun w => by kernel_rfl) (by kernel_rfl) ?_
  refine s_val (some 4) (.int .u64 9223372036854808714) (fun w => by kernel_rfl) (by kernel_rfl) ?_
  refine s_nil ?_
  refine g_sreg [0, 1, 2] (by kernel_rfl) (by kernel_rfl) ?_
  refine s_load H8 (some 9) 26 (.tmp 1) 1 b1 (Value.cells (svn (mS2 s))) 26 (0, 0) (by kernel_rfl) (by kernel_rfl) (by kernel_rfl) (by kernel_rfl) (by kernel_rfl) ?_
  refine s_call H8 (some 10) 14 #[svn (mS2 s)] (svn (rnd (mS2 s))) (round_fn (mS2 s)) (fun w => by kernel_rfl) (by kernel_rfl) ?_
  intro w9 H9; clear H8
  refine s_store H9 1 [(b2, Obj.cells Z25 26 (0, 0)), (b1, Obj.cells (Value.cells (svn (rnd (mS2 s)))) 26 (0, 0))] 26 (.tmp 1) (.tmp 10) b1 (0) (Value.cells (svn (mS2 s))) (Value.cells (svn (rnd (mS2 s)))) 26 (svn (rnd (mS2 s))) (by kernel_rfl) (by kernel_rfl) (by kernel_rfl) (by kernel_rfl) (by kernel_rfl) (by kernel_rfl) (of_decide_eq_true (by kernel_rfl)) (by kernel_rfl) (by kernel_rfl) ?_
  intro w10 H10; clear H9
  refine s_nil ?_
  refine g_reg0 [0, 1, 2, 3, 4, 5] (by kernel_rfl) ?_
  refine s_val (some 11) (.pointer (some ⟨b1, 0, none⟩)) (fun w => by kernel_rfl) (by kernel_rfl) ?_
  refine s_load1 H10 (some 12) 25 (.tmp 11) 1 b1 0 (Value.cells (svn (rnd (mS2 s)))) 26 (0, 0) (wv (nth (rnd (mS2 s)) 0)) (by kernel_rfl) (by kernel_rfl) (by kernel_rfl) (by kernel_rfl) (by kernel_rfl) (by kernel_rfl) ?_
  refine s_val (some 13) (.int .u64 9223372036854808714) (fun w => by kernel_rfl) (by kernel_rfl) ?_
  refine s_valE (some 14) (.int .u64 (Go.bits .xor .u64 (((BitVec.toNat (nth (rnd (mS2 s)) 0) : Nat) : Int)) (9223372036854808714))) (.int .u64 ((BitVec.toNat ((nth (rnd (mS2 s)) 0) ^^^ (9223372036854808714 : BitVec 64)) : Nat) : Int)) (fun w => by kernel_rfl) (bv_xor_u64 (nth (rnd (mS2 s)) 0) (9223372036854808714 : BitVec 64)) (by kernel_rfl) ?_
  refine s_val (some 15) (.pointer (some ⟨b1, 0, none⟩)) (fun w => by kernel_rfl) (by kernel_rfl) ?_
  refine s_store H10 1 [(b2, Obj.cells Z25 26 (0, 0)), (b1, Obj.cells (Value.cells (svn (mS3 s))) 26 (0, 0))] 25 (.tmp 15) (.tmp 14) b1 (0) (Value.cells (svn (rnd (mS2 s)))) (Value.cells (svn (mS3 s))) 26 (.int .u64 ((BitVec.toNat ((nth (rnd (mS2 s)) 0) ^^^ (9223372036854808714 : BitVec 64)) : Nat) : Int)) (by kernel_rfl) (by kernel_rfl) (by kernel_rfl) (by kernel_rfl) (by kernel_rfl) (by kernel_rfl) (of_decide_eq_true (by kernel_rfl)) (svn_rm (mS2 s) (9223372036854808714 : BitVec 64)) (by kernel_rfl) ?_
  intro w11 H11; clear H10
  refine s_nil ?_
  show WP _ _ _ _ _ _
  refine g_reg0 [0, 1] (by kernel_rfl) ?_
  refine s_val (some 16) (.int .i64 3) (fun w => by kernel_rfl) (by kernel_rfl) ?_
  refine s_val (some 6) (.int .i64 3) (fun w => by kernel_rfl) (by kernel_rfl) ?_
  refine s_nil ?_
  show WPL _ _ _ _ _ _
  refine g_next ?_
  refine g_sreg [0] (by kernel_rfl) (by kernel_rfl) ?_
  refine s_val (some 7) (.bool true) (fun w => by kernel_rfl) (by kernel_rfl) ?_
  refine s_nil ?_
  refine g_seq (by kernel_rfl) ?_
  refine g_cond_t (by kernel_rfl) (by kernel_rfl) ?_
  refine g_skip (by kernel_rfl) ?_
  show WP _ _ _ _ _ _
  refine g_seq (by kernel_rfl) ?_
  refine g_block 1 (by kernel_rfl) ?_
  refine g_sreg [0, 1] (by kernel_rfl) (by kernel_rfl) ?_
  refine s_val (some 8) (.int .u64 9223372039002292224) (fun w => by kernel_rfl) (by kernel_rfl) ?_
  refine s_val (some 4) (.int .u64 9223372039002292224) (fun w => by kernel_rfl) (by kernel_rfl) ?_
  refine s_nil ?_
  refine g_sreg [0, 1, 2] (by kernel_rfl) (by kernel_rfl) ?_
  refine s_load H11 (some 9) 26 (.tmp 1) 1 b1 (Value.cells (svn (mS3 s))) 26 (0, 0) (by kernel_rfl) (by kernel_rfl) (by kernel_rfl) (by kernel_rfl) (by kernel_rfl) ?_
  refine s_call H11 (some 10) 14 #[svn (mS3 s)] (svn (rnd (mS3 s))) (round_fn (mS3 s)) (fun w => by kernel_rfl) (by kernel_rfl) ?_
  intro w12 H12; clear H11
  refine s_store H12 1 [(b2, Obj.cells Z25 26 (0, 0)), (b1, Obj.cells (Value.cells (svn (rnd (mS3 s)))) 26 (0, 0))] 26 (.tmp 1) (.tmp 10) b1 (0) (Value.cells (svn (mS3 s))) (Value.cells (svn (rnd (mS3 s)))) 26 (svn (rnd (mS3 s))) (by kernel_rfl) (by kernel_rfl) (by kernel_rfl) (by kernel_rfl) (by kernel_rfl) (by kernel_rfl) (of_decide_eq_true (by kernel_rfl)) (by kernel_rfl) (by kernel_rfl) ?_
  intro w13 H13; clear H12
  refine s_nil ?_
  refine g_reg0 [0, 1, 2, 3, 4, 5] (by kernel_rfl) ?_
  refine s_val (some 11) (.pointer (some ⟨b1, 0, none⟩)) (fun w => by kernel_rfl) (by kernel_rfl) ?_
  refine s_load1 H13 (some 12) 25 (.tmp 11) 1 b1 0 (Value.cells (svn (rnd (mS3 s)))) 26 (0, 0) (.int .u64 ((BitVec.toNat (nth (rnd (mS3 s)) 0) : Nat) : Int)) (by kernel_rfl) (by kernel_rfl) (by kernel_rfl) (by kernel_rfl) (by kernel_rfl) (by kernel_rfl) ?_
  refine s_val (some 13) (.int .u64 9223372039002292224) (fun w => by kernel_rfl) (by kernel_rfl) ?_
  refine s_valE (some 14) (.int .u64 (Go.bits .xor .u64 (((BitVec.toNat (nth (rnd (mS3 s)) 0) : Nat) : Int)) (9223372039002292224))) (.int .u64 ((BitVec.toNat ((nth (rnd (mS3 s)) 0) ^^^ (9223372039002292224 : BitVec 64)) : Nat) : Int)) (fun w => by kernel_rfl) (bv_xor_u64 (nth (rnd (mS3 s)) 0) (9223372039002292224 : BitVec 64)) (by kernel_rfl) ?_
  refine s_val (some 15) (.pointer (some ⟨b1, 0, none⟩)) (fun w => by kernel_rfl) (by kernel_rfl) ?_
  refine s_store H13 1 [(b2, Obj.cells Z25 26 (0, 0)), (b1, Obj.cells (Value.cells (svn (mS4 s))) 26 (0, 0))] 25 (.tmp 15) (.tmp 14) b1 (0) (Value.cells (svn (rnd (mS3 s)))) (Value.cells (svn (mS4 s))) 26 (.int .u64 ((BitVec.toNat ((nth (rnd (mS3 s)) 0) ^^^ (9223372039002292224 : BitVec 64)) : Nat) : Int)) (by kernel_rfl) (by kernel_rfl) (by kernel_rfl) (by kernel_rfl) (by kernel_rfl) (by kernel_rfl) (of_decide_eq_true (by kernel_rfl)) (svn_rm (mS3 s) (9223372039002292224 : BitVec 64)) (by kernel_rfl) ?_
  intro w14 H14; clear H13
  refine s_nil ?_
  show WP _ _ _ _ _ _
  refine g_reg0 [0, 1] (by kernel_rfl) ?_
  refine s_val (some 16) (.int .i64 4) (fun w => by kernel_rfl) (by kernel_rfl) ?_
  refine s_val (some 6) (.int .i64 4) (fun w => by kernel_rfl) (by kernel_rfl) ?_
  refine s_nil ?_
  show WPL _ _ _ _ _ _
  refine g_next ?_
  refine g_sreg [0] (by kernel_rfl) (by kernel_rfl) ?_
  refine s_val (some 7) (.bool true) (fun w => by kernel_rfl) (by kernel_rfl) ?_
  refine s_nil ?_
  refine g_seq (by kernel_rfl) ?_
  refine g_cond_t (by kernel_rfl) (by kernel_rfl) ?_
  refine g_skip (by kernel_rfl) ?_
  show WP _ _ _ _ _ _
  refine g_seq (by kernel_rfl) ?_
  refine g_block 1 (by kernel_rfl) ?_
  refine g_sreg [0, 1] (by kernel_rfl) (by kernel_rfl) ?_
  refine s_val (some 8) (.int .u64 32907) (fun w => by kernel_rfl) (by kernel_rfl) ?_
  refine s_val (some 4) (.int .u64 32907) (fun w => by kernel_rfl) (by kernel_rfl) ?_
  refine s_nil ?_
  refine g_sreg [0, 1, 2] (by kernel_rfl) (by kernel_rfl) ?_
  refine s_load H14 (some 9) 26 (.tmp 1) 1 b1 (Value.cells (svn (mS4 s))) 26 (0, 0) (by kernel_rfl) (by kernel_rfl) (by kernel_rfl) (by kernel_rfl) (by kernel_rfl) ?_
  refine s_call H14 (some 10) 14 #[svn (mS4 s)] (svn (rnd (mS4 s))) (round_fn (mS4 s)) (fun w => by kernel_rfl) (by kernel_rfl) ?_
  intro w15 H15; clear H14
  refine s_store H15 1 [(b2, Obj.cells Z25 26 (0, 0)), (b1, Obj.cells (Value.cells (svn (rnd (mS4 s)))) 26 (0, 0))] 26 (.tmp 1) (.tmp 10) b1 (0) (Value.cells (svn (mS4 s))) (Value.cells (svn (rnd (mS4 s)))) 26 (svn (rnd (mS4 s))) (by kernel_rfl) (by kernel_rfl) (by kernel_rfl) (by kernel_rfl) (by kernel_rfl) (by kernel_rfl) (of_decide_eq_true (by kernel_rfl)) (by kernel_rfl) (by kernel_rfl) ?_
  intro w16 H16; clear H15
  refine s_nil ?_
  refine g_reg0 [0, 1, 2, 3, 4, 5] (by kernel_rfl) ?_
  refine s_val (some 11) (.pointer (some ⟨b1, 0, none⟩)) (fun w => by kernel_rfl) (by kernel_rfl) ?_
  refine s_load1 H16 (some 12) 25 (.tmp 11) 1 b1 0 (Value.cells (svn (rnd (mS4 s)))) 26 (0, 0) (.int .u64 ((BitVec.toNat (nth (rnd (mS4 s)) 0) : Nat) : Int)) (by kernel_rfl) (by kernel_rfl) (by kernel_rfl) (by kernel_rfl) (by kernel_rfl) (by kernel_rfl) ?_
  refine s_val (some 13) (.int .u64 32907) (fun w => by kernel_rfl) (by kernel_rfl) ?_
  refine s_valE (some 14) (.int .u64 (Go.bits .xor .u64 (((BitVec.toNat (nth (rnd (mS4 s)) 0) : Nat) : Int)) (32907))) (.int .u64 ((BitVec.toNat ((nth (rnd (mS4 s)) 0) ^^^ (32907 : BitVec 64)) : Nat) : Int)) (fun w => by kernel_rfl) (bv_xor_u64 (nth (rnd (mS4 s)) 0) (32907 : BitVec 64)) (by kernel_rfl) ?_
  refine s_val (some 15) (.pointer (some ⟨b1, 0, none⟩)) (fun w => by kernel_rfl) (by kernel_rfl) ?_
  refine s_store H16 1 [(b2, Obj.cells Z25 26 (0, 0)), (b1, Obj.cells (Value.cells (svn (mS5 s))) 26 (0, 0))] 25 (.tmp 15) (.tmp 14) b1 (0) (Value.cells (svn (rnd (mS4 s)))) (Value.cells (svn (mS5 s))) 26 (.int .u64 ((BitVec.toNat ((nth (rnd (mS4 s)) 0) ^^^ (32907 : BitVec 64)) : Nat) : Int)) (by kernel_rfl) (by kernel_rfl) (by kernel_rfl) (by kernel_rfl) (by kernel_rfl) (by kernel_rfl) (of_decide_eq_true (by kernel_rfl)) (svn_rm (mS4 s) (32907 : BitVec 64)) (by kernel_rfl) ?_
  intro w17 H17; clear H16
  refine s_nil ?_
  show WP _ _ _ _ _ _
  refine g_reg0 [0, 1] (by kernel_rfl) ?_
  refine s_val (some 16) (.int .i64 5) (fun w => by kernel_rfl) (by kernel_rfl) ?_
  refine s_val (some 6) (.int .i64 5) (fun w => by kernel_rfl) (by kernel_rfl) ?_
  refine s_nil ?_
  show WPL _ _ _ _ _ _
  refine g_next ?_
  refine g_sreg [0] (by kernel_rfl) (by kernel_rfl) ?_
  refine s_val (some 7) (.bool true) (fun w => by kernel_rfl) (by kernel_rfl) ?_
  refine s_nil ?_
  refine g_seq (by kernel_rfl) ?_
  refine g_cond_t (by kernel_rfl) (by kernel_rfl) ?_
  refine g_skip (by kernel_rfl) ?_
  show WP _ _ _ _ _ _
  refine g_seq (by kernel_rfl) ?_
  refine g_block 1 (by kernel_rfl) ?_
  refine g_sreg [0, 1] (by kernel_rfl) (by kernel_rfl) ?_
  refine s_val (some 8) (.int .u64 2147483649) (fun w => by kernel_rfl) (by kernel_rfl) ?_
  refine s_val (some 4) (.int .u64 2147483649) (fun w => by kernel_rfl) (by kernel_rfl) ?_
  refine s_nil ?_
  refine g_sreg [0, 1, 2] (by kernel_rfl) (by kernel_rfl) ?_
  refine s_load H17 (some 9) 26 (.tmp 1) 1 b1 (Value.cells (svn (mS5 s))) 26 (0, 0) (by kernel_rfl) (by kernel_rfl) (by kernel_rfl) (by kernel_rfl) (by kernel_rfl) ?_
  refine s_call H17 (some 10) 14 #[svn (mS5 s)] (svn (rnd (mS5 s))) (round_fn (mS5 s)) (fun w => by kernel_rfl) (by kernel_rfl) ?_
  intro w18 H18; clear H17
  refine s_store H18 1 [(b2, Obj.cells Z25 26 (0, 0)), (b1, Obj.cells (Value.cells (svn (rnd (mS5 s)))) 26 (0, 0))] 26 (.tmp 1) (.tmp 10) b1 (0) (Value.cells (svn (mS5 s))) (Value.cells (svn (rnd (mS5 s)))) 26 (svn (rnd (mS5 s))) (by kernel_rfl) (by kernel_rfl) (by kernel_rfl) (by kernel_rfl) (by kernel_rfl) (by kernel_rfl) (of_decide_eq_true (by kernel_rfl)) (by kernel_rfl) (by kernel_rfl) ?_
  intro w19 H19; clear H18
  refine s_nil ?_
  refine g_reg0 [0, 1, 2, 3, 4, 5] (by kernel_rfl) ?_
  refine s_val (some 11) (.pointer (some ⟨b1, 0, none⟩)) (fun w => by kernel_rfl) (by kernel_rfl) ?_
  refine s_load1 H19 (some 12) 25 (.tmp 11) 1 b1 0 (Value.cells (svn (rnd (mS5 s)))) 26 (0, 0) (.int .u64 ((BitVec.toNat (nth (rnd (mS5 s)) 0) : Nat) : Int)) (by kernel_rfl) (by kernel_rfl) (by kernel_rfl) (by kernel_rfl) (by kernel_rfl) (by kernel_rfl) ?_
  refine s_val (some 13) (.int .u64 2147483649) (fun w => by kernel_rfl) (by kernel_rfl) ?_
  refine s_valE (some 14) (.int .u64 (Go.bits .xor .u64 (((BitVec.toNat (nth (rnd (mS5 s)) 0) : Nat) : Int)) (2147483649))) (.int .u64 ((BitVec.toNat ((nth (rnd (mS5 s)) 0) ^^^ (2147483649 : BitVec 64)) : Nat) : Int)) (fun w => by kernel_rfl) (bv_xor_u64 (nth (rnd (mS5 s)) 0) (2147483649 : BitVec 64)) (by kernel_rfl) ?_
  refine s_val (some 15) (.pointer (some ⟨b1, 0, none⟩)) (fun w => by kernel_rfl) (by kernel_rfl) ?_
  refine s_store H19 1 [(b2, Obj.cells Z25 26 (0, 0)), (b1, Obj.cells (Value.cells (svn (mS6 s))) 26 (0, 0))] 25 (.tmp 15) (.tmp 14) b1 (0) (Value.cells (svn (rnd (mS5 s)))) (Value.cells (svn (mS6 s))) 26 (.int .u64 ((BitVec.toNat ((nth (rnd (mS5 s)) 0) ^^^ (2147483649 : BitVec 64)) : Nat) : Int)) (by kernel_rfl) (by kernel_rfl) (by kernel_rfl) (by kernel_rfl) (by kernel_rfl) (by kernel_rfl) (of_decide_eq_true (by kernel_rfl)) (svn_rm (mS5 s) (2147483649 : BitVec 64)) (by kernel_rfl) ?_
  intro w20 H20; clear H19
  refine s_nil ?_
  show WP _ _ _ _ _ _
  refine g_reg0 [0, 1] (by kernel_rfl) ?_
  refine s_val (some 16) (.int .i64 6) (fun w => by kernel_rfl) (by kernel_rfl) ?_
  refine s_val (some 6) (.int .i64 6) (fun w => by kernel_rfl) (by kernel_rfl) ?_
  refine s_nil ?_
  show WPL _ _ _ _ _ _
  refine g_next ?_
  refine g_sreg [0] (by kernel_rfl) (by kernel_rfl) ?_
  refine s_val (some 7) (.bool true) (fun w => by kernel_rfl) (by kernel_rfl) ?_
  refine s_nil ?_
  refine g_seq (by kernel_rfl) ?_
  refine g_cond_t (by kernel_rfl) (by kernel_rfl) ?_
  refine g_skip (by kernel_rfl) ?_
  show WP _ _ _ _ _ _
  refine g_seq (by kernel_rfl) ?_
  refine g_block 1 (by kernel_rfl) ?_
  refine g_sreg [0, 1] (by kernel_rfl) (by kernel_rfl) ?_
  refine s_val (some 8) (.int .u64 9223372039002292353) (fun w => by kernel_rfl) (by kernel_rfl) ?_
  refine s_val (some 4) (.int .u64 9223372039002292353) (fun w => by kernel_rfl) (by kernel_rfl) ?_
  refine s_nil ?_
  refine g_sreg [0, 1, 2] (by kernel_rfl) (by kernel_rfl) ?_
  refine s_load H20 (some 9) 26 (.tmp 1) 1 b1 (Value.cells (svn (mS6 s))) 26 (0, 0) (by kernel_rfl) (by kernel_rfl) (by kernel_rfl) (by kernel_rfl) (by kernel_rfl) ?_
  refine s_call H20 (some 10) 14 #[svn (mS6 s)] (svn (rnd (mS6 s))) (round_fn (mS6 s)) (fun w => by kernel_rfl) (by kernel_rfl) ?_
  intro w21 H21; clear H20
  refine s_store H21 1 [(b2, Obj.cells Z25 26 (0, 0)), (b1, Obj.cells (Value.cells (svn (rnd (mS6 s)))) 26 (0, 0))] 26 (.tmp 1) (.tmp 10) b1 (0) (Value.cells (svn (mS6 s))) (Value.cells (svn (rnd (mS6 s)))) 26 (svn (rnd (mS6 s))) (by kernel_rfl) (by kernel_rfl) (by kernel_rfl) (by kernel_rfl) (by kernel_rfl) (by kernel_rfl) (of_decide_eq_true (by kernel_rfl)) (by kernel_rfl) (by kernel_rfl) ?_
  intro w22 H22; clear H21
  refine s_nil ?_
  refine g_reg0 [0, 1, 2, 3, 4, 5] (by kernel_rfl) ?_
  refine s_val (some 11) (.pointer (some ⟨b1, 0, none⟩)) (fun w => by kernel_rfl) (by kernel_rfl) ?_
  refine s_load1 H22 (some 12) 25 (.tmp 11) 1 b1 0 (Value.cells (svn (rnd (mS6 s)))) 26 (0, 0) (.int .u64 ((BitVec.toNat (nth (rnd (mS6 s)) 0) : Nat) : Int)) (by kernel_rfl) (by kernel_rfl) (by kernel_rfl) (by kernel_rfl) (by kernel_rfl) (by kernel_rfl) ?_
  refine s_val (some 13) (.int .u64 9223372039002292353) (fun w => by kernel_rfl) (by kernel_rfl) ?_
  refine s_valE (some 14) (.int .u64 (Go.bits .xor .u64 (((BitVec.toNat (nth (rnd (mS6 s)) 0) : Nat) : Int)) (9223372039002292353))) (.int .u64 ((BitVec.toNat ((nth (rnd (mS6 s)) 0) ^^^ (9223372039002292353 : BitVec 64)) : Nat) : Int)) (fun w => by kernel_rfl) (bv_xor_u64 (nth (rnd (mS6 s)) 0) (9223372039002292353 : BitVec 64)) (by kernel_rfl) ?_
  refine s_val (some 15) (.pointer (some ⟨b1, 0, none⟩)) (fun w => by kernel_rfl) (by kernel_rfl) ?_
  refine s_store H22 1 [(b2, Obj.cells Z25 26 (0, 0)), (b1, Obj.cells (Value.cells (svn (mS7 s))) 26 (0, 0))] 25 (.tmp 15) (.tmp 14) b1 (0) (Value.cells (svn (rnd (mS6 s)))) (Value.cells (svn (mS7 s))) 26 (.int .u64 ((BitVec.toNat ((nth (rnd (mS6 s)) 0) ^^^ (9223372039002292353 : BitVec 64)) : Nat) : Int)) (by kernel_rfl) (by kernel_rfl) (by kernel_rfl) (by kernel_rfl) (by kernel_rfl) (by kernel_rfl) (of_decide_eq_true (by kernel_rfl)) (svn_rm (mS6 s) (9223372039002292353 : BitVec 64)) (by kernel_rfl) ?_
  intro w23 H23; clear H22
  refine s_nil ?_
  show WP _ _ _ _ _ _
  refine g_reg0 [0, 1] (by kernel_rfl) ?_
  refine s_val (some 16) (.int .i64 7) (fun w => by kernel_rfl) (by kernel_rfl) ?_
  refine s_val (some 6) (.int .i64 7) (fun w => by kernel_rfl) (by kernel_rfl) ?_
  refine s_nil ?_
  show WPL _ _ _ _ _ _
  refine g_next ?_
  refine g_sreg [0] (by kernel_rfl) (by kernel_rfl) ?_
  refine s_val (some 7) (.bool true) (fun w => by kernel_rfl) (by kernel_rfl) ?_
  refine s_nil ?_
  refine g_seq (by kernel_rfl) ?_
  refine g_cond_t (by kernel_rfl) (by kernel_rfl) ?_
  refine g_skip (by kernel_rfl) ?_
  show WP _ _ _ _ _ _
  refine g_seq (by kernel_rfl) ?_
  refine g_block 1 (by kernel_rfl) ?_
  refine g_sreg [0, 1] (by kernel_rfl) (by kernel_rfl) ?_
  refine s_val (some 8) (.int .u64 9223372036854808585) (fun w => by kernel_rfl) (by kernel_rfl) ?_
  refine s_val (some 4) (.int .u64 9223372036854808585) (fun w => by kernel_rfl) (by kernel_rfl) ?_
  refine s_nil ?_
  refine g_sreg [0, 1, 2] (by kernel_rfl) (by kernel_rfl) ?_
  refine s_load H23 (some 9) 26 (.tmp 1) 1 b1 (Value.cells (svn (mS7 s))) 26 (0, 0) (by kernel_rfl) (by kernel_rfl) (by kernel_rfl) (by kernel_rfl) (by kernel_rfl) ?_
  refine s_call H23 (some 10) 14 #[svn (mS7 s)] (svn (rnd (mS7 s))) (round_fn (mS7 s)) (fun w => by kernel_rfl) (by kernel_rfl) ?_
  intro w24 H24; clear H23
  refine s_store H24 1 [(b2, Obj.cells Z25 26 (0, 0)), (b1, Obj.cells (Value.cells (svn (rnd (mS7 s)))) 26 (0, 0))] 26 (.tmp 1) (.tmp 10) b1 (0) (Value.cells (svn (mS7 s))) (Value.cells (svn (rnd (mS7 s)))) 26 (svn (rnd (mS7 s))) (by kernel_rfl) (by kernel_rfl) (by kernel_rfl) (by kernel_rfl) (by kernel_rfl) (by kernel_rfl) (of_decide_eq_true (by kernel_rfl)) (by kernel_rfl) (by kernel_rfl) ?_
  intro w25 H25; clear H24
  refine s_nil ?_
  refine g_reg0 [0, 1, 2, 3, 4, 5] (by kernel_rfl) ?_
  refine s_val (some 11) (.pointer (some ⟨b1, 0, none⟩)) (fun w => by kernel_rfl) (by kernel_rfl) ?_
  refine s_load1 H25 (some 12) 25 (.tmp 11) 1 b1 0 (Value.cells (svn (rnd (mS7 s)))) 26 (0, 0) (.int .u64 ((BitVec.toNat (nth (rnd (mS7 s)) 0) : Nat) : Int)) (by kernel_rfl) (by kernel_rfl) (by kernel_rfl) (by kernel_rfl) (by kernel_rfl) (by kernel_rfl) ?_
  refine s_val (some 13) (.int .u64 9223372036854808585) (fun w => by kernel_rfl) (by kernel_rfl) ?_
  refine s_valE (some 14) (.int .u64 (Go.bits .xor .u64 (((BitVec.toNat (nth (rnd (mS7 s)) 0) : Nat) : Int)) (9223372036854808585))) (.int .u64 ((BitVec.toNat ((nth (rnd (mS7 s)) 0) ^^^ (9223372036854808585 : BitVec 64)) : Nat) : Int)) (fun w => by kernel_rfl) (bv_xor_u64 (nth (rnd (mS7 s)) 0) (9223372036854808585 : BitVec 64)) (by kernel_rfl) ?_
  refine s_val (some 15) (.pointer (some ⟨b1, 0, none⟩)) (fun w => by kernel_rfl) (by kernel_rfl) ?_
  refine s_store H25 1 [(b2, Obj.cells Z25 26 (0, 0)), (b1, Obj.cells (Value.cells (svn (mS8 s))) 26 (0, 0))] 25 (.tmp 15) (.tmp 14) b1 (0) (Value.cells (svn (rnd (mS7 s)))) (Value.cells (svn (mS8 s))) 26 (.int .u64 ((BitVec.toNat ((nth (rnd (mS7 s)) 0) ^^^ (9223372036854808585 : BitVec 64)) : Nat) : Int)) (by kernel_rfl) (by kernel_rfl) (by kernel_rfl) (by kernel_rfl) (by kernel_rfl) (by kernel_rfl) (of_decide_eq_true (by kernel_rfl)) (svn_rm (mS7 s) (9223372036854808585 : BitVec 64)) (by kernel_rfl) ?_
  intro w26 H26; clear H25
  refine s_nil ?_
  show WP _ _ _ _ _ _
  refine g_reg0 [0, 1] (by kernel_rfl) ?_
  refine s_val (some 16) (.int .i64 8) (fun w => by kernel_rfl) (by kernel_rfl) ?_
  refine s_val (some 6) (.int .i64 8) (fun w => by kernel_rfl) (by kernel_rfl) ?_
  refine s_nil ?_
  show WPL _ _ _ _ _ _
  refine g_next ?_
  refine g_sreg [0] (by kernel_rfl) (by kernel_rfl) ?_
  refine s_val (some 7) (.bool true) (fun w => by kernel_rfl) (by kernel_rfl) ?_
  refine s_nil ?_
  refine g_seq (by kernel_rfl) ?_
  refine g_cond_t (by kernel_rfl) (by kernel_rfl) ?_
  refine g_skip (by kernel_rfl) ?_
  show WP _ _ _ _ _ _
  refine g_seq (by kernel_rfl) ?_
  refine g_block 1 (by kernel_rfl) ?_
  refine g_sreg [0, 1] (by kernel_rfl) (by kernel_rfl) ?_
  refine s_val (some 8) (.int .u64 138) (fun w => by kernel_rfl) (by kernel_rfl) ?_
  refine s_val (some 4) (.int .u64 138) (fun w => by kernel_rfl) (by kernel_rfl) ?_
  refine s_nil ?_
  refine g_sreg [0, 1, 2] (by kernel_rfl) (by kernel_rfl) ?_
  refine s_load H26 (some 9) 26 (.tmp 1) 1 b1 (Value.cells (svn (mS8 s))) 26 (0, 0) (by kernel_rfl) (by kernel_rfl) (by kernel_rfl) (by kernel_rfl) (by kernel_rfl) ?_
  refine s_call H26 (some 10) 14 #[svn (mS8 s)] (svn (rnd (mS8 s))) (round_fn (mS8 s)) (fun w => by kernel_rfl) (by kernel_rfl) ?_
  intro w27 H27; clear H26
  refine s_store H27 1 [(b2, Obj.cells Z25 26 (0, 0)), (b1, Obj.cells (Value.cells (svn (rnd (mS8 s)))) 26 (0, 0))] 26 (.tmp 1) (.tmp 10) b1 (0) (Value.cells (svn (mS8 s))) (Value.cells (svn (rnd (mS8 s)))) 26 (svn (rnd (mS8 s))) (by kernel_rfl) (by kernel_rfl) (by kernel_rfl) (by kernel_rfl) (by kernel_rfl) (by kernel_rfl) (of_decide_eq_true (by kernel_rfl)) (by kernel_rfl) (by kernel_rfl) ?_
  intro w28 H28; clear H27
  refine s_nil ?_
  refine g_reg0 [0, 1, 2, 3, 4, 5] (by kernel_rfl) ?_
  refine s_val (some 11) (.pointer (some ⟨b1, 0, none⟩)) (fun w => by kernel_rfl) (by kernel_rfl) ?_
  refine s_load1 H28 (some 12) 25 (.tmp 11) 1 b1 0 (Value.cells (svn (rnd (mS8 s)))) 26 (0, 0) (.int .u64 ((BitVec.toNat (nth (rnd (mS8 s)) 0) : Nat) : Int)) (by kernel_rfl) (by kernel_rfl) (by kernel_rfl) (by kernel_rfl) (by kernel_rfl) (by kernel_rfl) ?_
  refine s_val (some 13) (.int .u64 138) (fun w => by kernel_rfl) (by kernel_rfl) ?_
  refine s_valE (some 14) (.int .u64 (Go.bits .xor .u64 (((BitVec.toNat (nth (rnd (mS8 s)) 0) : Nat) : Int)) (138))) (.int .u64 ((BitVec.toNat ((nth (rnd (mS8 s)) 0) ^^^ (138 : BitVec 64)) : Nat) : Int)) (fun w => by kernel_rfl) (bv_xor_u64 (nth (rnd (mS8 s)) 0) (138 : BitVec 64)) (by kernel_rfl) ?_
  refine s_val (some 15) (.pointer (some ⟨b1, 0, none⟩)) (fun w => by kernel_rfl) (by kernel_rfl) ?_
  refine s_store H28 1 [(b2, Obj.cells Z25 26 (0, 0)), (b1, Obj.cells (Value.cells (svn (mS9 s))) 26 (0, 0))] 25 (.tmp 15) (.tmp 14) b1 (0) (Value.cells (svn (rnd (mS8 s)))) (Value.cells (svn (mS9 s))) 26 (.int .u64 ((BitVec.toNat ((nth (rnd (mS8 s)) 0) ^^^ (138 : BitVec 64)) : Nat) : Int)) (by kernel_rfl) (by kernel_rfl) (by kernel_rfl) (by kernel_rfl) (by kernel_rfl) (by kernel_rfl) (of_decide_eq_true (by kernel_rfl)) (svn_rm (mS8 s) (138 : BitVec 64)) (by kernel_rfl) ?_
  intro w29 H29; clear H28
  refine s_nil ?_
  show WP _ _ _ _ _ _
  refine g_reg0 [0, 1] (by kernel_rfl) ?_
  refine s_val (some 16) (.int .i64 9) (fun w => by kernel_rfl) (by kernel_rfl) ?_
  refine s_val (some 6) (.int .i64 9) (fun w => by kernel_rfl) (by kernel_rfl) ?_
  refine s_nil ?_
  show WPL _ _ _ _ _ _
  refine g_next ?_
  refine g_sreg [0] (by kernel_rfl) (by kernel_rfl) ?_
  refine s_val (some 7) (.bool true) (fun w => by kernel_rfl) (by kernel_rfl) ?_
  refine s_nil ?_
  refine g_seq (by kernel_rfl) ?_
  refine g_cond_t (by kernel_rfl) (by kernel_rfl) ?_
  refine g_skip (by kernel_rfl) ?_
  show WP _ _ _ _ _ _
  refine g_seq (by kernel_rfl) ?_
  refine g_block 1 (by kernel_rfl) ?_
  refine g_sreg [0, 1] (by kernel_rfl) (by kernel_rfl) ?_
  refine s_val (some 8) (.int .u64 136) (fun w => by kernel_rfl) (by kernel_rfl) ?_
  refine s_val (some 4) (.int .u64 136) (fun w => by kernel_rfl) (by kernel_rfl) ?_
  refine s_nil ?_
  refine g_sreg [0, 1, 2] (by kernel_rfl) (by kernel_rfl) ?_
  refine s_load H29 (some 9) 26 (.tmp 1) 1 b1 (Value.cells (svn (mS9 s))) 26 (0, 0) (by kernel_rfl) (by kernel_rfl) (by kernel_rfl) (by kernel_rfl) (by kernel_rfl) ?_
  refine s_call H29 (some 10) 14 #[svn (mS9 s)] (svn (rnd (mS9 s))) (round_fn (mS9 s)) (fun w => by kernel_rfl) (by kernel_rfl) ?_
  intro w30 H30; clear H29
  refine s_store H30 1 [(b2, Obj.cells Z25 26 (0, 0)), (b1, Obj.cells (Value.cells (svn (rnd (mS9 s)))) 26 (0, 0))] 26 (.tmp 1) (.tmp 10) b1 (0) (Value.cells (svn (mS9 s))) (Value.cells (svn (rnd (mS9 s)))) 26 (svn (rnd (mS9 s))) (by kernel_rfl) (by kernel_rfl) (by kernel_rfl) (by kernel_rfl) (by kernel_rfl) (by kernel_rfl) (of_decide_eq_true (by kernel_rfl)) (by kernel_rfl) (by kernel_rfl) ?_
  intro w31 H31; clear H30
  refine s_nil ?_
  refine g_reg0 [0, 1, 2, 3, 4, 5] (by kernel_rfl) ?_
  refine s_val (some 11) (.pointer (some ⟨b1, 0, none⟩)) (fun w => by kernel_rfl) (by kernel_rfl) ?_
  refine s_load1 H31 (some 12) 25 (.tmp 11) 1 b1 0 (Value.cells (svn (rnd (mS9 s)))) 26 (0, 0) (.int .u64 ((BitVec.toNat (nth (rnd (mS9 s)) 0) : Nat) : Int)) (by kernel_rfl) (by kernel_rfl) (by kernel_rfl) (by kernel_rfl) (by kernel_rfl) (by kernel_rfl) ?_
  refine s_val (some 13) (.int .u64 136) (fun w => by kernel_rfl) (by kernel_rfl) ?_
  refine s_valE (some 14) (.int .u64 (Go.bits .xor .u64 (((BitVec.toNat (nth (rnd (mS9 s)) 0) : Nat) : Int)) (136))) (.int .u64 ((BitVec.toNat ((nth (rnd (mS9 s)) 0) ^^^ (136 : BitVec 64)) : Nat) : Int)) (fun w => by kernel_rfl) (bv_xor_u64 (nth (rnd (mS9 s)) 0) (136 : BitVec 64)) (by kernel_rfl) ?_
  refine s_val (some 15) (.pointer (some ⟨b1, 0, none⟩)) (fun w => by kernel_rfl) (by kernel_rfl) ?_
  refine s_store H31 1 [(b2, Obj.cells Z25 26 (0, 0)), (b1, Obj.cells (Value.cells (svn (mS10 s))) 26 (0, 0))] 25 (.tmp 15) (.tmp 14) b1 (0) (Value.cells (svn (rnd (mS9 s)))) (Value.cells (svn (mS10 s))) 26 (.int .u64 ((BitVec.toNat ((nth (rnd (mS9 s)) 0) ^^^ (136 : BitVec 64)) : Nat) : Int)) (by kernel_rfl) (by kernel_rfl) (by kernel_rfl) (by kernel_rfl) (by kernel_rfl) (by kernel_rfl) (of_decide_eq_true (by kernel_rfl)) (svn_rm (mS9 s) (136 : BitVec 64)) (by kernel_rfl) ?_
  intro w32 H32; clear H31
  refine s_nil ?_
  show WP _ _ _ _ _ _
  refine g_reg0 [0, 1] (by kernel_rfl) ?_
  refine s_val (some 16) (.int .i64 10) (fun w => by kernel_rfl) (by kernel_rfl) ?_
  refine s_val (some 6) (.int .i64 10) (fun w => by kernel_rfl) (by kernel_rfl) ?_
  refine s_nil ?_
  show WPL _ _ _ _ _ _
  refine g_next ?_
  refine g_sreg [0] (by kernel_rfl) (by kernel_rfl) ?_
  refine s_val (some 7) (.bool true) (fun w => by kernel_rfl) (by kernel_rfl) ?_
  refine s_nil ?_
  refine g_seq (by kernel_rfl) ?_
  refine g_cond_t (by kernel_rfl) (by kernel_rfl) ?_
  refine g_skip (by kernel_rfl) ?_
  show WP _ _ _ _ _ _
  refine g_seq (by kernel_rfl) ?_
  refine g_block 1 (by kernel_rfl) ?_
  refine g_sreg [0, 1] (by kernel_rfl) (by kernel_rfl) ?_
  refine s_val (some 8) (.int .u64 2147516425) (fun w => by kernel_rfl) (by kernel_rfl) ?_
  refine s_val (some 4) (.int .u64 2147516425) (fun w => by kernel_rfl) (by kernel_rfl) ?_
  refine s_nil ?_
  refine g_sreg [0, 1, 2] (by kernel_rfl) (by kernel_rfl) ?_
  refine s_load H32 (some 9) 26 (.tmp 1) 1 b1 (Value.cells (svn (mS10 s))) 26 (0, 0) (by kernel_rfl) (by kernel_rfl) (by kernel_rfl) (by kernel_rfl) (by kernel_rfl) ?_
  refine s_call H32 (some 10) 14 #[svn (mS10 s)] (svn (rnd (mS10 s))) (round_fn (mS10 s)) (fun w => by kernel_rfl) (by kernel_rfl) ?_
  intro w33 H33; clear H32
  refine s_store H33 1 [(b2, Obj.cells Z25 26 (0, 0)), (b1, Obj.cells (Value.cells (svn (rnd (mS10 s)))) 26 (0, 0))] 26 (.tmp 1) (.tmp 10) b1 (0) (Value.cells (svn (mS10 s))) (Value.cells (svn (rnd (mS10 s)))) 26 (svn (rnd (mS10 s))) (by kernel_rfl) (by kernel_rfl) (by kernel_rfl) (by kernel_rfl) (by kernel_rfl) (by kernel_rfl) (of_decide_eq_true (by kernel_rfl)) (by kernel_rfl) (by kernel_rfl) ?_
  intro w34 H34; clear H33
  refine s_nil ?_
  refine g_reg0 [0, 1, 2, 3, 4, 5] (by kernel_rfl) ?_
  refine s_val (some 11) (.pointer (some ⟨b1, 0, none⟩)) (fun w => by kernel_rfl) (by kernel_rfl) ?_
  refine s_load1 H34 (some 12) 25 (.tmp 11) 1 b1 0 (Value.cells (svn (rnd (mS10 s)))) 26 (0, 0) (.int .u64 ((BitVec.toNat (nth (rnd (mS10 s)) 0) : Nat) : Int)) (by kernel_rfl) (by kernel_rfl) (by kernel_rfl) (by kernel_rfl) (by kernel_rfl) (by kernel_rfl) ?_
  refine s_val (some 13) (.int .u64 2147516425) (fun w => by kernel_rfl) (by kernel_rfl) ?_
  refine s_valE (some 14) (.int .u64 (Go.bits .xor .u64 (((BitVec.toNat (nth (rnd (mS10 s)) 0) : Nat) : Int)) (2147516425))) (.int .u64 ((BitVec.toNat ((nth (rnd (mS10 s)) 0) ^^^ (2147516425 : BitVec 64)) : Nat) : Int)) (fun w => by kernel_rfl) (bv_xor_u64 (nth (rnd (mS10 s)) 0) (2147516425 : BitVec 64)) (by kernel_rfl) ?_
  refine s_val (some 15) (.pointer (some ⟨b1, 0, none⟩)) (fun w => by kernel_rfl) (by kernel_rfl) ?_
  refine s_store H34 1 [(b2, Obj.cells Z25 26 (0, 0)), (b1, Obj.cells (Value.cells (svn (mS11 s))) 26 (0, 0))] 25 (.tmp 15) (.tmp 14) b1 (0) (Value.cells (svn (rnd (mS10 s)))) (Value.cells (svn (mS11 s))) 26 (.int .u64 ((BitVec.toNat ((nth (rnd (mS10 s)) 0) ^^^ (2147516425 : BitVec 64)) : Nat) : Int)) (by kernel_rfl) (by kernel_rfl) (by kernel_rfl) (by kernel_rfl) (by kernel_rfl) (by kernel_rfl) (of_decide_eq_true (by kernel_rfl)) (svn_rm (mS10 s) (2147516425 : BitVec 64)) (by kernel_rfl) ?_
  intro w35 H35; clear H34
  refine s_nil ?_
  show WP _ _ _ _ _ _
  refine g_reg0 [0, 1] (by kernel_rfl) ?_
  refine s_val (some 16) (.int .i64 11) (fun w => by kernel_rfl) (by kernel_rfl) ?_
  refine s_val (some 6) (.int .i64 11) (fun w => by kernel_rfl) (by kernel_rfl) ?_
  refine s_nil ?_
  show WPL _ _ _ _ _ _
  refine g_next ?_
  refine g_sreg [0] (by kernel_rfl) (by kernel_rfl) ?_
  refine s_val (some 7) (.bool true) (fun w => by kernel_rfl) (by kernel_rfl) ?_
  refine s_nil ?_
  refine g_seq (by kernel_rfl) ?_
  refine g_cond_t (by kernel_rfl) (by kernel_rfl) ?_
  refine g_skip (by kernel_rfl) ?_
  show WP _ _ _ _ _ _
  refine g_seq (by kernel_rfl) ?_
  refine g_block 1 (by kernel_rfl) ?_
  refine g_sreg [0, 1] (by kernel_rfl) (by kernel_rfl) ?_
  refine s_val (some 8) (.int .u64 2147483658) (fun w => by kernel_rfl) (by kernel_rfl) ?_
  refine s_val (some 4) (.int .u64 2147483658) (fun w => by kernel_rfl) (by kernel_rfl) ?_
  refine s_nil ?_
  refine g_sreg [0, 1, 2] (by kernel_rfl) (by kernel_rfl) ?_
  refine s_load H35 (some 9) 26 (.tmp 1) 1 b1 (Value.cells (svn (mS11 s))) 26 (0, 0) (by kernel_rfl) (by kernel_rfl) (by kernel_rfl) (by kernel_rfl) (by kernel_rfl) ?_
  refine s_call H35 (some 10) 14 #[svn (mS11 s)] (svn (rnd (mS11 s))) (round_fn (mS11 s)) (fun w => by kernel_rfl) (by kernel_rfl) ?_
  intro w36 H36; clear H35
  refine s_store H36 1 [(b2, Obj.cells Z25 26 (0, 0)), (b1, Obj.cells (Value.cells (svn (rnd (mS11 s)))) 26 (0, 0))] 26 (.tmp 1) (.tmp 10) b1 (0) (Value.cells (svn (mS11 s))) (Value.cells (svn (rnd (mS11 s)))) 26 (svn (rnd (mS11 s))) (by kernel_rfl) (by kernel_rfl) (by kernel_rfl) (by kernel_rfl) (by kernel_rfl) (by kernel_rfl) (of_decide_eq_true (by kernel_rfl)) (by kernel_rfl) (by kernel_rfl) ?_
  intro w37 H37; clear H36
  refine s_nil ?_
  refine g_reg0 [0, 1, 2, 3, 4, 5] (by kernel_rfl) ?_
  refine s_val (some 11) (.pointer (some ⟨b1, 0, none⟩)) (fun w => by kernel_rfl) (by kernel_rfl) ?_
  refine s_load1 H37 (some 12) 25 (.tmp 11) 1 b1 0 (Value.cells (svn (rnd (mS11 s)))) 26 (0, 0) (.int .u64 ((BitVec.toNat (nth (rnd (mS11 s)) 0) : Nat) : Int)) (by kernel_rfl) (by kernel_rfl) (by kernel_rfl) (by kernel_rfl) (by kernel_rfl) (by kernel_rfl) ?_
  refine s_val (some 13) (.int .u64 2147483658) (fun w => by kernel_rfl) (by kernel_rfl) ?_
  refine s_valE (some 14) (.int .u64 (Go.bits .xor .u64 (((BitVec.toNat (nth (rnd (mS11 s)) 0) : Nat) : Int)) (2147483658))) (.int .u64 ((BitVec.toNat ((nth (rnd (mS11 s)) 0) ^^^ (2147483658 : BitVec 64)) : Nat) : Int)) (fun w => by kernel_rfl) (bv_xor_u64 (nth (rnd (mS11 s)) 0) (2147483658 : BitVec 64)) (by kernel_rfl) ?_
  refine s_val (some 15) (.pointer (some ⟨b1, 0, none⟩)) (fun w => by kernel_rfl) (by kernel_rfl) ?_
  refine s_store H37 1 [(b2, Obj.cells Z25 26 (0, 0)), (b1, Obj.cells (Value.cells (svn (mS12 s))) 26 (0, 0))] 25 (.tmp 15) (.tmp 14) b1 (0) (Value.cells (svn (rnd (mS11 s)))) (Value.cells (svn (mS12 s))) 26 (.int .u64 ((BitVec.toNat ((nth (rnd (mS11 s)) 0) ^^^ (2147483658 : BitVec 64)) : Nat) : Int)) (by kernel_rfl) (by kernel_rfl) (by kernel_rfl) (by kernel_rfl) (by kernel_rfl) (by kernel_rfl) (of_decide_eq_true (by kernel_rfl)) (svn_rm (mS11 s) (2147483658 : BitVec 64)) (by kernel_rfl) ?_
  intro w38 H38; clear H37
  refine s_nil ?_
  show WP _ _ _ _ _ _
  refine g_reg0 [0, 1] (by kernel_rfl) ?_
  refine s_val (some 16) (.int .i64 12) (fun w => by kernel_rfl) (by kernel_rfl) ?_
  refine s_val (some 6) (.int .i64 12) (fun w => by kernel_rfl) (by kernel_rfl) ?_
  refine s_nil ?_
  show WPL _ _ _ _ _ _
  refine g_next ?_
  refine g_sreg [0] (by kernel_rfl) (by kernel_rfl) ?_
  refine s_val (some 7) (.bool true) (fun w => by kernel_rfl) (by kernel_rfl) ?_
  refine s_nil ?_
  refine g_seq (by kernel_rfl) ?_
  refine g_cond_t (by kernel_rfl) (by kernel_rfl) ?_
  refine g_skip (by kernel_rfl) ?_
  show WP _ _ _ _ _ _
  refine g_seq (by kernel_rfl) ?_
  refine g_block 1 (by kernel_rfl) ?_
  refine g_sreg [0, 1] (by kernel_rfl) (by kernel_rfl) ?_
  refine s_val (some 8) (.int .u64 2147516555) (fun w => by kernel_rfl) (by kernel_rfl) ?_
  refine s_val (some 4) (.int .u64 2147516555) (fun w => by kernel_rfl) (by kernel_rfl) ?_
  refine s_nil ?_
  refine g_sreg [0, 1, 2] (by kernel_rfl) (by kernel_rfl) ?_
  refine s_load H38 (some 9) 26 (.tmp 1) 1 b1 (Value.cells (svn (mS12 s))) 26 (0, 0) (by kernel_rfl) (by kernel_rfl) (by kernel_rfl) (by kernel_rfl) (by kernel_rfl) ?_
  refine s_call H38 (some 10) 14 #[svn (mS12 s)] (svn (rnd (mS12 s))) (round_fn (mS12 s)) (fun w => by kernel_rfl) (by kernel_rfl) ?_
  intro w39 H39; clear H38
  refine s_store H39 1 [(b2, Obj.cells Z25 26 (0, 0)), (b1, Obj.cells (Value.cells (svn (rnd (mS12 s)))) 26 (0, 0))] 26 (.tmp 1) (.tmp 10) b1 (0) (Value.cells (svn (mS12 s))) (Value.cells (svn (rnd (mS12 s)))) 26 (svn (rnd (mS12 s))) (by kernel_rfl) (by kernel_rfl) (by kernel_rfl) (by kernel_rfl) (by kernel_rfl) (by kernel_rfl) (of_decide_eq_true (by kernel_rfl)) (by kernel_rfl) (by kernel_rfl) ?_
  intro w40 H40; clear H39
  refine s_nil ?_
  refine g_reg0 [0, 1, 2, 3, 4, 5] (by kernel_rfl) ?_
  refine s_val (some 11) (.pointer (some ⟨b1, 0, none⟩)) (fun w => by kernel_rfl) (by kernel_rfl) ?_
  refine s_load1 H40 (some 12) 25 (.tmp 11) 1 b1 0 (Value.cells (svn (rnd (mS12 s)))) 26 (0, 0) (.int .u64 ((BitVec.toNat (nth (rnd (mS12 s)) 0) : Nat) : Int)) (by kernel_rfl) (by kernel_rfl) (by kernel_rfl) (by kernel_rfl) (by kernel_rfl) (by kernel_rfl) ?_
  refine s_val (some 13) (.int .u64 2147516555) (fun w => by kernel_rfl) (by kernel_rfl) ?_
  refine s_valE (some 14) (.int .u64 (Go.bits .xor .u64 (((BitVec.toNat (nth (rnd (mS12 s)) 0) : Nat) : Int)) (2147516555))) (.int .u64 ((BitVec.toNat ((nth (rnd (mS12 s)) 0) ^^^ (2147516555 : BitVec 64)) : Nat) : Int)) (fun w => by kernel_rfl) (bv_xor_u64 (nth (rnd (mS12 s)) 0) (2147516555 : BitVec 64)) (by kernel_rfl) ?_
  refine s_val (some 15) (.pointer (some ⟨b1, 0, none⟩)) (fun w => by kernel_rfl) (by kernel_rfl) ?_
  refine s_store H40 1 [(b2, Obj.cells Z25 26 (0, 0)), (b1, Obj.cells (Value.cells (svn (mS13 s))) 26 (0, 0))] 25 (.tmp 15) (.tmp 14) b1 (0) (Value.cells (svn (rnd (mS12 s)))) (Value.cells (svn (mS13 s))) 26 (.int .u64 ((BitVec.toNat ((nth (rnd (mS12 s)) 0) ^^^ (2147516555 : BitVec 64)) : Nat) : Int)) (by kernel_rfl) (by kernel_rfl) (by kernel_rfl) (by kernel_rfl) (by kernel_rfl) (by kernel_rfl) (of_decide_eq_true (by kernel_rfl)) (svn_rm (mS12 s) (2147516555 : BitVec 64)) (by kernel_rfl) ?_
  intro w41 H41; clear H40
  refine s_nil ?_
  show WP _ _ _ _ _ _
  refine g_reg0 [0, 1] (by kernel_rfl) ?_
  refine s_val (some 16) (.int .i64 13) (fun w => by kernel_rfl) (by kernel_rfl) ?_
  refine s_val (some 6) (.int .i64 13) (fun w => by kernel_rfl) (by kernel_rfl) ?_
  refine s_nil ?_
  show WPL _ _ _ _ _ _
  refine g_next ?_
  refine g_sreg [0] (by kernel_rfl) (by kernel_rfl) ?_
  refine s_val (some 7) (.bool true) (fun w => by kernel_rfl) (by kernel_rfl) ?_
  refine s_nil ?_
  refine g_seq (by kernel_rfl) ?_
  refine g_cond_t (by kernel_rfl) (by kernel_rfl) ?_
  refine g_skip (by kernel_rfl) ?_
  show WP _ _ _ _ _ _
  refine g_seq (by kernel_rfl) ?_
  refine g_block 1 (by kernel_rfl) ?_
  refine g_sreg [0, 1] (by kernel_rfl) (by kernel_rfl) ?_
  refine s_val (some 8) (.int .u64 9223372036854775947) (fun w => by kernel_rfl) (by kernel_rfl) ?_
  refine s_val (some 4) (.int .u64 9223372036854775947) (fun w => by kernel_rfl) (by kernel_rfl) ?_
  refine s_nil ?_
  refine g_sreg [0, 1, 2] (by kernel_rfl) (by kernel_rfl) ?_
  refine s_load H41 (some 9) 26 (.tmp 1) 1 b1 (Value.cells (svn (mS13 s))) 26 (0, 0) (by kernel_rfl) (by kernel_rfl) (by kernel_rfl) (by kernel_rfl) (by kernel_rfl) ?_
  refine s_call H41 (some 10) 14 #[svn (mS13 s)] (svn (rnd (mS13 s))) (round_fn (mS13 s)) (fun w => by kernel_rfl) (by kernel_rfl) ?_
  intro w42 H42; clear H41
  refine s_store H42 1 [(b2, Obj.cells Z25 26 (0, 0)), (b1, Obj.cells (Value.cells (svn (rnd (mS13 s)))) 26 (0, 0))] 26 (.tmp 1) (.tmp 10) b1 (0) (Value.cells (svn (mS13 s))) (Value.cells (svn (rnd (mS13 s)))) 26 (svn (rnd (mS13 s))) (by kernel_rfl) (by kernel_rfl) (by kernel_rfl) (by kernel_rfl) (by kernel_rfl) (by kernel_rfl) (of_decide_eq_true (by kernel_rfl)) (by kernel_rfl) (by kernel_rfl) ?_
  intro w43 H43; clear H42
  refine s_nil ?_
  refine g_reg0 [0, 1, 2, 3, 4, 5] (by kernel_rfl) ?_
  refine s_val (some 11) (.pointer (some ⟨b1, 0, none⟩)) (fun w => by kernel_rfl) (by kernel_rfl) ?_
  refine s_load1 H43 (some 12) 25 (.tmp 11) 1 b1 0 (Value.cells (svn (rnd (mS13 s)))) 26 (0, 0) (.int .u64 ((BitVec.toNat (nth (rnd (mS13 s)) 0) : Nat) : Int)) (by kernel_rfl) (by kernel_rfl) (by kernel_rfl) (by kernel_rfl) (by kernel_rfl) (by kernel_rfl) ?_
  refine s_val (some 13) (.int .u64 9223372036854775947) (fun w => by kernel_rfl) (by kernel_rfl) ?_
  refine s_valE (some 14) (.int .u64 (Go.bits .xor .u64 (((BitVec.toNat (nth (rnd (mS13 s)) 0) : Nat) : Int)) (9223372036854775947))) (.int .u64 ((BitVec.toNat ((nth (rnd (mS13 s)) 0) ^^^ (9223372036854775947 : BitVec 64)) : Nat) : Int)) (fun w => by kernel_rfl) (bv_xor_u64 (nth (rnd (mS13 s)) 0) (9223372036854775947 : BitVec 64)) (by kernel_rfl) ?_
  refine s_val (some 15) (.pointer (some ⟨b1, 0, none⟩)) (fun w => by kernel_rfl) (by kernel_rfl) ?_
  refine s_store H43 1 [(b2, Obj.cells Z25 26 (0, 0)), (b1, Obj.cells (Value.cells (svn (mS14 s))) 26 (0, 0))] 25 (.tmp 15) (.tmp 14) b1 (0) (Value.cells (svn (rnd (mS13 s)))) (Value.cells (svn (mS14 s))) 26 (.int .u64 ((BitVec.toNat ((nth (rnd (mS13 s)) 0) ^^^ (9223372036854775947 : BitVec 64)) : Nat) : Int)) (by kernel_rfl) (by kernel_rfl) (by kernel_rfl) (by kernel_rfl) (by kernel_rfl) (by kernel_rfl) (of_decide_eq_true (by kernel_rfl)) (svn_rm (mS13 s) (9223372036854775947 : BitVec 64)) (by kernel_rfl) ?_
  intro w44 H44; clear H43
  refine s_nil ?_
  show WP _ _ _ _ _ _
  refine g_reg0 [0, 1] (by kernel_rfl) ?_
  refine s_val (some 16) (.int .i64 14) (fun w => by kernel_rfl) (by kernel_rfl) ?_
  refine s_val (some 6) (.int .i64 14) (fun w => by kernel_rfl) (by kernel_rfl) ?_
  refine s_nil ?_
  show WPL _ _ _ _ _ _
  refine g_next ?_
  refine g_sreg [0] (by kernel_rfl) (by kernel_rfl) ?_
  refine s_val (some 7) (.bool true) (fun w => by kernel_rfl) (by kernel_rfl) ?_
  refine s_nil ?_
  refine g_seq (by kernel_rfl) ?_
  refine g_cond_t (by kernel_rfl) (by kernel_rfl) ?_
  refine g_skip (by kernel_rfl) ?_
  show WP _ _ _ _ _ _
  refine g_seq (by kernel_rfl) ?_
  refine g_block 1 (by kernel_rfl) ?_
  refine g_sreg [0, 1] (by kernel_rfl) (by kernel_rfl) ?_
  refine s_val (some 8) (.int .u64 9223372036854808713) (fun w => by kernel_rfl) (by kernel_rfl) ?_
  refine s_val (some 4) (.int .u64 9223372036854808713) (fun w => by kernel_rfl) (by kernel_rfl) ?_
  refine s_nil ?_
  refine g_sreg [0, 1, 2] (by kernel_rfl) (by kernel_rfl) ?_
  refine s_load H44 (some 9) 26 (.tmp 1) 1 b1 (Value.cells (svn (mS14 s))) 26 (0, 0) (by kernel_rfl) (by kernel_rfl) (by kernel_rfl) (by kernel_rfl) (by kernel_rfl) ?_
  refine s_call H44 (some 10) 14 #[svn (mS14 s)] (svn (rnd (mS14 s))) (round_fn (mS14 s)) (fun w => by kernel_rfl) (by kernel_rfl) ?_
  intro w45 H45; clear H44
  refine s_store H45 1 [(b2, Obj.cells Z25 26 (0, 0)), (b1, Obj.cells (Value.cells (svn (rnd (mS14 s)))) 26 (0, 0))] 26 (.tmp 1) (.tmp 10) b1 (0) (Value.cells (svn (mS14 s))) (Value.cells (svn (rnd (mS14 s)))) 26 (svn (rnd (mS14 s))) (by kernel_rfl) (by kernel_rfl) (by kernel_rfl) (by kernel_rfl) (by kernel_rfl) (by kernel_rfl) (of_decide_eq_true (by kernel_rfl)) (by kernel_rfl) (by kernel_rfl) ?_
  intro w46 H46; clear H45
  refine s_nil ?_
  refine g_reg0 [0, 1, 2, 3, 4, 5] (by kernel_rfl) ?_
  refine s_val (some 11) (.pointer (some ⟨b1, 0, none⟩)) (fun w => by kernel_rfl) (by kernel_rfl) ?_
  refine s_load1 H46 (some 12) 25 (.tmp 11) 1 b1 0 (Value.cells (svn (rnd (mS14 s)))) 26 (0, 0) (.int .u64 ((BitVec.toNat (nth (rnd (mS14 s)) 0) : Nat) : Int)) (by kernel_rfl) (by kernel_rfl) (by kernel_rfl) (by kernel_rfl) (by kernel_rfl) (by kernel_rfl) ?_
  refine s_val (some 13) (.int .u64 9223372036854808713) (fun w => by kernel_rfl) (by kernel_rfl) ?_
  refine s_valE (some 14) (.int .u64 (Go.bits .xor .u64 (((BitVec.toNat (nth (rnd (mS14 s)) 0) : Nat) : Int)) (9223372036854808713))) (.int .u64 ((BitVec.toNat ((nth (rnd (mS14 s)) 0) ^^^ (9223372036854808713 : BitVec 64)) : Nat) : Int)) (fun w => by kernel_rfl) (bv_xor_u64 (nth (rnd (mS14 s)) 0) (9223372036854808713 : BitVec 64)) (by kernel_rfl) ?_
  refine s_val (some 15) (.pointer (some ⟨b1, 0, none⟩)) (fun w => by kernel_rfl) (by kernel_rfl) ?_
  refine s_store H46 1 [(b2, Obj.cells Z25 26 (0, 0)), (b1, Obj.cells (Value.cells (svn (mS15 s))) 26 (0, 0))] 25 (.tmp 15) (.tmp 14) b1 (0) (Value.cells (svn (rnd (mS14 s)))) (Value.cells (svn (mS15 s))) 26 (.int .u64 ((BitVec.toNat ((nth (rnd (mS14 s)) 0) ^^^ (9223372036854808713 : BitVec 64)) : Nat) : Int)) (by kernel_rfl) (by kernel_rfl) (by kernel_rfl) (by kernel_rfl) (by kernel_rfl) (by kernel_rfl) (of_decide_eq_true (by kernel_rfl)) (svn_rm (mS14 s) (9223372036854808713 : BitVec 64)) (by kernel_rfl) ?_
  intro w47 H47; clear H46
  refine s_nil ?_
  show WP _ _ _ _ _ _
  refine g_reg0 [0, 1] (by kernel_rfl) ?_
  refine s_val (some 16) (.int .i64 15) (fun w => by kernel_rfl) (by kernel_rfl) ?_
  refine s_val (some 6) (.int .i64 15) (fun w => by kernel_rfl) (by kernel_rfl) ?_
  refine s_nil ?_
  show WPL _ _ _ _ _ _
  refine g_next ?_
  refine g_sreg [0] (by kernel_rfl) (by kernel_rfl) ?_
  refine s_val (some 7) (.bool true) (fun w => by kernel_rfl) (by kernel_rfl) ?_
  refine s_nil ?_
  refine g_seq (by kernel_rfl) ?_
  refine g_cond_t (by kernel_rfl) (by kernel_rfl) ?_
  refine g_skip (by kernel_rfl) ?_
  show WP _ _ _ _ _ _
  refine g_seq (by kernel_rfl) ?_
  refine g_block 1 (by kernel_rfl) ?_
  refine g_sreg [0, 1] (by kernel_rfl) (by kernel_rfl) ?_
  refine s_val (some 8) (.int .u64 9223372036854808579) (fun w => by kernel_rfl) (by kernel_rfl) ?_
  refine s_val (some 4) (.int .u64 9223372036854808579) (fun w => by kernel_rfl) (by kernel_rfl) ?_
  refine s_nil ?_
  refine g_sreg [0, 1, 2] (by kernel_rfl) (by kernel_rfl) ?_
  refine s_load H47 (some 9) 26 (.tmp 1) 1 b1 (Value.cells (svn (mS15 s))) 26 (0, 0) (by kernel_rfl) (by kernel_rfl) (by kernel_rfl) (by kernel_rfl) (by kernel_rfl) ?_
  refine s_call H47 (some 10) 14 #[svn (mS15 s)] (svn (rnd (mS15 s))) (round_fn (mS15 s)) (fun w => by kernel_rfl) (by kernel_rfl) ?_
  intro w48 H48; clear H47
  refine s_store H48 1 [(b2, Obj.cells Z25 26 (0, 0)), (b1, Obj.cells (Value.cells (svn (rnd (mS15 s)))) 26 (0, 0))] 26 (.tmp 1) (.tmp 10) b1 (0) (Value.cells (svn (mS15 s))) (Value.cells (svn (rnd (mS15 s)))) 26 (svn (rnd (mS15 s))) (by kernel_rfl) (by kernel_rfl) (by kernel_rfl) (by kernel_rfl) (by kernel_rfl) (by kernel_rfl) (of_decide_eq_true (by kernel_rfl)) (by kernel_rfl) (by kernel_rfl) ?_
  intro w49 H49; clear H48
  refine s_nil ?_
  refine g_reg0 [0, 1, 2, 3, 4, 5] (by kernel_rfl) ?_
  refine s_val (some 11) (.pointer (some ⟨b1, 0, none⟩)) (fun w => by kernel_rfl) (by kernel_rfl) ?_
  refine s_load1 H49 (some 12) 25 (.tmp 11) 1 b1 0 (Value.cells (svn (rnd (mS15 s)))) 26 (0, 0) (.int .u64 ((BitVec.toNat (nth (rnd (mS15 s)) 0) : Nat) : Int)) (by kernel_rfl) (by kernel_rfl) (by kernel_rfl) (by kernel_rfl) (by kernel_rfl) (by kernel_rfl) ?_
  refine s_val (some 13) (.int .u64 9223372036854808579) (fun w => by kernel_rfl) (by kernel_rfl) ?_
  refine s_valE (some 14) (.int .u64 (Go.bits .xor .u64 (((BitVec.toNat (nth (rnd (mS15 s)) 0) : Nat) : Int)) (9223372036854808579))) (.int .u64 ((BitVec.toNat ((nth (rnd (mS15 s)) 0) ^^^ (9223372036854808579 : BitVec 64)) : Nat) : Int)) (fun w => by kernel_rfl) (bv_xor_u64 (nth (rnd (mS15 s)) 0) (9223372036854808579 : BitVec 64)) (by kernel_rfl) ?_
  refine s_val (some 15) (.pointer (some ⟨b1, 0, none⟩)) (fun w => by kernel_rfl) (by kernel_rfl) ?_
  refine s_store H49 1 [(b2, Obj.cells Z25 26 (0, 0)), (b1, Obj.cells (Value.cells (svn (mS16 s))) 26 (0, 0))] 25 (.tmp 15) (.tmp 14) b1 (0) (Value.cells (svn (rnd (mS15 s)))) (Value.cells (svn (mS16 s))) 26 (.int .u64 ((BitVec.toNat ((nth (rnd (mS15 s)) 0) ^^^ (9223372036854808579 : BitVec 64)) : Nat) : Int)) (by kernel_rfl) (by kernel_rfl) (by kernel_rfl) (by kernel_rfl) (by kernel_rfl) (by kernel_rfl) (of_decide_eq_true (by kernel_rfl)) (svn_rm (mS15 s) (9223372036854808579 : BitVec 64)) (by kernel_rfl) ?_
  intro w50 H50; clear H49
  refine s_nil ?_
  show WP _ _ _ _ _ _
  refine g_reg0 [0, 1] (by kernel_rfl) ?_
  refine s_val (some 16) (.int .i64 16) (fun w => by kernel_rfl) (by kernel_rfl) ?_
  refine s_val (some 6) (.int .i64 16) (fun w => by kernel_rfl) (by kernel_rfl) ?_
  refine s_nil ?_
  show WPL _ _ _ _ _ _
  refine g_next ?_
  refine g_sreg [0] (by kernel_rfl) (by kernel_rfl) ?_
  refine s_val (some 7) (.bool true) (fun w => by kernel_rfl) (by kernel_rfl) ?_
  refine s_nil ?_
  refine g_seq (by kernel_rfl) ?_
  refine g_cond_t (by kernel_rfl) (by kernel_rfl) ?_
  refine g_skip (by kernel_rfl) ?_
  show WP _ _ _ _ _ _
  refine g_seq (by kernel_rfl) ?_
  refine g_block 1 (by kernel_rfl) ?_
  refine g_sreg [0, 1] (by kernel_rfl) (by kernel_rfl) ?_
  refine s_val (some 8) (.int .u64 9223372036854808578) (fun w => by kernel_rfl) (by kernel_rfl) ?_
  refine s_val (some 4) (.int .u64 9223372036854808578) (fun w => by kernel_rfl) (by kernel_rfl) ?_
  refine s_nil ?_
  refine g_sreg [0, 1, 2] (by kernel_rfl) (by kernel_rfl) ?_
  refine s_load H50 (some 9) 26 (.tmp 1) 1 b1 (Value.cells (svn (mS16 s))) 26 (0, 0) (by kernel_rfl) (by kernel_rfl) (by kernel_rfl) (by kernel_rfl) (by kernel_rfl) ?_
  refine s_call H50 (some 10) 14 #[svn (mS16 s)] (svn (rnd (mS16 s))) (round_fn (mS16 s)) (fun w => by kernel_rfl) (by kernel_rfl) ?_
  intro w51 H51; clear H50
  refine s_store H51 1 [(b2, Obj.cells Z25 26 (0, 0)), (b1, Obj.cells (Value.cells (svn (rnd (mS16 s)))) 26 (0, 0))] 26 (.tmp 1) (.tmp 10) b1 (0) (Value.cells (svn (mS16 s))) (Value.cells (svn (rnd (mS16 s)))) 26 (svn (rnd (mS16 s))) (by kernel_rfl) (by kernel_rfl) (by kernel_rfl) (by kernel_rfl) (by kernel_rfl) (by kernel_rfl) (of_decide_eq_true (by kernel_rfl)) (by kernel_rfl) (by kernel_rfl) ?_
  intro w52 H52; clear H51
  refine s_nil ?_
  refine g_reg0 [0, 1, 2, 3, 4, 5] (by kernel_rfl) ?_
  refine s_val (some 11) (.pointer (some ⟨b1, 0, none⟩)) (fun w => by kernel_rfl) (by kernel_rfl) ?_
  refine s_load1 H52 (some 12) 25 (.tmp 11) 1 b1 0 (Value.cells (svn (rnd (mS16 s)))) 26 (0, 0) (.int .u64 ((BitVec.toNat (nth (rnd (mS16 s)) 0) : Nat) : Int)) (by kernel_rfl) (by kernel_rfl) (by kernel_rfl) (by kernel_rfl) (by kernel_rfl) (by kernel_rfl) ?_
  refine s_val (some 13) (.int .u64 9223372036854808578) (fun w => by kernel_rfl) (by kernel_rfl) ?_
  refine s_valE (some 14) (.int .u64 (Go.bits .xor .u64 (((BitVec.toNat (nth (rnd (mS16 s)) 0) : Nat) : Int)) (9223372036854808578))) (.int .u64 ((BitVec.toNat ((nth (rnd (mS16 s)) 0) ^^^ (9223372036854808578 : BitVec 64)) : Nat) : Int)) (fun w => by kernel_rfl) (bv_xor_u64 (nth (rnd (mS16 s)) 0) (9223372036854808578 : BitVec 64)) (by kernel_rfl) ?_
  refine s_val (some 15) (.pointer (some ⟨b1, 0, none⟩)) (fun w => by kernel_rfl) (by kernel_rfl) ?_
  refine s_store H52 1 [(b2, Obj.cells Z25 26 (0, 0)), (b1, Obj.cells (Value.cells (svn (mS17 s))) 26 (0, 0))] 25 (.tmp 15) (.tmp 14) b1 (0) (Value.cells (svn (rnd (mS16 s)))) (Value.cells (svn (mS17 s))) 26 (.int .u64 ((BitVec.toNat ((nth (rnd (mS16 s)) 0) ^^^ (9223372036854808578 : BitVec 64)) : Nat) : Int)) (by kernel_rfl) (by kernel_rfl) (by kernel_rfl) (by kernel_rfl) (by kernel_rfl) (by kernel_rfl) (of_decide_eq_true (by kernel_rfl)) (svn_rm (mS16 s) (9223372036854808578 : BitVec 64)) (by kernel_rfl) ?_
  intro w53 H53; clear H52
  refine s_nil ?_
  show WP _ _ _ _ _ _
  refine g_reg0 [0, 1] (by kernel_rfl) ?_
  refine s_val (some 16) (.int .i64 17) (fun w => by kernel_rfl) (by kernel_rfl) ?_
  refine s_val (some 6) (.int .i64 17) (fun w => by kernel_rfl) (by kernel_rfl) ?_
  refine s_nil ?_
  show WPL _ _ _ _ _ _
  refine g_next ?_
  refine g_sreg [0] (by kernel_rfl) (by kernel_rfl) ?_
  refine s_val (some 7) (.bool true) (fun w => by kernel_rfl) (by kernel_rfl) ?_
  refine s_nil ?_
  refine g_seq (by kernel_rfl) ?_
  refine g_cond_t (by kernel_rfl) (by kernel_rfl) ?_
  refine g_skip (by kernel_rfl) ?_
  show WP _ _ _ _ _ _
  refine g_seq (by kernel_rfl) ?_
  refine g_block 1 (by kernel_rfl) ?_
  refine g_sreg [0, 1] (by kernel_rfl) (by kernel_rfl) ?_
  refine s_val (some 8) (.int .u64 9223372036854775936) (fun w => by kernel_rfl) (by kernel_rfl) ?_
  refine s_val (some 4) (.int .u64 9223372036854775936) (fun w => by kernel_rfl) (by kernel_rfl) ?_
  refine s_nil ?_
  refine g_sreg [0, 1, 2] (by kernel_rfl) (by kernel_rfl) ?_
  refine s_load H53 (some 9) 26 (.tmp 1) 1 b1 (Value.cells (svn (mS17 s))) 26 (0, 0) (by kernel_rfl) (by kernel_rfl) (by kernel_rfl) (by kernel_rfl) (by kernel_rfl) ?_
  refine s_call H53 (some 10) 14 #[svn (mS17 s)] (svn (rnd (mS17 s))) (round_fn (mS17 s)) (fun w => by kernel_rfl) (by kernel_rfl) ?_
  intro w54 H54; clear H53
  refine s_store H54 1 [(b2, Obj.cells Z25 26 (0, 0)), (b1, Obj.cells (Value.cells (svn (rnd (mS17 s)))) 26 (0, 0))] 26 (.tmp 1) (.tmp 10) b1 (0) (Value.cells (svn (mS17 s))) (Value.cells (svn (rnd (mS17 s)))) 26 (svn (rnd (mS17 s))) (by kernel_rfl) (by kernel_rfl) (by kernel_rfl) (by kernel_rfl) (by kernel_rfl) (by kernel_rfl) (of_decide_eq_true (by kernel_rfl)) (by kernel_rfl) (by kernel_rfl) ?_
  intro w55 H55; clear H54
  refine s_nil ?_
  refine g_reg0 [0, 1, 2, 3, 4, 5] (by kernel_rfl) ?_
  refine s_val (some 11) (.pointer (some ⟨b1, 0, none⟩)) (fun w => by kernel_rfl) (by kernel_rfl) ?_
  refine s_load1 H55 (some 12) 25 (.tmp 11) 1 b1 0 (Value.cells (svn (rnd (mS17 s)))) 26 (0, 0) (.int .u64 ((BitVec.toNat (nth (rnd (mS17 s)) 0) : Nat) : Int)) (by kernel_rfl) (by kernel_rfl) (by kernel_rfl) (by kernel_rfl) (by kernel_rfl) (by kernel_rfl) ?_
  refine s_val (some 13) (.int .u64 9223372036854775936) (fun w => by kernel_rfl) (by kernel_rfl) ?_
  refine s_valE (some 14) (.int .u64 (Go.bits .xor .u64 (((BitVec.toNat (nth (rnd (mS17 s)) 0) : Nat) : Int)) (9223372036854775936))) (.int .u64 ((BitVec.toNat ((nth (rnd (mS17 s)) 0) ^^^ (9223372036854775936 : BitVec 64)) : Nat) : Int)) (fun w => by kernel_rfl) (bv_xor_u64 (nth (rnd (mS17 s)) 0) (9223372036854775936 : BitVec 64)) (by kernel_rfl) ?_
  refine s_val (some 15) (.pointer (some ⟨b1, 0, none⟩)) (fun w => by kernel_rfl) (by kernel_rfl) ?_
  refine s_store H55 1 [(b2, Obj.cells Z25 26 (0, 0)), (b1, Obj.cells (Value.cells (svn (mS18 s))) 26 (0, 0))] 25 (.tmp 15) (.tmp 14) b1 (0) (Value.cells (svn (rnd (mS17 s)))) (Value.cells (svn (mS18 s))) 26 (.int .u64 ((BitVec.toNat ((nth (rnd (mS17 s)) 0) ^^^ (9223372036854775936 : BitVec 64)) : Nat) : Int)) (by kernel_rfl) (by kernel_rfl) (by kernel_rfl) (by kernel_rfl) (by kernel_rfl) (by kernel_rfl) (of_decide_eq_true (by kernel_rfl)) (svn_rm (mS17 s) (9223372036854775936 : BitVec 64)) (by kernel_rfl) ?_
  intro w56 H56; clear H55
  refine s_nil ?_
  show WP _ _ _ _ _ _
  refine g_reg0 [0, 1] (by kernel_rfl) ?_
  refine s_val (some 16) (.int .i64 18) (fun w => by kernel_rfl) (by kernel_rfl) ?_
  refine s_val (some 6) (.int .i64 18) (fun w => by kernel_rfl) (by kernel_rfl) ?_
  refine s_nil ?_
  show WPL _ _ _ _ _ _
  refine g_next ?_
  refine g_sreg [0] (by kernel_rfl) (by kernel_rfl) ?_
  refine s_val (some 7) (.bool true) (fun w => by kernel_rfl) (by kernel_rfl) ?_
  refine s_nil ?_
  refine g_seq (by kernel_rfl) ?_
  refine g_cond_t (by kernel_rfl) (by kernel_rfl) ?_
  refine g_skip (by kernel_rfl) ?_
  show WP _ _ _ _ _ _
  refine g_seq (by kernel_rfl) ?_
  refine g_block 1 (by kernel_rfl) ?_
  refine g_sreg [0, 1] (by kernel_rfl) (by kernel_rfl) ?_
  refine s_val (some 8) (.int .u64 32778) (fun w => by kernel_rfl) (by kernel_rfl) ?_
  refine s_val (some 4) (.int .u64 32778) (fun w => by kernel_rfl) (by kernel_rfl) ?_
  refine s_nil ?_
  refine g_sreg [0, 1, 2] (by kernel_rfl) (by kernel_rfl) ?_
  refine s_load H56 (some 9) 26 (.tmp 1) 1 b1 (Value.cells (svn (mS18 s))) 26 (0, 0) (by kernel_rfl) (by kernel_rfl) (by kernel_rfl) (by kernel_rfl) (by kernel_rfl) ?_
  refine s_call H56 (some 10) 14 #[svn (mS18 s)] (svn (rnd (mS18 s))) (round_fn (mS18 s)) (fun w => by kernel_rfl) (by kernel_rfl) ?_
  intro w57 H57; clear H56
  refine s_store H57 1 [(b2, Obj.cells Z25 26 (0, 0)), (b1, Obj.cells (Value.cells (svn (rnd (mS18 s)))) 26 (0, 0))] 26 (.tmp 1) (.tmp 10) b1 (0) (Value.cells (svn (mS18 s))) (Value.cells (svn (rnd (mS18 s)))) 26 (svn (rnd (mS18 s))) (by kernel_rfl) (by kernel_rfl) (by kernel_rfl) (by kernel_rfl) (by kernel_rfl) (by kernel_rfl) (of_decide_eq_true (by kernel_rfl)) (by kernel_rfl) (by kernel_rfl) ?_
  intro w58 H58; clear H57
  refine s_nil ?_
  refine g_reg0 [0, 1, 2, 3, 4, 5] (by kernel_rfl) ?_
  refine s_val (some 11) (.pointer (some ⟨b1, 0, none⟩)) (fun w => by kernel_rfl) (by kernel_rfl) ?_
  refine s_load1 H58 (some 12) 25 (.tmp 11) 1 b1 0 (Value.cells (svn (rnd (mS18 s)))) 26 (0, 0) (.int .u64 ((BitVec.toNat (nth (rnd (mS18 s)) 0) : Nat) : Int)) (by kernel_rfl) (by kernel_rfl) (by kernel_rfl) (by kernel_rfl) (by kernel_rfl) (by kernel_rfl) ?_
  refine s_val (some 13) (.int .u64 32778) (fun w => by kernel_rfl) (by kernel_rfl) ?_
  refine s_valE (some 14) (.int .u64 (Go.bits .xor .u64 (((BitVec.toNat (nth (rnd (mS18 s)) 0) : Nat) : Int)) (32778))) (.int .u64 ((BitVec.toNat ((nth (rnd (mS18 s)) 0) ^^^ (32778 : BitVec 64)) : Nat) : Int)) (fun w => by kernel_rfl) (bv_xor_u64 (nth (rnd (mS18 s)) 0) (32778 : BitVec 64)) (by kernel_rfl) ?_
  refine s_val (some 15) (.pointer (some ⟨b1, 0, none⟩)) (fun w => by kernel_rfl) (by kernel_rfl) ?_
  refine s_store H58 1 [(b2, Obj.cells Z25 26 (0, 0)), (b1, Obj.cells (Value.cells (svn (mS19 s))) 26 (0, 0))] 25 (.tmp 15) (.tmp 14) b1 (0) (Value.cells (svn (rnd (mS18 s)))) (Value.cells (svn (mS19 s))) 26 (.int .u64 ((BitVec.toNat ((nth (rnd (mS18 s)) 0) ^^^ (32778 : BitVec 64)) : Nat) : Int)) (by kernel_rfl) (by kernel_rfl) (by kernel_rfl) (by kernel_rfl) (by kernel_rfl) (by kernel_rfl) (of_decide_eq_true (by kernel_rfl)) (svn_rm (mS18 s) (32778 : BitVec 64)) (by kernel_rfl) ?_
  intro w59 H59; clear H58
  refine s_nil ?_
  show WP _ _ _ _ _ _
  refine g_reg0 [0, 1] (by kernel_rfl) ?_
  refine s_val (some 16) (.int .i64 19) (fun w => by kernel_rfl) (by kernel_rfl) ?_
  refine s_val (some 6) (.int .i64 19) (fun w => by kernel_rfl) (by kernel_rfl) ?_
  refine s_nil ?_
  show WPL _ _ _ _ _ _
  refine g_next ?_
  refine g_sreg [0] (by kernel_rfl) (by kernel_rfl) ?_
  refine s_val (some 7) (.bool true) (fun w => by kernel_rfl) (by kernel_rfl) ?_
  refine s_nil ?_
  refine g_seq (by kernel_rfl) ?_
  refine g_cond_t (by kernel_rfl) (by kernel_rfl) ?_
  refine g_skip (by kernel_rfl) ?_
  show WP _ _ _ _ _ _
  refine g_seq (by kernel_rfl) ?_
  refine g_block 1 (by kernel_rfl) ?_
  refine g_sreg [0, 1] (by kernel_rfl) (by kernel_rfl) ?_
  refine s_val (some 8) (.int .u64 9223372039002259466) (fun w => by kernel_rfl) (by kernel_rfl) ?_
  refine s_val (some 4) (.int .u64 9223372039002259466) (fun w => by kernel_rfl) (by kernel_rfl) ?_
  refine s_nil ?_
  refine g_sreg [0, 1, 2] (by kernel_rfl) (by kernel_rfl) ?_
  refine s_load H59 (some 9) 26 (.tmp 1) 1 b1 (Value.cells (svn (mS19 s))) 26 (0, 0) (by kernel_rfl) (by kernel_rfl) (by kernel_rfl) (by kernel_rfl) (by kernel_rfl) ?_
  refine s_call H59 (some 10) 14 #[svn (mS19 s)] (svn (rnd (mS19 s))) (round_fn (mS19 s)) (fun w => by kernel_rfl) (by kernel_rfl) ?_
  intro w60 H60; clear H59
  refine s_store H60 1 [(b2, Obj.cells Z25 26 (0, 0)), (b1, Obj.cells (Value.cells (svn (rnd (mS19 s)))) 26 (0, 0))] 26 (.tmp 1) (.tmp 10) b1 (0) (Value.cells (svn (mS19 s))) (Value.cells (svn (rnd (mS19 s)))) 26 (svn (rnd (mS19 s))) (by kernel_rfl) (by kernel_rfl) (by kernel_rfl) (by kernel_rfl) (by kernel_rfl) (by kernel_rfl) (of_decide_eq_true (by kernel_rfl)) (by kernel_rfl) (by kernel_rfl) ?_
  intro w61 H61; clear H60
  refine s_nil ?_
  refine g_reg0 [0, 1, 2, 3, 4, 5] (by kernel_rfl) ?_
  refine s_val (some 11) (.pointer (some ⟨b1, 0, none⟩)) (fun w => by kernel_rfl) (by kernel_rfl) ?_
  refine s_load1 H61 (some 12) 25 (.tmp 11) 1 b1 0 (Value.cells (svn (rnd (mS19 s)))) 26 (0, 0) (.int .u64 ((BitVec.toNat (nth (rnd (mS19 s)) 0) : Nat) : Int)) (by kernel_rfl) (by kernel_rfl) (by kernel_rfl) (by kernel_rfl) (by kernel_rfl) (by kernel_rfl) ?_
  refine s_val (some 13) (.int .u64 9223372039002259466) (fun w => by kernel_rfl) (by kernel_rfl) ?_
  refine s_valE (some 14) (.int .u64 (Go.bits .xor .u64 (((BitVec.toNat (nth (rnd (mS19 s)) 0) : Nat) : Int)) (9223372039002259466))) (.int .u64 ((BitVec.toNat ((nth (rnd (mS19 s)) 0) ^^^ (9223372039002259466 : BitVec 64)) : Nat) : Int)) (fun w => by kernel_rfl) (bv_xor_u64 (nth (rnd (mS19 s)) 0) (9223372039002259466 : BitVec 64)) (by kernel_rfl) ?_
  refine s_val (some 15) (.pointer (some ⟨b1, 0, none⟩)) (fun w => by kernel_rfl) (by kernel_rfl) ?_
  refine s_store H61 1 [(b2, Obj.cells Z25 26 (0, 0)), (b1, Obj.cells (Value.cells (svn (mS20 s))) 26 (0, 0))] 25 (.tmp 15) (.tmp 14) b1 (0) (Value.cells (svn (rnd (mS19 s)))) (Value.cells (svn (mS20 s))) 26 (.int .u64 ((BitVec.toNat ((nth (rnd (mS19 s)) 0) ^^^ (9223372039002259466 : BitVec 64)) : Nat) : Int)) (by kernel_rfl) (by kernel_rfl) (by kernel_rfl) (by kernel_rfl) (by kernel_rfl) (by kernel_rfl) (of_decide_eq_true (by kernel_rfl)) (svn_rm (mS19 s) (9223372039002259466 : BitVec 64)) (by kernel_rfl) ?_
  intro w62 H62; clear H61
  refine s_nil ?_
  show WP _ _ _ _ _ _
  refine g_reg0 [0, 1] (by kernel_rfl) ?_
  refine s_val (some 16) (.int .i64 20) (fun w => by kernel_rfl) (by kernel_rfl) ?_
  refine s_val (some 6) (.int .i64 20) (fun w => by kernel_rfl) (by kernel_rfl) ?_
  refine s_nil ?_
  show WPL _ _ _ _ _ _
  refine g_next ?_
  refine g_sreg [0] (by kernel_rfl) (by kernel_rfl) ?_
  refine s_val (some 7) (.bool true) (fun w => by kernel_rfl) (by kernel_rfl) ?_
  refine s_nil ?_
  refine g_seq (by kernel_rfl) ?_
  refine g_cond_t (by kernel_rfl) (by kernel_rfl) ?_
  refine g_skip (by kernel_rfl) ?_
  show WP _ _ _ _ _ _
  refine g_seq (by kernel_rfl) ?_
  refine g_block 1 (by kernel_rfl) ?_
  refine g_sreg [0, 1] (by kernel_rfl) (by kernel_rfl) ?_
  refine s_val (some 8) (.int .u64 9223372039002292353) (fun w => by kernel_rfl) (by kernel_rfl) ?_
  refine s_val (some 4) (.int .u64 9223372039002292353) (fun w => by kernel_rfl) (by kernel_rfl) ?_
  refine s_nil ?_
  refine g_sreg [0, 1, 2] (by kernel_rfl) (by kernel_rfl) ?_
  refine s_load H62 (some 9) 26 (.tmp 1) 1 b1 (Value.cells (svn (mS20 s))) 26 (0, 0) (by kernel_rfl) (by kernel_rfl) (by kernel_rfl) (by kernel_rfl) (by kernel_rfl) ?_
  refine s_call H62 (some 10) 14 #[svn (mS20 s)] (svn (rnd (mS20 s))) (round_fn (mS20 s)) (fun w => by kernel_rfl) (by kernel_rfl) ?_
  intro w63 H63; clear H62
  refine s_store H63 1 [(b2, Obj.cells Z25 26 (0, 0)), (b1, Obj.cells (Value.cells (svn (rnd (mS20 s)))) 26 (0, 0))] 26 (.tmp 1) (.tmp 10) b1 (0) (Value.cells (svn (mS20 s))) (Value.cells (svn (rnd (mS20 s)))) 26 (svn (rnd (mS20 s))) (by kernel_rfl) (by kernel_rfl) (by kernel_rfl) (by kernel_rfl) (by kernel_rfl) (by kernel_rfl) (of_decide_eq_true (by kernel_rfl)) (by kernel_rfl) (by kernel_rfl) ?_
  intro w64 H64; clear H63
  refine s_nil ?_
  refine g_reg0 [0, 1, 2, 3, 4, 5] (by kernel_rfl) ?_
  refine s_val (some 11) (.pointer (some ⟨b1, 0, none⟩)) (fun w => by kernel_rfl) (by kernel_rfl) ?_
  refine s_load1 H64 (some 12) 25 (.tmp 11) 1 b1 0 (Value.cells (svn (rnd (mS20 s)))) 26 (0, 0) (.int .u64 ((BitVec.toNat (nth (rnd (mS20 s)) 0) : Nat) : Int)) (by kernel_rfl) (by kernel_rfl) (by kernel_rfl) (by kernel_rfl) (by kernel_rfl) (by kernel_rfl) ?_
  refine s_val (some 13) (.int .u64 9223372039002292353) (fun w => by kernel_rfl) (by kernel_rfl) ?_
  refine s_valE (some 14) (.int .u64 (Go.bits .xor .u64 (((BitVec.toNat (nth (rnd (mS20 s)) 0) : Nat) : Int)) (9223372039002292353))) (.int .u64 ((BitVec.toNat ((nth (rnd (mS20 s)) 0) ^^^ (9223372039002292353 : BitVec 64)) : Nat) : Int)) (fun w => by kernel_rfl) (bv_xor_u64 (nth (rnd (mS20 s)) 0) (9223372039002292353 : BitVec 64)) (by kernel_rfl) ?_
  refine s_val (some 15) (.pointer (some ⟨b1, 0, none⟩)) (fun w => by kernel_rfl) (by kernel_rfl) ?_
  refine s_store H64 1 [(b2, Obj.cells Z25 26 (0, 0)), (b1, Obj.cells (Value.cells (svn (mS21 s))) 26 (0, 0))] 25 (.tmp 15) (.tmp 14) b1 (0) (Value.cells (svn (rnd (mS20 s)))) (Value.cells (svn (mS21 s))) 26 (.int .u64 ((BitVec.toNat ((nth (rnd (mS20 s)) 0) ^^^ (9223372039002292353 : BitVec 64)) : Nat) : Int)) (by kernel_rfl) (by kernel_rfl) (by kernel_rfl) (by kernel_rfl) (by kernel_rfl) (by kernel_rfl) (of_decide_eq_true (by kernel_rfl)) (svn_rm (mS20 s) (9223372039002292353 : BitVec 64)) (by kernel_rfl) ?_
  intro w65 H65; clear H64
  refine s_nil ?_
  show WP _ _ _ _ _ _
  refine g_reg0 [0, 1] (by kernel_rfl) ?_
  refine s_val (some 16) (.int .i64 21) (fun w => by kernel_rfl) (by kernel_rfl) ?_
  refine s_val (some 6) (.int .i64 21) (fun w => by kernel_rfl) (by kernel_rfl) ?_
  refine s_nil ?_
  show WPL _ _ _ _ _ _
  refine g_next ?_
  refine g_sreg [0] (by kernel_rfl) (by kernel_rfl) ?_
  refine s_val (some 7) (.bool true) (fun w => by kernel_rfl) (by kernel_rfl) ?_
  refine s_nil ?_
  refine g_seq (by kernel_rfl) ?_
  refine g_cond_t (by kernel_rfl) (by kernel_rfl) ?_
  refine g_skip (by kernel_rfl) ?_
  show WP _ _ _ _ _ _
  refine g_seq (by kernel_rfl) ?_
  refine g_block 1 (by kernel_rfl) ?_
  refine g_sreg [0, 1] (by kernel_rfl) (by kernel_rfl) ?_
  refine s_val (some 8) (.int .u64 9223372036854808704) (fun w => by kernel_rfl) (by kernel_rfl) ?_
  refine s_val (some 4) (.int .u64 9223372036854808704) (fun w => by kernel_rfl) (by kernel_rfl) ?_
  refine s_nil ?_
  refine g_sreg [0, 1, 2] (by kernel_rfl) (by kernel_rfl) ?_
  refine s_load H65 (some 9) 26 (.tmp 1) 1 b1 (Value.cells (svn (mS21 s))) 26 (0, 0) (by kernel_rfl) (by kernel_rfl) (by kernel_rfl) (by kernel_rfl) (by kernel_rfl) ?_
  refine s_call H65 (some 10) 14 #[svn (mS21 s)] (svn (rnd (mS21 s))) (round_fn (mS21 s)) (fun w => by kernel_rfl) (by kernel_rfl) ?_
  intro w66 H66; clear H65
  refine s_store H66 1 [(b2, Obj.cells Z25 26 (0, 0)), (b1, Obj.cells (Value.cells (svn (rnd (mS21 s)))) 26 (0, 0))] 26 (.tmp 1) (.tmp 10) b1 (0) (Value.cells (svn (mS21 s))) (Value.cells (svn (rnd (mS21 s)))) 26 (svn (rnd (mS21 s))) (by kernel_rfl) (by kernel_rfl) (by kernel_rfl) (by kernel_rfl) (by kernel_rfl) (by kernel_rfl) (of_decide_eq_true (by kernel_rfl)) (by kernel_rfl) (by kernel_rfl) ?_
  intro w67 H67; clear H66
  refine s_nil ?_
  refine g_reg0 [0, 1, 2, 3, 4, 5] (by kernel_rfl) ?_
  refine s_val (some 11) (.pointer (some ⟨b1, 0, none⟩)) (fun w => by kernel_rfl) (by kernel_rfl) ?_
  refine s_load1 H67 (some 12) 25 (.tmp 11) 1 b1 0 (Value.cells (svn (rnd (mS21 s)))) 26 (0, 0) (.int .u64 ((BitVec.toNat (nth (rnd (mS21 s)) 0) : Nat) : Int)) (by kernel_rfl) (by kernel_rfl) (by kernel_rfl) (by kernel_rfl) (by kernel_rfl) (by kernel_rfl) ?_
  refine s_val (some 13) (.int .u64 9223372036854808704) (fun w => by kernel_rfl) (by kernel_rfl) ?_
  refine s_valE (some 14) (.int .u64 (Go.bits .xor .u64 (((BitVec.toNat (nth (rnd (mS21 s)) 0) : Nat) : Int)) (9223372036854808704))) (.int .u64 ((BitVec.toNat ((nth (rnd (mS21 s)) 0) ^^^ (9223372036854808704 : BitVec 64)) : Nat) : Int)) (fun w => by kernel_rfl) (bv_xor_u64 (nth (rnd (mS21 s)) 0) (9223372036854808704 : BitVec 64)) (by kernel_rfl) ?_
  refine s_val (some 15) (.pointer (some ⟨b1, 0, none⟩)) (fun w => by kernel_rfl) (by kernel_rfl) ?_
  refine s_store H67 1 [(b2, Obj.cells Z25 26 (0, 0)), (b1, Obj.cells (Value.cells (svn (mS22 s))) 26 (0, 0))] 25 (.tmp 15) (.tmp 14) b1 (0) (Value.cells (svn (rnd (mS21 s)))) (Value.cells (svn (mS22 s))) 26 (.int .u64 ((BitVec.toNat ((nth (rnd (mS21 s)) 0) ^^^ (9223372036854808704 : BitVec 64)) : Nat) : Int)) (by kernel_rfl) (by kernel_rfl) (by kernel_rfl) (by kernel_rfl) (by kernel_rfl) (by kernel_rfl) (of_decide_eq_true (by kernel_rfl)) (svn_rm (mS21 s) (9223372036854808704 : BitVec 64)) (by kernel_rfl) ?_
  intro w68 H68; clear H67
  refine s_nil ?_
  show WP _ _ _ _ _ _
  refine g_reg0 [0, 1] (by kernel_rfl) ?_
  refine s_val (some 16) (.int .i64 22) (fun w => by kernel_rfl) (by kernel_rfl) ?_
  refine s_val (some 6) (.int .i64 22) (fun w => by kernel_rfl) (by kernel_rfl) ?_
  refine s_nil ?_
  show WPL _ _ _ _ _ _
  refine g_next ?_
  refine g_sreg [0] (by kernel_rfl) (by kernel_rfl) ?_
  refine s_val (some 7) (.bool true) (fun w => by kernel_rfl) (by kernel_rfl) ?_
  refine s_nil ?_
  refine g_seq (by kernel_rfl) ?_
  refine g_cond_t (by kernel_rfl) (by kernel_rfl) ?_
  refine g_skip (by kernel_rfl) ?_
  show WP _ _ _ _ _ _
  refine g_seq (by kernel_rfl) ?_
  refine g_block 1 (by kernel_rfl) ?_
  refine g_sreg [0, 1] (by kernel_rfl) (by kernel_rfl) ?_
  refine s_val (some 8) (.int .u64 2147483649) (fun w => by kernel_rfl) (by kernel_rfl) ?_
  refine s_val (some 4) (.int .u64 2147483649) (fun w => by kernel_rfl) (by kernel_rfl) ?_
  refine s_nil ?_
  refine g_sreg [0, 1, 2] (by kernel_rfl) (by kernel_rfl) ?_
  refine s_load H68 (some 9) 26 (.tmp 1) 1 b1 (Value.cells (svn (mS22 s))) 26 (0, 0) (by kernel_rfl) (by kernel_rfl) (by kernel_rfl) (by kernel_rfl) (by kernel_rfl) ?_
  refine s_call H68 (some 10) 14 #[svn (mS22 s)] (svn (rnd (mS22 s))) (round_fn (mS22 s)) (fun w => by kernel_rfl) (by kernel_rfl) ?_
  intro w69 H69; clear H68
  refine s_store H69 1 [(b2, Obj.cells Z25 26 (0, 0)), (b1, Obj.cells (Value.cells (svn (rnd (mS22 s)))) 26 (0, 0))] 26 (.tmp 1) (.tmp 10) b1 (0) (Value.cells (svn (mS22 s))) (Value.cells (svn (rnd (mS22 s)))) 26 (svn (rnd (mS22 s))) (by kernel_rfl) (by kernel_rfl) (by kernel_rfl) (by kernel_rfl) (by kernel_rfl) (by kernel_rfl) (of_decide_eq_true (by kernel_rfl)) (by kernel_rfl) (by kernel_rfl) ?_
  intro w70 H70; clear H69
  refine s_nil ?_
  refine g_reg0 [0, 1, 2, 3, 4, 5] (by kernel_rfl) ?_
  refine s_val (some 11) (.pointer (some ⟨b1, 0, none⟩)) (fun w => by kernel_rfl) (by kernel_rfl) ?_
  refine s_load1 H70 (some 12) 25 (.tmp 11) 1 b1 0 (Value.cells (svn (rnd (mS22 s)))) 26 (0, 0) (.int .u64 ((BitVec.toNat (nth (rnd (mS22 s)) 0) : Nat) : Int)) (by kernel_rfl) (by kernel_rfl) (by kernel_rfl) (by kernel_rfl) (by kernel_rfl) (by kernel_rfl) ?_
  refine s_val (some 13) (.int .u64 2147483649) (fun w => by kernel_rfl) (by kernel_rfl) ?_
  refine s_valE (some 14) (.int .u64 (Go.bits .xor .u64 (((BitVec.toNat (nth (rnd (mS22 s)) 0) : Nat) : Int)) (2147483649))) (.int .u64 ((BitVec.toNat ((nth (rnd (mS22 s)) 0) ^^^ (2147483649 : BitVec 64)) : Nat) : Int)) (fun w => by kernel_rfl) (bv_xor_u64 (nth (rnd (mS22 s)) 0) (2147483649 : BitVec 64)) (by kernel_rfl) ?_
  refine s_val (some 15) (.pointer (some ⟨b1, 0, none⟩)) (fun w => by kernel_rfl) (by kernel_rfl) ?_
  refine s_store H70 1 [(b2, Obj.cells Z25 26 (0, 0)), (b1, Obj.cells (Value.cells (svn (mS23 s))) 26 (0, 0))] 25 (.tmp 15) (.tmp 14) b1 (0) (Value.cells (svn (rnd (mS22 s)))) (Value.cells (svn (mS23 s))) 26 (.int .u64 ((BitVec.toNat ((nth (rnd (mS22 s)) 0) ^^^ (2147483649 : BitVec 64)) : Nat) : Int)) (by kernel_rfl) (by kernel_rfl) (by kernel_rfl) (by kernel_rfl) (by kernel_rfl) (by kernel_rfl) (of_decide_eq_true (by kernel_rfl)) (svn_rm (mS22 s) (2147483649 : BitVec 64)) (by kernel_rfl) ?_
  intro w71 H71; clear H70
  refine s_nil ?_
  show WP _ _ _ _ _ _
  refine g_reg0 [0, 1] (by kernel_rfl) ?_
  refine s_val (some 16) (.int .i64 23) (fun w => by kernel_rfl) (by kernel_rfl) ?_
  refine s_val (some 6) (.int .i64 23) (fun w => by kernel_rfl) (by kernel_rfl) ?_
  refine s_nil ?_
  show WPL _ _ _ _ _ _
  refine g_next ?_
  refine g_sreg [0] (by kernel_rfl) (by kernel_rfl) ?_
  refine s_val (some 7) (.bool true) (fun w => by kernel_rfl) (by kernel_rfl) ?_
  refine s_nil ?_
  refine g_seq (by kernel_rfl) ?_
  refine g_cond_t (by kernel_rfl) (by kernel_rfl) ?_
  refine g_skip (by kernel_rfl) ?_
  show WP _ _ _ _ _ _
  refine g_seq (by kernel_rfl) ?_
  refine g_block 1 (by kernel_rfl) ?_
  refine g_sreg [0, 1] (by kernel_rfl) (by kernel_rfl) ?_
  refine s_val (some 8) (.int .u64 9223372039002292232) (fun w => by kernel_rfl) (by kernel_rfl) ?_
  refine s_val (some 4) (.int .u64 9223372039002292232) (fun w => by kernel_rfl) (by kernel_rfl) ?_
  refine s_nil ?_
  refine g_sreg [0, 1, 2] (by kernel_rfl) (by kernel_rfl) ?_
  refine s_load H71 (some 9) 26 (.tmp 1) 1 b1 (Value.cells (svn (mS23 s))) 26 (0, 0) (by kernel_rfl) (by kernel_rfl) (by kernel_rfl) (by kernel_rfl) (by kernel_rfl) ?_
  refine s_call H71 (some 10) 14 #[svn (mS23 s)] (svn (rnd (mS23 s))) (round_fn (mS23 s)) (fun w => by kernel_rfl) (by kernel_rfl) ?_
  intro w72 H72; clear H71
  refine s_store H72 1 [(b2, Obj.cells Z25 26 (0, 0)), (b1, Obj.cells (Value.cells (svn (rnd (mS23 s)))) 26 (0, 0))] 26 (.tmp 1) (.tmp 10) b1 (0) (Value.cells (svn (mS23 s))) (Value.cells (svn (rnd (mS23 s)))) 26 (svn (rnd (mS23 s))) (by kernel_rfl) (by kernel_rfl) (by kernel_rfl) (by kernel_rfl) (by kernel_rfl) (by kernel_rfl) (of_decide_eq_true (by kernel_rfl)) (by kernel_rfl) (by kernel_rfl) ?_
  intro w73 H73; clear H72
  refine s_nil ?_
  refine g_reg0 [0, 1, 2, 3, 4, 5] (by kernel_rfl) ?_
  refine s_val (some 11) (.pointer (some ⟨b1, 0, none⟩)) (fun w => by kernel_rfl) (by kernel_rfl) ?_
  refine s_load1 H73 (some 12) 25 (.tmp 11) 1 b1 0 (Value.cells (svn (rnd (mS23 s)))) 26 (0, 0) (.int .u64 ((BitVec.toNat (nth (rnd (mS23 s)) 0) : Nat) : Int)) (by kernel_rfl) (by kernel_rfl) (by kernel_rfl) (by kernel_rfl) (by kernel_rfl) (by kernel_rfl) ?_
  refine s_val (some 13) (.int .u64 9223372039002292232) (fun w => by kernel_rfl) (by kernel_rfl) ?_
  refine s_valE (some 14) (.int .u64 (Go.bits .xor .u64 (((BitVec.toNat (nth (rnd (mS23 s)) 0) : Nat) : Int)) (9223372039002292232))) (.int .u64 ((BitVec.toNat ((nth (rnd (mS23 s)) 0) ^^^ (9223372039002292232 : BitVec 64)) : Nat) : Int)) (fun w => by kernel_rfl) (bv_xor_u64 (nth (rnd (mS23 s)) 0) (9223372039002292232 : BitVec 64)) (by kernel_rfl) ?_
  refine s_val (some 15) (.pointer (some ⟨b1, 0, none⟩)) (fun w => by kernel_rfl) (by kernel_rfl) ?_
  refine s_store H73 1 [(b2, Obj.cells Z25 26 (0, 0)), (b1, Obj.cells (Value.cells (svn (mS24 s))) 26 (0, 0))] 25 (.tmp 15) (.tmp 14) b1 (0) (Value.cells (svn (rnd (mS23 s)))) (Value.cells (svn (mS24 s))) 26 (.int .u64 ((BitVec.toNat ((nth (rnd (mS23 s)) 0) ^^^ (9223372039002292232 : BitVec 64)) : Nat) : Int)) (by kernel_rfl) (by kernel_rfl) (by kernel_rfl) (by kernel_rfl) (by kernel_rfl) (by kernel_rfl) (of_decide_eq_true (by kernel_rfl)) (svn_rm (mS23 s) (9223372039002292232 : BitVec 64)) (by kernel_rfl) ?_
  intro w74 H74; clear H73
  refine s_nil ?_
  show WP _ _ _ _ _ _
  refine g_reg0 [0, 1] (by kernel_rfl) ?_
  refine s_val (some 16) (.int .i64 24) (fun w => by kernel_rfl) (by kernel_rfl) ?_
  refine s_val (some 6) (.int .i64 24) (fun w => by kernel_rfl) (by kernel_rfl) ?_
  refine s_nil ?_
  show WPL _ _ _ _ _ _
  refine g_next ?_
  refine g_sreg [0] (by kernel_rfl) (by kernel_rfl) ?_
  refine s_val (some 7) (.bool false) (fun w => by kernel_rfl) (by kernel_rfl) ?_
  refine s_nil ?_
  refine g_seq (by kernel_rfl) ?_
  refine g_cond_f (by kernel_rfl) (by kernel_rfl) ?_
  refine g_exit 0 (by kernel_rfl) ?_
  show WP _ _ _ _ _ _
  refine g_sreg [0, 1] (by kernel_rfl) (by kernel_rfl) ?_
  refine s_load H74 (some 17) 26 (.tmp 1) 1 b1 (Value.cells (svn (mS24 s))) 26 (0, 0) (by kernel_rfl) (by kernel_rfl) (by kernel_rfl) (by kernel_rfl) (by kernel_rfl) ?_
  refine s_store H74 0 [(b2, Obj.cells (Value.cells (svn (mS24 s))) 26 (0, 0)), (b1, Obj.cells (Value.cells (svn (mS24 s))) 26 (0, 0))] 26 (.tmp 2) (.tmp 17) b2 (0) Z25 (Value.cells (svn (mS24 s))) 26 (svn (mS24 s)) (by kernel_rfl) (by kernel_rfl) (by kernel_rfl) (by kernel_rfl) (by kernel_rfl) (by kernel_rfl) (of_decide_eq_true (by kernel_rfl)) (by kernel_rfl) (by kernel_rfl) ?_
  intro w75 H75; clear H74
  refine s_nil ?_
  refine g_ret (by kernel_rfl) ?_
  show ∃ vs, Res _ _ _ _ vs ∧ _
  refine ⟨[svn (mS24 s)], (.agg (b := b2) (Value.cells (svn (mS24 s))) 26 (0, 0) (by kernel_rfl) (H75.get 0 (by kernel_rfl)) (by kernel_rfl) .nil), ?_, H75.below⟩
  rfl

theorem mix_fn (s : List (BitVec 64)) : FnP Tryd.prog 10 #[svn s] Marks (svn (mix s)) := fun w ⟨T, fz, h⟩ => mix_fnT s T fz w h
end Go.Proofs.YtddhadddpllbcaaDoor
