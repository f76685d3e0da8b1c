/-  SHRUNK
  Sums of texts.
-/
import Derived.Test.YtddhadddpllbcaaDoorProg
import Derived.Test.YtddhadddpllbcaaDoorStr
import Derived.Test.YtddhadddpllbcaaDoorArr
import Derived.Test.YtddhadddpllbcaaDoorKecM
import Derived.Test.YtddhadddpllbcaaDoorKecT
namespace Go.Proofs.YtddhadddpllbcaaDoor
open Go Go.RowKit Go.Proofs.Kec
set_option linter.unusedVariables false
abbrev wb (x : BitVec 8) : Value := .int .u8 ((BitVec.toNat x : Nat) : Int)
abbrev fb (s : List (BitVec 64)) (q sh : Nat) : Value := wb (BitVec.setWidth 8 ((nth s q) >>> sh))
abbrev Z32 : Array Value := #[.int .u8 0, .int .u8 0, .int .u8 0, .int .u8 0, .int .u8 0, .int .u8 0, .int .u8 0, .int .u8 0, .int .u8 0, .int .u8 0, .int .u8 0, .int .u8 0, .int .u8 0, .int .u8 0, .int .u8 0, .int .u8 0, .int .u8 0, .int .u8 0, .int .u8 0, .int .u8 0, .int .u8 0, .int .u8 0, .int .u8 0, .int .u8 0, .int .u8 0, .int .u8 0, .int .u8 0, .int .u8 0, .int .u8 0, .int .u8 0, .int .u8 0, .int .u8 0]
theorem b8 (x : BitVec 64) (sh : Nat) : UInt8.ofNat (Int.toNat (((BitVec.toNat (BitVec.setWidth 8 (x >>> sh)) : Nat) : Int))) = UInt8.ofNat (BitVec.toNat x / 2 ^ sh) := by
  apply UInt8.toNat_inj.1
  rw [Int.toNat_natCast, BitVec.toNat_setWidth, BitVec.toNat_ushiftRight, Nat.shiftRight_eq_div_pow]
  simp
theorem take_fnq (q : List (BitVec 64) × Nat) (hq : StOK q) (t : ByteArray) (ht : ByteArray.size t < 4611686018427387904) :
    FnP Tryd.prog 16 #[svn q.1, .int .i64 ((q.2 : Nat) : Int), .string t] Marks (.tuple #[svn (takeB q (tl t)).1, .int .i64 (((takeB q (tl t)).2 : Nat) : Int)]) := take_fn q.1 q.2 t hq.len hq.lt ht
theorem end_fnq (q : List (BitVec 64) × Nat) (hq : StOK q) : Fn Tryd.prog 18 #[svn q.1, .int .i64 ((q.2 : Nat) : Int)] (svn (endB q)) := end_fn q.1 q.2 hq.len hq.lt

set_option maxRecDepth 100000 in
set_option maxHeartbeats 2000000 in
theorem first_fn (s : List (BitVec 64)) : Fn Tryd.prog 17 #[svn s] (.string (strB (firstB s))) := by
  refine Fn.intro (c := codeOf Tryd.f17) [.tmp 2] 22 Tryd.func17 (by kernel_rfl) (by kernel_rfl) (by kernel_rfl) fun w => ?_
  have H0 := St.start w
  refine g_sreg [0, 1] (by kernel_rfl) (by kernel_rfl) ?_
  refine s_box H0 (some 1) 26 (.tmp 0) (svn s) (by kernel_rfl) (by kernel_rfl) (by kernel_rfl) ?_
  intro b1 w1 H1; clear H0
  refine s_val (some 2) (.string (⟨#[]⟩)) (fun w => by kernel_rfl) (by kernel_rfl) ?_
  refine s_nil ?_
  refine g_sreg [0] (by kernel_rfl) (by kernel_rfl) ?_
  refine s_alloc H1 (some 3) 48 (.agg Z32) (by kernel_rfl) (by kernel_rfl) (by kernel_rfl) ?_
  intro b2 w2 H2; clear H1
  refine s_nil ?_
  refine g_seq (by kernel_rfl) ?_
  refine g_sreg [0] (by kernel_rfl) (by kernel_rfl) ?_
  refine s_val (some 5) (.int .i64 0) (fun w => by kernel_rfl) (by kernel_rfl) ?_
  refine s_nil ?_
  refine g_block 0 (by kernel_rfl) ?_
  refine g_first (by kernel_rfl) ?_
  refine g_sreg [0] (by kernel_rfl) (by kernel_rfl) ?_
  refine s_val (some 6) (.bool true) (fun w => by kernel_rfl) (by kernel_rfl) ?_
  refine s_nil ?_
  refine g_seq (by kernel_rfl) ?_
  refine g_cond_t (by kernel_rfl) (by kernel_rfl) ?_
  refine g_skip (by kernel_rfl) ?_
  show WP _ _ _ _ _ _
  refine g_seq (by kernel_rfl) ?_
  refine g_block 1 (by kernel_rfl) ?_
  refine g_sreg [0, 1] (by kernel_rfl) (by kernel_rfl) ?_
  refine s_val (some 7) (.int .i64 0) (fun w => by kernel_rfl) (by kernel_rfl) ?_
  refine s_val (some 4) (.int .i64 0) (fun w => by kernel_rfl) (by kernel_rfl) ?_
  refine s_nil ?_
  refine g_reg0 [0, 1, 2, 3, 4, 5, 6, 7, 8, 9, 10, 11] (by kernel_rfl) ?_
  refine s_val (some 8) (.int .i64 0) (fun w => by kernel_rfl) (by kernel_rfl) ?_
  refine s_val (some 9) (.int .i64 0) (fun w => by kernel_rfl) (by kernel_rfl) ?_
  refine s_val (some 10) (.int .i64 0) (fun w => by kernel_rfl) (by kernel_rfl) ?_
  refine s_val (some 11) (.pointer (some ⟨b1, 0, none⟩)) (fun w => by kernel_rfl) (by kernel_rfl) ?_
  refine s_load1 H2 (some 12) 25 (.tmp 11) 1 b1 0 (Value.cells (svn s)) 26 (0, 0) (wv (nth s 0)) (by kernel_rfl) (by kernel_rfl) (by kernel_rfl) (by kernel_rfl) (by kernel_rfl) (by kernel_rfl) ?_
  refine s_val (some 13) (.int .i64 0) (fun w => by kernel_rfl) (by kernel_rfl) ?_
  refine s_val (some 14) (.int .i64 0) (fun w => by kernel_rfl) (by kernel_rfl) ?_
  refine s_val (some 15) (.int .i64 0) (fun w => by kernel_rfl) (by kernel_rfl) ?_
  refine s_valE (some 16) (.int .u64 (Int.fdiv (((BitVec.toNat (nth s 0) : Nat) : Int)) (2 ^ (min 0 64)))) (wv ((nth s 0) >>> 0)) (fun w => by kernel_rfl) (bv_shr_u64 (nth s 0) 0) (by kernel_rfl) ?_
  refine s_valE (some 17) (.int .u8 (IntKind.u8.wrap (((BitVec.toNat ((nth s 0) >>> 0) : Nat) : Int)))) (fb s 0 0) (fun w => by kernel_rfl) (bv_conv_u8 ((nth s 0) >>> 0)) (by kernel_rfl) ?_
  refine s_val (some 18) (.pointer (some ⟨b2, 0, none⟩)) (fun w => by kernel_rfl) (by kernel_rfl) ?_
  refine s_store H2 0 [(b2, Obj.cells #[fb s 0 0, .int .u8 0, .int .u8 0, .int .u8 0, .int .u8 0, .int .u8 0, .int .u8 0, .int .u8 0, .int .u8 0, .int .u8 0, .int .u8 0, .int .u8 0, .int .u8 0, .int .u8 0, .int .u8 0, .int .u8 0, .int .u8 0, .int .u8 0, .int .u8 0, .int .u8 0, .int .u8 0, .int .u8 0, .int .u8 0, .int .u8 0, .int .u8 0, .int .u8 0, .int .u8 0, .int .u8 0, .int .u8 0, .int .u8 0, .int .u8 0, .int .u8 0] 48 (0, 0)), (b1, Obj.cells (Value.cells (svn s)) 26 (0, 0))] 5 (.tmp 18) (.tmp 17) b2 (0) Z32 #[fb s 0 0, .int .u8 0, .int .u8 0, .int .u8 0, .int .u8 0, .int .u8 0, .int .u8 0, .int .u8 0, .int .u8 0, .int .u8 0, .int .u8 0, .int .u8 0, .int .u8 0, .int .u8 0, .int .u8 0, .int .u8 0, .int .u8 0, .int .u8 0, .int .u8 0, .int .u8 0, .int .u8 0, .int .u8 0, .int .u8 0, .int .u8 0, .int .u8 0, .int .u8 0, .int .u8 0, .int .u8 0, .int .u8 0, .int .u8 0, .int .u8 0, .int .u8 0] 48 (fb s 0 0) (by kernel_rfl) (by kernel_rfl) (by kernel_rfl) (by kernel_rfl) (by kernel_rfl) (by kernel_rfl) (of_decide_eq_true (by kernel_rfl)) (by kernel_rfl) (by kernel_rfl) ?_
  intro w3 H3; clear H2
  refine s_nil ?_
  show WP _ _ _ _ _ _
  refine g_reg0 [0, 1] (by kernel_rfl) ?_
  refine s_val (some 19) (.int .i64 1) (fun w => by kernel_rfl) (by kernel_rfl) ?_
  refine s_val (some 5) (.int .i64 1) (fun w => by kernel_rfl) (by kernel_rfl) ?_
  refine s_nil ?_
  show WPL _ _ _ _ _ _
  refine g_next ?_
  refine g_sreg [0] (by kernel_rfl) (by kernel_rfl) ?_
  refine s_val (some 6) (.bool true) (fun w => by kernel_rfl) (by kernel_rfl) ?_
  refine s_nil ?_
  refine g_seq (by kernel_rfl) ?_
  refine g_cond_t (by kernel_rfl) (by kernel_rfl) ?_
  refine g_skip (by kernel_rfl) ?_
  show WP _ _ _ _ _ _
  refine g_seq (by kernel_rfl) ?_
  refine g_block 1 (by kernel_rfl) ?_
  refine g_sreg [0, 1] (by kernel_rfl) (by kernel_rfl) ?_
  refine s_val (some 7) (.int .i64 1) (fun w => by kernel_rfl) (by kernel_rfl) ?_
  refine s_val (some 4) (.int .i64 1) (fun w => by kernel_rfl) (by kernel_rfl) ?_
  refine s_nil ?_
  refine g_reg0 [0, 1, 2, 3, 4, 5, 6, 7, 8, 9, 10, 11] (by kernel_rfl) ?_
  refine s_val (some 8) (.int .i64 1) (fun w => by kernel_rfl) (by kernel_rfl) ?_
  refine s_val (some 9) (.int .i64 1) (fun w => by kernel_rfl) (by kernel_rfl) ?_
  refine s_val (some 10) (.int .i64 0) (fun w => by kernel_rfl) (by kernel_rfl) ?_
  refine s_val (some 11) (.pointer (some ⟨b1, 0, none⟩)) (fun w => by kernel_rfl) (by kernel_rfl) ?_
  refine s_load1 H3 (some 12) 25 (.tmp 11) 1 b1 0 (Value.cells (svn s)) 26 (0, 0) (wv (nth s 0)) (by kernel_rfl) (by kernel_rfl) (by kernel_rfl) (by kernel_rfl) (by kernel_rfl) (by kernel_rfl) ?_
  refine s_val (some 13) (.int .i64 1) (fun w => by kernel_rfl) (by kernel_rfl) ?_
  refine s_val (some 14) (.int .i64 1) (fun w => by kernel_rfl) (by kernel_rfl) ?_
  refine s_val (some 15) (.int .i64 8) (fun w => by kernel_rfl) (by kernel_rfl) ?_
  refine s_valE (some 16) (.int .u64 (Int.fdiv (((BitVec.toNat (nth s 0) : Nat) : Int)) (2 ^ (min 8 64)))) (wv ((nth s 0) >>> 8)) (fun w => by kernel_rfl) (bv_shr_u64 (nth s 0) 8) (by kernel_rfl) ?_
  refine s_valE (some 17) (.int .u8 (IntKind.u8.wrap (((BitVec.toNat ((nth s 0) >>> 8) : Nat) : Int)))) (fb s 0 8) (fun w => by kernel_rfl) (bv_conv_u8 ((nth s 0) >>> 8)) (by kernel_rfl) ?_
  refine s_val (some 18) (.pointer (some ⟨b2, 1, none⟩)) (fun w => by kernel_rfl) (by kernel_rfl) ?_
  refine s_store H3 0 [(b2, Obj.cells #[fb s 0 0, fb s 0 8, .int .u8 0, .int .u8 0, .int .u8 0, .int .u8 0, .int .u8 0, .int .u8 0, .int .u8 0, .int .u8 0, .int .u8 0, .int .u8 0, .int .u8 0, .int .u8 0, .int .u8 0, .int .u8 0, .int .u8 0, .int .u8 0, .int .u8 0, .int .u8 0, .int .u8 0, .int .u8 0, .int .u8 0, .int .u8 0, .int .u8 0, .int .u8 0, .int .u8 0, .int .u8 0, .int .u8 0, .int .u8 0, .int .u8 0, .int .u8 0] 48 (0, 0)), (b1, Obj.cells (Value.cells (svn s)) 26 (0, 0))] 5 (.tmp 18) (.tmp 17) b2 (1) #[fb s 0 0, .int .u8 0, .int .u8 0, .int .u8 0, .int .u8 0, .int .u8 0, .int .u8 0, .int .u8 0, .int .u8 0, .int .u8 0, .int .u8 0, .int .u8 0, .int .u8 0, .int .u8 0, .int .u8 0, .int .u8 0, .int .u8 0, .int .u8 0, .int .u8 0, .int .u8 0, .int .u8 0, .int .u8 0, .int .u8 0, .int .u8 0, .int .u8 0, .int .u8 0, .int .u8 0, .int .u8 0, .int .u8 0, .int .u8 0, .int .u8 0, .int .u8 0] #[fb s 0 0, fb s 0 8, .int .u8 0, .int .u8 0, .int .u8 0, .int .u8 0, .int .u8 0, .int .u8 0, .int .u8 0, .int .u8 0, .int .u8 0, .int .u8 0, .int .u8 0, .int .u8 0, .int .u8 0, .int .u8 0, .int .u8 0, .int .u8 0, .int .u8 0, .int .u8 0, .int .u8 0, .int .u8 0, .int .u8 0, .int .u8 0, .int .u8 0, .int .u8 0, .int .u8 0, .int .u8 0, .int .u8 0, .int .u8 0, .int .u8 0, .int .u8 0] 48 (fb s 0 8) (by kernel_rfl) (by kernel_rfl) (by kernel_rfl) (by kernel_rfl) (by kernel_rfl) (by kernel_rfl) (of_decide_eq_true (by kernel_rfl)) (by kernel_rfl) (by kernel_rfl) ?_
  intro w4 H4; clear H3
  refine s_nil ?_
  show WP _ _ _ _ _ _
  refine g_reg0 [0, 1] (by kernel_rfl) ?_
  refine s_val (some 19) (.int .i64 2) (fun w => by kernel_rfl) (by kernel_rfl) ?_
  refine s_val (some 5) (.int .i64 2) (fun w => by kernel_rfl) (by kernel_rfl) ?_
  refine s_nil ?_
  show WPL _ _ _ _ _ _
  refine g_next ?_
  refine g_sreg [0] (by kernel_rfl) (by kernel_rfl) ?_
  refine s_val (some 6) (.bool true) (fun w => by kernel_rfl) (by kernel_rfl) ?_
  refine s_nil ?_
  refine g_seq (by kernel_rfl) ?_
  refine g_cond_t (by kernel_rfl) (by kernel_rfl) ?_
  refine g_skip (by kernel_rfl) ?_
  show WP _ _ _ _ _ _
  refine g_seq (by kernel_rfl) ?_
  refine g_block 1 (by kernel_rfl) ?_
  refine g_sreg [0, 1] (by kernel_rfl) (by kernel_rfl) ?_
  refine s_val (some 7) (.int .i64 2) (fun w => by kernel_rfl) (by kernel_rfl) ?_
  refine s_val (some 4) (.int .i64 2) (fun w => by kernel_rfl) (by kernel_rfl) ?_
  refine s_nil ?_
  refine g_reg0 [0, 1, 2, 3, 4, 5, 6, 7, 8, 9, 10, 11] (by kernel_rfl) ?_
  refine s_val (some 8) (.int .i64 2) (fun w => by kernel_rfl) (by kernel_rfl) ?_
  refine s_val (some 9) (.int .i64 2) (fun w => by kernel_rfl) (by kernel_rfl) ?_
  refine s_val (some 10) (.int .i64 0) (fun w => by kernel_rfl) (by kernel_rfl) ?_
  refine s_val (some 11) (.pointer (some ⟨b1, 0, none⟩)) (fun w => by kernel_rfl) (by kernel_rfl) ?_
  refine s_load1 H4 (some 12) 25 (.tmp 11) 1 b1 0 (Value.cells (svn s)) 26 (0, 0) (wv (nth s 0)) (by kernel_rfl) (by kernel_rfl) (by kernel_rfl) (by kernel_rfl) (by kernel_rfl) (by kernel_rfl) ?_
  refine s_val (some 13) (.int .i64 2) (fun w => by kernel_rfl) (by kernel_rfl) ?_
  refine s_val (some 14) (.int .i64 2) (fun w => by kernel_rfl) (by kernel_rfl) ?_
  refine s_val (some 15) (.int .i64 16) (fun w => by kernel_rfl) (by kernel_rfl) ?_
  refine s_valE (some 16) (.int .u64 (Int.fdiv (((BitVec.toNat (nth s 0) : Nat) : Int)) (2 ^ (min 16 64)))) (wv ((nth s 0) >>> 16)) (fun w => by kernel_rfl) (bv_shr_u64 (nth s 0) 16) (by kernel_rfl) ?_
  refine s_valE (some 17) (.int .u8 (IntKind.u8.wrap (((BitVec.toNat ((nth s 0) >>> 16) : Nat) : Int)))) (fb s 0 16) (fun w => by kernel_rfl) (bv_conv_u8 ((nth s 0) >>> 16)) (by kernel_rfl) ?_
  refine s_val (some 18) (.pointer (some ⟨b2, 2, none⟩)) (fun w => by kernel_rfl) (by kernel_rfl) ?_
  refine s_store H4 0 [(b2, Obj.cells #[fb s 0 0, fb s 0 8, fb s 0 16, .int .u8 0, .int .u8 0, .int .u8 0, .int .u8 0, .int .u8 0, .int .u8 0, .int .u8 0, .int .u8 0, .int .u8 0, .int .u8 0, .int .u8 0, .int .u8 0, .int .u8 0, .int .u8 0, .int .u8 0, .int .u8 0, .int .u8 0, .int .u8 0, .int .u8 0, .int .u8 0, .int .u8 0, .int .u8 0, .int .u8 0, .int .u8 0, .int .u8 0, .int .u8 0, .int .u8 0, .int .u8 0, .int .u8 0] 48 (0, 0)), (b1, Obj.cells (Value.cells (svn s)) 26 (0, 0))] 5 (.tmp 18) (.tmp 17) b2 (2) #[fb s 0 0, fb s 0 8, .int .u8 0, .int .u8 0, .int .u8 0, .int .u8 0, .int .u8 0, .int .u8 0, .int .u8 0, .int .u8 0, .int .u8 0, .int .u8 0, .int .u8 0, .int .u8 0, .int .u8 0, .int .u8 0, .int .u8 0, .int .u8 0, .int .u8 0, .int .u8 0, .int .u8 0, .int .u8 0, .int .u8 0, .int .u8 0, .int .u8 0, .int .u8 0, .int .u8 0, .int .u8 0, .int .u8 0, .int .u8 0, .int .u8 0, .int .u8 0] #[fb s 0 0, fb s 0 8, fb s 0 16, .int .u8 0, .int .u8 0, .int .u8 0, .int .u8 0, .int .u8 0, .int .u8 0, .int .u8 0, .int .u8 0, .int .u8 0, .int .u8 0, .int .u8 0, .int .u8 0, .int .u8 0, .int .u8 0, .int .u8 0, .int .u8 0, .int .u8 0, .int .u8 0, .int .u8 0, .int .u8 0, .int .u8 0, .int .u8 0, .int .u8 0, .int .u8 0, .int .u8 0, .int .u8 0, .int .u8 0, .int .u8 0, .int .u8 0] 48 (fb s 0 16) (by kernel_rfl) (by kernel_rfl) (by kernel_rfl) (by kernel_rfl) (by kernel_rfl) (by kernel_rfl) (of_decide_eq_true (by kernel_rfl)) (by kernel_rfl) (by kernel_rfl) ?_
  intro w5 H5; clear H4
  refine s_nil ?_
  show WP _ _ _ _ _ _
  refine g_reg0 [0, 1] (by kernel_rfl) ?_
  refine s_val (some 19) (.int .i64 3) (fun w => by kernel_rfl) (by kernel_rfl) ?_
  refine s_val (some 5) (.int .i64 3) (fun w => by kernel_rfl) (by kernel_rfl) ?_
  refine s_nil ?_
  show WPL _ _ _ _ _ _
  refine g_next ?_
  refine g_sreg [0] (by kernel_rfl) (by kernel_rfl) ?_
  refine s_val (some 6) (.bool true) (fun w => by kernel_rfl) (by kernel_rfl) ?_
  refine s_nil ?_
  refine g_seq (by kernel_rfl) ?_
  refine g_cond_t (by kernel_rfl) (by kernel_rfl) ?_
  refine g_skip (by kernel_rfl) ?_
  show WP _ _ _ _ _ _
  refine g_seq (by kernel_rfl) ?_
  refine g_block 1 (by kernel_rfl) ?_
  refine g_sreg [0, 1] (by kernel_rfl) (by kernel_rfl) ?_
  refine s_val (some 7) (.int .i64 3) (fun w => by kernel_rfl) (by kernel_rfl) ?_
  refine s_val (some 4) (.int .i64 3) (fun w => by kernel_rfl) (by kernel_rfl) ?_
  refine s_nil ?_
  refine g_reg0 [0, 1, 2, 3, 4, 5, 6, 7, 8, 9, 10, 11] (by kernel_rfl) ?_
  refine s_val (some 8) (.int .i64 3) (fun w => by kernel_rfl) (by kernel_rfl) ?_
  refine s_val (some 9) (.int .i64 3) (fun w => by kernel_rfl) (by kernel_rfl) ?_
  refine s_val (some 10) (.int .i64 0) (fun w => by kernel_rfl) (by kernel_rfl) ?_
  refine s_val (some 11) (.pointer (some ⟨b1, 0, none⟩)) (fun w => by kernel_rfl) (by kernel_rfl) ?_
  refine s_load1 H5 (some 12) 25 (.tmp 11) 1 b1 0 (Value.cells (svn s)) 26 (0, 0) (wv (nth s 0)) (by kernel_rfl) (by kernel_rfl) (by kernel_rfl) (by kernel_rfl) (by kernel_rfl) (by kernel_rfl) ?_
  refine s_val (some 13) (.int .i64 3) (fun w => by kernel_rfl) (by kernel_rfl) ?_
  refine s_val (some 14) (.int .i64 3) (fun w => by kernel_rfl) (by kernel_rfl) ?_
  refine s_val (some 15) (.int .i64 24) (fun w => by kernel_rfl) (by kernel_rfl) ?_
  refine s_valE (some 16) (.int .u64 (Int.fdiv (((BitVec.toNat (nth s 0) : Nat) : Int)) (2 ^ (min 24 64)))) (wv ((nth s 0) >>> 24)) (fun w => by kernel_rfl) (bv_shr_u64 (nth s 0) 24) (by kernel_rfl) ?_
  refine s_valE (some 17) (.int .u8 (IntKind.u8.wrap (((BitVec.toNat ((nth s 0) >>> 24) : Nat) : Int)))) (fb s 0 24) (fun w => by kernel_rfl) (bv_conv_u8 ((nth s 0) >>> 24)) (by kernel_rfl) ?_
  refine s_val (some 18) (.pointer (some ⟨b2, 3, none⟩)) (fun w => by kernel_rfl) (by kernel_rfl) ?_
  refine s_store H5 0 [(b2, Obj.cells #[fb s 0 0, fb s 0 8, fb s 0 16, fb s 0 24, .int .u8 0, .int .u8 0, .int .u8 0, .int .u8 0, .int .u8 0, .int .u8 0, .int .u8 0, .int .u8 0, .int .u8 0, .int .u8 0, .int .u8 0, .int .u8 0, .int .u8 0, .int .u8 0, .int .u8 0, .int .u8 0, .int .u8 0, .int .u8 0, .int .u8 0, .int .u8 0, .int .u8 0, .int .u8 0, .int .u8 0, .int .u8 0, .int .u8 0, .int .u8 0, .int .u8 0, .int .u8 0] 48 (0, 0)), (b1, Obj.cells (Value.cells (svn s)) 26 (0, 0))] 5 (.tmp 18) (.tmp 17) b2 (3) #[fb s 0 0, fb s 0 8, fb s 0 16, .int .u8 0, .int .u8 0, .int .u8 0, .int .u8 0, .int .u8 0, .int .u8 0, .int .u8 0, .int .u8 0, .int .u8 0, .int .u8 0, .int .u8 0, .int .u8 0, .int .u8 0, .int .u8 0, .int .u8 0, .int .u8 0, .int .u8 0, .int .u8 0, .int .u8 0, .int .u8 0, .int .u8 0, .int .u8 0, .int .u8 0, .int .u8 0, .int .u8 0, .int .u8 0, .int .u8 0, .int .u8 0, .int .u8 0] #[fb s 0 0, fb s 0 8, fb s 0 16, fb s 0 24, .int .u8 0, .int .u8 0, .int .u8 0, .int .u8 0, .int .u8 0, .int .u8 0, .int .u8 0, .int .u8 0, .int .u8 0, .int .u8 0, .int .u8 0, .int .u8 0, .int .u8 0, .int .u8 0, .int .u8 0, .int .u8 0, .int .u8 0, .int .u8 0, .int .u8 0, .int .u8 0, .int .u8 0, .int .u8 0, .int .u8 0, .int .u8 0, .int .u8 0, .int .u8 0, .int .u8 0, .int .u8 0] 48 (fb s 0 24) (by kernel_rfl) (by kernel_rfl) (by kernel_rfl) (by kernel_rfl) (by kernel_rfl) (by kernel_rfl) (of_decide_eq_true (by kernel_rfl)) (by kernel_rfl) (by kernel_rfl) ?_
  intro w6 H6; clear H5
  refine s_nil ?_
  show WP _ _ _ _ _ _
  refine g_reg0 [0, 1] (by kernel_rfl) ?_
  refine s_val (some 19) (.int .i64 4) (fun w => by kernel_rfl) (by kernel_rfl) ?_
  refine s_val (some 5) (.int .i64 4) (fun w => by kernel_rfl) (by kernel_rfl) ?_
  refine s_nil ?_
  show WPL _ _ _ _ _ _
  refine g_next ?_
  refine g_sreg [0] (by kernel_rfl) (by kernel_rfl) ?_
  refine s_val (some 6) (.bool true) (fun w => by kernel_rfl) (by kernel_rfl) ?_
  refine s_nil ?_
  refine g_seq (by kernel_rfl) ?_
  refine g_cond_t (by kernel_rfl) (by kernel_rfl) ?_
  refine g_skip (by kernel_rfl) ?_
  show WP _ _ _ _ _ _
  refine g_seq (by kernel_rfl) ?_
  refine g_block 1 (by kernel_rfl) ?_
  refine g_sreg [0, 1] (by kernel_rfl) (by kernel_rfl) ?_
  refine s_val (some 7) (.int .i64 4) (fun w => by kernel_rfl) (by kernel_rfl) ?_
  refine s_val (some 4) (.int .i64 4) (fun w => by kernel_rfl) (by kernel_rfl) ?_
  refine s_nil ?_
  refine g_reg0 [0, 1, 2, 3, 4, 5, 6, 7, 8, 9, 10, 11] (by kernel_rfl) ?_
  refine s_val (some 8) (.int .i64 4) (fun w => by kernel_rfl) (by kernel_rfl) ?_
  refine s_val (some 9) (.int .i64 4) (fun w => by kernel_rfl) (by kernel_rfl) ?_
  refine s_val (some 10) (.int .i64 0) (fun w => by kernel_rfl) (by kernel_rfl) ?_
  refine s_val (some 11) (.pointer (some ⟨b1, 0, none⟩)) (fun w => by kernel_rfl) (by kernel_rfl) ?_
  refine s_load1 H6 (some 12) 25 (.tmp 11) 1 b1 0 (Value.cells (svn s)) 26 (0, 0) (wv (nth s 0)) (by kernel_rfl) (by kernel_rfl) (by kernel_rfl) (by kernel_rfl) (by kernel_rfl) (by kernel_rfl) ?_
  refine s_val (some 13) (.int .i64 4) (fun w => by kernel_rfl) (by kernel_rfl) ?_
  refine s_val (some 14) (.int .i64 4) (fun w => by kernel_rfl) (by kernel_rfl) ?_
  refine s_val (some 15) (.int .i64 32) (fun w => by kernel_rfl) (by kernel_rfl) ?_
  refine s_valE (some 16) (.int .u64 (Int.fdiv (((BitVec.toNat (nth s 0) : Nat) : Int)) (2 ^ (min 32 64)))) (wv ((nth s 0) >>> 32)) (fun w => by kernel_rfl) (bv_shr_u64 (nth s 0) 32) (by kernel_rfl) ?_
  refine s_valE (some 17) (.int .u8 (IntKind.u8.wrap (((BitVec.toNat ((nth s 0) >>> 32) : Nat) : Int)))) (fb s 0 32) (fun w => by kernel_rfl) (bv_conv_u8 ((nth s 0) >>> 32)) (by kernel_rfl) ?_
  refine s_val (some 18) (.pointer (some ⟨b2, 4, none⟩)) (fun w => by kernel_rfl) (by kernel_rfl) ?_
  refine s_store H6 0 [(b2, Obj.cells #[fb s 0 0, fb s 0 8, fb s 0 16, fb s 0 24, fb s 0 32, .int .u8 0, .int .u8 0, .int .u8 0, .int .u8 0, .int .u8 0, .int .u8 0, .int .u8 0, .int .u8 0, .int .u8 0, .int .u8 0, .int .u8 0, .int .u8 0, .int .u8 0, .int .u8 0, .int .u8 0, .int .u8 0, .int .u8 0, .int .u8 0, .int .u8 0, .int .u8 0, .int .u8 0, .int .u8 0, .int .u8 0, .int .u8 0, .int .u8 0, .int .u8 0, .int .u8 0] 48 (0, 0)), (b1, Obj.cells (Value.cells (svn s)) 26 (0, 0))] 5 (.tmp 18) (.tmp 17) b2 (4) #[fb s 0 0, fb s 0 8, fb s 0 16, fb s 0 24, .int .u8 0, .int .u8 0, .int .u8 0, .int .u8 0, .int .u8 0, .int .u8 0, .int .u8 0, .int .u8 0, .int .u8 0, .int .u8 0, .int .u8 0, .int .u8 0, .int .u8 0, .int .u8 0, .int .u8 0, .int .u8 0, .int .u8 0, .int .u8 0, .int .u8 0, .int .u8 0, .int .u8 0, .int .u8 0, .int .u8 0, .int .u8 0, .int .u8 0, .int .u8 0, .int .u8 0, .int .u8 0] #[fb s 0 0, fb s 0 8, fb s 0 16, fb s 0 24, fb s 0 32, .int .u8 0, .int .u8 0, .int .u8 0, .int .u8 0, .int .u8 0, .int .u8 0, .int .u8 0, .int .u8 0, .int .u8 0, .int .u8 0, .int .u8 0, .int .u8 0, .int .u8 0, .int .u8 0, .int .u8 0, .int .u8 0, .int .u8 0, .int .u8 0, .int .u8 0, .int .u8 0, .int .u8 0, .int .u8 0, .int .u8 0, .int .u8 0, .int .u8 0, .int .u8 0, .int .u8 0] 48 (fb s 0 32) (by kernel_rfl) (by kernel_rfl) (by kernel_rfl) (by kernel_rfl) (by kernel_rfl) (by kernel_rfl) (of_decide_eq_true (by kernel_rfl)) (by kernel_rfl) (by kernel_rfl) ?_
  intro w7 H7; clear H6
  refine s_nil ?_
  show WP _ _ _ _ _ _
  refine g_reg0 [0, 1] (by kernel_rfl) ?_
  refine s_val (some 19) (.int .i64 5) (fun w => by kernel_rfl) (by kernel_rfl) ?_
  refine s_val (some 5) (.int .i64 5) (fun w => by kernel_rfl) (by kernel_rfl) ?_
  refine s_nil ?_
  show WPL _ _ _ _ _ _
  refine g_next ?_
  refine g_sreg [0] (by kernel_rfl) (by kernel_rfl) ?_
  refine s_val (some 6) (.bool true) (fun w => by kernel_rfl) (by kernel_rfl) ?_
  refine s_nil ?_
  refine g_seq (by kernel_rfl) ?_
  refine g_cond_t (by kernel_rfl) (by kernel_rfl) ?_
  refine g_skip (by kernel_rfl) ?_
  show WP _ _ _ _ _ _
  refine g_seq (by kernel_rfl) ?_
  refine g_block 1 (by kernel_rfl) ?_
  refine g_sreg [0, 1] (by kernel_rfl) (by kernel_rfl) ?_
  refine s_val (some 7) (.int .i64 5) (fun w => by kernel_rfl) (by kernel_rfl) ?_
  refine s_val (some 4) (.int .i64 5) (fun w => by kernel_rfl) (by kernel_rfl) ?_
  refine s_nil ?_
  refine g_reg0 [0, 1, 2, 3, 4, 5, 6, 7, 8, 9, 10, 11] (by kernel_rfl) ?_
  refine s_val (some 8) (.int .i64 5) (fun w => by kernel_rfl) (by kernel_rfl) ?_
  refine s_val (some 9) (.int .i64 5) (fun w => by kernel_rfl) (by kernel_rfl) ?_
  refine s_val (some 10) (.int .i64 0) (fun w => by kernel_rfl) (by kernel_rfl) ?_
  refine s_val (some 11) (.pointer (some ⟨b1, 0, none⟩)) (fun w => by kernel_rfl) (by kernel_rfl) ?_
  refine s_load1 H7 (some 12) 25 (.tmp 11) 1 b1 0 (Value.cells (svn s)) 26 (0, 0) (wv (nth s 0)) (by kernel_rfl) (by kernel_rfl) (by kernel_rfl) (by kernel_rfl) (by kernel_rfl) (by kernel_rfl) ?_
  refine s_val (some 13) (.int .i64 5) (fun w => by kernel_rfl) (by kernel_rfl) ?_
  refine s_val (some 14) (.int .i64 5) (fun w => by kernel_rfl) (by kernel_rfl) ?_
  refine s_val (some 15) (.int .i64 40) (fun w => by kernel_rfl) (by kernel_rfl) ?_
  refine s_valE (some 16) (.int .u64 (Int.fdiv (((BitVec.toNat (nth s 0) : Nat) : Int)) (2 ^ (min 40 64)))) (wv ((nth s 0) >>> 40)) (fun w => by kernel_rfl) (bv_shr_u64 (nth s 0) 40) (by kernel_rfl) ?_
  refine s_valE (some 17) (.int .u8 (IntKind.u8.wrap (((BitVec.toNat ((nth s 0) >>> 40) : Nat) : Int)))) (fb s 0 40) (fun w => by kernel_rfl) (bv_conv_u8 ((nth s 0) >>> 40)) (by kernel_rfl) ?_
  refine s_val (some 18) (.pointer (some ⟨b2, 5, none⟩)) (fun w => by kernel_rfl) (by kernel_rfl) ?_
  refine s_store H7 0 [(b2, Obj.cells #[fb s 0 0, fb s 0 8, fb s 0 16, fb s 0 24, fb s 0 32, fb s 0 40, .int .u8 0, .int .u8 0, .int .u8 0, .int .u8 0, .int .u8 0, .int .u8 0, .int .u8 0, .int .u8 0, .int .u8 0, .int .u8 0, .int .u8 0, .int .u8 0, .int .u8 0, .int .u8 0, .int .u8 0, .int .u8 0, .int .u8 0, .int .u8 0, .int .u8 0, .int .u8 0, .int .u8 0, .int .u8 0, .int .u8 0, .int .u8 0, .int .u8 0, .int .u8 0] 48 (0, 0)), (b1, Obj.cells (Value.cells (svn s)) 26 (0, 0))] 5 (.tmp 18) (.tmp 17) b2 (5) #[fb s 0 0, fb s 0 8, fb s 0 16, fb s 0 24, fb s 0 32, .int .u8 0, .int .u8 0, .int .u8 0, .int .u8 0, .int .u8 0, .int .u8 0, .int .u8 0, .int .u8 0, .int .u8 0, .int .u8 0, .int .u8 0, .int .u8 0, .int .u8 0, .int .u8 0, .int .u8 0, .int .u8 0, .int .u8 0, .int .u8 0, .int .u8 0, .int .u8 0, .int .u8 0, .int .u8 0, .int .u8 0, .int .u8 0, .int .u8 0, .int .u8 0, .int .u8 0] #[fb s 0 0, fb s 0 8, fb s 0 16, fb s 0 24, fb s 0 32, fb s 0 40, .int .u8 0, .int .u8 0, .int .u8 0, .int .u8 0, .int .u8 0, .int .u8 0, .int .u8 0, .int .u8 0, .int .u8 0, .int .u8 0, .int .u8 0, .int .u8 0, .int .u8 0, .int .u8 0, .int .u8 0, .int .u8 0, .int .u8 0, .int .u8 0, .int .u8 0, .int .u8 0, .int .u8 0, .int .u8 0, .int .u8 0, .int .u8 0, .int .u8 0, .int .u8 0] 48 (fb s 0 40) (by kernel_rfl) (by kernel_rfl) (by kernel_rfl) (by kernel_rfl) (by kernel_rfl) (by kernel_rfl) (of_decide_eq_true (by kernel_rfl)) (by kernel_rfl) (by kernel_rfl) ?_
  intro w8 H8; clear H7
  refine s_nil ?_
  show WP _ _ _ _ _ _
  refine g_reg0 [0, 1] (by kernel_rfl) ?_
  refine s_val (some 19) (.int .i64 6) (fun w => by kernel_rfl) (by kernel_rfl) ?_
  refine s_val (some 5) (.int .i64 6) (fun w => by kernel_rfl) (by kernel_rfl) ?_
  refine s_nil ?_
  show WPL _ _ _ _ _ _
  refine g_next ?_
  refine g_sreg [0] (by kernel_rfl) (by kernel_rfl) ?_
  refine s_val (some 6) (.bool true) (fun w => by kernel_rfl) (by kernel_rfl) ?_
  refine s_nil ?_
  refine g_seq (by kernel_rfl) ?_
  refine g_cond_t (by kernel_rfl) (by kernel_rfl) ?_
  refine g_skip (by kernel_rfl) ?_
  show WP _ _ _ _ _ _
  refine g_seq (by kernel_rfl) ?_
  refine g_block 1 (by kernel_rfl) ?_
  refine g_sreg [0, 1] (by kernel_rfl) (by kernel_rfl) ?_
  refine s_val (some 7) (.int .i64 6) (fun w => by kernel_rfl) (by kernel_rfl) ?_
  refine s_val (some 4) (.int .i64 6) (fun w => by kernel_rfl) (by kernel_rfl) ?_
  refine s_nil ?_
  refine g_reg0 [0, 1, 2, 3, 4, 5, 6, 7, 8, 9, 10, 11] (by kernel_rfl) ?_
  refine s_val (some 8) (.int .i64 6) (fun w => by kernel_rfl) (by kernel_rfl) ?_
  refine s_val (some 9) (.int .i64 6) (fun w => by kernel_rfl) (by kernel_rfl) ?_
  refine s_val (some 10) (.int .i64 0) (fun w => by kernel_rfl) (by kernel_rfl) ?_
  refine s_val (some 11) (.pointer (some ⟨b1, 0, none⟩)) (fun w => by kernel_rfl) (by kernel_rfl) ?_
  refine s_load1 H8 (some 12) 25 (.tmp 11) 1 b1 0 (Value.cells (svn s)) 26 (0, 0) (wv (nth s 0)) (by kernel_rfl) (by kernel_rfl) (by kernel_rfl) (by kernel_rfl) (by kernel_rfl) (by kernel_rfl) ?_
  refine s_val (some 13) (.int .i64 6) (fun w => by kernel_rfl) (by kernel_rfl) ?_
  refine s_val (some 14) (.int .i64 6) (fun w => by kernel_rfl) (by kernel_rfl) ?_
  refine s_val (some 15) (.int .i64 48) (fun w => by kernel_rfl) (by kernel_rfl) ?_
  refine s_valE (some 16) (.int .u64 (Int.fdiv (((BitVec.toNat (nth s 0) : Nat) : Int)) (2 ^ (min 48 64)))) (wv ((nth s 0) >>> 48)) (fun w => by kernel_rfl) (bv_shr_u64 (nth s 0) 48) (by kernel_rfl) ?_
  refine s_valE (some 17) (.int .u8 (IntKind.u8.wrap (((BitVec.toNat ((nth s 0) >>> 48) : Nat) : Int)))) (fb s 0 48) (fun w => by kernel_rfl) (bv_conv_u8 ((nth s 0) >>> 48)) (by kernel_rfl) ?_
  refine s_val (some 18) (.pointer (some ⟨b2, 6, none⟩)) (fun w => by kernel_rfl) (by kernel_rfl) ?_
  refine s_store H8 0 [(b2, Obj.cells #[fb s 0 0, fb s 0 8, fb s 0 16, fb s 0 24, fb s 0 32, fb s 0 40, fb s 0 48, .int .u8 0, .int .u8 0, .int .u8 0, .int .u8 0, .int .u8 0, .int .u8 0, .int .u8 0, .int .u8 0, .int .u8 0, .int .u8 0, .int .u8 0, .int .u8 0, .int .u8 0, .int .u8 0, .int .u8 0, .int .u8 0, .int .u8 0, .int .u8 0, .int .u8 0, .int .u8 0, .int .u8 0, .int .u8 0, .int .u8 0, .int .u8 0, .int .u8 0] 48 (0, 0)), (b1, Obj.cells (Value.cells (svn s)) 26 (0, 0))] 5 (.tmp 18) (.tmp 17) b2 (6) #[fb s 0 0, fb s 0 8, fb s 0 16, fb s 0 24, fb s 0 32, fb s 0 40, .int .u8 0, .int .u8 0, .int .u8 0, .int .u8 0, .int .u8 0, .int .u8 0, .int .u8 0, .int .u8 0, .int .u8 0, .int .u8 0, .int .u8 0, .int .u8 0, .int .u8 0, .int .u8 0, .int .u8 0, .int .u8 0, .int .u8 0, .int .u8 0, .int .u8 0, .int .u8 0, .int .u8 0, .int .u8 0, .int .u8 0, .int .u8 0, .int .u8 0, .int .u8 0] #[fb s 0 0, fb s 0 8, fb s 0 16, fb s 0 24, fb s 0 32, fb s 0 40, fb s 0 48, .int .u8 0, .int .u8 0, .int .u8 0, .int .u8 0, .int .u8 0, .int .u8 0, .int .u8 0, .int .u8 0, .int .u8 0, .int .u8 0, .int .u8 0, .int .u8 0, .int .u8 0, .int .u8 0, .int .u8 0, .int .u8 0, .int .u8 0, .int .u8 0, .int .u8 0, .int .u8 0, .int .u8 0, .int .u8 0, .int .u8 0, .int .u8 0, .int .u8 0] 48 (fb s 0 48) (by kernel_rfl) (by kernel_rfl) (by kernel_rfl) (by kernel_rfl) (by kernel_rfl) (by kernel_rfl) (of_decide_eq_true (by kernel_rfl)) (by kernel_rfl) (by kernel_rfl) ?_
  intro w9 H9; clear H8
  refine s_nil ?_
  show WP _ _ _ _ _ _
  refine g_reg0 [0, 1] (by kernel_rfl) ?_
  refine s_val (some 19) (.int .i64 7) (fun w => by kernel_rfl) (by kernel_rfl) ?_
  refine s_val (some 5) (.int .i64 7) (fun w => by kernel_rfl) (by kernel_rfl) ?_
  refine s_nil ?_
  show WPL _ _ _ _ _ _
  refine g_next ?_
  refine g_sreg [0] (by kernel_rfl) (by kernel_rfl) ?_
  refine s_val (some 6) (.bool true) (fun w => by kernel_rfl) (by kernel_rfl) ?_
  refine s_nil ?_
  refine g_seq (by kernel_rfl) ?_
  refine g_cond_t (by kernel_rfl) (by kernel_rfl) ?_
  refine g_skip (by kernel_rfl) ?_
  show WP _ _ _ _ _ _
  refine g_seq (by kernel_rfl) ?_
  refine g_block 1 (by kernel_rfl) ?_
  refine g_sreg [0, 1] (by kernel_rfl) (by kernel_rfl) ?_
  refine s_val (some 7) (.int .i64 7) (fun w => by kernel_rfl) (by kernel_rfl) ?_
  refine s_val (some 4) (.int .i64 7) (fun w => by kernel_rfl) (by kernel_rfl) ?_
  refine s_nil ?_
  refine g_reg0 [0, 1, 2, 3, 4, 5, 6, 7, 8, 9, 10, 11] (by kernel_rfl) ?_
  refine s_val (some 8) (.int .i64 7) (fun w => by kernel_rfl) (by kernel_rfl) ?_
  refine s_val (some 9) (.int .i64 7) (fun w => by kernel_rfl) (by kernel_rfl) ?_
  refine s_val (some 10) (.int .i64 0) (fun w => by kernel_rfl) (by kernel_rfl) ?_
  refine s_val (some 11) (.pointer (some ⟨b1, 0, none⟩)) (fun w => by kernel_rfl) (by kernel_rfl) ?_
  refine s_load1 H9 (some 12) 25 (.tmp 11) 1 b1 0 (Value.cells (svn s)) 26 (0, 0) (wv (nth s 0)) (by kernel_rfl) (by kernel_rfl) (by kernel_rfl) (by kernel_rfl) (by kernel_rfl) (by kernel_rfl) ?_
  refine s_val (some 13) (.int .i64 7) (fun w => by kernel_rfl) (by kernel_rfl) ?_
  refine s_val (some 14) (.int .i64 7) (fun w => by kernel_rfl) (by kernel_rfl) ?_
  refine s_val (some 15) (.int .i64 56) (fun w => by kernel_rfl) (by kernel_rfl) ?_
  refine s_valE (some 16) (.int .u64 (Int.fdiv (((BitVec.toNat (nth s 0) : Nat) : Int)) (2 ^ (min 56 64)))) (wv ((nth s 0) >>> 56)) (fun w => by kernel_rfl) (bv_shr_u64 (nth s 0) 56) (by kernel_rfl) ?_
  refine s_valE (some 17) (.int .u8 (IntKind.u8.wrap (((BitVec.toNat ((nth s 0) >>> 56) : Nat) : Int)))) (fb s 0 56) (fun w => by kernel_rfl) (bv_conv_u8 ((nth s 0) >>> 56)) (by kernel_rfl) ?_
  refine s_val (some 18) (.pointer (some ⟨b2, 7, none⟩)) (fun w => by kernel_rfl) (by kernel_rfl) ?_
  refine s_store H9 0 [(b2, Obj.cells #[fb s 0 0, fb s 0 8, fb s 0 16, fb s 0 24, fb s 0 32, fb s 0 40, fb s 0 48, fb s 0 56, .int .u8 0, .int .u8 0, .int .u8 0, .int .u8 0, .int .u8 0, .int .u8 0, .int .u8 0, .int .u8 0, .int .u8 0, .int .u8 0, .int .u8 0, .int .u8 0, .int .u8 0, .int .u8 0, .int .u8 0, .int .u8 0, .int .u8 0, .int .u8 0, .int .u8 0, .int .u8 0, .int .u8 0, .int .u8 0, .int .u8 0, .int .u8 0] 48 (0, 0)), (b1, Obj.cells (Value.cells (svn s)) 26 (0, 0))] 5 (.tmp 18) (.tmp 17) b2 (7) #[fb s 0 0, fb s 0 8, fb s 0 16, fb s 0 24, fb s 0 32, fb s 0 40, fb s 0 48, .int .u8 0, .int .u8 0, .int .u8 0, .int .u8 0, .int .u8 0, .int .u8 0, .int .u8 0, .int .u8 0, .int .u8 0, .int .u8 0, .int .u8 0, .int .u8 0, .int .u8 0, .int .u8 0, .int .u8 0, .int .u8 0, .int .u8 0, .int .u8 0, .int .u8 0, .int .u8 0, .int .u8 0, .int .u8 0, .int .u8 0, .int .u8 0, .int .u8 0] #[fb s 0 0, fb s 0 8, fb s 0 16, fb s 0 24, fb s 0 32, fb s 0 40, fb s 0 48, fb s 0 56, .int .u8 0, .int .u8 0, .int .u8 0, .int .u8 0, .int .u8 0, .int .u8 0, .int .u8 0, .int .u8 0, .int .u8 0, .int .u8 0, .int .u8 0, .int .u8 0, .int .u8 0, .int .u8 0, .int .u8 0, .int .u8 0, .int .u8 0, .int .u8 0, .int .u8 0, .int .u8 0, .int .u8 0, .int .u8 0, .int .u8 0, .int .u8 0] 48 (fb s 0 56) (by kernel_rfl) (by kernel_rfl) (by kernel_rfl) (by kernel_rfl) (by kernel_rfl) (by kernel_rfl) (of_decide_eq_true (by kernel_rfl)) (by kernel_rfl) (by kernel_rfl) ?_
  intro w10 H10; clear H9
  refine s_nil ?_
  show WP _ _ _ _ _ _
  refine g_reg0 [0, 1] (by kernel_rfl) ?_
  refine s_val (some 19) (.int .i64 8) (fun w => by kernel_rfl) (by kernel_rfl) ?_
  refine s_val (some 5) (.int .i64 8) (fun w => by kernel_rfl) (by kernel_rfl) ?_
  refine s_nil ?_
  show WPL _ _ _ _ _ _
  refine g_next ?_
  refine g_sreg [0] (by kernel_rfl) (by kernel_rfl) ?_
  refine s_val (some 6) (.bool true) (fun w => by kernel_rfl) (by kernel_rfl) ?_
  refine s_nil ?_
  refine g_seq (by kernel_rfl) ?_
  refine g_cond_t (by kernel_rfl) (by kernel_rfl) ?_
  refine g_skip (by kernel_rfl) ?_
  show WP _ _ _ _ _ _
  refine g_seq (by kernel_rfl) ?_
  refine g_block 1 (by kernel_rfl) ?_
  refine g_sreg [0, 1] (by kernel_rfl) (by kernel_rfl) ?_
  refine s_val (some 7) (.int .i64 8) (fun w => by kernel_rfl) (by kernel_rfl) ?_
  refine s_val (some 4) (.int .i64 8) (fun w => by kernel_rfl) (by kernel_rfl) ?_
  refine s_nil ?_
  refine g_reg0 [0, 1, 2, 3, 4, 5, 6, 7, 8, 9, 10, 11] (by kernel_rfl) ?_
  refine s_val (some 8) (.int .i64 8) (fun w => by kernel_rfl) (by kernel_rfl) ?_
  refine s_val (some 9) (.int .i64 8) (fun w => by kernel_rfl) (by kernel_rfl) ?_
  refine s_val (some 10) (.int .i64 1) (fun w => by kernel_rfl) (by kernel_rfl) ?_
  refine s_val (some 11) (.pointer (some ⟨b1, 1, none⟩)) (fun w => by kernel_rfl) (by kernel_rfl) ?_
  refine s_load1 H10 (some 12) 25 (.tmp 11) 1 b1 1 (Value.cells (svn s)) 26 (0, 0) (wv (nth s 1)) (by kernel_rfl) (by kernel_rfl) (by kernel_rfl) (by kernel_rfl) (by kernel_rfl) (by kernel_rfl) ?_
  refine s_val (some 13) (.int .i64 8) (fun w => by kernel_rfl) (by kernel_rfl) ?_
  refine s_val (some 14) (.int .i64 0) (fun w => by kernel_rfl) (by kernel_rfl) ?_
  refine s_val (some 15) (.int .i64 0) (fun w => by kernel_rfl) (by kernel_rfl) ?_
  refine s_valE (some 16) (.int .u64 (Int.fdiv (((BitVec.toNat (nth s 1) : Nat) : Int)) (2 ^ (min 0 64)))) (wv ((nth s 1) >>> 0)) (fun w => by kernel_rfl) (bv_shr_u64 (nth s 1) 0) (by kernel_rfl) ?_
  refine s_valE (some 17) (.int .u8 (IntKind.u8.wrap (((BitVec.toNat ((nth s 1) >>> 0) : Nat) : Int)))) (fb s 1 0) (fun w => by kernel_rfl) (bv_conv_u8 ((nth s 1) >>> 0)) (by kernel_rfl) ?_
  refine s_val (some 18) (.pointer (some ⟨b2, 8, none⟩)) (fun w => by kernel_rfl) (by kernel_rfl) ?_
  refine s_store H10 0 [(b2, Obj.cells #[fb s 0 0, fb s 0 8, fb s 0 16, fb s 0 24, fb s 0 32, fb s 0 40, fb s 0 48, fb s 0 56, fb s 1 0, .int .u8 0, .int .u8 0, .int .u8 0, .int .u8 0, .int .u8 0, .int .u8 0, .int .u8 0, .int .u8 0, .int .u8 0, .int .u8 0, .int .u8 0, .int .u8 0, .int .u8 0, .int .u8 0, .int .u8 0, .int .u8 0, .int .u8 0, .int .u8 0, .int .u8 0, .int .u8 0, .int .u8 0, .int .u8 0, .int .u8 0] 48 (0, 0)), (b1, Obj.cells (Value.cells (svn s)) 26 (0, 0))] 5 (.tmp 18) (.tmp 17) b2 (8) #[fb s 0 0, fb s 0 8, fb s 0 16, fb s 0 24, fb s 0 32, fb s 0 40, fb s 0 48, fb s 0 56, .int .u8 0, .int .u8 0, .int .u8 0, .int .u8 0, .int .u8 0, .int .u8 0, .int .u8 0, .int .u8 0, .int .u8 0, .int .u8 0, .int .u8 0, .int .u8 0, .int .u8 0, .int .u8 0, .int .u8 0, .int .u8 0, .int .u8 0, .int .u8 0, .int .u8 0, .int .u8 0, .int .u8 0, .int .u8 0, .int .u8 0, .int .u8 0] #[fb s 0 0, fb s 0 8, fb s 0 16, fb s 0 24, fb s 0 32, fb s 0 40, fb s 0 48, fb s 0 56, fb s 1 0, .int .u8 0, .int .u8 0, .int .u8 0, .int .u8 0, .int .u8 0, .int .u8 0, .int .u8 0, .int .u8 0, .int .u8 0, .int .u8 0, .int .u8 0, .int .u8 0, .int .u8 0, .int .u8 0, .int .u8 0, .int .u8 0, .int .u8 0, .int .u8 0, .int .u8 0, .int .u8 0, .int .u8 0, .int .u8 0, .int .u8 0] 48 (fb s 1 0) (by kernel_rfl) (by kernel_rfl) (by kernel_rfl) (by kernel_rfl) (by kernel_rfl) (by kernel_rfl) (of_decide_eq_true (by kernel_rfl)) (by kernel_rfl) (by kernel_rfl) ?_
  intro w11 H11; clear H10
  refine s_nil ?_
  show WP _ _ _ _ _ _
  refine g_reg0 [0, 1] (by kernel_rfl) ?_
  refine s_val (some 19) (.int .i64 9) (fun w => by kernel_rfl) (by kernel_rfl) ?_
  refine s_val (some 5) (.int .i64 9) (fun w => by kernel_rfl) (by kernel_rfl) ?_
  refine s_nil ?_
  show WPL _ _ _ _ _ _
  refine g_next ?_
  refine g_sreg [0] (by kernel_rfl) (by kernel_rfl) ?_
  refine s_val (some 6) (.bool true) (fun w => by kernel_rfl) (by kernel_rfl) ?_
  refine s_nil ?_
  refine g_seq (by kernel_rfl) ?_
  refine g_cond_t (by kernel_rfl) (by kernel_rfl) ?_
  refine g_skip (by kernel_rfl) ?_
  show WP _ _ _ _ _ _
  refine g_seq (by kernel_rfl) ?_
  refine g_block 1 (by kernel_rfl) ?_
  refine g_sreg [0, 1] (by kernel_rfl) (by kernel_rfl) ?_
  refine s_val (some 7) (.int .i64 9) (fun w => by kernel_rfl) (by kernel_rfl) ?_
  refine s_val (some 4) (.int .i64 9) (fun w => by kernel_rfl) (by kernel_rfl) ?_
  refine s_nil ?_
  refine g_reg0 [0, 1, 2, 3, 4, 5, 6, 7, 8, 9, 10, 11] (by kernel_rfl) ?_
  refine s_val (some 8) (.int .i64 9) (fun w => by kernel_rfl) (by kernel_rfl) ?_
  refine s_val (some 9) (.int .i64 9) (fun w => by kernel_rfl) (by kernel_rfl) ?_
  refine s_val (some 10) (.int .i64 1) (fun w => by kernel_rfl) (by kernel_rfl) ?_
  refine s_val (some 11) (.pointer (some ⟨b1, 1, none⟩)) (fun w => by kernel_rfl) (by kernel_rfl) ?_
  refine s_load1 H11 (some 12) 25 (.tmp 11) 1 b1 1 (Value.cells (svn s)) 26 (0, 0) (wv (nth s 1)) (by kernel_rfl) (by kernel_rfl) (by kernel_rfl) (by kernel_rfl) (by kernel_rfl) (by kernel_rfl) ?_
  refine s_val (some 13) (.int .i64 9) (fun w => by kernel_rfl) (by kernel_rfl) ?_
  refine s_val (some 14) (.int .i64 1) (fun w => by kernel_rfl) (by kernel_rfl) ?_
  refine s_val (some 15) (.int .i64 8) (fun w => by kernel_rfl) (by kernel_rfl) ?_
  refine s_valE (some 16) (.int .u64 (Int.fdiv (((BitVec.toNat (nth s 1) : Nat) : Int)) (2 ^ (min 8 64)))) (wv ((nth s 1) >>> 8)) (fun w => by kernel_rfl) (bv_shr_u64 (nth s 1) 8) (by kernel_rfl) ?_
  refine s_valE (some 17) (.int .u8 (IntKind.u8.wrap (((BitVec.toNat ((nth s 1) >>> 8) : Nat) : Int)))) (fb s 1 8) (fun w => by kernel_rfl) (bv_conv_u8 ((nth s 1) >>> 8)) (by kernel_rfl) ?_
  refine s_val (some 18) (.pointer (some ⟨b2, 9, none⟩)) (fun w => by kernel_rfl) (by kernel_rfl) ?_
  refine s_store H11 0 [(b2, Obj.cells #[fb s 0 0, fb s 0 8, fb s 0 16, fb s 0 24, fb s 0 32, fb s 0 40, fb s 0 48, fb s 0 56, fb s 1 0, fb s 1 8, .int .u8 0, .int .u8 0, .int .u8 0, .int .u8 0, .int .u8 0, .int .u8 0, .int .u8 0, .int .u8 0, .int .u8 0, .int .u8 0, .int .u8 0, .int .u8 0, .int .u8 0, .int .u8 0, .int .u8 0, .int .u8 0, .int .u8 0, .int .u8 0, .int .u8 0, .int .u8 0, .int .u8 0, .int .u8 0] 48 (0, 0)), (b1, Obj.cells (Value.cells (svn s)) 26 (0, 0))] 5 (.tmp 18) (.tmp 17) b2 (9) #[fb s 0 0, fb s 0 8, fb s 0 16, fb s 0 24, fb s 0 32, fb s 0 40, fb s 0 48, fb s 0 56, fb s 1 0, .int .u8 0, .int .u8 0, .int .u8 0, .int .u8 0, .int .u8 0, .int .u8 0, .int .u8 0, .int .u8 0, .int .u8 0, .int .u8 0, .int .u8 0, .int .u8 0, .int .u8 0, .int .u8 0, .int .u8 0, .int .u8 0, .int .u8 0, .int .u8 0, .int .u8 0, .int .u8 0, .int .u8 0, .int .u8 0, .int .u8 0] #[fb s 0 0, fb s 0 8, fb s 0 16, fb s 0 24, fb s 0 32, fb s 0 40, fb s 0 48, fb s 0 56, fb s 1 0, fb s 1 8, .int .u8 0, .int .u8 0, .int .u8 0, .int .u8 0, .int .u8 0, .int .u8 0, .int .u8 0, .int .u8 0, .int .u8 0, .int .u8 0, .int .u8 0, .int .u8 0, .int .u8 0, .int .u8 0, .int .u8 0, .int .u8 0, .int .u8 0, .int .u8 0, .int .u8 0, .int .u8 0, .int .u8 0, .int .u8 0] 48 (fb s 1 8) (by kernel_rfl) (by kernel_rfl) (by kernel_rfl) (by kernel_rfl) (by kernel_rfl) (by kernel_rfl) (of_decide_eq_true (by kernel_rfl)) (by kernel_rfl) (by kernel_rfl) ?_
  intro w12 H12; clear H11
  refine s_nil ?_
  show WP _ _ _ _ _ _
  refine g_reg0 [0, 1] (by kernel_rfl) ?_
  refine s_val (some 19) (.int .i64 10) (fun w => by kernel_rfl) (by kernel_rfl) ?_
  refine s_val (some 5) (.int .i64 10) (fun w => by kernel_rfl) (by kernel_rfl) ?_
  refine s_nil ?_
  show WPL _ _ _ _ _ _
  refine g_next ?_
  refine g_sreg [0] (by kernel_rfl) (by kernel_rfl) ?_
  refine s_val (some 6) (.bool true) (fun w => by kernel_rfl) (by kernel_rfl) ?_
  refine s_nil ?_
  refine g_seq (by kernel_rfl) ?_
  refine g_cond_t (by kernel_rfl) (by kernel_rfl) ?_
  refine g_skip (by kernel_rfl) ?_
  show WP _ _ _ _ _ _
  refine g_seq (by kernel_rfl) ?_
  refine g_block 1 (by kernel_rfl) ?_
  refine g_sreg [0, 1] (by kernel_rfl) (by kernel_rfl) ?_
  refine s_val (some 7) (.int .i64 10) (fun w => by kernel_rfl) (by kernel_rfl) ?_
  refine s_val (some 4) (.int .i64 10) (fun w => by kernel_rfl) (by kernel_rfl) ?_
  refine s_nil ?_
  refine g_reg0 [0, 1, 2, 3, 4, 5, 6, 7, 8, 9, 10, 11] (by kernel_rfl) ?_
  refine s_val (some 8) (.int .i64 10) (fun w => by kernel_rfl) (by kernel_rfl) ?_
  refine s_val (some 9) (.int .i64 10) (fun w => by kernel_rfl) (by kernel_rfl) ?_
  refine s_val (some 10) (.int .i64 1) (fun w => by kernel_rfl) (by kernel_rfl) ?_
  refine s_val (some 11) (.pointer (some ⟨b1, 1, none⟩)) (fun w => by kernel_rfl) (by kernel_rfl) ?_
  refine s_load1 H12 (some 12) 25 (.tmp 11) 1 b1 1 (Value.cells (svn s)) 26 (0, 0) (wv (nth s 1)) (by kernel_rfl) (by kernel_rfl) (by kernel_rfl) (by kernel_rfl) (by kernel_rfl) (by kernel_rfl) ?_
  refine s_val (some 13) (.int .i64 10) (fun w => by kernel_rfl) (by kernel_rfl) ?_
  refine s_val (some 14) (.int .i64 2) (fun w => by kernel_rfl) (by kernel_rfl) ?_
  refine s_val (some 15) (.int .i64 16) (fun w => by kernel_rfl) (by kernel_rfl) ?_
  refine s_valE (some 16) (.int .u64 (Int.fdiv (((BitVec.toNat (nth s 1) : Nat) : Int)) (2 ^ (min 16 64)))) (wv ((nth s 1) >>> 16)) (fun w => by kernel_rfl) (bv_shr_u64 (nth s 1) 16) (by kernel_rfl) ?_
  refine s_valE (some 17) (.int .u8 (IntKind.u8.wrap (((BitVec.toNat ((nth s 1) >>> 16) : Nat) : Int)))) (fb s 1 16) (fun w => by kernel_rfl) (bv_conv_u8 ((nth s 1) >>> 16)) (by kernel_rfl) ?_
  refine s_val (some 18) (.pointer (some ⟨b2, 10, none⟩)) (fun w => by kernel_rfl) (by kernel_rfl) ?_
  refine s_store H12 0 [(b2, Obj.cells #[fb s 0 0, fb s 0 8, fb s 0 16, fb s 0 24, fb s 0 32, fb s 0 40, fb s 0 48, fb s 0 56, fb s 1 0, fb s 1 8, fb s 1 16, .int .u8 0, .int .u8 0, .int .u8 0, .int .u8 0, .int .u8 0, .int .u8 0, .int .u8 0, .int .u8 0, .int .u8 0, .int .u8 0, .int .u8 0, .int .u8 0, .int .u8 0, .int .u8 0, .int .u8 0, .int .u8 0, .int .u8 0, .int .u8 0, .int .u8 0, .int .u8 0, .int .u8 0] 48 (0, 0)), (b1, Obj.cells (Value.cells (svn s)) 26 (0, 0))] 5 (.tmp 18) (.tmp 17) b2 (10) #[fb s 0 0, fb s 0 8, fb s 0 16, fb s 0 24, fb s 0 32, fb s 0 40, fb s 0 48, fb s 0 56, fb s 1 0, fb s 1 8, .int .u8 0, .int .u8 0, .int .u8 0, .int .u8 0, .int .u8 0, .int .u8 0, .int .u8 0, .int .u8 0, .int .u8 0, .int .u8 0, .int .u8 0, .int .u8 0, .int .u8 0, .int .u8 0, .int .u8 0, .int .u8 0, .int .u8 0, .int .u8 0, .int .u8 0, .int .u8 0, .int .u8 0, .int .u8 0] #[fb s 0 0, fb s 0 8, fb s 0 16, fb s 0 24, fb s 0 32, fb s 0 40, fb s 0 48, fb s 0 56, fb s 1 0, fb s 1 8, fb s 1 16, .int .u8 0, .int .u8 0, .int .u8 0, .int .u8 0, .int .u8 0, .int .u8 0, .int .u8 0, .int .u8 0, .int .u8 0, .int .u8 0, .int .u8 0, .int .u8 0, .int .u8 0, .int .u8 0, .int .u8 0, .int .u8 0, .int .u8 0, .int .u8 0, .int .u8 0, .int .u8 0, .int .u8 0] 48 (fb s 1 16) (by kernel_rfl) (by kernel_rfl) (by kernel_rfl) (by kernel_rfl) (by kernel_rfl) (by kernel_rfl) (of_decide_eq_true (by kernel_rfl)) (by kernel_rfl) (by kernel_rfl) ?_
  intro w13 H13; clear H12
  refine s_nil ?_
  show WP _ _ _ _ _ _
  refine g_reg0 [0, 1] (by kernel_rfl) ?_
  refine s_val (some 19) (.int .i64 11) (fun w => by kernel_rfl) (by kernel_rfl) ?_
  refine s_val (some 5) (.int .i64 11) (fun w => by kernel_rfl) (by kernel_rfl) ?_
  refine s_nil ?_
  show WPL _ _ _ _ _ _
  refine g_next ?_
  refine g_sreg [0] (by kernel_rfl) (by kernel_rfl) ?_
  refine s_val (some 6) (.bool true) (fun w => by kernel_rfl) (by kernel_rfl) ?_
  refine s_nil ?_
  refine g_seq (by kernel_rfl) ?_
  refine g_cond_t (by kernel_rfl) (by kernel_rfl) ?_
  refine g_skip (by kernel_rfl) ?_
  show WP _ _ _ _ _ _
  refine g_seq (by kernel_rfl) ?_
  refine g_block 1 (by kernel_rfl) ?_
  refine g_sreg [0, 1] (by kernel_rfl) (by kernel_rfl) ?_
  refine s_val (some 7) (.int .i64 11) (fun w => by kernel_rfl) (by kernel_rfl) ?_
  refine s_val (some 4) (.int .i64 11) (fun w => by kernel_rfl) (by kernel_rfl) ?_
  refine s_nil ?_
  refine g_reg0 [0, 1, 2, 3, 4, 5, 6, 7, 8, 9, 10, 11] (by kernel_rfl) ?_
  refine s_val (some 8) (.int .i64 11) (fun w => by kernel_rfl) (by kernel_rfl) ?_
  refine s_val (some 9) (.int .i64 11) (fun w => by kernel_rfl) (by kernel_rfl) ?_
  refine s_val (some 10) (.int .i64 1) (fun w => by kernel_rfl) (by kernel_rfl) ?_
  refine s_val (some 11) (.pointer (some ⟨b1, 1, none⟩)) (fun w => by kernel_rfl) (by kernel_rfl) ?_
  refine s_load1 H13 (some 12) 25 (.tmp 11) 1 b1 1 (Value.cells (svn s)) 26 (0, 0) (wv (nth s 1)) (by kernel_rfl) (by kernel_rfl) (by kernel_rfl) (by kernel_rfl) (by kernel_rfl) (by kernel_rfl) ?_
  refine s_val (some 13) (.int .i64 11) (fun w => by kernel_rfl) (by kernel_rfl) ?_
  refine s_val (some 14) (.int .i64 3) (fun w => by kernel_rfl) (by kernel_rfl) ?_
  refine s_val (some 15) (.int .i64 24) (fun w => by kernel_rfl) (by kernel_rfl) ?_
  refine s_valE (some 16) (.int .u64 (Int.fdiv (((BitVec.toNat (nth s 1) : Nat) : Int)) (2 ^ (min 24 64)))) (wv ((nth s 1) >>> 24)) (fun w => by kernel_rfl) (bv_shr_u64 (nth s 1) 24) (by kernel_rfl) ?_
  refine s_valE (some 17) (.int .u8 (IntKind.u8.wrap (((BitVec.toNat ((nth s 1) >>> 24) : Nat) : Int)))) (fb s 1 24) (fun w => by kernel_rfl) (bv_conv_u8 ((nth s 1) >>> 24)) (by kernel_rfl) ?_
  refine s_val (some 18) (.pointer (some ⟨b2, 11, none⟩)) (fun w => by kernel_rfl) (by kernel_rfl) ?_
  refine s_store H13 0 [(b2, Obj.cells #[fb s 0 0, fb s 0 8, fb s 0 16, fb s 0 24, fb s 0 32, fb s 0 40, fb s 0 48, fb s 0 56, fb s 1 0, fb s 1 8, fb s 1 16, fb s 1 24, .int .u8 0, .int .u8 0, .int .u8 0, .int .u8 0, .int .u8 0, .int .u8 0, .int .u8 0, .int .u8 0, .int .u8 0, .int .u8 0, .int .u8 0, .int .u8 0, .int .u8 0, .int .u8 0, .int .u8 0, .int .u8 0, .int .u8 0, .int .u8 0, .int .u8 0, .int .u8 0] 48 (0, 0)), (b1, Obj.cells (Value.cells (svn s)) 26 (0, 0))] 5 (.tmp 18) (.tmp 17) b2 (11) #[fb s 0 0, fb s 0 8, fb s 0 16, fb s 0 24, fb s 0 32, fb s 0 40, fb s 0 48, fb s 0 56, fb s 1 0, fb s 1 8, fb s 1 16, .int .u8 0, .int .u8 0, .int .u8 0, .int .u8 0, .int .u8 0, .int .u8 0, .int .u8 0, .int .u8 0, .int .u8 0, .int .u8 0, .int .u8 0, .int .u8 0, .int .u8 0, .int .u8 0, .int .u8 0, .int .u8 0, .int .u8 0, .int .u8 0, .int .u8 0, .int .u8 0, .int .u8 0] #[fb s 0 0, fb s 0 8, fb s 0 16, fb s 0 24, fb s 0 32, fb s 0 40, fb s 0 48, fb s 0 56, fb s 1 0, fb s 1 8, fb s 1 16, fb s 1 24, .int .u8 0, .int .u8 0, .int .u8 0, .int .u8 0, .int .u8 0, .int .u8 0, .int .u8 0, .int .u8 0, .int .u8 0, .int .u8 0, .int .u8 0, .int .u8 0, .int .u8 0, .int .u8 0, .int .u8 0, .int .u8 0, .int .u8 0, .int .u8 0, .int .u8 0, .int .u8 0] 48 (fb s 1 24) (by kernel_rfl) (by kernel_rfl) (by kernel_rfl) (by kernel_rfl) (by kernel_rfl) (by kernel_rfl) (of_decide_eq_true (by kernel_rfl)) (by kernel_rfl) (by kernel_rfl) ?_
  intro w14 H14; clear H13
  refine s_nil ?_
  show WP _ _ _ _ _ _
  refine g_reg0 [0, 1] (by kernel_rfl) ?_
  refine s_val (some 19) (.int .i64 12) (fun w => by kernel_rfl) (by kernel_rfl) ?_
  refine s_val (some 5) (.int .i64 12) (fun w => by kernel_rfl) (by kernel_rfl) ?_
  refine s_nil ?_
  show WPL _ _ _ _ _ _
  refine g_next ?_
  refine g_sreg [0] (by kernel_rfl) (by kernel_rfl) ?_
  refine s_val (some 6) (.bool true) (fun w => by kernel_rfl) (by kernel_rfl) ?_
  refine s_nil ?_
  refine g_seq (by kernel_rfl) ?_
  refine g_cond_t (by kernel_rfl) (by kernel_rfl) ?_
  refine g_skip (by kernel_rfl) ?_
  show WP _ _ _ _ _ _
  refine g_seq (by kernel_rfl) ?_
  refine g_block 1 (by kernel_rfl) ?_
  refine g_sreg [0, 1] (by kernel_rfl) (by kernel_rfl) ?_
  refine s_val (some 7) (.int .i64 12) (fun w => by kernel_rfl) (by kernel_rfl) ?_
  refine s_val (some 4) (.int .i64 12) (fun w => by kernel_rfl) (by kernel_rfl) ?_
  refine s_nil ?_
  refine g_reg0 [0, 1, 2, 3, 4, 5, 6, 7, 8, 9, 10, 11] (by kernel_rfl) ?_
  refine s_val (some 8) (.int .i64 12) (fun w => by kernel_rfl) (by kernel_rfl) ?_
  refine s_val (some 9) (.int .i64 12) (fun w => by kernel_rfl) (by kernel_rfl) ?_
  refine s_val (some 10) (.int .i64 1) (fun w => by kernel_rfl) (by kernel_rfl) ?_
  refine s_val (some 11) (.pointer (some ⟨b1, 1, none⟩)) (fun w => by kernel_rfl) (by kernel_rfl) ?_
  refine s_load1 H14 (some 12) 25 (.tmp 11) 1 b1 1 (Value.cells (svn s)) 26 (0, 0) (wv (nth s 1)) (by kernel_rfl) (by kernel_rfl) (by kernel_rfl) (by kernel_rfl) (by kernel_rfl) (by kernel_rfl) ?_
  refine s_val (some 13) (.int .i64 12) (fun w => by kernel_rfl) (by kernel_rfl) ?_
  refine s_val (some 14) (.int .i64 4) (fun w => by kernel_rfl) (by kernel_rfl) ?_
  refine s_val (some 15) (.int .i64 32) (fun w => by kernel_rfl) (by kernel_rfl) ?_
  refine s_valE (some 16) (.int .u64 (Int.fdiv (((BitVec.toNat (nth s 1) : Nat) : Int)) (2 ^ (min 32 64)))) (wv ((nth s 1) >>> 32)) (fun w => by kernel_rfl) (bv_shr_u64 (nth s 1) 32) (by kernel_rfl) ?_
  refine s_valE (some 17) (.int .u8 (IntKind.u8.wrap (((BitVec.toNat ((nth s 1) >>> 32) : Nat) : Int)))) (fb s 1 32) (fun w => by kernel_rfl) (bv_conv_u8 ((nth s 1) >>> 32)) (by kernel_rfl) ?_
  refine s_val (some 18) (.pointer (some ⟨b2, 12, none⟩)) (fun w => by kernel_rfl) (by kernel_rfl) ?_
  refine s_store H14 0 [(b2, Obj.cells #[fb s 0 0, fb s 0 8, fb s 0 16, fb s 0 24, fb s 0 32, fb s 0 40, fb s 0 48, fb s 0 56, fb s 1 0, fb s 1 8, fb s 1 16, fb s 1 24, fb s 1 32, .int .u8 0, .int .u8 0, .int .u8 0, .int .u8 0, .int .u8 0, .int .u8 0, .int .u8 0, .int .u8 0, .int .u8 0, .int .u8 0, .int .u8 0, .int .u8 0, .int .u8 0, .int .u8 0, .int .u8 0, .int .u8 0, .int .u8 0, .int .u8 0, .int .u8 0] 48 (0, 0)), (b1, Obj.cells (Value.cells (svn s)) 26 (0, 0))] 5 (.tmp 18) (.tmp 17) b2 (12) #[fb s 0 0, fb s 0 8, fb s 0 16, fb s 0 24, fb s 0 32, fb s 0 40, fb s 0 48, fb s 0 56, fb s 1 0, fb s 1 8, fb s 1 16, fb s 1 24, .int .u8 0, .int .u8 0, .int .u8 0, .int .u8 0, .int .u8 0, .int .u8 0, .int .u8 0, .int .u8 0, .int .u8 0, .int .u8 0, .int .u8 0, .int .u8 0, .int .u8 0, .int .u8 0, .int .u8 0, .int .u8 0, .int .u8 0, .int .u8 0, .int .u8 0, .int .u8 0] #[fb s 0 0, fb s 0 8, fb s 0 16, fb s 0 24, fb s 0 32, fb s 0 40, fb s 0 48, fb s 0 56, fb s 1 0, fb s 1 8, fb s 1 16, fb s 1 24, fb s 1 32, .int .u8 0, .int .u8 0, .int .u8 0, .int .u8 0, .int .u8 0, .int .u8 0, .int .u8 0, .int .u8 0, .int .u8 0, .int .u8 0, .int .u8 0, .int .u8 0, .int .u8 0, .int .u8 0, .int .u8 0, .int .u8 0, .int .u8 0, .int .u8 0, .int .u8 0] 48 (fb s 1 32) (by kernel_rfl) (by kernel_rfl) (by kernel_rfl) (by kernel_rfl) (by kernel_rfl) (by kernel_rfl) (of_decide_eq_true (by kernel_rfl)) (by kernel_rfl) (by kernel_rfl) ?_
  intro w15 H15; clear H14
  refine s_nil ?_
  show WP _ _ _ _ _ _
  refine g_reg0 [0, 1] (by kernel_rfl) ?_
  refine s_val (some 19) (.int .i64 13) (fun w => by kernel_rfl) (by kernel_rfl) ?_
  refine s_val (some 5) (.int .i64 13) (fun w => by kernel_rfl) (by kernel_rfl) ?_
  refine s_nil ?_
  show WPL _ _ _ _ _ _
  refine g_next ?_
  refine g_sreg [0] (by kernel_rfl) (by kernel_rfl) ?_
  refine s_val (some 6) (.bool true) (fun w => by kernel_rfl) (by kernel_rfl) ?_
  refine s_nil ?_
  refine g_seq (by kernel_rfl) ?_
  refine g_cond_t (by kernel_rfl) (by kernel_rfl) ?_
  refine g_skip (by kernel_rfl) ?_
  show WP _ _ _ _ _ _
  refine g_seq (by kernel_rfl) ?_
  refine g_block 1 (by kernel_rfl) ?_
  refine g_sreg [0, 1] (by kernel_rfl) (by kernel_rfl) ?_
  refine s_val (some 7) (.int .i64 13) (fun w => by kernel_rfl) (by kernel_rfl) ?_
  refine s_val (some 4) (.int .i64 13) (fun w => by kernel_rfl) (by kernel_rfl) ?_
  refine s_nil ?_
  refine g_reg0 [0, 1, 2, 3, 4, 5, 6, 7, 8, 9, 10, 11] (by kernel_rfl) ?_
  refine s_val (some 8) (.int .i64 13) (fun w => by kernel_rfl) (by kernel_rfl) ?_
  refine s_val (some 9) (.int .i64 13) (fun w => by kernel_rfl) (by kernel_rfl) ?_
  refine s_val (some 10) (.int .i64 1) (fun w => by kernel_rfl) (by kernel_rfl) ?_
  refine s_val (some 11) (.pointer (some ⟨b1, 1, none⟩)) (fun w => by kernel_rfl) (by kernel_rfl) ?_
  refine s_load1 H15 (some 12) 25 (.tmp 11) 1 b1 1 (Value.cells (svn s)) 26 (0, 0) (wv (nth s 1)) (by kernel_rfl) (by kernel_rfl) (by kernel_rfl) (by kernel_rfl) (by kernel_rfl) (by kernel_rfl) ?_
  refine s_val (some 13) (.int .i64 13) (fun w => by kernel_rfl) (by kernel_rfl) ?_
  refine s_val (some 14) (.int .i64 5) (fun w => by kernel_rfl) (by kernel_rfl) ?_
  refine s_val (some 15) (.int .i64 40) (fun w => by kernel_rfl) (by kernel_rfl) ?_
  refine s_valE (some 16) (.int .u64 (Int.fdiv (((BitVec.toNat (nth s 1) : Nat) : Int)) (2 ^ (min 40 64)))) (wv ((nth s 1) >>> 40)) (fun w => by kernel_rfl) (bv_shr_u64 (nth s 1) 40) (by kernel_rfl) ?_
  refine s_valE (some 17) (.int .u8 (IntKind.u8.wrap (((BitVec.toNat ((nth s 1) >>> 40) : Nat) : Int)))) (fb s 1 40) (fun w => by kernel_rfl) (bv_conv_u8 ((nth s 1) >>> 40)) (by kernel_rfl) ?_
  refine s_val (some 18) (.pointer (some ⟨b2, 13, none⟩)) (fun w => by kernel_rfl) (by kernel_rfl) ?_
  refine s_store H15 0 [(b2, Obj.cells #[fb s 0 0, fb s 0 8, fb s 0 16, fb s 0 24, fb s 0 32, fb s 0 40, fb s 0 48, fb s 0 56, fb s 1 0, fb s 1 8, fb s 1 16, fb s 1 24, fb s 1 32, fb s 1 40, .int .u8 0, .int .u8 0, .int .u8 0, .int .u8 0, .int .u8 0, .int .u8 0, .int .u8 0, .int .u8 0, .int .u8 0, .int .u8 0, .int .u8 0, .int .u8 0, .int .u8 0, .int .u8 0, .int .u8 0, .int .u8 0, .int .u8 0, .int .u8 0] 48 (0, 0)), (b1, Obj.cells (Value.cells (svn s)) 26 (0, 0))] 5 (.tmp 18) (.tmp 17) b2 (13) #[fb s 0 0, fb s 0 8, fb s 0 16, fb s 0 24, fb s 0 32, fb s 0 40, fb s 0 48, fb s 0 56, fb s 1 0, fb s 1 8, fb s 1 16, fb s 1 24, fb s 1 32, .int .u8 0, .int .u8 0, .int .u8 0, .int .u8 0, .int .u8 0, .int .u8 0, .int .u8 0, .int .u8 0, .int .u8 0, .int .u8 0, .int .u8 0, .int .u8 0, .int .u8 0, .int .u8 0, .int .u8 0, .int .u8 0, .int .u8 0, .int .u8 0, .int .u8 0] #[fb s 0 0, fb s 0 8, fb s 0 16, fb s 0 24, fb s 0 32, fb s 0 40, fb s 0 48, fb s 0 56, fb s 1 0, fb s 1 8, fb s 1 16, fb s 1 24, fb s 1 32, fb s 1 40, .int .u8 0, .int .u8 0, .int .u8 0, .int .u8 0, .int .u8 0, .int .u8 0, .int .u8 0, .int .u8 0, .int .u8 0, .int .u8 0, .int .u8 0, .int .u8 0, .int .u8 0, .int .u8 0, .int .u8 0, .int .u8 0, .int .u8 0, .int .u8 0] 48 (fb s 1 40) (by kernel_rfl) (by kernel_rfl) (by kernel_rfl) (by kernel_rfl) (by kernel_rfl) (by kernel_rfl) (of_decide_eq_true (by kernel_rfl)) (by kernel_rfl) (by kernel_rfl) ?_
  intro w16 H16; clear H15
  refine s_nil ?_
  show WP _ _ _ _ _ _
  refine g_reg0 [0, 1] (by kernel_rfl) ?_
  refine s_val (some 19) (.int .i64 14) (fun w => by kernel_rfl) (by kernel_rfl) ?_
  refine s_val (some 5) (.int .i64 14) (fun w => by kernel_rfl) (by kernel_rfl) ?_
  refine s_nil ?_
  show WPL _ _ _ _ _ _
  refine g_next ?_
  refine g_sreg [0] (by kernel_rfl) (by kernel_rfl) ?_
  refine s_val (some 6) (.bool true) (fun w => by kernel_rfl) (by kernel_rfl) ?_
  refine s_nil ?_
  refine g_seq (by kernel_rfl) ?_
  refine g_cond_t (by kernel_rfl) (by kernel_rfl) ?_
  refine g_skip (by kernel_rfl) ?_
  show WP _ _ _ _ _ _
  refine g_seq (by kernel_rfl) ?_
  refine g_block 1 (by kernel_rfl) ?_
  refine g_sreg [0, 1] (by kernel_rfl) (by kernel_rfl) ?_
  refine s_val (some 7) (.int .i64 14) (fun w => by kernel_rfl) (by kernel_rfl) ?_
  refine s_val (some 4) (.int .i64 14) (fun w => by kernel_rfl) (by kernel_rfl) ?_
  refine s_nil ?_
  refine g_reg0 [0, 1, 2, 3, 4, 5, 6, 7, 8, 9, 10, 11] (by kernel_rfl) ?_
  refine s_val (some 8) (.int .i64 14) (fun w => by kernel_rfl) (by kernel_rfl) ?_
  refine s_val (some 9) (.int .i64 14) (fun w => by kernel_rfl) (by kernel_rfl) ?_
  refine s_val (some 10) (.int .i64 1) (fun w => by kernel_rfl) (by kernel_rfl) ?_
  refine s_val (some 11) (.pointer (some ⟨b1, 1, none⟩)) (fun w => by kernel_rfl) (by kernel_rfl) ?_
  refine s_load1 H16 (some 12) 25 (.tmp 11) 1 b1 1 (Value.cells (svn s)) 26 (0, 0) (wv (nth s 1)) (by kernel_rfl) (by kernel_rfl) (by kernel_rfl) (by kernel_rfl) (by kernel_rfl) (by kernel_rfl) ?_
  refine s_val (some 13) (.int .i64 14) (fun w => by kernel_rfl) (by kernel_rfl) ?_
  refine s_val (some 14) (.int .i64 6) (fun w => by kernel_rfl) (by kernel_rfl) ?_
  refine s_val (some 15) (.int .i64 48) (fun w => by kernel_rfl) (by kernel_rfl) ?_
  refine s_valE (some 16) (.int .u64 (Int.fdiv (((BitVec.toNat (nth s 1) : Nat) : Int)) (2 ^ (min 48 64)))) (wv ((nth s 1) >>> 48)) (fun w => by kernel_rfl) (bv_shr_u64 (nth s 1) 48) (by kernel_rfl) ?_
  refine s_valE (some 17) (.int .u8 (IntKind.u8.wrap (((BitVec.toNat ((nth s 1) >>> 48) : Nat) : Int)))) (fb s 1 48) (fun w => by kernel_rfl) (bv_conv_u8 ((nth s 1) >>> 48)) (by kernel_rfl) ?_
  refine s_val (some 18) (.pointer (some ⟨b2, 14, none⟩)) (fun w => by kernel_rfl) (by kernel_rfl) ?_
  refine s_store H16 0 [(b2, Obj.cells #[fb s 0 0, fb s 0 8, fb s 0 16, fb s 0 24, fb s 0 32, fb s 0 40, fb s 0 48, fb s 0 56, fb s 1 0, fb s 1 8, fb s 1 16, fb s 1 24, fb s 1 32, fb s 1 40, fb s 1 48, .int .u8 0, .int .u8 0, .int .u8 0, .int .u8 0, .int .u8 0, .int .u8 0, .int .u8 0, .int .u8 0, .int .u8 0, .int .u8 0, .int .u8 0, .int .u8 0, .int .u8 0, .int .u8 0, .int .u8 0, .int .u8 0, .int .u8 0] 48 (0, 0)), (b1, Obj.cells (Value.cells (svn s)) 26 (0, 0))] 5 (.tmp 18) (.tmp 17) b2 (14) #[fb s 0 0, fb s 0 8, fb s 0 16, fb s 0 24, fb s 0 32, fb s 0 40, fb s 0 48, fb s 0 56, fb s 1 0, fb s 1 8, fb s 1 16, fb s 1 24, fb s 1 32, fb s 1 40, .int .u8 0, .int .u8 0, .int .u8 0, .int .u8 0, .int .u8 0, .int .u8 0, .int .u8 0, .int .u8 0, .int .u8 0, .int .u8 0, .int .u8 0, .int .u8 0, .int .u8 0, .int .u8 0, .int .u8 0, .int .u8 0, .int .u8 0, .int .u8 0] #[fb s 0 0, fb s 0 8, fb s 0 16, fb s 0 24, fb s 0 32, fb s 0 40, fb s 0 48, fb s 0 56, fb s 1 0, fb s 1 8, fb s 1 16, fb s 1 24, fb s 1 32, fb s 1 40, fb s 1 48, .int .u8 0, .int .u8 0, .int .u8 0, .int .u8 0, .int .u8 0, .int .u8 0, .int .u8 0, .int .u8 0, .int .u8 0, .int .u8 0, .int .u8 0, .int .u8 0, .int .u8 0, .int .u8 0, .int .u8 0, .int .u8 0, .int .u8 0] 48 (fb s 1 48) (by kernel_rfl) (by kernel_rfl) (by kernel_rfl) (by kernel_rfl) (by kernel_rfl) (by kernel_rfl) (of_decide_eq_true (by kernel_rfl)) (by kernel_rfl) (by kernel_rfl) ?_
  intro w17 H17; clear H16
  refine s_nil ?_
  show WP _ _ _ _ _ _
  refine g_reg0 [0, 1] (by kernel_rfl) ?_
  refine s_val (some 19) (.int .i64 15) (fun w => by kernel_rfl) (by kernel_rfl) ?_
  refine s_val (some 5) (.int .i64 15) (fun w => by kernel_rfl) (by kernel_rfl) ?_
  refine s_nil ?_
  show WPL _ _ _ _ _ _
  refine g_next ?_
  refine g_sreg [0] (by kernel_rfl) (by kernel_rfl) ?_
  refine s_val (some 6) (.bool true) (fun w => by kernel_rfl) (by kernel_rfl) ?_
  refine s_nil ?_
  refine g_seq (by kernel_rfl) ?_
  refine g_cond_t (by kernel_rfl) (by kernel_rfl) ?_
  refine g_skip (by kernel_rfl) ?_
  show WP _ _ _ _ _ _
  refine g_seq (by kernel_rfl) ?_
  refine g_block 1 (by kernel_rfl) ?_
  refine g_sreg [0, 1] (by kernel_rfl) (by kernel_rfl) ?_
  refine s_val (some 7) (.int .i64 15) (fun w => by kernel_rfl) (by kernel_rfl) ?_
  refine s_val (some 4) (.int .i64 15) (fun w => by kernel_rfl) (by kernel_rfl) ?_
  refine s_nil ?_
  refine g_reg0 [0, 1, 2, 3, 4, 5, 6, 7, 8, 9, 10, 11] (by kernel_rfl) ?_
  refine s_val (some 8) (.int .i64 15) (fun w => by kernel_rfl) (by kernel_rfl) ?_
  refine s_val (some 9) (.int .i64 15) (fun w => by kernel_rfl) (by kernel_rfl) ?_
  refine s_val (some 10) (.int .i64 1) (fun w => by kernel_rfl) (by kernel_rfl) ?_
  refine s_val (some 11) (.pointer (some ⟨b1, 1, none⟩)) (fun w => by kernel_rfl) (by kernel_rfl) ?_
  refine s_load1 H17 (some 12) 25 (.tmp 11) 1 b1 1 (Value.cells (svn s)) 26 (0, 0) (wv (nth s 1)) (by kernel_rfl) (by kernel_rfl) (by kernel_rfl) (by kernel_rfl) (by kernel_rfl) (by kernel_rfl) ?_
  refine s_val (some 13) (.int .i64 15) (fun w => by kernel_rfl) (by kernel_rfl) ?_
  refine s_val (some 14) (.int .i64 7) (fun w => by kernel_rfl) (by kernel_rfl) ?_
  refine s_val (some 15) (.int .i64 56) (fun w => by kernel_rfl) (by kernel_rfl) ?_
  refine s_valE (some 16) (.int .u64 (Int.fdiv (((BitVec.toNat (nth s 1) : Nat) : Int)) (2 ^ (min 56 64)))) (wv ((nth s 1) >>> 56)) (fun w => by kernel_rfl) (bv_shr_u64 (nth s 1) 56) (by kernel_rfl) ?_
  refine s_valE (some 17) (.int .u8 (IntKind.u8.wrap (((BitVec.toNat ((nth s 1) >>> 56) : Nat) : Int)))) (fb s 1 56) (fun w => by kernel_rfl) (bv_conv_u8 ((nth s 1) >>> 56)) (by kernel_rfl) ?_
  refine s_val (some 18) (.pointer (some ⟨b2, 15, none⟩)) (fun w => by kernel_rfl) (by kernel_rfl) ?_
  refine s_store H17 0 [(b2, Obj.cells #[fb s 0 0, fb s 0 8, fb s 0 16, fb s 0 24, fb s 0 32, fb s 0 40, fb s 0 48, fb s 0 56, fb s 1 0, fb s 1 8, fb s 1 16, fb s 1 24, fb s 1 32, fb s 1 40, fb s 1 48, fb s 1 56, .int .u8 0, .int .u8 0, .int .u8 0, .int .u8 0, .int .u8 0, .int .u8 0, .int .u8 0, .int .u8 0, .int .u8 0, .int .u8 0, .int .u8 0, .int .u8 0, .int .u8 0, .int .u8 0, .int .u8 0, .int .u8 0] 48 (0, 0)), (b1, Obj.cells (Value.cells (svn s)) 26 (0, 0))] 5 (.tmp 18) (.tmp 17) b2 (15) #[fb s 0 0, fb s 0 8, fb s 0 16, fb s 0 24, fb s 0 32, fb s 0 40, fb s 0 48, fb s 0 56, fb s 1 0, fb s 1 8, fb s 1 16, fb s 1 24, fb s 1 32, fb s 1 40, fb s 1 48, .int .u8 0, .int .u8 0, .int .u8 0, .int .u8 0, .int .u8 0, .int .u8 0, .int .u8 0, .int .u8 0, .int .u8 0, .int .u8 0, .int .u8 0, .int .u8 0, .int .u8 0, .int .u8 0, .int .u8 0, .int .u8 0, .int .u8 0] #[fb s 0 0, fb s 0 8, fb s 0 16, fb s 0 24, fb s 0 32, fb s 0 40, fb s 0 48, fb s 0 56, fb s 1 0, fb s 1 8, fb s 1 16, fb s 1 24, fb s 1 32, fb s 1 40, fb s 1 48, fb s 1 56, .int .u8 0, .int .u8 0, .int .u8 0, .int .u8 0, .int .u8 0, .int .u8 0, .int .u8 0, .int .u8 0, .int .u8 0, .int .u8 0, .int .u8 0, .int .u8 0, .int .u8 0, .int .u8 0, .int .u8 0, .int .u8 0] 48 (fb s 1 56) (by kernel_rfl) (by kernel_rfl) (by kernel_rfl) (by kernel_rfl) (by kernel_rfl) (by kernel_rfl) (of_decide_eq_true (by kernel_rfl)) (by kernel_rfl) (by kernel_rfl) ?_
  intro w18 H18; clear H17
  refine s_nil ?_
  show WP _ _ _ _ _ _
  refine g_reg0 [0, 1] (by kernel_rfl) ?_
  refine s_val (some 19) (.int .i64 16) (fun w => by kernel_rfl) (by kernel_rfl) ?_
  refine s_val (some 5) (.int .i64 16) (fun w => by kernel_rfl) (by kernel_rfl) ?_
  refine s_nil ?_
  show WPL _ _ _ _ _ _
  refine g_next ?_
  refine g_sreg [0] (by kernel_rfl) (by kernel_rfl) ?_
  refine s_val (some 6) (.bool true) (fun w => by kernel_rfl) (by kernel_rfl) ?_
  refine s_nil ?_
  refine g_seq (by kernel_rfl) ?_
  refine g_cond_t (by kernel_rfl) (by kernel_rfl) ?_
  refine g_skip (by kernel_rfl) ?_
  show WP _ _ _ _ _ _
  refine g_seq (by kernel_rfl) ?_
  refine g_block 1 (by kernel_rfl) ?_
  refine g_sreg [0, 1] (by kernel_rfl) (by kernel_rfl) ?_
  refine s_val (some 7) (.int .i64 16) (fun w => by kernel_rfl) (by kernel_rfl) ?_
  refine s_val (some 4) (.int .i64 16) (fun w => by kernel_rfl) (by kernel_rfl) ?_
  refine s_nil ?_
  refine g_reg0 [0, 1, 2, 3, 4, 5, 6, 7, 8, 9, 10, 11] (by kernel_rfl) ?_
  refine s_val (some 8) (.int .i64 16) (fun w => by kernel_rfl) (by kernel_rfl) ?_
  refine s_val (some 9) (.int .i64 16) (fun w => by kernel_rfl) (by kernel_rfl) ?_
  refine s_val (some 10) (.int .i64 2) (fun w => by kernel_rfl) (by kernel_rfl) ?_
  refine s_val (some 11) (.pointer (some ⟨b1, 2, none⟩)) (fun w => by kernel_rfl) (by kernel_rfl) ?_
  refine s_load1 H18 (some 12) 25 (.tmp 11) 1 b1 2 (Value.cells (svn s)) 26 (0, 0) (wv (nth s 2)) (by kernel_rfl) (by kernel_rfl) (by kernel_rfl) (by kernel_rfl) (by kernel_rfl) (by kernel_rfl) ?_
  refine s_val (some 13) (.int .i64 16) (fun w => by kernel_rfl) (by kernel_rfl) ?_
  refine s_val (some 14) (.int .i64 0) (fun w => by kernel_rfl) (by kernel_rfl) ?_
  refine s_val (some 15) (.int .i64 0) (fun w => by kernel_rfl) (by kernel_rfl) ?_
  refine s_valE (some 16) (.int .u64 (Int.fdiv (((BitVec.toNat (nth s 2) : Nat) : Int)) (2 ^ (min 0 64)))) (wv ((nth s 2) >>> 0)) (fun w => by kernel_rfl) (bv_shr_u64 (nth s 2) 0) (by kernel_rfl) ?_
  refine s_valE (some 17) (.int .u8 (IntKind.u8.wrap (((BitVec.toNat ((nth s 2) >>> 0) : Nat) : Int)))) (fb s 2 0) (fun w => by kernel_rfl) (bv_conv_u8 ((nth s 2) >>> 0)) (by kernel_rfl) ?_
  refine s_val (some 18) (.pointer (some ⟨b2, 16, none⟩)) (fun w => by kernel_rfl) (by kernel_rfl) ?_
  refine s_store H18 0 [(b2, Obj.cells #[fb s 0 0, fb s 0 8, fb s 0 16, fb s 0 24, fb s 0 32, fb s 0 40, fb s 0 48, fb s 0 56, fb s 1 0, fb s 1 8, fb s 1 16, fb s 1 24, fb s 1 32, fb s 1 40, fb s 1 48, fb s 1 56, fb s 2 0, .int .u8 0, .int .u8 0, .int .u8 0, .int .u8 0, .int .u8 0, .int .u8 0, .int .u8 0, .int .u8 0, .int .u8 0, .int .u8 0, .int .u8 0, .int .u8 0, .int .u8 0, .int .u8 0, .int .u8 0] 48 (0, 0)), (b1, Obj.cells (Value.cells (svn s)) 26 (0, 0))] 5 (.tmp 18) (.tmp 17) b2 (16) #[fb s 0 0, fb s 0 8, fb s 0 16, fb s 0 24, fb s 0 32, fb s 0 40, fb s 0 48, fb s 0 56, fb s 1 0, fb s 1 8, fb s 1 16, fb s 1 24, fb s 1 32, fb s 1 40, fb s 1 48, fb s 1 56, .int .u8 0, .int .u8 0, .int .u8 0, .int .u8 0, .int .u8 0, .int .u8 0, .int .u8 0, .int .u8 0, .int .u8 0, .int .u8 0, .int .u8 0, .int .u8 0, .int .u8 0, .int .u8 0, .int .u8 0, .int .u8 0] #[fb s 0 0, fb s 0 8, fb s 0 16, fb s 0 24, fb s 0 32, fb s 0 40, fb s 0 48, fb s 0 56, fb s 1 0, fb s 1 8, fb s 1 16, fb s 1 24, fb s 1 32, fb s 1 40, fb s 1 48, fb s 1 56, fb s 2 0, .int .u8 0, .int .u8 0, .int .u8 0, .int .u8 0, .int .u8 0, .int .u8 0, .int .u8 0, .int .u8 0, .int .u8 0, .int .u8 0, .int .u8 0, .int .u8 0, .int .u8 0, .int .u8 0, .int .u8 0] 48 (fb s 2 0) (by kernel_rfl) (by kernel_rfl) (by kernel_rfl) (by kernel_rfl) (by kernel_rfl) (by kernel_rfl) (of_decide_eq_true (by kernel_rfl)) (by kernel_rfl) (by kernel_rfl) ?_
  intro w19 H19; clear H18
  refine s_nil ?_
  show WP _ _ _ _ _ _
  refine g_reg0 [0, 1] (by kernel_rfl) ?_
  refine s_val (some 19) (.int .i64 17) (fun w => by kernel_rfl) (by kernel_rfl) ?_
  refine s_val (some 5) (.int .i64 17) (fun w => by kernel_rfl) (by kernel_rfl) ?_
  refine s_nil ?_
  show WPL _ _ _ _ _ _
  refine g_next ?_
  refine g_sreg [0] (by kernel_rfl) (by kernel_rfl) ?_
  refine s_val (some 6) (.bool true) (fun w => by kernel_rfl) (by kernel_rfl) ?_
  refine s_nil ?_
  refine g_seq (by kernel_rfl) ?_
  refine g_cond_t (by kernel_rfl) (by kernel_rfl) ?_
  refine g_skip (by kernel_rfl) ?_
  show WP _ _ _ _ _ _
  refine g_seq (by kernel_rfl) ?_
  refine g_block 1 (by kernel_rfl) ?_
  refine g_sreg [0, 1] (by kernel_rfl) (by kernel_rfl) ?_
  refine s_val (some 7) (.int .i64 17) (fun w => by kernel_rfl) (by kernel_rfl) ?_
  refine s_val (some 4) (.int .i64 17) (fun w => by kernel_rfl) (by kernel_rfl) ?_
  refine s_nil ?_
  refine g_reg0 [0, 1, 2, 3, 4, 5, 6, 7, 8, 9, 10, 11] (by kernel_rfl) ?_
  refine s_val (some 8) (.int .i64 17) (fun w => by kernel_rfl) (by kernel_rfl) ?_
  refine s_val (some 9) (.int .i64 17) (fun w => by kernel_rfl) (by kernel_rfl) ?_
  refine s_val (some 10) (.int .i64 2) (fun w => by kernel_rfl) (by kernel_rfl) ?_
  refine s_val (some 11) (.pointer (some ⟨b1, 2, none⟩)) (fun w => by kernel_rfl) (by kernel_rfl) ?_
  refine s_load1 H19 (some 12) 25 (.tmp 11) 1 b1 2 (Value.cells (svn s)) 26 (0, 0) (wv (nth s 2)) (by kernel_rfl) (by kernel_rfl) (by kernel_rfl) (by kernel_rfl) (by kernel_rfl) (by kernel_rfl) ?_
  refine s_val (some 13) (.int .i64 17) (fun w => by kernel_rfl) (by kernel_rfl) ?_
  refine s_val (some 14) (.int .i64 1) (fun w => by kernel_rfl) (by kernel_rfl) ?_
  refine s_val (some 15) (.int .i64 8) (fun w => by kernel_rfl) (by kernel_rfl) ?_
  refine s_valE (some 16) (.int .u64 (Int.fdiv (((BitVec.toNat (nth s 2) : Nat) : Int)) (2 ^ (min 8 64)))) (wv ((nth s 2) >>> 8)) (fun w => by kernel_rfl) (bv_shr_u64 (nth s 2) 8) (by kernel_rfl) ?_
  refine s_valE (some 17) (.int .u8 (IntKind.u8.wrap (((BitVec.toNat ((nth s 2) >>> 8) : Nat) : Int)))) (fb s 2 8) (fun w => by kernel_rfl) (bv_conv_u8 ((nth s 2) >>> 8)) (by kernel_rfl) ?_
  refine s_val (some 18) (.pointer (some ⟨b2, 17, none⟩)) (fun w => by kernel_rfl) (by kernel_rfl) ?_
  refine s_store H19 0 [(b2, Obj.cells #[fb s 0 0, fb s 0 8, fb s 0 16, fb s 0 24, fb s 0 32, fb s 0 40, fb s 0 48, fb s 0 56, fb s 1 0, fb s 1 8, fb s 1 16, fb s 1 24, fb s 1 32, fb s 1 40, fb s 1 48, fb s 1 56, fb s 2 0, fb s 2 8, .int .u8 0, .int .u8 0, .int .u8 0, .int .u8 0, .int .u8 0, .int .u8 0, .int .u8 0, .int .u8 0, .int .u8 0, .int .u8 0, .int .u8 0, .int .u8 0, .int .u8 0, .int .u8 0] 48 (0, 0)), (b1, Obj.cells (Value.cells (svn s)) 26 (0, 0))] 5 (.tmp 18) (.tmp 17) b2 (17) #[fb s 0 0, fb s 0 8, fb s 0 16, fb s 0 24, fb s 0 32, fb s 0 40, fb s 0 48, fb s 0 56, fb s 1 0, fb s 1 8, fb s 1 16, fb s 1 24, fb s 1 32, fb s 1 40, fb s 1 48, fb s 1 56, fb s 2 0, .int .u8 0, .int .u8 0, .int .u8 0, .int .u8 0, .int .u8 0, .int .u8 0, .int .u8 0, .int .u8 0, .int .u8 0, .int .u8 0, .int .u8 0, .int .u8 0, .int .u8 0, .int .u8 0, .int .u8 0] #[fb s 0 0, fb s 0 8, fb s 0 16, fb s 0 24, fb s 0 32, fb s 0 40, fb s 0 48, fb s 0 56, fb s 1 0, fb s 1 8, fb s 1 16, fb s 1 24, fb s 1 32, fb s 1 40, fb s 1 48, fb s 1 56, fb s 2 0, fb s 2 8, .int .u8 0, .int .u8 0, .int .u8 0, .int .u8 0, .int .u8 0, .int .u8 0, .int .u8 0, .int .u8 0, .int .u8 0, .int .u8 0, .int .u8 0, .int .u8 0, .int .u8 0, .int .u8 0] 48 (fb s 2 8) (by kernel_rfl) (by kernel_rfl) (by kernel_rfl) (by kernel_rfl) (by kernel_rfl) (by kernel_rfl) (of_decide_eq_true (by kernel_rfl)) (by kernel_rfl) (by kernel_rfl) ?_
  intro w20 H20; clear H19
  refine s_nil ?_
  show WP _ _ _ _ _ _
  refine g_reg0 [0, 1] (by kernel_rfl) ?_
  refine s_val (some 19) (.int .i64 18) (fun w => by kernel_rfl) (by kernel_rfl) ?_
  refine s_val (some 5) (.int .i64 18) (fun w => by kernel_rfl) (by kernel_rfl) ?_
  refine s_nil ?_
  show WPL _ _ _ _ _ _
  refine g_next ?_
  refine g_sreg [0] (by kernel_rfl) (by kernel_rfl) ?_
  refine s_val (some 6) (.bool true) (fun w => by kernel_rfl) (by kernel_rfl) ?_
  refine s_nil ?_
  refine g_seq (by kernel_rfl) ?_
  refine g_cond_t (by kernel_rfl) (by kernel_rfl) ?_
  refine g_skip (by kernel_rfl) ?_
  show WP _ _ _ _ _ _
  refine g_seq (by kernel_rfl) ?_
  refine g_block 1 (by kernel_rfl) ?_
  refine g_sreg [0, 1] (by kernel_rfl) (by kernel_rfl) ?_
  refine s_val (some 7) (.int .i64 18) (fun w => by kernel_rfl) (by kernel_rfl) ?_
  refine s_val (some 4) (.int .i64 18) (fun w => by kernel_rfl) (by kernel_rfl) ?_
  refine s_nil ?_
  refine g_reg0 [0, 1, 2, 3, 4, 5, 6, 7, 8, 9, 10, 11] (by kernel_rfl) ?_
  refine s_val (some 8) (.int .i64 18) (fun w => by kernel_rfl) (by kernel_rfl) ?_
  refine s_val (some 9) (.int .i64 18) (fun w => by kernel_rfl) (by kernel_rfl) ?_
  refine s_val (some 10) (.int .i64 2) (fun w => by kernel_rfl) (by kernel_rfl) ?_
  refine s_val (some 11) (.pointer (some ⟨b1, 2, none⟩)) (fun w => by kernel_rfl) (by kernel_rfl) ?_
  refine s_load1 H20 (some 12) 25 (.tmp 11) 1 b1 2 (Value.cells (svn s)) 26 (0, 0) (wv (nth s 2)) (by kernel_rfl) (by kernel_rfl) (by kernel_rfl) (by kernel_rfl) (by kernel_rfl) (by kernel_rfl) ?_
  refine s_val (some 13) (.int .i64 18) (fun w => by kernel_rfl) (by kernel_rfl) ?_
  refine s_val (some 14) (.int .i64 2) (fun w => by kernel_rfl) (by kernel_rfl) ?_
  refine s_val (some 15) (.int .i64 16) (fun w => by kernel_rfl) (by kernel_rfl) ?_
  refine s_valE (some 16) (.int .u64 (Int.fdiv (((BitVec.toNat (nth s 2) : Nat) : Int)) (2 ^ (min 16 64)))) (wv ((nth s 2) >>> 16)) (fun w => by kernel_rfl) (bv_shr_u64 (nth s 2) 16) (by kernel_rfl) ?_
  refine s_valE (some 17) (.int .u8 (IntKind.u8.wrap (((BitVec.toNat ((nth s 2) >>> 16) : Nat) : Int)))) (fb s 2 16) (fun w => by kernel_rfl) (bv_conv_u8 ((nth s 2) >>> 16)) (by kernel_rfl) ?_
  refine s_val (some 18) (.pointer (some ⟨b2, 18, none⟩)) (fun w => by kernel_rfl) (by kernel_rfl) ?_
  refine s_store H20 0 [(b2, Obj.cells #[fb s 0 0, fb s 0 8, fb s 0 16, fb s 0 24, fb s 0 32, fb s 0 40, fb s 0 48, fb s 0 56, fb s 1 0, fb s 1 8, fb s 1 16, fb s 1 24, fb s 1 32, fb s 1 40, fb s 1 48, fb s 1 56, fb s 2 0, fb s 2 8, fb s 2 16, .int .u8 0, .int .u8 0, .int .u8 0, .int .u8 0, .int .u8 0, .int .u8 0, .int .u8 0, .int .u8 0, .int .u8 0, .int .u8 0, .int .u8 0, .int .u8 0, .int .u8 0] 48 (0, 0)), (b1, Obj.cells (Value.cells (svn s)) 26 (0, 0))] 5 (.tmp 18) (.tmp 17) b2 (18) #[fb s 0 0, fb s 0 8, fb s 0 16, fb s 0 24, fb s 0 32, fb s 0 40, fb s 0 48, fb s 0 56, fb s 1 0, fb s 1 8, fb s 1 16, fb s 1 24, fb s 1 32, fb s 1 40, fb s 1 48, fb s 1 56, fb s 2 0, fb s 2 8, .int .u8 0, .int .u8 0, .int .u8 0, .int .u8 0, .int .u8 0, .int .u8 0, .int .u8 0, .int .u8 0, .int .u8 0, .int .u8 0, .int .u8 0, .int .u8 0, .int .u8 0, .int .u8 0] #[fb s 0 0, fb s 0 8, fb s 0 16, fb s 0 24, fb s 0 32, fb s 0 40, fb s 0 48, fb s 0 56, fb s 1 0, fb s 1 8, fb s 1 16, fb s 1 24, fb s 1 32, fb s 1 40, fb s 1 48, fb s 1 56, fb s 2 0, fb s 2 8, fb s 2 16, .int .u8 0, .int .u8 0, .int .u8 0, .int .u8 0, .int .u8 0, .int .u8 0, .int .u8 0, .int .u8 0, .int .u8 0, .int .u8 0, .int .u8 0, .int .u8 0, .int .u8 0] 48 (fb s 2 16) (by kernel_rfl) (by kernel_rfl) (by kernel_rfl) (by kernel_rfl) (by kernel_rfl) (by kernel_rfl) (of_decide_eq_true (by kernel_rfl)) (by kernel_rfl) (by kernel_rfl) ?_
  intro w21 H21; clear H20
  refine s_nil ?_
  show WP _ _ _ _ _ _
  refine g_reg0 [0, 1] (by kernel_rfl) ?_
  refine s_val (some 19) (.int .i64 19) (fun w => by kernel_rfl) (by kernel_rfl) ?_
  refine s_val (some 5) (.int .i64 19) (fun w => by kernel_rfl) (by kernel_rfl) ?_
  refine s_nil ?_
  show WPL _ _ _ _ _ _
  refine g_next ?_
  refine g_sreg [0] (by kernel_rfl) (by kernel_rfl) ?_
  refine s_val (some 6) (.bool true) (fun w => by kernel_rfl) (by kernel_rfl) ?_
  refine s_nil ?_
  refine g_seq (by kernel_rfl) ?_
  refine g_cond_t (by kernel_rfl) (by kernel_rfl) ?_
  refine g_skip (by kernel_rfl) ?_
  show WP _ _ _ _ _ _
  refine g_seq (by kernel_rfl) ?_
  refine g_block 1 (by kernel_rfl) ?_
  refine g_sreg [0, 1] (by kernel_rfl) (by kernel_rfl) ?_
  refine s_val (some 7) (.int .i64 19) (fun w => by kernel_rfl) (by kernel_rfl) ?_
  refine s_val (some 4) (.int .i64 19) (fun w => by kernel_rfl) (by kernel_rfl) ?_
  refine s_nil ?_
  refine g_reg0 [0, 1, 2, 3, 4, 5, 6, 7, 8, 9, 10, 11] (by kernel_rfl) ?_
  refine s_val (some 8) (.int .i64 19) (fun w => by kernel_rfl) (by kernel_rfl) ?_
  refine s_val (some 9) (.int .i64 19) (fun w => by kernel_rfl) (by kernel_rfl) ?_
  refine s_val (some 10) (.int .i64 2) (fun w => by kernel_rfl) (by kernel_rfl) ?_
  refine s_val (some 11) (.pointer (some ⟨b1, 2, none⟩)) (fun w => by kernel_rfl) (by kernel_rfl) ?_
  refine s_load1 H21 (some 12) 25 (.tmp 11) 1 b1 2 (Value.cells (svn s)) 26 (0, 0) (wv (nth s 2)) (by kernel_rfl) (by kernel_rfl) (by kernel_rfl) (by kernel_rfl) (by kernel_rfl) (by kernel_rfl) ?_
  refine s_val (some 13) (.int .i64 19) (fun w => by kernel_rfl) (by kernel_rfl) ?_
  refine s_val (some 14) (.int .i64 3) (fun w => by kernel_rfl) (by kernel_rfl) ?_
  refine s_val (some 15) (.int .i64 24) (fun w => by kernel_rfl) (by kernel_rfl) ?_
  refine s_valE (some 16) (.int .u64 (Int.fdiv (((BitVec.toNat (nth s 2) : Nat) : Int)) (2 ^ (min 24 64)))) (wv ((nth s 2) >>> 24)) (fun w => by kernel_rfl) (bv_shr_u64 (nth s 2) 24) (by kernel_rfl) ?_
  refine s_valE (some 17) (.int .u8 (IntKind.u8.wrap (((BitVec.toNat ((nth s 2) >>> 24) : Nat) : Int)))) (fb s 2 24) (fun w => by kernel_rfl) (bv_conv_u8 ((nth s 2) >>> 24)) (by kernel_rfl) ?_
  refine s_val (some 18) (.pointer (some ⟨b2, 19, none⟩)) (fun w => by kernel_rfl) (by kernel_rfl) ?_
  refine s_store H21 0 [(b2, Obj.cells #[fb s 0 0, fb s 0 8, fb s 0 16, fb s 0 24, fb s 0 32, fb s 0 40, fb s 0 48, fb s 0 56, fb s 1 0, fb s 1 8, fb s 1 16, fb s 1 24, fb s 1 32, fb s 1 40, fb s 1 48, fb s 1 56, fb s 2 0, fb s 2 8, fb s 2 16, fb s 2 24, .int .u8 0, .int .u8 0, .int .u8 0, .int .u8 0, .int .u8 0, .int .u8 0, .int .u8 0, .int .u8 0, .int .u8 0, .int .u8 0, .int .u8 0, .int .u8 0] 48 (0, 0)), (b1, Obj.cells (Value.cells (svn s)) 26 (0, 0))] 5 (.tmp 18) (.tmp 17) b2 (19) #[fb s 0 0, fb s 0 8, fb s 0 16, fb s 0 24, fb s 0 32, fb s 0 40, fb s 0 48, fb s 0 56, fb s 1 0, fb s 1 8, fb s 1 16, fb s 1 24, fb s 1 32, fb s 1 40, fb s 1 48, fb s 1 56, fb s 2 0, fb s 2 8, fb s 2 16, .int .u8 0, .int .u8 0, .int .u8 0, .int .u8 0, .int .u8 0, .int .u8 0, .int .u8 0, .int .u8 0, .int .u8 0, .int .u8 0, .int .u8 0, .int .u8 0, .int .u8 0] #[fb s 0 0, fb s 0 8, fb s 0 16, fb s 0 24, fb s 0 32, fb s 0 40, fb s 0 48, fb s 0 56, fb s 1 0, fb s 1 8, fb s 1 16, fb s 1 24, fb s 1 32, fb s 1 40, fb s 1 48, fb s 1 56, fb s 2 0, fb s 2 8, fb s 2 16, fb s 2 24, .int .u8 0, .int .u8 0, .int .u8 0, .int .u8 0, .int .u8 0, .int .u8 0, .int .u8 0, .int .u8 0, .int .u8 0, .int .u8 0, .int .u8 0, .int .u8 0] 48 (fb s 2 24) (by kernel_rfl) (by kernel_rfl) (by kernel_rfl) (by kernel_rfl) (by kernel_rfl) (by kernel_rfl) (of_decide_eq_true (by kernel_rfl)) (by kernel_rfl) (by kernel_rfl) ?_
  intro w22 H22; clear H21
  refine s_nil ?_
  show WP _ _ _ _ _ _
  refine g_reg0 [0, 1] (by kernel_rfl) ?_
  refine s_val (some 19) (.int .i64 20) (fun w => by kernel_rfl) (by kernel_rfl) ?_
  refine s_val (some 5) (.int .i64 20) (fun w => by kernel_rfl) (by kernel_rfl) ?_
  refine s_nil ?_
  show WPL _ _ _ _ _ _
  refine g_next ?_
  refine g_sreg [0] (by kernel_rfl) (by kernel_rfl) ?_
  refine s_val (some 6) (.bool true) (fun w => by kernel_rfl) (by kernel_rfl) ?_
  refine s_nil ?_
  refine g_seq (by kernel_rfl) ?_
  refine g_cond_t (by kernel_rfl) (by kernel_rfl) ?_
  refine g_skip (by kernel_rfl) ?_
  show WP _ _ _ _ _ _
  refine g_seq (by kernel_rfl) ?_
  refine g_block 1 (by kernel_rfl) ?_
  refine g_sreg [0, 1] (by kernel_rfl) (by kernel_rfl) ?_
  refine s_val (some 7) (.int .i64 20) (fun w => by kernel_rfl) (by kernel_rfl) ?_
  refine s_val (some 4) (.int .i64 20) (fun w => by kernel_rfl) (by kernel_rfl) ?_
  refine s_nil ?_
  refine g_reg0 [0, 1, 2, 3, 4, 5, 6, 7, 8, 9, 10, 11] (by kernel_rfl) ?_
  refine s_val (some 8) (.int .i64 20) (fun w => by kernel_rfl) (by kernel_rfl) ?_
  refine s_val (some 9) (.int .i64 20) (fun w => by kernel_rfl) (by kernel_rfl) ?_
  refine s_val (some 10) (.int .i64 2) (fun w => by kernel_rfl) (by kernel_rfl) ?_
  refine s_val (some 11) (.pointer (some ⟨b1, 2, none⟩)) (fun w => by kernel_rfl) (by kernel_rfl) ?_
  refine s_load1 H22 (some 12) 25 (.tmp 11) 1 b1 2 (Value.cells (svn s)) 26 (0, 0) (wv (nth s 2)) (by kernel_rfl) (by kernel_rfl) (by kernel_rfl) (by kernel_rfl) (by kernel_rfl) (by kernel_rfl) ?_
  refine s_val (some 13) (.int .i64 20) (fun w => by kernel_rfl) (by kernel_rfl) ?_
  refine s_val (some 14) (.int .i64 4) (fun w => by kernel_rfl) (by kernel_rfl) ?_
  refine s_val (some 15) (.int .i64 32) (fun w => by kernel_rfl) (by kernel_rfl) ?_
  refine s_valE (some 16) (.int .u64 (Int.fdiv (((BitVec.toNat (nth s 2) : Nat) : Int)) (2 ^ (min 32 64)))) (wv ((nth s 2) >>> 32)) (fun w => by kernel_rfl) (bv_shr_u64 (nth s 2) 32) (by kernel_rfl) ?_
  refine s_valE (some 17) (.int .u8 (IntKind.u8.wrap (((BitVec.toNat ((nth s 2) >>> 32) : Nat) : Int)))) (fb s 2 32) (fun w => by kernel_rfl) (bv_conv_u8 ((nth s 2) >>> 32)) (by kernel_rfl) ?_
  refine s_val (some 18) (.pointer (some ⟨b2, 20, none⟩)) (fun w => by kernel_rfl) (by kernel_rfl) ?_
  refine s_store H22 0 [(b2, Obj.cells #[fb s 0 0, fb s 0 8, fb s 0 16, fb s 0 24, fb s 0 32, fb s 0 40, fb s 0 48, fb s 0 56, fb s 1 0, fb s 1 8, fb s 1 16, fb s 1 24, fb s 1 32, fb s 1 40, fb s 1 48, fb s 1 56, fb s 2 0, fb s 2 8, fb s 2 16, fb s 2 24, fb s 2 32, .int .u8 0, .int .u8 0, .int .u8 0, .int .u8 0, .int .u8 0, .int .u8 0, .int .u8 0, .int .u8 0, .int .u8 0, .int .u8 0, .int .u8 0] 48 (0, 0)), (b1, Obj.cells (Value.cells (svn s)) 26 (0, 0))] 5 (.tmp 18) (.tmp 17) b2 (20) #[fb s 0 0, fb s 0 8, fb s 0 16, fb s 0 24, fb s 0 32, fb s 0 40, fb s 0 48, fb s 0 56, fb s 1 0, fb s 1 8, fb s 1 16, fb s 1 24, fb s 1 32, fb s 1 40, fb s 1 48, fb s 1 56, fb s 2 0, fb s 2 8, fb s 2 16, fb s 2 24, .int .u8 0, .int .u8 0, .int .u8 0, .int .u8 0, .int .u8 0, .int .u8 0, .int .u8 0, .int .u8 0, .int .u8 0, .int .u8 0, .int .u8 0, .int .u8 0] #[fb s 0 0, fb s 0 8, fb s 0 16, fb s 0 24, fb s 0 32, fb s 0 40, fb s 0 48, fb s 0 56, fb s 1 0, fb s 1 8, fb s 1 16, fb s 1 24, fb s 1 32, fb s 1 40, fb s 1 48, fb s 1 56, fb s 2 0, fb s 2 8, fb s 2 16, fb s 2 24, fb s 2 32, .int .u8 0, .int .u8 0, .int .u8 0, .int .u8 0, .int .u8 0, .int .u8 0, .int .u8 0, .int .u8 0, .int .u8 0, .int .u8 0, .int .u8 0] 48 (fb s 2 32) (by kernel_rfl) (by kernel_rfl) (by kernel_rfl) (by kernel_rfl) (by kernel_rfl) (by kernel_rfl) (of_decide_eq_true (by kernel_rfl)) (by kernel_rfl) (by kernel_rfl) ?_
  intro w23 H23; clear H22
  refine s_nil ?_
  show WP _ _ _ _ _ _
  refine g_reg0 [0, 1] (by kernel_rfl) ?_
  refine s_val (some 19) (.int .i64 21) (fun w => by kernel_rfl) (by kernel_rfl) ?_
  refine s_val (some 5) (.int .i64 21) (fun w => by kernel_rfl) (by kernel_rfl) ?_
  refine s_nil ?_
  show WPL _ _ _ _ _ _
  refine g_next ?_
  refine g_sreg [0] (by kernel_rfl) (by kernel_rfl) ?_
  refine s_val (some 6) (.bool true) (fun w => by kernel_rfl) (by kernel_rfl) ?_
  refine s_nil ?_
  refine g_seq (by kernel_rfl) ?_
  refine g_cond_t (by kernel_rfl) (by kernel_rfl) ?_
  refine g_skip (by kernel_rfl) ?_
  show WP _ _ _ _ _ _
  refine g_seq (by kernel_rfl) ?_
  refine g_block 1 (by kernel_rfl) ?_
  refine g_sreg [0, 1] (by kernel_rfl) (by kernel_rfl) ?_
  refine s_val (some 7) (.int .i64 21) (fun w => by kernel_rfl) (by kernel_rfl) ?_
  refine s_val (some 4) (.int .i64 21) (fun w => by kernel_rfl) (by kernel_rfl) ?_
  refine s_nil ?_
  refine g_reg0 [0, 1, 2, 3, 4, 5, 6, 7, 8, 9, 10, 11] (by kernel_rfl) ?_
  refine s_val (some 8) (.int .i64 21) (fun w => by kernel_rfl) (by kernel_rfl) ?_
  refine s_val (some 9) (.int .i64 21) (fun w => by kernel_rfl) (by kernel_rfl) ?_
  refine s_val (some 10) (.int .i64 2) (fun w => by kernel_rfl) (by kernel_rfl) ?_
  refine s_val (some 11) (.pointer (some ⟨b1, 2, none⟩)) (fun w => by kernel_rfl) (by kernel_rfl) ?_
  refine s_load1 H23 (some 12) 25 (.tmp 11) 1 b1 2 (Value.cells (svn s)) 26 (0, 0) (wv (nth s 2)) (by kernel_rfl) (by kernel_rfl) (by kernel_rfl) (by kernel_rfl) (by kernel_rfl) (by kernel_rfl) ?_
  refine s_val (some 13) (.int .i64 21) (fun w => by kernel_rfl) (by kernel_rfl) ?_
  refine s_val (some 14) (.int .i64 5) (fun w => by kernel_rfl) (by kernel_rfl) ?_
  refine s_val (some 15) (.int .i64 40) (fun w => by kernel_rfl) (by kernel_rfl) ?_
  refine s_valE (some 16) (.int .u64 (Int.fdiv (((BitVec.toNat (nth s 2) : Nat) : Int)) (2 ^ (min 40 64)))) (wv ((nth s 2) >>> 40)) (fun w => by kernel_rfl) (bv_shr_u64 (nth s 2) 40) (by kernel_rfl) ?_
  refine s_valE (some 17) (.int .u8 (IntKind.u8.wrap (((BitVec.toNat ((nth s 2) >>> 40) : Nat) : Int)))) (fb s 2 40) (fun w => by kernel_rfl) (bv_conv_u8 ((nth s 2) >>> 40)) (by kernel_rfl) ?_
  refine s_val (some 18) (.pointer (some ⟨b2, 21, none⟩)) (fun w => by kernel_rfl) (by kernel_rfl) ?_
  refine s_store H23 0 [(b2, Obj.cells #[fb s 0 0, fb s 0 8, fb s 0 16, fb s 0 24, fb s 0 32, fb s 0 40, fb s 0 48, fb s 0 56, fb s 1 0, fb s 1 8, fb s 1 16, fb s 1 24, fb s 1 32, fb s 1 40, fb s 1 48, fb s 1 56, fb s 2 0, fb s 2 8, fb s 2 16, fb s 2 24, fb s 2 32, fb s 2 40, .int .u8 0, .int .u8 0, .int .u8 0, .int .u8 0, .int .u8 0, .int .u8 0, .int .u8 0, .int .u8 0, .int .u8 0, .int .u8 0] 48 (0, 0)), (b1, Obj.cells (Value.cells (svn s)) 26 (0, 0))] 5 (.tmp 18) (.tmp 17) b2 (21) #[fb s 0 0, fb s 0 8, fb s 0 16, fb s 0 24, fb s 0 32, fb s 0 40, fb s 0 48, fb s 0 56, fb s 1 0, fb s 1 8, fb s 1 16, fb s 1 24, fb s 1 32, fb s 1 40, fb s 1 48, fb s 1 56, fb s 2 0, fb s 2 8, fb s 2 16, fb s 2 24, fb s 2 32, .int .u8 0, .int .u8 0, .int .u8 0, .int .u8 0, .int .u8 0, .int .u8 0, .int .u8 0, .int .u8 0, .int .u8 0, .int .u8 0, .int .u8 0] #[fb s 0 0, fb s 0 8, fb s 0 16, fb s 0 24, fb s 0 32, fb s 0 40, fb s 0 48, fb s 0 56, fb s 1 0, fb s 1 8, fb s 1 16, fb s 1 24, fb s 1 32, fb s 1 40, fb s 1 48, fb s 1 56, fb s 2 0, fb s 2 8, fb s 2 16, fb s 2 24, fb s 2 32, fb s 2 40, .int .u8 0, .int .u8 0, .int .u8 0, .int .u8 0, .int .u8 0, .int .u8 0, .int .u8 0, .int .u8 0, .int .u8 0, .int .u8 0] 48 (fb s 2 40) (by kernel_rfl) (by kernel_rfl) (by kernel_rfl) (by kernel_rfl) (by kernel_rfl) (by kernel_rfl) (of_decide_eq_true (by kernel_rfl)) (by kernel_rfl) (by kernel_rfl) ?_
  intro w24 H24; clear H23
  refine s_nil ?_
  show WP _ _ _ _ _ _
  refine g_reg0 [0, 1] (by kernel_rfl) ?_
  refine s_val (some 19) (.int .i64 22) (fun w => by kernel_rfl) (by kernel_rfl) ?_
  refine s_val (some 5) (.int .i64 22) (fun w => by kernel_rfl) (by kernel_rfl) ?_
  refine s_nil ?_
  show WPL _ _ _ _ _ _
  refine g_next ?_
  refine g_sreg [0] (by kernel_rfl) (by kernel_rfl) ?_
  refine s_val (some 6) (.bool true) (fun w => by kernel_rfl) (by kernel_rfl) ?_
  refine s_nil ?_
  refine g_seq (by kernel_rfl) ?_
  refine g_cond_t (by kernel_rfl) (by kernel_rfl) ?_
  refine g_skip (by kernel_rfl) ?_
  show WP _ _ _ _ _ _
  refine g_seq (by kernel_rfl) ?_
  refine g_block 1 (by kernel_rfl) ?_
  refine g_sreg [0, 1] (by kernel_rfl) (by kernel_rfl) ?_
  refine s_val (some 7) (.int .i64 22) (fun w => by kernel_rfl) (by kernel_rfl) ?_
  refine s_val (some 4) (.int .i64 22) (fun w => by kernel_rfl) (by kernel_rfl) ?_
  refine s_nil ?_
  refine g_reg0 [0, 1, 2, 3, 4, 5, 6, 7, 8, 9, 10, 11] (by kernel_rfl) ?_
  refine s_val (some 8) (.int .i64 22) (fun w => by kernel_rfl) (by kernel_rfl) ?_
  refine s_val (some 9) (.int .i64 22) (fun w => by kernel_rfl) (by kernel_rfl) ?_
  refine s_val (some 10) (.int .i64 2) (fun w => by kernel_rfl) (by kernel_rfl) ?_
  refine s_val (some 11) (.pointer (some ⟨b1, 2, none⟩)) (fun w => by kernel_rfl) (by kernel_rfl) ?_
  refine s_load1 H24 (some 12) 25 (.tmp 11) 1 b1 2 (Value.cells (svn s)) 26 (0, 0) (wv (nth s 2)) (by kernel_rfl) (by kernel_rfl) (by kernel_rfl) (by kernel_rfl) (by kernel_rfl) (by kernel_rfl) ?_
  refine s_val (some 13) (.int .i64 22) (fun w => by kernel_rfl) (by kernel_rfl) ?_
  refine s_val (some 14) (.int .i64 6) (fun w => by kernel_rfl) (by kernel_rfl) ?_
  refine s_val (some 15) (.int .i64 48) (fun w => by kernel_rfl) (by kernel_rfl) ?_
  refine s_valE (some 16) (.int .u64 (Int.fdiv (((BitVec.toNat (nth s 2) : Nat) : Int)) (2 ^ (min 48 64)))) (wv ((nth s 2) >>> 48)) (fun w => by kernel_rfl) (bv_shr_u64 (nth s 2) 48) (by kernel_rfl) ?_
  refine s_valE (some 17) (.int .u8 (IntKind.u8.wrap (((BitVec.toNat ((nth s 2) >>> 48) : Nat) : Int)))) (fb s 2 48) (fun w => by kernel_rfl) (bv_conv_u8 ((nth s 2) >>> 48)) (by kernel_rfl) ?_
  refine s_val (some 18) (.pointer (some ⟨b2, 22, none⟩)) (fun w => by kernel_rfl) (by kernel_rfl) ?_
  refine s_store H24 0 [(b2, Obj.cells #[fb s 0 0, fb s 0 8, fb s 0 16, fb s 0 24, fb s 0 32, fb s 0 40, fb s 0 48, fb s 0 56, fb s 1 0, fb s 1 8, fb s 1 16, fb s 1 24, fb s 1 32, fb s 1 40, fb s 1 48, fb s 1 56, fb s 2 0, fb s 2 8, fb s 2 16, fb s 2 24, fb s 2 32, fb s 2 40, fb s 2 48, .int .u8 0, .int .u8 0, .int .u8 0, .int .u8 0, .int .u8 0, .int .u8 0, .int .u8 0, .int .u8 0, .int .u8 0] 48 (0, 0)), (b1, Obj.cells (Value.cells (svn s)) 26 (0, 0))] 5 (.tmp 18) (.tmp 17) b2 (22) #[fb s 0 0, fb s 0 8, fb s 0 16, fb s 0 24, fb s 0 32, fb s 0 40, fb s 0 48, fb s 0 56, fb s 1 0, fb s 1 8, fb s 1 16, fb s 1 24, fb s 1 32, fb s 1 40, fb s 1 48, fb s 1 56, fb s 2 0, fb s 2 8, fb s 2 16, fb s 2 24, fb s 2 32, fb s 2 40, .int .u8 0, .int .u8 0, .int .u8 0, .int .u8 0, .int .u8 0, .int .u8 0, .int .u8 0, .int .u8 0, .int .u8 0, .int .u8 0] #[fb s 0 0, fb s 0 8, fb s 0 16, fb s 0 24, fb s 0 32, fb s 0 40, fb s 0 48, fb s 0 56, fb s 1 0, fb s 1 8, fb s 1 16, fb s 1 24, fb s 1 32, fb s 1 40, fb s 1 48, fb s 1 56, fb s 2 0, fb s 2 8, fb s 2 16, fb s 2 24, fb s 2 32, fb s 2 40, fb s 2 48, .int .u8 0, .int .u8 0, .int .u8 0, .int .u8 0, .int .u8 0, .int .u8 0, .int .u8 0, .int .u8 0, .int .u8 0] 48 (fb s 2 48) (by kernel_rfl) (by kernel_rfl) (by kernel_rfl) (by kernel_rfl) (by kernel_rfl) (by kernel_rfl) (of_decide_eq_true (by kernel_rfl)) (by kernel_rfl) (by kernel_rfl) ?_
  intro w25 H25; clear H24
  refine s_nil ?_
  show WP _ _ _ _ _ _
  refine g_reg0 [0, 1] (by kernel_rfl) ?_
  refine s_val (some 19) (.int .i64 23) (fun w => by kernel_rfl) (by kernel_rfl) ?_
  refine s_val (some 5) (.int .i64 23) (fun w => by kernel_rfl) (by kernel_rfl) ?_
  refine s_nil ?_
  show WPL _ _ _ _ _ _
  refine g_next ?_
  refine g_sreg [0] (by kernel_rfl) (by kernel_rfl) ?_
  refine s_val (some 6) (.bool true) (fun w => by kernel_rfl) (by kernel_rfl) ?_
  refine s_nil ?_
  refine g_seq (by kernel_rfl) ?_
  refine g_cond_t (by kernel_rfl) (by kernel_rfl) ?_
  refine g_skip (by kernel_rfl) ?_
  show WP _ _ _ _ _ _
  refine g_seq (by kernel_rfl) ?_
  refine g_block 1 (by kernel_rfl) ?_
  refine g_sreg [0, 1] (by kernel_rfl) (by kernel_rfl) ?_
  refine s_val (some 7) (.int .i64 23) (fun w => by kernel_rfl) (by kernel_rfl) ?_
  refine s_val (some 4) (.int .i64 23) (fun w => by kernel_rfl) (by kernel_rfl) ?_
  refine s_nil ?_
  refine g_reg0 [0, 1, 2, 3, 4, 5, 6, 7, 8, 9, 10, 11] (by kernel_rfl) ?_
  refine s_val (some 8) (.int .i64 23) (fun w => by kernel_rfl) (by kernel_rfl) ?_
  refine s_val (some 9) (.int .i64 23) (fun w => by kernel_rfl) (by kernel_rfl) ?_
  refine s_val (some 10) (.int .i64 2) (fun w => by kernel_rfl) (by kernel_rfl) ?_
  refine s_val (some 11) (.pointer (some ⟨b1, 2, none⟩)) (fun w => by kernel_rfl) (by kernel_rfl) ?_
  refine s_load1 H25 (some 12) 25 (.tmp 11) 1 b1 2 (Value.cells (svn s)) 26 (0, 0) (wv (nth s 2)) (by kernel_rfl) (by kernel_rfl) (by kernel_rfl) (by kernel_rfl) (by kernel_rfl) (by kernel_rfl) ?_
  refine s_val (some 13) (.int .i64 23) (fun w => by kernel_rfl) (by kernel_rfl) ?_
  refine s_val (some 14) (.int .i64 7) (fun w => by kernel_rfl) (by kernel_rfl) ?_
  refine s_val (some 15) (.int .i64 56) (fun w => by kernel_rfl) (by kernel_rfl) ?_
  refine s_valE (some 16) (.int .u64 (Int.fdiv (((BitVec.toNat (nth s 2) : Nat) : Int)) (2 ^ (min 56 64)))) (wv ((nth s 2) >>> 56)) (fun w => by kernel_rfl) (bv_shr_u64 (nth s 2) 56) (by kernel_rfl) ?_
  refine s_valE (some 17) (.int .u8 (IntKind.u8.wrap (((BitVec.toNat ((nth s 2) >>> 56) : Nat) : Int)))) (fb s 2 56) (fun w => by kernel_rfl) (bv_conv_u8 ((nth s 2) >>> 56)) (by kernel_rfl) ?_
  refine s_val (some 18) (.pointer (some ⟨b2, 23, none⟩)) (fun w => by kernel_rfl) (by kernel_rfl) ?_
  refine s_store H25 0 [(b2, Obj.cells #[fb s 0 0, fb s 0 8, fb s 0 16, fb s 0 24, fb s 0 32, fb s 0 40, fb s 0 48, fb s 0 56, fb s 1 0, fb s 1 8, fb s 1 16, fb s 1 24, fb s 1 32, fb s 1 40, fb s 1 48, fb s 1 56, fb s 2 0, fb s 2 8, fb s 2 16, fb s 2 24, fb s 2 32, fb s 2 40, fb s 2 48, fb s 2 56, .int .u8 0, .int .u8 0, .int .u8 0, .int .u8 0, .int .u8 0, .int .u8 0, .int .u8 0, .int .u8 0] 48 (0, 0)), (b1, Obj.cells (Value.cells (svn s)) 26 (0, 0))] 5 (.tmp 18) (.tmp 17) b2 (23) #[fb s 0 0, fb s 0 8, fb s 0 16, fb s 0 24, fb s 0 32, fb s 0 40, fb s 0 48, fb s 0 56, fb s 1 0, fb s 1 8, fb s 1 16, fb s 1 24, fb s 1 32, fb s 1 40, fb s 1 48, fb s 1 56, fb s 2 0, fb s 2 8, fb s 2 16, fb s 2 24, fb s 2 32, fb s 2 40, fb s 2 48, .int .u8 0, .int .u8 0, .int .u8 0, .int .u8 0, .int .u8 0, .int .u8 0, .int .u8 0, .int .u8 0, .int .u8 0] #[fb s 0 0, fb s 0 8, fb s 0 16, fb s 0 24, fb s 0 32, fb s 0 40, fb s 0 48, fb s 0 56, fb s 1 0, fb s 1 8, fb s 1 16, fb s 1 24, fb s 1 32, fb s 1 40, fb s 1 48, fb s 1 56, fb s 2 0, fb s 2 8, fb s 2 16, fb s 2 24, fb s 2 32, fb s 2 40, fb s 2 48, fb s 2 56, .int .u8 0, .int .u8 0, .int .u8 0, .int .u8 0, .int .u8 0, .int .u8 0, .int .u8 0, .int .u8 0] 48 (fb s 2 56) (by kernel_rfl) (by kernel_rfl) (by kernel_rfl) (by kernel_rfl) (by kernel_rfl) (by kernel_rfl) (of_decide_eq_true (by kernel_rfl)) (by kernel_rfl) (by kernel_rfl) ?_
  intro w26 H26; clear H25
  refine s_nil ?_
  show WP _ _ _ _ _ _
  refine g_reg0 [0, 1] (by kernel_rfl) ?_
  refine s_val (some 19) (.int .i64 24) (fun w => by kernel_rfl) (by kernel_rfl) ?_
  refine s_val (some 5) (.int .i64 24) (fun w => by kernel_rfl) (by kernel_rfl) ?_
  refine s_nil ?_
  show WPL _ _ _ _ _ _
  refine g_next ?_
  refine g_sreg [0] (by kernel_rfl) (by kernel_rfl) ?_
  refine s_val (some 6) (.bool true) (fun w => by kernel_rfl) (by kernel_rfl) ?_
  refine s_nil ?_
  refine g_seq (by kernel_rfl) ?_
  refine g_cond_t (by kernel_rfl) (by kernel_rfl) ?_
  refine g_skip (by kernel_rfl) ?_
  show WP _ _ _ _ _ _
  refine g_seq (by kernel_rfl) ?_
  refine g_block 1 (by kernel_rfl) ?_
  refine g_sreg [0, 1] (by kernel_rfl) (by kernel_rfl) ?_
  refine s_val (some 7) (.int .i64 24) (fun w => by kernel_rfl) (by kernel_rfl) ?_
  refine s_val (some 4) (.int .i64 24) (fun w => by kernel_rfl) (by kernel_rfl) ?_
  refine s_nil ?_
  refine g_reg0 [0, 1, 2, 3, 4, 5, 6, 7, 8, 9, 10, 11] (by kernel_rfl) ?_
  refine s_val (some 8) (.int .i64 24) (fun w => by kernel_rfl) (by kernel_rfl) ?_
  refine s_val (some 9) (.int .i64 24) (fun w => by kernel_rfl) (by kernel_rfl) ?_
  refine s_val (some 10) (.int .i64 3) (fun w => by kernel_rfl) (by kernel_rfl) ?_
  refine s_val (some 11) (.pointer (some ⟨b1, 3, none⟩)) (fun w => by kernel_rfl) (by kernel_rfl) ?_
  refine s_load1 H26 (some 12) 25 (.tmp 11) 1 b1 3 (Value.cells (svn s)) 26 (0, 0) (wv (nth s 3)) (by kernel_rfl) (by kernel_rfl) (by kernel_rfl) (by kernel_rfl) (by kernel_rfl) (by kernel_rfl) ?_
  refine s_val (some 13) (.int .i64 24) (fun w => by kernel_rfl) (by kernel_rfl) ?_
  refine s_val (some 14) (.int .i64 0) (fun w => by kernel_rfl) (by kernel_rfl) ?_
  refine s_val (some 15) (.int .i64 0) (fun w => by kernel_rfl) (by kernel_rfl) ?_
  refine s_valE (some 16) (.int .u64 (Int.fdiv (((BitVec.toNat (nth s 3) : Nat) : Int)) (2 ^ (min 0 64)))) (wv ((nth s 3) >>> 0)) (fun w => by kernel_rfl) (bv_shr_u64 (nth s 3) 0) (by kernel_rfl) ?_
  refine s_valE (some 17) (.int .u8 (IntKind.u8.wrap (((BitVec.toNat ((nth s 3) >>> 0) : Nat) : Int)))) (fb s 3 0) (fun w => by kernel_rfl) (bv_conv_u8 ((nth s 3) >>> 0)) (by kernel_rfl) ?_
  refine s_val (some 18) (.pointer (some ⟨b2, 24, none⟩)) (fun w => by kernel_rfl) (by kernel_rfl) ?_
  refine s_store H26 0 [(b2, Obj.cells #[fb s 0 0, fb s 0 8, fb s 0 16, fb s 0 24, fb s 0 32, fb s 0 40, fb s 0 48, fb s 0 56, fb s 1 0, fb s 1 8, fb s 1 16, fb s 1 24, fb s 1 32, fb s 1 40, fb s 1 48, fb s 1 56, fb s 2 0, fb s 2 8, fb s 2 16, fb s 2 24, fb s 2 32, fb s 2 40, fb s 2 48, fb s 2 56, fb s 3 0, .int .u8 0, .int .u8 0, .int .u8 0, .int .u8 0, .int .u8 0, .int .u8 0, .int .u8 0] 48 (0, 0)), (b1, Obj.cells (Value.cells (svn s)) 26 (0, 0))] 5 (.tmp 18) (.tmp 17) b2 (24) #[fb s 0 0, fb s 0 8, fb s 0 16, fb s 0 24, fb s 0 32, fb s 0 40, fb s 0 48, fb s 0 56, fb s 1 0, fb s 1 8, fb s 1 16, fb s 1 24, fb s 1 32, fb s 1 40, fb s 1 48, fb s 1 56, fb s 2 0, fb s 2 8, fb s 2 16, fb s 2 24, fb s 2 32, fb s 2 40, fb s 2 48, fb s 2 56, .int .u8 0, .int .u8 0, .int .u8 0, .int .u8 0, .int .u8 0, .int .u8 0, .int .u8 0, .int .u8 0] #[fb s 0 0, fb s 0 8, fb s 0 16, fb s 0 24, fb s 0 32, fb s 0 40, fb s 0 48, fb s 0 56, fb s 1 0, fb s 1 8, fb s 1 16, fb s 1 24, fb s 1 32, fb s 1 40, fb s 1 48, fb s 1 56, fb s 2 0, fb s 2 8, fb s 2 16, fb s 2 24, fb s 2 32, fb s 2 40, fb s 2 48, fb s 2 56, fb s 3 0, .int .u8 0, .int .u8 0, .int .u8 0, .int .u8 0, .int .u8 0, .int .u8 0, .int .u8 0] 48 (fb s 3 0) (by kernel_rfl) (by kernel_rfl) (by kernel_rfl) (by kernel_rfl) (by kernel_rfl) (by kernel_rfl) (of_decide_eq_true (by kernel_rfl)) (by kernel_rfl) (by kernel_rfl) ?_
  intro w27 H27; clear H26
  refine s_nil ?_
  show WP _ _ _ _ _ _
  refine g_reg0 [0, 1] (by kernel_rfl) ?_
  refine s_val (some 19) (.int .i64 25) (fun w => by kernel_rfl) (by kernel_rfl) ?_
  refine s_val (some 5) (.int .i64 25) (fun w => by kernel_rfl) (by kernel_rfl) ?_
  refine s_nil ?_
  show WPL _ _ _ _ _ _
  refine g_next ?_
  refine g_sreg [0] (by kernel_rfl) (by kernel_rfl) ?_
  refine s_val (some 6) (.bool true) (fun w => by kernel_rfl) (by kernel_rfl) ?_
  refine s_nil ?_
  refine g_seq (by kernel_rfl) ?_
  refine g_cond_t (by kernel_rfl) (by kernel_rfl) ?_
  refine g_skip (by kernel_rfl) ?_
  show WP _ _ _ _ _ _
  refine g_seq (by kernel_rfl) ?_
  refine g_block 1 (by kernel_rfl) ?_
  refine g_sreg [0, 1] (by kernel_rfl) (by kernel_rfl) ?_
  refine s_val (some 7) (.int .i64 25) (fun w => by kernel_rfl) (by kernel_rfl) ?_
  refine s_val (some 4) (.int .i64 25) (fun w => by kernel_rfl) (by kernel_rfl) ?_
  refine s_nil ?_
  refine g_reg0 [0, 1, 2, 3, 4, 5, 6, 7, 8, 9, 10, 11] (by kernel_rfl) ?_
  refine s_val (some 8) (.int .i64 25) (fun w => by kernel_rfl) (by kernel_rfl) ?_
  refine s_val (some 9) (.int .i64 25) (fun w => by kernel_rfl) (by kernel_rfl) ?_
  refine s_val (some 10) (.int .i64 3) (fun w => by kernel_rfl) (by kernel_rfl) ?_
  refine s_val (some 11) (.pointer (some ⟨b1, 3, none⟩)) (fun w => by kernel_rfl) (by kernel_rfl) ?_
  refine s_load1 H27 (some 12) 25 (.tmp 11) 1 b1 3 (Value.cells (svn s)) 26 (0, 0) (wv (nth s 3)) (by kernel_rfl) (by kernel_rfl) (by kernel_rfl) (by kernel_rfl) (by kernel_rfl) (by kernel_rfl) ?_
  refine s_val (some 13) (.int .i64 25) (fun w => by kernel_rfl) (by kernel_rfl) ?_
  refine s_val (some 14) (.int .i64 1) (fun w => by kernel_rfl) (by kernel_rfl) ?_
  refine s_val (some 15) (.int .i64 8) (fun w => by kernel_rfl) (by kernel_rfl) ?_
  refine s_valE (some 16) (.int .u64 (Int.fdiv (((BitVec.toNat (nth s 3) : Nat) : Int)) (2 ^ (min 8 64)))) (wv ((nth s 3) >>> 8)) (fun w => by kernel_rfl) (bv_shr_u64 (nth s 3) 8) (by kernel_rfl) ?_
  refine s_valE (some 17) (.int .u8 (IntKind.u8.wrap (((BitVec.toNat ((nth s 3) >>> 8) : Nat) : Int)))) (fb s 3 8) (fun w => by kernel_rfl) (bv_conv_u8 ((nth s 3) >>> 8)) (by kernel_rfl) ?_
  refine s_val (some 18) (.pointer (some ⟨b2, 25, none⟩)) (fun w => by kernel_rfl) (by kernel_rfl) ?_
  refine s_store H27 0 [(b2, Obj.cells #[fb s 0 0, fb s 0 8, fb s 0 16, fb s 0 24, fb s 0 32, fb s 0 40, fb s 0 48, fb s 0 56, fb s 1 0, fb s 1 8, fb s 1 16, fb s 1 24, fb s 1 32, fb s 1 40, fb s 1 48, fb s 1 56, fb s 2 0, fb s 2 8, fb s 2 16, fb s 2 24, fb s 2 32, fb s 2 40, fb s 2 48, fb s 2 56, fb s 3 0, fb s 3 8, .int .u8 0, .int .u8 0, .int .u8 0, .int .u8 0, .int .u8 0, .int .u8 0] 48 (0, 0)), (b1, Obj.cells (Value.cells (svn s)) 26 (0, 0))] 5 (.tmp 18) (.tmp 17) b2 (25) #[fb s 0 0, fb s 0 8, fb s 0 16, fb s 0 24, fb s 0 32, fb s 0 40, fb s 0 48, fb s 0 56, fb s 1 0, fb s 1 8, fb s 1 16, fb s 1 24, fb s 1 32, fb s 1 40, fb s 1 48, fb s 1 56, fb s 2 0, fb s 2 8, fb s 2 16, fb s 2 24, fb s 2 32, fb s 2 40, fb s 2 48, fb s 2 56, fb s 3 0, .int .u8 0, .int .u8 0, .int .u8 0, .int .u8 0, .int .u8 0, .int .u8 0, .int .u8 0] #[fb s 0 0, fb s 0 8, fb s 0 16, fb s 0 24, fb s 0 32, fb s 0 40, fb s 0 48, fb s 0 56, fb s 1 0, fb s 1 8, fb s 1 16, fb s 1 24, fb s 1 32, fb s 1 40, fb s 1 48, fb s 1 56, fb s 2 0, fb s 2 8, fb s 2 16, fb s 2 24, fb s 2 32, fb s 2 40, fb s 2 48, fb s 2 56, fb s 3 0, fb s 3 8, .int .u8 0, .int .u8 0, .int .u8 0, .int .u8 0, .int .u8 0, .int .u8 0] 48 (fb s 3 8) (by kernel_rfl) (by kernel_rfl) (by kernel_rfl) (by kernel_rfl) (by kernel_rfl) (by kernel_rfl) (of_decide_eq_true (by kernel_rfl)) (by kernel_rfl) (by kernel_rfl) ?_
  intro w28 H28; clear H27
  refine s_nil ?_
  show WP _ _ _ _ _ _
  refine g_reg0 [0, 1] (by kernel_rfl) ?_
  refine s_val (some 19) (.int .i64 26) (fun w => by kernel_rfl) (by kernel_rfl) ?_
  refine s_val (some 5) (.int .i64 26) (fun w => by kernel_rfl) (by kernel_rfl) ?_
  refine s_nil ?_
  show WPL _ _ _ _ _ _
  refine g_next ?_
  refine g_sreg [0] (by kernel_rfl) (by kernel_rfl) ?_
  refine s_val (some 6) (.bool true) (fun w => by kernel_rfl) (by kernel_rfl) ?_
  refine s_nil ?_
  refine g_seq (by kernel_rfl) ?_
  refine g_cond_t (by kernel_rfl) (by kernel_rfl) ?_
  refine g_skip (by kernel_rfl) ?_
  show WP _ _ _ _ _ _
  refine g_seq (by kernel_rfl) ?_
  refine g_block 1 (by kernel_rfl) ?_
  refine g_sreg [0, 1] (by kernel_rfl) (by kernel_rfl) ?_
  refine s_val (some 7) (.int .i64 26) (fun w => by kernel_rfl) (by kernel_rfl) ?_
  refine s_val (some 4) (.int .i64 26) (fun w => by kernel_rfl) (by kernel_rfl) ?_
  refine s_nil ?_
  refine g_reg0 [0, 1, 2, 3, 4, 5, 6, 7, 8, 9, 10, 11] (by kernel_rfl) ?_
  refine s_val (some 8) (.int .i64 26) (fun w => by kernel_rfl) (by kernel_rfl) ?_
  refine s_val (some 9) (.int .i64 26) (fun w => by kernel_rfl) (by kernel_rfl) ?_
  refine s_val (some 10) (.int .i64 3) (fun w => by kernel_rfl) (by kernel_rfl) ?_
  refine s_val (some 11) (.pointer (some ⟨b1, 3, none⟩)) (fun w => by kernel_rfl) (by kernel_rfl) ?_
  refine s_load1 H28 (some 12) 25 (.tmp 11) 1 b1 3 (Value.cells (svn s)) 26 (0, 0) (wv (nth s 3)) (by kernel_rfl) (by kernel_rfl) (by kernel_rfl) (by kernel_rfl) (by kernel_rfl) (by kernel_rfl) ?_
  refine s_val (some 13) (.int .i64 26) (fun w => by kernel_rfl) (by kernel_rfl) ?_
  refine s_val (some 14) (.int .i64 2) (fun w => by kernel_rfl) (by kernel_rfl) ?_
  refine s_val (some 15) (.int .i64 16) (fun w => by kernel_rfl) (by kernel_rfl) ?_
  refine s_valE (some 16) (.int .u64 (Int.fdiv (((BitVec.toNat (nth s 3) : Nat) : Int)) (2 ^ (min 16 64)))) (wv ((nth s 3) >>> 16)) (fun w => by kernel_rfl) (bv_shr_u64 (nth s 3) 16) (by kernel_rfl) ?_
  refine s_valE (some 17) (.int .u8 (IntKind.u8.wrap (((BitVec.toNat ((nth s 3) >>> 16) : Nat) : Int)))) (fb s 3 16) (fun w => by kernel_rfl) (bv_conv_u8 ((nth s 3) >>> 16)) (by kernel_rfl) ?_
  refine s_val (some 18) (.pointer (some ⟨b2, 26, none⟩)) (fun w => by kernel_rfl) (by kernel_rfl) ?_
  refine s_store H28 0 [(b2, Obj.cells #[fb s 0 0, fb s 0 8, fb s 0 16, fb s 0 24, fb s 0 32, fb s 0 40, fb s 0 48, fb s 0 56, fb s 1 0, fb s 1 8, fb s 1 16, fb s 1 24, fb s 1 32, fb s 1 40, fb s 1 48, fb s 1 56, fb s 2 0, fb s 2 8, fb s 2 16, fb s 2 24, fb s 2 32, fb s 2 40, fb s 2 48, fb s 2 56, fb s 3 0, fb s 3 8, fb s 3 16, .int .u8 0, .int .u8 0, .int .u8 0, .int .u8 0, .int .u8 0] 48 (0, 0)), (b1, Obj.cells (Value.cells (svn s)) 26 (0, 0))] 5 (.tmp 18) (.tmp 17) b2 (26) #[fb s 0 0, fb s 0 8, fb s 0 16, fb s 0 24, fb s 0 32, fb s 0 40, fb s 0 48, fb s 0 56, fb s 1 0, fb s 1 8, fb s 1 16, fb s 1 24, fb s 1 32, fb s 1 40, fb s 1 48, fb s 1 56, fb s 2 0, fb s 2 8, fb s 2 16, fb s 2 24, fb s 2 32, fb s 2 40, fb s 2 48, fb s 2 56, fb s 3 0, fb s 3 8, .int .u8 0, .int .u8 0, .int .u8 0, .int .u8 0, .int .u8 0, .int .u8 0] #[fb s 0 0, fb s 0 8, fb s 0 16, fb s 0 24, fb s 0 32, fb s 0 40, fb s 0 48, fb s 0 56, fb s 1 0, fb s 1 8, fb s 1 16, fb s 1 24, fb s 1 32, fb s 1 40, fb s 1 48, fb s 1 56, fb s 2 0, fb s 2 8, fb s 2 16, fb s 2 24, fb s 2 32, fb s 2 40, fb s 2 48, fb s 2 56, fb s 3 0, fb s 3 8, fb s 3 16, .int .u8 0, .int .u8 0, .int .u8 0, .int .u8 0, .int .u8 0] 48 (fb s 3 16) (by kernel_rfl) (by kernel_rfl) (by kernel_rfl) (by kernel_rfl) (by kernel_rfl) (by kernel_rfl) (of_decide_eq_true (by kernel_rfl)) (by kernel_rfl) (by kernel_rfl) ?_
  intro w29 H29; clear H28
  refine s_nil ?_
  show WP _ _ _ _ _ _
  refine g_reg0 [0, 1] (by kernel_rfl) ?_
  refine s_val (some 19) (.int .i64 27) (fun w => by kernel_rfl) (by kernel_rfl) ?_
  refine s_val (some 5) (.int .i64 27) (fun w => by kernel_rfl) (by kernel_rfl) ?_
  refine s_nil ?_
  show WPL _ _ _ _ _ _
  refine g_next ?_
  refine g_sreg [0] (by kernel_rfl) (by kernel_rfl) ?_
  refine s_val (some 6) (.bool true) (fun w => by kernel_rfl) (by kernel_rfl) ?_
  refine s_nil ?_
  refine g_seq (by kernel_rfl) ?_
  refine g_cond_t (by kernel_rfl) (by kernel_rfl) ?_
  refine g_skip (by kernel_rfl) ?_
  show WP _ _ _ _ _ _
  refine g_seq (by kernel_rfl) ?_
  refine g_block 1 (by kernel_rfl) ?_
  refine g_sreg [0, 1] (by kernel_rfl) (by kernel_rfl) ?_
  refine s_val (some 7) (.int .i64 27) (fun w => by kernel_rfl) (by kernel_rfl) ?_
  refine s_val (some 4) (.int .i64 27) (fun w => by kernel_rfl) (by kernel_rfl) ?_
  refine s_nil ?_
  refine g_reg0 [0, 1, 2, 3, 4, 5, 6, 7, 8, 9, 10, 11] (by kernel_rfl) ?_
  refine s_val (some 8) (.int .i64 27) (fun w => by kernel_rfl) (by kernel_rfl) ?_
  refine s_val (some 9) (.int .i64 27) (fun w => by kernel_rfl) (by kernel_rfl) ?_
  refine s_val (some 10) (.int .i64 3) (fun w => by kernel_rfl) (by kernel_rfl) ?_
  refine s_val (some 11) (.pointer (some ⟨b1, 3, none⟩)) (fun w => by kernel_rfl) (by kernel_rfl) ?_
  refine s_load1 H29 (some 12) 25 (.tmp 11) 1 b1 3 (Value.cells (svn s)) 26 (0, 0) (wv (nth s 3)) (by kernel_rfl) (by kernel_rfl) (by kernel_rfl) (by kernel_rfl) (by kernel_rfl) (by kernel_rfl) ?_
  refine s_val (some 13) (.int .i64 27) (fun w => by kernel_rfl) (by kernel_rfl) ?_
  refine s_val (some 14) (.int .i64 3) (fun w => by kernel_rfl) (by kernel_rfl) ?_
  refine s_val (some 15) (.int .i64 24) (fun w => by kernel_rfl) (by kernel_rfl) ?_
  refine s_valE (some 16) (.int .u64 (Int.fdiv (((BitVec.toNat (nth s 3) : Nat) : Int)) (2 ^ (min 24 64)))) (wv ((nth s 3) >>> 24)) (fun w => by kernel_rfl) (bv_shr_u64 (nth s 3) 24) (by kernel_rfl) ?_
  refine s_valE (some 17) (.int .u8 (IntKind.u8.wrap (((BitVec.toNat ((nth s 3) >>> 24) : Nat) : Int)))) (fb s 3 24) (fun w => by kernel_rfl) (bv_conv_u8 ((nth s 3) >>> 24)) (by kernel_rfl) ?_
  refine s_val (some 18) (.pointer (some ⟨b2, 27, none⟩)) (fun w => by kernel_rfl) (by kernel_rfl) ?_
  refine s_store H29 0 [(b2, Obj.cells #[fb s 0 0, fb s 0 8, fb s 0 16, fb s 0 24, fb s 0 32, fb s 0 40, fb s 0 48, fb s 0 56, fb s 1 0, fb s 1 8, fb s 1 16, fb s 1 24, fb s 1 32, fb s 1 40, fb s 1 48, fb s 1 56, fb s 2 0, fb s 2 8, fb s 2 16, fb s 2 24, fb s 2 32, fb s 2 40, fb s 2 48, fb s 2 56, fb s 3 0, fb s 3 8, fb s 3 16, fb s 3 24, .int .u8 0, .int .u8 0, .int .u8 0, .int .u8 0] 48 (0, 0)), (b1, Obj.cells (Value.cells (svn s)) 26 (0, 0))] 5 (.tmp 18) (.tmp 17) b2 (27) #[fb s 0 0, fb s 0 8, fb s 0 16, fb s 0 24, fb s 0 32, fb s 0 40, fb s 0 48, fb s 0 56, fb s 1 0, fb s 1 8, fb s 1 16, fb s 1 24, fb s 1 32, fb s 1 40, fb s 1 48, fb s 1 56, fb s 2 0, fb s 2 8, fb s 2 16, fb s 2 24, fb s 2 32, fb s 2 40, fb s 2 48, fb s 2 56, fb s 3 0, fb s 3 8, fb s 3 16, .int .u8 0, .int .u8 0, .int .u8 0, .int .u8 0, .int .u8 0] #[fb s 0 0, fb s 0 8, fb s 0 16, fb s 0 24, fb s 0 32, fb s 0 40, fb s 0 48, fb s 0 56, fb s 1 0, fb s 1 8, fb s 1 16, fb s 1 24, fb s 1 32, fb s 1 40, fb s 1 48, fb s 1 56, fb s 2 0, fb s 2 8, fb s 2 16, fb s 2 24, fb s 2 32, fb s 2 40, fb s 2 48, fb s 2 56, fb s 3 0, fb s 3 8, fb s 3 16, fb s 3 24, .int .u8 0, .int .u8 0, .int .u8 0, .int .u8 0] 48 (fb s 3 24) (by kernel_rfl) (by kernel_rfl) (by kernel_rfl) (by kernel_rfl) (by kernel_rfl) (by kernel_rfl) (of_decide_eq_true (by kernel_rfl)) (by kernel_rfl) (by kernel_rfl) ?_
  intro w30 H30; clear H29
  refine s_nil ?_
  show WP _ _ _ _ _ _
  refine g_reg0 [0, 1] (by kernel_rfl) ?_
  refine s_val (some 19) (.int .i64 28) (fun w => by kernel_rfl) (by kernel_rfl) ?_
  refine s_val (some 5) (.int .i64 28) (fun w => by kernel_rfl) (by kernel_rfl) ?_
  refine s_nil ?_
  show WPL _ _ _ _ _ _
  refine g_next ?_
  refine g_sreg [0] (by kernel_rfl) (by kernel_rfl) ?_
  refine s_val (some 6) (.bool true) (fun w => by kernel_rfl) (by kernel_rfl) ?_
  refine s_nil ?_
  refine g_seq (by kernel_rfl) ?_
  refine g_cond_t (by kernel_rfl) (by kernel_rfl) ?_
  refine g_skip (by kernel_rfl) ?_
  show WP _ _ _ _ _ _
  refine g_seq (by kernel_rfl) ?_
  refine g_block 1 (by kernel_rfl) ?_
  refine g_sreg [0, 1] (by kernel_rfl) (by kernel_rfl) ?_
  refine s_val (some 7) (.int .i64 28) (fun w => by kernel_rfl) (by kernel_rfl) ?_
  refine s_val (some 4) (.int .i64 28) (fun w => by kernel_rfl) (by kernel_rfl) ?_
  refine s_nil ?_
  refine g_reg0 [0, 1, 2, 3, 4, 5, 6, 7, 8, 9, 10, 11] (by kernel_rfl) ?_
  refine s_val (some 8) (.int .i64 28) (fun w => by kernel_rfl) (by kernel_rfl) ?_
  refine s_val (some 9) (.int .i64 28) (fun w => by kernel_rfl) (by kernel_rfl) ?_
  refine s_val (some 10) (.int .i64 3) (fun w => by kernel_rfl) (by kernel_rfl) ?_
  refine s_val (some 11) (.pointer (some ⟨b1, 3, none⟩)) (fun w => by kernel_rfl) (by kernel_rfl) ?_
  refine s_load1 H30 (some 12) 25 (.tmp 11) 1 b1 3 (Value.cells (svn s)) 26 (0, 0) (wv (nth s 3)) (by kernel_rfl) (by kernel_rfl) (by kernel_rfl) (by kernel_rfl) (by kernel_rfl) (by kernel_rfl) ?_
  refine s_val (some 13) (.int .i64 28) (fun w => by kernel_rfl) (by kernel_rfl) ?_
  refine s_val (some 14) (.int .i64 4) (fun w => by kernel_rfl) (by kernel_rfl) ?_
  refine s_val (some 15) (.int .i64 32) (fun w => by kernel_rfl) (by kernel_rfl) ?_
  refine s_valE (some 16) (.int .u64 (Int.fdiv (((BitVec.toNat (nth s 3) : Nat) : Int)) (2 ^ (min 32 64)))) (wv ((nth s 3) >>> 32)) (fun w => by kernel_rfl) (bv_shr_u64 (nth s 3) 32) (by kernel_rfl) ?_
  refine s_valE (some 17) (.int .u8 (IntKind.u8.wrap (((BitVec.toNat ((nth s 3) >>> 32) : Nat) : Int)))) (fb s 3 32) (fun w => by kernel_rfl) (bv_conv_u8 ((nth s 3) >>> 32)) (by kernel_rfl) ?_
  refine s_val (some 18) (.pointer (some ⟨b2, 28, none⟩)) (fun w => by kernel_rfl) (by kernel_rfl) ?_
  refine s_store H30 0 [(b2, Obj.cells #[fb s 0 0, fb s 0 8, fb s 0 16, fb s 0 24, fb s 0 32, fb s 0 40, fb s 0 48, fb s 0 56, fb s 1 0, fb s 1 8, fb s 1 16, fb s 1 24, fb s 1 32, fb s 1 40, fb s 1 48, fb s 1 56, fb s 2 0, fb s 2 8, fb s 2 16, fb s 2 24, fb s 2 32, fb s 2 40, fb s 2 48, fb s 2 56, fb s 3 0, fb s 3 8, fb s 3 16, fb s 3 24, fb s 3 32, .int .u8 0, .int .u8 0, .int .u8 0] 48 (0, 0)), (b1, Obj.cells (Value.cells (svn s)) 26 (0, 0))] 5 (.tmp 18) (.tmp 17) b2 (28) #[fb s 0 0, fb s 0 8, fb s 0 16, fb s 0 24, fb s 0 32, fb s 0 40, fb s 0 48, fb s 0 56, fb s 1 0, fb s 1 8, fb s 1 16, fb s 1 24, fb s 1 32, fb s 1 40, fb s 1 48, fb s 1 56, fb s 2 0, fb s 2 8, fb s 2 16, fb s 2 24, fb s 2 32, fb s 2 40, fb s 2 48, fb s 2 56, fb s 3 0, fb s 3 8, fb s 3 16, fb s 3 24, .int .u8 0, .int .u8 0, .int .u8 0, .int .u8 0] #[fb s 0 0, fb s 0 8, fb s 0 16, fb s 0 24, fb s 0 32, fb s 0 40, fb s 0 48, fb s 0 56, fb s 1 0, fb s 1 8, fb s 1 16, fb s 1 24, fb s 1 32, fb s 1 40, fb s 1 48, fb s 1 56, fb s 2 0, fb s 2 8, fb s 2 16, fb s 2 24, fb s 2 32, fb s 2 40, fb s 2 48, fb s 2 56, fb s 3 0, fb s 3 8, fb s 3 16, fb s 3 24, fb s 3 32, .int .u8 0, .int .u8 0, .int .u8 0] 48 (fb s 3 32) (by kernel_rfl) (by kernel_rfl) (by kernel_rfl) (by kernel_rfl) (by kernel_rfl) (by kernel_rfl) (of_decide_eq_true (by kernel_rfl)) (by kernel_rfl) (by kernel_rfl) ?_
  intro w31 H31; clear H30
  refine s_nil ?_
  show WP _ _ _ _ _ _
  refine g_reg0 [0, 1] (by kernel_rfl) ?_
  refine s_val (some 19) (.int .i64 29) (fun w => by kernel_rfl) (by kernel_rfl) ?_
  refine s_val (some 5) (.int .i64 29) (fun w => by kernel_rfl) (by kernel_rfl) ?_
  refine s_nil ?_
  show WPL _ _ _ _ _ _
  refine g_next ?_
  refine g_sreg [0] (by kernel_rfl) (by kernel_rfl) ?_
  refine s_val (some 6) (.bool true) (fun w => by kernel_rfl) (by kernel_rfl) ?_
  refine s_nil ?_
  refine g_seq (by kernel_rfl) ?_
  refine g_cond_t (by kernel_rfl) (by kernel_rfl) ?_
  refine g_skip (by kernel_rfl) ?_
  show WP _ _ _ _ _ _
  refine g_seq (by kernel_rfl) ?_
  refine g_block 1 (by kernel_rfl) ?_
  refine g_sreg [0, 1] (by kernel_rfl) (by kernel_rfl) ?_
  refine s_val (some 7) (.int .i64 29) (fun w => by kernel_rfl) (by kernel_rfl) ?_
  refine s_val (some 4) (.int .i64 29) (fun w => by kernel_rfl) (by kernel_rfl) ?_
  refine s_nil ?_
  refine g_reg0 [0, 1, 2, 3, 4, 5, 6, 7, 8, 9, 10, 11] (by kernel_rfl) ?_
  refine s_val (some 8) (.int .i64 29) (fun w => by kernel_rfl) (by kernel_rfl) ?_
  refine s_val (some 9) (.int .i64 29) (fun w => by kernel_rfl) (by kernel_rfl) ?_
  refine s_val (some 10) (.int .i64 3) (fun w => by kernel_rfl) (by kernel_rfl) ?_
  refine s_val (some 11) (.pointer (some ⟨b1, 3, none⟩)) (fun w => by kernel_rfl) (by kernel_rfl) ?_
  refine s_load1 H31 (some 12) 25 (.tmp 11) 1 b1 3 (Value.cells (svn s)) 26 (0, 0) (wv (nth s 3)) (by kernel_rfl) (by kernel_rfl) (by kernel_rfl) (by kernel_rfl) (by kernel_rfl) (by kernel_rfl) ?_
  refine s_val (some 13) (.int .i64 29) (fun w => by kernel_rfl) (by kernel_rfl) ?_
  refine s_val (some 14) (.int .i64 5) (fun w => by kernel_rfl) (by kernel_rfl) ?_
  refine s_val (some 15) (.int .i64 40) (fun w => by kernel_rfl) (by kernel_rfl) ?_
  refine s_valE (some 16) (.int .u64 (Int.fdiv (((BitVec.toNat (nth s 3) : Nat) : Int)) (2 ^ (min 40 64)))) (wv ((nth s 3) >>> 40)) (fun w => by kernel_rfl) (bv_shr_u64 (nth s 3) 40) (by kernel_rfl) ?_
  refine s_valE (some 17) (.int .u8 (IntKind.u8.wrap (((BitVec.toNat ((nth s 3) >>> 40) : Nat) : Int)))) (fb s 3 40) (fun w => by kernel_rfl) (bv_conv_u8 ((nth s 3) >>> 40)) (by kernel_rfl) ?_
  refine s_val (some 18) (.pointer (some ⟨b2, 29, none⟩)) (fun w => by kernel_rfl) (by kernel_rfl) ?_
  refine s_store H31 0 [(b2, Obj.cells #[fb s 0 0, fb s 0 8, fb s 0 16, fb s 0 24, fb s 0 32, fb s 0 40, fb s 0 48, fb s 0 56, fb s 1 0, fb s 1 8, fb s 1 16, fb s 1 24, fb s 1 32, fb s 1 40, fb s 1 48, fb s 1 56, fb s 2 0, fb s 2 8, fb s 2 16, fb s 2 24, fb s 2 32, fb s 2 40, fb s 2 48, fb s 2 56, fb s 3 0, fb s 3 8, fb s 3 16, fb s 3 24, fb s 3 32, fb s 3 40, .int .u8 0, .int .u8 0] 48 (0, 0)), (b1, Obj.cells (Value.cells (svn s)) 26 (0, 0))] 5 (.tmp 18) (.tmp 17) b2 (29) #[fb s 0 0, fb s 0 8, fb s 0 16, fb s 0 24, fb s 0 32, fb s 0 40, fb s 0 48, fb s 0 56, fb s 1 0, fb s 1 8, fb s 1 16, fb s 1 24, fb s 1 32, fb s 1 40, fb s 1 48, fb s 1 56, fb s 2 0, fb s 2 8, fb s 2 16, fb s 2 24, fb s 2 32, fb s 2 40, fb s 2 48, fb s 2 56, fb s 3 0, fb s 3 8, fb s 3 16, fb s 3 24, fb s 3 32, .int .u8 0, .int .u8 0, .int .u8 0] #[fb s 0 0, fb s 0 8, fb s 0 16, fb s 0 24, fb s 0 32, fb s 0 40, fb s 0 48, fb s 0 56, fb s 1 0, fb s 1 8, fb s 1 16, fb s 1 24, fb s 1 32, fb s 1 40, fb s 1 48, fb s 1 56, fb s 2 0, fb s 2 8, fb s 2 16, fb s 2 24, fb s 2 32, fb s 2 40, fb s 2 48, fb s 2 56, fb s 3 0, fb s 3 8, fb s 3 16, fb s 3 24, fb s 3 32, fb s 3 40, .int .u8 0, .int .u8 0] 48 (fb s 3 40) (by kernel_rfl) (by kernel_rfl) (by kernel_rfl) (by kernel_rfl) (by kernel_rfl) (by kernel_rfl) (of_decide_eq_true (by kernel_rfl)) (by kernel_rfl) (by kernel_rfl) ?_
  intro w32 H32; clear H31
  refine s_nil ?_
  show WP _ _ _ _ _ _
  refine g_reg0 [0, 1] (by kernel_rfl) ?_
  refine s_val (some 19) (.int .i64 30) (fun w => by kernel_rfl) (by kernel_rfl) ?_
  refine s_val (some 5) (.int .i64 30) (fun w => by kernel_rfl) (by kernel_rfl) ?_
  refine s_nil ?_
  show WPL _ _ _ _ _ _
  refine g_next ?_
  refine g_sreg [0] (by kernel_rfl) (by kernel_rfl) ?_
  refine s_val (some 6) (.bool true) (fun w => by kernel_rfl) (by kernel_rfl) ?_
  refine s_nil ?_
  refine g_seq (by kernel_rfl) ?_
  refine g_cond_t (by kernel_rfl) (by kernel_rfl) ?_
  refine g_skip (by kernel_rfl) ?_
  show WP _ _ _ _ _ _
  refine g_seq (by kernel_rfl) ?_
  refine g_block 1 (by kernel_rfl) ?_
  refine g_sreg [0, 1] (by kernel_rfl) (by kernel_rfl) ?_
  refine s_val (some 7) (.int .i64 30) (fun w => by kernel_rfl) (by kernel_rfl) ?_
  refine s_val (some 4) (.int .i64 30) (fun w => by kernel_rfl) (by kernel_rfl) ?_
  refine s_nil ?_
  refine g_reg0 [0, 1, 2, 3, 4, 5, 6, 7, 8, 9, 10, 11] (by kernel_rfl) ?_
  refine s_val (some 8) (.int .i64 30) (fun w => by kernel_rfl) (by kernel_rfl) ?_
  refine s_val (some 9) (.int .i64 30) (fun w => by kernel_rfl) (by kernel_rfl) ?_
  refine s_val (some 10) (.int .i64 3) (fun w => by kernel_rfl) (by kernel_rfl) ?_
  refine s_val (some 11) (.pointer (some ⟨b1, 3, none⟩)) (fun w => by kernel_rfl) (by kernel_rfl) ?_
  refine s_load1 H32 (some 12) 25 (.tmp 11) 1 b1 3 (Value.cells (svn s)) 26 (0, 0) (wv (nth s 3)) (by kernel_rfl) (by kernel_rfl) (by kernel_rfl) (by kernel_rfl) (by kernel_rfl) (by kernel_rfl) ?_
  refine s_val (some 13) (.int .i64 30) (fun w => by kernel_rfl) (by kernel_rfl) ?_
  refine s_val (some 14) (.int .i64 6) (fun w => by kernel_rfl) (by kernel_rfl) ?_
  refine s_val (some 15) (.int .i64 48) (fun w => by kernel_rfl) (by kernel_rfl) ?_
  refine s_valE (some 16) (.int .u64 (Int.fdiv (((BitVec.toNat (nth s 3) : Nat) : Int)) (2 ^ (min 48 64)))) (wv ((nth s 3) >>> 48)) (fun w => by kernel_rfl) (bv_shr_u64 (nth s 3) 48) (by kernel_rfl) ?_
  refine s_valE (some 17) (.int .u8 (IntKind.u8.wrap (((BitVec.toNat ((nth s 3) >>> 48) : Nat) : Int)))) (fb s 3 48) (fun w => by kernel_rfl) (bv_conv_u8 ((nth s 3) >>> 48)) (by kernel_rfl) ?_
  refine s_val (some 18) (.pointer (some ⟨b2, 30, none⟩)) (fun w => by kernel_rfl) (by kernel_rfl) ?_
  refine s_store H32 0 [(b2, Obj.cells #[fb s 0 0, fb s 0 8, fb s 0 16, fb s 0 24, fb s 0 32, fb s 0 40, fb s 0 48, fb s 0 56, fb s 1 0, fb s 1 8, fb s 1 16, fb s 1 24, fb s 1 32, fb s 1 40, fb s 1 48, fb s 1 56, fb s 2 0, fb s 2 8, fb s 2 16, fb s 2 24, fb s 2 32, fb s 2 40, fb s 2 48, fb s 2 56, fb s 3 0, fb s 3 8, fb s 3 16, fb s 3 24, fb s 3 32, fb s 3 40, fb s 3 48, .int .u8 0] 48 (0, 0)), (b1, Obj.cells (Value.cells (svn s)) 26 (0, 0))] 5 (.tmp 18) (.tmp 17) b2 (30) #[fb s 0 0, fb s 0 8, fb s 0 16, fb s 0 24, fb s 0 32, fb s 0 40, fb s 0 48, fb s 0 56, fb s 1 0, fb s 1 8, fb s 1 16, fb s 1 24, fb s 1 32, fb s 1 40, fb s 1 48, fb s 1 56, fb s 2 0, fb s 2 8, fb s 2 16, fb s 2 24, fb s 2 32, fb s 2 40, fb s 2 48, fb s 2 56, fb s 3 0, fb s 3 8, fb s 3 16, fb s 3 24, fb s 3 32, fb s 3 40, .int .u8 0, .int .u8 0] #[fb s 0 0, fb s 0 8, fb s 0 16, fb s 0 24, fb s 0 32, fb s 0 40, fb s 0 48, fb s 0 56, fb s 1 0, fb s 1 8, fb s 1 16, fb s 1 24, fb s 1 32, fb s 1 40, fb s 1 48, fb s 1 56, fb s 2 0, fb s 2 8, fb s 2 16, fb s 2 24, fb s 2 32, fb s 2 40, fb s 2 48, fb s 2 56, fb s 3 0, fb s 3 8, fb s 3 16, fb s 3 24, fb s 3 32, fb s 3 40, fb s 3 48, .int .u8 0] 48 (fb s 3 48) (by kernel_rfl) (by kernel_rfl) (by kernel_rfl) (by kernel_rfl) (by kernel_rfl) (by kernel_rfl) (of_decide_eq_true (by kernel_rfl)) (by kernel_rfl) (by kernel_rfl) ?_
  intro w33 H33; clear H32
  refine s_nil ?_
  show WP _ _ _ _ _ _
  refine g_reg0 [0, 1] (by kernel_rfl) ?_
  refine s_val (some 19) (.int .i64 31) (fun w => by kernel_rfl) (by kernel_rfl) ?_
  refine s_val (some 5) (.int .i64 31) (fun w => by kernel_rfl) (by kernel_rfl) ?_
  refine s_nil ?_
  show WPL _ _ _ _ _ _
  refine g_next ?_
  refine g_sreg [0] (by kernel_rfl) (by kernel_rfl) ?_
  refine s_val (some 6) (.bool true) (fun w => by kernel_rfl) (by kernel_rfl) ?_
  refine s_nil ?_
  refine g_seq (by kernel_rfl) ?_
  refine g_cond_t (by kernel_rfl) (by kernel_rfl) ?_
  refine g_skip (by kernel_rfl) ?_
  show WP _ _ _ _ _ _
  refine g_seq (by kernel_rfl) ?_
  refine g_block 1 (by kernel_rfl) ?_
  refine g_sreg [0, 1] (by kernel_rfl) (by kernel_rfl) ?_
  refine s_val (some 7) (.int .i64 31) (fun w => by kernel_rfl) (by kernel_rfl) ?_
  refine s_val (some 4) (.int .i64 31) (fun w => by kernel_rfl) (by kernel_rfl) ?_
  refine s_nil ?_
  refine g_reg0 [0, 1, 2, 3, 4, 5, 6, 7, 8, 9, 10, 11] (by kernel_rfl) ?_
  refine s_val (some 8) (.int .i64 31) (fun w => by kernel_rfl) (by kernel_rfl) ?_
  refine s_val (some 9) (.int .i64 31) (fun w => by kernel_rfl) (by kernel_rfl) ?_
  refine s_val (some 10) (.int .i64 3) (fun w => by kernel_rfl) (by kernel_rfl) ?_
  refine s_val (some 11) (.pointer (some ⟨b1, 3, none⟩)) (fun w => by kernel_rfl) (by kernel_rfl) ?_
  refine s_load1 H33 (some 12) 25 (.tmp 11) 1 b1 3 (Value.cells (svn s)) 26 (0, 0) (wv (nth s 3)) (by kernel_rfl) (by kernel_rfl) (by kernel_rfl) (by kernel_rfl) (by kernel_rfl) (by kernel_rfl) ?_
  refine s_val (some 13) (.int .i64 31) (fun w => by kernel_rfl) (by kernel_rfl) ?_
  refine s_val (some 14) (.int .i64 7) (fun w => by kernel_rfl) (by kernel_rfl) ?_
  refine s_val (some 15) (.int .i64 56) (fun w => by kernel_rfl) (by kernel_rfl) ?_
  refine s_valE (some 16) (.int .u64 (Int.fdiv (((BitVec.toNat (nth s 3) : Nat) : Int)) (2 ^ (min 56 64)))) (wv ((nth s 3) >>> 56)) (fun w => by kernel_rfl) (bv_shr_u64 (nth s 3) 56) (by kernel_rfl) ?_
  refine s_valE (some 17) (.int .u8 (IntKind.u8.wrap (((BitVec.toNat ((nth s 3) >>> 56) : Nat) : Int)))) (fb s 3 56) (fun w => by kernel_rfl) (bv_conv_u8 ((nth s 3) >>> 56)) (by kernel_rfl) ?_
  refine s_val (some 18) (.pointer (some ⟨b2, 31, none⟩)) (fun w => by kernel_rfl) (by kernel_rfl) ?_
  refine s_store H33 0 [(b2, Obj.cells #[fb s 0 0, fb s 0 8, fb s 0 16, fb s 0 24, fb s 0 32, fb s 0 40, fb s 0 48, fb s 0 56, fb s 1 0, fb s 1 8, fb s 1 16, fb s 1 24, fb s 1 32, fb s 1 40, fb s 1 48, fb s 1 56, fb s 2 0, fb s 2 8, fb s 2 16, fb s 2 24, fb s 2 32, fb s 2 40, fb s 2 48, fb s 2 56, fb s 3 0, fb s 3 8, fb s 3 16, fb s 3 24, fb s 3 32, fb s 3 40, fb s 3 48, fb s 3 56] 48 (0, 0)), (b1, Obj.cells (Value.cells (svn s)) 26 (0, 0))] 5 (.tmp 18) (.tmp 17) b2 (31) #[fb s 0 0, fb s 0 8, fb s 0 16, fb s 0 24, fb s 0 32, fb s 0 40, fb s 0 48, fb s 0 56, fb s 1 0, fb s 1 8, fb s 1 16, fb s 1 24, fb s 1 32, fb s 1 40, fb s 1 48, fb s 1 56, fb s 2 0, fb s 2 8, fb s 2 16, fb s 2 24, fb s 2 32, fb s 2 40, fb s 2 48, fb s 2 56, fb s 3 0, fb s 3 8, fb s 3 16, fb s 3 24, fb s 3 32, fb s 3 40, fb s 3 48, .int .u8 0] #[fb s 0 0, fb s 0 8, fb s 0 16, fb s 0 24, fb s 0 32, fb s 0 40, fb s 0 48, fb s 0 56, fb s 1 0, fb s 1 8, fb s 1 16, fb s 1 24, fb s 1 32, fb s 1 40, fb s 1 48, fb s 1 56, fb s 2 0, fb s 2 8, fb s 2 16, fb s 2 24, fb s 2 32, fb s 2 40, fb s 2 48, fb s 2 56, fb s 3 0, fb s 3 8, fb s 3 16, fb s 3 24, fb s 3 32, fb s 3 40, fb s 3 48, fb s 3 56] 48 (fb s 3 56) (by kernel_rfl) (by kernel_rfl) (by kernel_rfl) (by kernel_rfl) (by kernel_rfl) (by kernel_rfl) (of_decide_eq_true (by kernel_rfl)) (by kernel_rfl) (by kernel_rfl) ?_
  intro w34 H34; clear H33
  refine s_nil ?_
  show WP _ _ _ _ _ _
  refine g_reg0 [0, 1] (by kernel_rfl) ?_
  refine s_val (some 19) (.int .i64 32) (fun w => by kernel_rfl) (by kernel_rfl) ?_
  refine s_val (some 5) (.int .i64 32) (fun w => by kernel_rfl) (by kernel_rfl) ?_
  refine s_nil ?_
  show WPL _ _ _ _ _ _
  refine g_next ?_
  refine g_sreg [0] (by kernel_rfl) (by kernel_rfl) ?_
  refine s_val (some 6) (.bool false) (fun w => by kernel_rfl) (by kernel_rfl) ?_
  refine s_nil ?_
  refine g_seq (by kernel_rfl) ?_
  refine g_cond_f (by kernel_rfl) (by kernel_rfl) ?_
  refine g_exit 0 (by kernel_rfl) ?_
  show WP _ _ _ _ _ _
  refine g_sreg [0, 1, 2] (by kernel_rfl) (by kernel_rfl) ?_
  refine s_op (some 20) _ (.slice (some ⟨b2, 0, none⟩) 32 32) (by kernel_rfl) (by kernel_rfl) (fun o w ho => slArr_run (t := 48) (n := 32) (e := 5) (z := 1) (by kernel_rfl) (by kernel_rfl) (x := (.tmp 3)) b2 ho (by kernel_rfl) w) ?_
  refine s_bytesStr H34 (some 21) 32 9 5 (.tmp 20) 0 b2 32 32 #[fb s 0 0, fb s 0 8, fb s 0 16, fb s 0 24, fb s 0 32, fb s 0 40, fb s 0 48, fb s 0 56, fb s 1 0, fb s 1 8, fb s 1 16, fb s 1 24, fb s 1 32, fb s 1 40, fb s 1 48, fb s 1 56, fb s 2 0, fb s 2 8, fb s 2 16, fb s 2 24, fb s 2 32, fb s 2 40, fb s 2 48, fb s 2 56, fb s 3 0, fb s 3 8, fb s 3 16, fb s 3 24, fb s 3 32, fb s 3 40, fb s 3 48, fb s 3 56] 48 (0, 0) ([((BitVec.toNat (BitVec.setWidth 8 ((nth s 0) >>> 0)) : Nat) : Int), ((BitVec.toNat (BitVec.setWidth 8 ((nth s 0) >>> 8)) : Nat) : Int), ((BitVec.toNat (BitVec.setWidth 8 ((nth s 0) >>> 16)) : Nat) : Int), ((BitVec.toNat (BitVec.setWidth 8 ((nth s 0) >>> 24)) : Nat) : Int), ((BitVec.toNat (BitVec.setWidth 8 ((nth s 0) >>> 32)) : Nat) : Int), ((BitVec.toNat (BitVec.setWidth 8 ((nth s 0) >>> 40)) : Nat) : Int), ((BitVec.toNat (BitVec.setWidth 8 ((nth s 0) >>> 48)) : Nat) : Int), ((BitVec.toNat (BitVec.setWidth 8 ((nth s 0) >>> 56)) : Nat) : Int), ((BitVec.toNat (BitVec.setWidth 8 ((nth s 1) >>> 0)) : Nat) : Int), ((BitVec.toNat (BitVec.setWidth 8 ((nth s 1) >>> 8)) : Nat) : Int), ((BitVec.toNat (BitVec.setWidth 8 ((nth s 1) >>> 16)) : Nat) : Int), ((BitVec.toNat (BitVec.setWidth 8 ((nth s 1) >>> 24)) : Nat) : Int), ((BitVec.toNat (BitVec.setWidth 8 ((nth s 1) >>> 32)) : Nat) : Int), ((BitVec.toNat (BitVec.setWidth 8 ((nth s 1) >>> 40)) : Nat) : Int), ((BitVec.toNat (BitVec.setWidth 8 ((nth s 1) >>> 48)) : Nat) : Int), ((BitVec.toNat (BitVec.setWidth 8 ((nth s 1) >>> 56)) : Nat) : Int), ((BitVec.toNat (BitVec.setWidth 8 ((nth s 2) >>> 0)) : Nat) : Int), ((BitVec.toNat (BitVec.setWidth 8 ((nth s 2) >>> 8)) : Nat) : Int), ((BitVec.toNat (BitVec.setWidth 8 ((nth s 2) >>> 16)) : Nat) : Int), ((BitVec.toNat (BitVec.setWidth 8 ((nth s 2) >>> 24)) : Nat) : Int), ((BitVec.toNat (BitVec.setWidth 8 ((nth s 2) >>> 32)) : Nat) : Int), ((BitVec.toNat (BitVec.setWidth 8 ((nth s 2) >>> 40)) : Nat) : Int), ((BitVec.toNat (BitVec.setWidth 8 ((nth s 2) >>> 48)) : Nat) : Int), ((BitVec.toNat (BitVec.setWidth 8 ((nth s 2) >>> 56)) : Nat) : Int), ((BitVec.toNat (BitVec.setWidth 8 ((nth s 3) >>> 0)) : Nat) : Int), ((BitVec.toNat (BitVec.setWidth 8 ((nth s 3) >>> 8)) : Nat) : Int), ((BitVec.toNat (BitVec.setWidth 8 ((nth s 3) >>> 16)) : Nat) : Int), ((BitVec.toNat (BitVec.setWidth 8 ((nth s 3) >>> 24)) : Nat) : Int), ((BitVec.toNat (BitVec.setWidth 8 ((nth s 3) >>> 32)) : Nat) : Int), ((BitVec.toNat (BitVec.setWidth 8 ((nth s 3) >>> 40)) : Nat) : Int), ((BitVec.toNat (BitVec.setWidth 8 ((nth s 3) >>> 48)) : Nat) : Int), ((BitVec.toNat (BitVec.setWidth 8 ((nth s 3) >>> 56)) : Nat) : Int)]) (by kernel_rfl) (by kernel_rfl) (by kernel_rfl) (by kernel_rfl) (by kernel_rfl) (by kernel_rfl) (by kernel_rfl) (Rw.lit #[fb s 0 0, fb s 0 8, fb s 0 16, fb s 0 24, fb s 0 32, fb s 0 40, fb s 0 48, fb s 0 56, fb s 1 0, fb s 1 8, fb s 1 16, fb s 1 24, fb s 1 32, fb s 1 40, fb s 1 48, fb s 1 56, fb s 2 0, fb s 2 8, fb s 2 16, fb s 2 24, fb s 2 32, fb s 2 40, fb s 2 48, fb s 2 56, fb s 3 0, fb s 3 8, fb s 3 16, fb s 3 24, fb s 3 32, fb s 3 40, fb s 3 48, fb s 3 56] 32 (by rfl) (by unfold maxLen; omega)) ?_
  refine s_val (some 2) (.string (strOfNums ([((BitVec.toNat (BitVec.setWidth 8 ((nth s 0) >>> 0)) : Nat) : Int), ((BitVec.toNat (BitVec.setWidth 8 ((nth s 0) >>> 8)) : Nat) : Int), ((BitVec.toNat (BitVec.setWidth 8 ((nth s 0) >>> 16)) : Nat) : Int), ((BitVec.toNat (BitVec.setWidth 8 ((nth s 0) >>> 24)) : Nat) : Int), ((BitVec.toNat (BitVec.setWidth 8 ((nth s 0) >>> 32)) : Nat) : Int), ((BitVec.toNat (BitVec.setWidth 8 ((nth s 0) >>> 40)) : Nat) : Int), ((BitVec.toNat (BitVec.setWidth 8 ((nth s 0) >>> 48)) : Nat) : Int), ((BitVec.toNat (BitVec.setWidth 8 ((nth s 0) >>> 56)) : Nat) : Int), ((BitVec.toNat (BitVec.setWidth 8 ((nth s 1) >>> 0)) : Nat) : Int), ((BitVec.toNat (BitVec.setWidth 8 ((nth s 1) >>> 8)) : Nat) : Int), ((BitVec.toNat (BitVec.setWidth 8 ((nth s 1) >>> 16)) : Nat) : Int), ((BitVec.toNat (BitVec.setWidth 8 ((nth s 1) >>> 24)) : Nat) : Int), ((BitVec.toNat (BitVec.setWidth 8 ((nth s 1) >>> 32)) : Nat) : Int), ((BitVec.toNat (BitVec.setWidth 8 ((nth s 1) >>> 40)) : Nat) : Int), ((BitVec.toNat (BitVec.setWidth 8 ((nth s 1) >>> 48)) : Nat) : Int), ((BitVec.toNat (BitVec.setWidth 8 ((nth s 1) >>> 56)) : Nat) : Int), ((BitVec.toNat (BitVec.setWidth 8 ((nth s 2) >>> 0)) : Nat) : Int), ((BitVec.toNat (BitVec.setWidth 8 ((nth s 2) >>> 8)) : Nat) : Int), ((BitVec.toNat (BitVec.setWidth 8 ((nth s 2) >>> 16)) : Nat) : Int), ((BitVec.toNat (BitVec.setWidth 8 ((nth s 2) >>> 24)) : Nat) : Int), ((BitVec.toNat (BitVec.setWidth 8 ((nth s 2) >>> 32)) : Nat) : Int), ((BitVec.toNat (BitVec.setWidth 8 ((nth s 2) >>> 40)) : Nat) : Int), ((BitVec.toNat (BitVec.setWidth 8 ((nth s 2) >>> 48)) : Nat) : Int), ((BitVec.toNat (BitVec.setWidth 8 ((nth s 2) >>> 56)) : Nat) : Int), ((BitVec.toNat (BitVec.setWidth 8 ((nth s 3) >>> 0)) : Nat) : Int), ((BitVec.toNat (BitVec.setWidth 8 ((nth s 3) >>> 8)) : Nat) : Int), ((BitVec.toNat (BitVec.setWidth 8 ((nth s 3) >>> 16)) : Nat) : Int), ((BitVec.toNat (BitVec.setWidth 8 ((nth s 3) >>> 24)) : Nat) : Int), ((BitVec.toNat (BitVec.setWidth 8 ((nth s 3) >>> 32)) : Nat) : Int), ((BitVec.toNat (BitVec.setWidth 8 ((nth s 3) >>> 40)) : Nat) : Int), ((BitVec.toNat (BitVec.setWidth 8 ((nth s 3) >>> 48)) : Nat) : Int), ((BitVec.toNat (BitVec.setWidth 8 ((nth s 3) >>> 56)) : Nat) : Int)]))) (fun w => by kernel_rfl) (by kernel_rfl) ?_
  refine s_nil ?_
  refine g_ret (by kernel_rfl) ?_
  show ∃ vs, Res _ _ _ _ vs ∧ _
  refine ⟨[.string (strOfNums ([((BitVec.toNat (BitVec.setWidth 8 ((nth s 0) >>> 0)) : Nat) : Int), ((BitVec.toNat (BitVec.setWidth 8 ((nth s 0) >>> 8)) : Nat) : Int), ((BitVec.toNat (BitVec.setWidth 8 ((nth s 0) >>> 16)) : Nat) : Int), ((BitVec.toNat (BitVec.setWidth 8 ((nth s 0) >>> 24)) : Nat) : Int), ((BitVec.toNat (BitVec.setWidth 8 ((nth s 0) >>> 32)) : Nat) : Int), ((BitVec.toNat (BitVec.setWidth 8 ((nth s 0) >>> 40)) : Nat) : Int), ((BitVec.toNat (BitVec.setWidth 8 ((nth s 0) >>> 48)) : Nat) : Int), ((BitVec.toNat (BitVec.setWidth 8 ((nth s 0) >>> 56)) : Nat) : Int), ((BitVec.toNat (BitVec.setWidth 8 ((nth s 1) >>> 0)) : Nat) : Int), ((BitVec.toNat (BitVec.setWidth 8 ((nth s 1) >>> 8)) : Nat) : Int), ((BitVec.toNat (BitVec.setWidth 8 ((nth s 1) >>> 16)) : Nat) : Int), ((BitVec.toNat (BitVec.setWidth 8 ((nth s 1) >>> 24)) : Nat) : Int), ((BitVec.toNat (BitVec.setWidth 8 ((nth s 1) >>> 32)) : Nat) : Int), ((BitVec.toNat (BitVec.setWidth 8 ((nth s 1) >>> 40)) : Nat) : Int), ((BitVec.toNat (BitVec.setWidth 8 ((nth s 1) >>> 48)) : Nat) : Int), ((BitVec.toNat (BitVec.setWidth 8 ((nth s 1) >>> 56)) : Nat) : Int), ((BitVec.toNat (BitVec.setWidth 8 ((nth s 2) >>> 0)) : Nat) : Int), ((BitVec.toNat (BitVec.setWidth 8 ((nth s 2) >>> 8)) : Nat) : Int), ((BitVec.toNat (BitVec.setWidth 8 ((nth s 2) >>> 16)) : Nat) : Int), ((BitVec.toNat (BitVec.setWidth 8 ((nth s 2) >>> 24)) : Nat) : Int), ((BitVec.toNat (BitVec.setWidth 8 ((nth s 2) >>> 32)) : Nat) : Int), ((BitVec.toNat (BitVec.setWidth 8 ((nth s 2) >>> 40)) : Nat) : Int), ((BitVec.toNat (BitVec.setWidth 8 ((nth s 2) >>> 48)) : Nat) : Int), ((BitVec.toNat (BitVec.setWidth 8 ((nth s 2) >>> 56)) : Nat) : Int), ((BitVec.toNat (BitVec.setWidth 8 ((nth s 3) >>> 0)) : Nat) : Int), ((BitVec.toNat (BitVec.setWidth 8 ((nth s 3) >>> 8)) : Nat) : Int), ((BitVec.toNat (BitVec.setWidth 8 ((nth s 3) >>> 16)) : Nat) : Int), ((BitVec.toNat (BitVec.setWidth 8 ((nth s 3) >>> 24)) : Nat) : Int), ((BitVec.toNat (BitVec.setWidth 8 ((nth s 3) >>> 32)) : Nat) : Int), ((BitVec.toNat (BitVec.setWidth 8 ((nth s 3) >>> 40)) : Nat) : Int), ((BitVec.toNat (BitVec.setWidth 8 ((nth s 3) >>> 48)) : Nat) : Int), ((BitVec.toNat (BitVec.setWidth 8 ((nth s 3) >>> 56)) : Nat) : Int)]))], (.tmp (.string (strOfNums ([((BitVec.toNat (BitVec.setWidth 8 ((nth s 0) >>> 0)) : Nat) : Int), ((BitVec.toNat (BitVec.setWidth 8 ((nth s 0) >>> 8)) : Nat) : Int), ((BitVec.toNat (BitVec.setWidth 8 ((nth s 0) >>> 16)) : Nat) : Int), ((BitVec.toNat (BitVec.setWidth 8 ((nth s 0) >>> 24)) : Nat) : Int), ((BitVec.toNat (BitVec.setWidth 8 ((nth s 0) >>> 32)) : Nat) : Int), ((BitVec.toNat (BitVec.setWidth 8 ((nth s 0) >>> 40)) : Nat) : Int), ((BitVec.toNat (BitVec.setWidth 8 ((nth s 0) >>> 48)) : Nat) : Int), ((BitVec.toNat (BitVec.setWidth 8 ((nth s 0) >>> 56)) : Nat) : Int), ((BitVec.toNat (BitVec.setWidth 8 ((nth s 1) >>> 0)) : Nat) : Int), ((BitVec.toNat (BitVec.setWidth 8 ((nth s 1) >>> 8)) : Nat) : Int), ((BitVec.toNat (BitVec.setWidth 8 ((nth s 1) >>> 16)) : Nat) : Int), ((BitVec.toNat (BitVec.setWidth 8 ((nth s 1) >>> 24)) : Nat) : Int), ((BitVec.toNat (BitVec.setWidth 8 ((nth s 1) >>> 32)) : Nat) : Int), ((BitVec.toNat (BitVec.setWidth 8 ((nth s 1) >>> 40)) : Nat) : Int), ((BitVec.toNat (BitVec.setWidth 8 ((nth s 1) >>> 48)) : Nat) : Int), ((BitVec.toNat (BitVec.setWidth 8 ((nth s 1) >>> 56)) : Nat) : Int), ((BitVec.toNat (BitVec.setWidth 8 ((nth s 2) >>> 0)) : Nat) : Int), ((BitVec.toNat (BitVec.setWidth 8 ((nth s 2) >>> 8)) : Nat) : Int), ((BitVec.toNat (BitVec.setWidth 8 ((nth s 2) >>> 16)) : Nat) : Int), ((BitVec.toNat (BitVec.setWidth 8 ((nth s 2) >>> 24)) : Nat) : Int), ((BitVec.toNat (BitVec.setWidth 8 ((nth s 2) >>> 32)) : Nat) : Int), ((BitVec.toNat (BitVec.setWidth 8 ((nth s 2) >>> 40)) : Nat) : Int), ((BitVec.toNat (BitVec.setWidth 8 ((nth s 2) >>> 48)) : Nat) : Int), ((BitVec.toNat (BitVec.setWidth 8 ((nth s 2) >>> 56)) : Nat) : Int), ((BitVec.toNat (BitVec.setWidth 8 ((nth s 3) >>> 0)) : Nat) : Int), ((BitVec.toNat (BitVec.setWidth 8 ((nth s 3) >>> 8)) : Nat) : Int), ((BitVec.toNat (BitVec.setWidth 8 ((nth s 3) >>> 16)) : Nat) : Int), ((BitVec.toNat (BitVec.setWidth 8 ((nth s 3) >>> 24)) : Nat) : Int), ((BitVec.toNat (BitVec.setWidth 8 ((nth s 3) >>> 32)) : Nat) : Int), ((BitVec.toNat (BitVec.setWidth 8 ((nth s 3) >>> 40)) : Nat) : Int), ((BitVec.toNat (BitVec.setWidth 8 ((nth s 3) >>> 48)) : Nat) : Int), ((BitVec.toNat (BitVec.setWidth 8 ((nth s 3) >>> 56)) : Nat) : Int)]))) (by kernel_rfl) .nil), ?_, H34.below⟩
  show Value.string (strOfNums _) = Value.string (strB (firstB s))
  refine congrArg Value.string ?_
  unfold strOfNums strB
  refine congrArg (fun l : List UInt8 => ByteArray.mk l.toArray) ?_
  simp only [List.map_cons, List.map_nil, b8]; rfl

set_option maxRecDepth 100000 in
set_option maxHeartbeats 2000000 in
theorem of_fn1 (b : Nat) (s1 : ByteArray) (h1 : ByteArray.size s1 < 4611686018427387904) : FnP Tryd.prog 12 #[.slice (some ⟨b, 0, none⟩) 1 1] (fun w => Marks w ∧ w.heap[b]? = some (.cells #[.string s1] 9 (0, 0))) (.string (strB (sumB (tl s1)))) := by
  refine FnP.intro (c := codeOf Tryd.f12) [.tmp 2] 26 Tryd.func12 (by kernel_rfl) (by kernel_rfl) (by kernel_rfl) fun w hpre => ?_
  have H0 := St.start w
  refine g_sreg [0] (by kernel_rfl) (by kernel_rfl) ?_
  refine s_val (some 2) (.string (⟨#[]⟩)) (fun w => by kernel_rfl) (by kernel_rfl) ?_
  refine s_nil ?_
  refine g_sreg [0] (by kernel_rfl) (by kernel_rfl) ?_
  refine s_alloc H0 (some 3) 26 (.agg Z25) (by kernel_rfl) (by kernel_rfl) (by kernel_rfl) ?_
  intro b1 w1 H1; clear H0
  refine s_nil ?_
  refine g_sreg [0] (by kernel_rfl) (by kernel_rfl) ?_
  refine s_val (some 4) (.int .i64 0) (fun w => by kernel_rfl) (by kernel_rfl) ?_
  refine s_nil ?_
  refine g_seq (by kernel_rfl) ?_
  refine g_sreg [0, 1, 2] (by kernel_rfl) (by kernel_rfl) ?_
  refine s_val (some 7) (.slice (some ⟨b, 0, none⟩) 1 1) (fun w => by kernel_rfl) (by kernel_rfl) ?_
  refine s_val (some 8) (.int .i64 1) (fun w => by kernel_rfl) (by kernel_rfl) ?_
  refine s_val (some 9) (.int .i64 0) (fun w => by kernel_rfl) (by kernel_rfl) ?_
  refine s_nil ?_
  refine g_block 0 (by kernel_rfl) ?_
  refine g_first (by kernel_rfl) ?_
  refine g_sreg [0] (by kernel_rfl) (by kernel_rfl) ?_
  refine s_val (some 10) (.bool true) (fun w => by kernel_rfl) (by kernel_rfl) ?_
  refine s_nil ?_
  refine g_seq (by kernel_rfl) ?_
  refine g_cond_t (by kernel_rfl) (by kernel_rfl) ?_
  refine g_skip (by kernel_rfl) ?_
  show WP _ _ _ _ _ _
  refine g_seq (by kernel_rfl) ?_
  refine g_block 1 (by kernel_rfl) ?_
  refine g_sreg [0, 1, 2] (by kernel_rfl) (by kernel_rfl) ?_
  refine s_op (some 11) _ (.pointer (some ⟨b, 0 + 0 * 1, none⟩)) (by kernel_rfl) (by kernel_rfl) (fun o w ho => idxS_run (kd := .i64) (t := 37) (e := 9) (size := 1) (bytes := 16) (by kernel_rfl) (x := (.tmp 7)) (y := (.tmp 9)) b 0 1 1 0 ho (by kernel_rfl) (by kernel_rfl) (by omega) w) ?_
  refine s_load1F H1 (some 12) 9 (.tmp 11) b (0 + 0 * 1) #[.string s1] 9 (0, 0) (.string s1) (by kernel_rfl) (by kernel_rfl) (by kernel_rfl) hpre.2 (lt_of_heap hpre.2) (by kernel_rfl) (by rfl) ?_
  refine s_val (some 6) (.string s1) (fun w => by kernel_rfl) (by kernel_rfl) ?_
  refine s_nil ?_
  refine g_reg0 [0, 1, 2, 3, 4, 5, 6, 7, 8] (by kernel_rfl) ?_
  refine s_load H1 (some 14) 26 (.tmp 3) 0 b1 Z25 26 (0, 0) (by kernel_rfl) (by kernel_rfl) (by kernel_rfl) (by kernel_rfl) (by kernel_rfl) ?_
  refine s_val (some 15) (.int .i64 0) (fun w => by kernel_rfl) (by kernel_rfl) ?_
  refine s_val (some 16) (.string s1) (fun w => by kernel_rfl) (by kernel_rfl) ?_
  refine s_callP H1 (some 17) 16 #[.agg Z25, .int .i64 0, .string s1] (Marks) (.tuple #[svn ((takeB (zeroS, 0) (tl s1)).1), .int .i64 (((takeB (zeroS, 0) (tl s1)).2 : Nat) : Int)]) (take_fnq (zeroS, 0) zero_ok s1 (by assumption)) (Marks.old H1 rfl hpre.1) (fun w => by kernel_rfl) (by kernel_rfl) ?_
  intro w2 H2; clear H1
  refine s_val (some 13) (.tuple #[svn ((takeB (zeroS, 0) (tl s1)).1), .int .i64 (((takeB (zeroS, 0) (tl s1)).2 : Nat) : Int)]) (fun w => by kernel_rfl) (by kernel_rfl) ?_
  refine s_val (some 18) (svn ((takeB (zeroS, 0) (tl s1)).1)) (fun w => by kernel_rfl) (by kernel_rfl) ?_
  refine s_val (some 19) (.int .i64 (((takeB (zeroS, 0) (tl s1)).2 : Nat) : Int)) (fun w => by kernel_rfl) (by kernel_rfl) ?_
  refine s_store H2 0 [(b1, Obj.cells (Value.cells (svn ((takeB (zeroS, 0) (tl s1)).1))) 26 (0, 0))] 26 (.tmp 3) (.tmp 18) b1 (0) Z25 (Value.cells (svn ((takeB (zeroS, 0) (tl s1)).1))) 26 (svn ((takeB (zeroS, 0) (tl s1)).1)) (by kernel_rfl) (by kernel_rfl) (by kernel_rfl) (by kernel_rfl) (by kernel_rfl) (by kernel_rfl) (of_decide_eq_true (by kernel_rfl)) (by kernel_rfl) (by kernel_rfl) ?_
  intro w3 H3; clear H2
  refine s_val (some 4) (.int .i64 (((takeB (zeroS, 0) (tl s1)).2 : Nat) : Int)) (fun w => by kernel_rfl) (by kernel_rfl) ?_
  refine s_nil ?_
  show WP _ _ _ _ _ _
  refine g_reg0 [0, 1] (by kernel_rfl) ?_
  refine s_val (some 20) (.int .i64 1) (fun w => by kernel_rfl) (by kernel_rfl) ?_
  refine s_val (some 9) (.int .i64 1) (fun w => by kernel_rfl) (by kernel_rfl) ?_
  refine s_nil ?_
  show WPL _ _ _ _ _ _
  refine g_next ?_
  refine g_sreg [0] (by kernel_rfl) (by kernel_rfl) ?_
  refine s_val (some 10) (.bool false) (fun w => by kernel_rfl) (by kernel_rfl) ?_
  refine s_nil ?_
  refine g_seq (by kernel_rfl) ?_
  refine g_cond_f (by kernel_rfl) (by kernel_rfl) ?_
  refine g_exit 0 (by kernel_rfl) ?_
  show WP _ _ _ _ _ _
  refine g_sreg [0, 1, 2, 3, 4, 5] (by kernel_rfl) (by kernel_rfl) ?_
  refine s_load H3 (some 21) 26 (.tmp 3) 0 b1 (Value.cells (svn ((takeB (zeroS, 0) (tl s1)).1))) 26 (0, 0) (by kernel_rfl) (by kernel_rfl) (by kernel_rfl) (by kernel_rfl) (by kernel_rfl) ?_
  refine s_val (some 22) (.int .i64 (((takeB (zeroS, 0) (tl s1)).2 : Nat) : Int)) (fun w => by kernel_rfl) (by kernel_rfl) ?_
  refine s_call H3 (some 23) 18 #[svn ((takeB (zeroS, 0) (tl s1)).1), .int .i64 (((takeB (zeroS, 0) (tl s1)).2 : Nat) : Int)] (svn (endB (takeB (zeroS, 0) (tl s1)))) (end_fnq (takeB (zeroS, 0) (tl s1)) (takeB_ok _ zero_ok)) (fun w => by kernel_rfl) (by kernel_rfl) ?_
  intro w4 H4; clear H3
  refine s_callP H4 (some 24) 10 #[svn (endB (takeB (zeroS, 0) (tl s1)))] (Marks) (svn (mix (endB (takeB (zeroS, 0) (tl s1))))) (mix_fn (endB (takeB (zeroS, 0) (tl s1)))) (Marks.old H4 rfl hpre.1) (fun w => by kernel_rfl) (by kernel_rfl) ?_
  intro w5 H5; clear H4
  refine s_call H5 (some 25) 17 #[svn (mix (endB (takeB (zeroS, 0) (tl s1))))] (.string (strB (firstB (mix (endB (takeB (zeroS, 0) (tl s1))))))) (first_fn (mix (endB (takeB (zeroS, 0) (tl s1))))) (fun w => by kernel_rfl) (by kernel_rfl) ?_
  intro w6 H6; clear H5
  refine s_val (some 2) (.string (strB (firstB (mix (endB (takeB (zeroS, 0) (tl s1))))))) (fun w => by kernel_rfl) (by kernel_rfl) ?_
  refine s_nil ?_
  refine g_ret (by kernel_rfl) ?_
  show ∃ vs, Res _ _ _ _ vs ∧ _
  refine ⟨[.string (strB (firstB (mix (endB (takeB (zeroS, 0) (tl s1))))))], (.tmp (.string (strB (firstB (mix (endB (takeB (zeroS, 0) (tl s1))))))) (by kernel_rfl) .nil), ?_, H6.below⟩
  rfl

set_option maxRecDepth 100000 in
set_option maxHeartbeats 2000000 in
theorem of_fn3 (b : Nat) (s1 s2 s3 : ByteArray) (h1 : ByteArray.size s1 < 4611686018427387904) (h2 : ByteArray.size s2 < 4611686018427387904) (h3 : ByteArray.size s3 < 4611686018427387904) : FnP Tryd.prog 12 #[.slice (some ⟨b, 0, none⟩) 3 3] (fun w => Marks w ∧ w.heap[b]? = some (.cells #[.string s1, .string s2, .string s3] 9 (0, 0))) (.string (strB (sumB (tl s1 ++ tl s2 ++ tl s3)))) := by
  refine FnP.intro (c := codeOf Tryd.f12) [.tmp 2] 26 Tryd.func12 (by kernel_rfl) (by kernel_rfl) (by kernel_rfl) fun w hpre => ?_
  have H0 := St.start w
  refine g_sreg [0] (by kernel_rfl) (by kernel_rfl) ?_
  refine s_val (some 2) (.string (⟨#[]⟩)) (fun w => by kernel_rfl) (by kernel_rfl) ?_
  refine s_nil ?_
  refine g_sreg [0] (by kernel_rfl) (by kernel_rfl) ?_
  refine s_alloc H0 (some 3) 26 (.agg Z25) (by kernel_rfl) (by kernel_rfl) (by kernel_rfl) ?_
  intro b1 w1 H1; clear H0
  refine s_nil ?_
  refine g_sreg [0] (by kernel_rfl) (by kernel_rfl) ?_
  refine s_val (some 4) (.int .i64 0) (fun w => by kernel_rfl) (by kernel_rfl) ?_
  refine s_nil ?_
  refine g_seq (by kernel_rfl) ?_
  refine g_sreg [0, 1, 2] (by kernel_rfl) (by kernel_rfl) ?_
  refine s_val (some 7) (.slice (some ⟨b, 0, none⟩) 3 3) (fun w => by kernel_rfl) (by kernel_rfl) ?_
  refine s_val (some 8) (.int .i64 3) (fun w => by kernel_rfl) (by kernel_rfl) ?_
  refine s_val (some 9) (.int .i64 0) (fun w => by kernel_rfl) (by kernel_rfl) ?_
  refine s_nil ?_
  refine g_block 0 (by kernel_rfl) ?_
  refine g_first (by kernel_rfl) ?_
  refine g_sreg [0] (by kernel_rfl) (by kernel_rfl) ?_
  refine s_val (some 10) (.bool true) (fun w => by kernel_rfl) (by kernel_rfl) ?_
  refine s_nil ?_
  refine g_seq (by kernel_rfl) ?_
  refine g_cond_t (by kernel_rfl) (by kernel_rfl) ?_
  refine g_skip (by kernel_rfl) ?_
  show WP _ _ _ _ _ _
  refine g_seq (by kernel_rfl) ?_
  refine g_block 1 (by kernel_rfl) ?_
  refine g_sreg [0, 1, 2] (by kernel_rfl) (by kernel_rfl) ?_
  refine s_op (some 11) _ (.pointer (some ⟨b, 0 + 0 * 1, none⟩)) (by kernel_rfl) (by kernel_rfl) (fun o w ho => idxS_run (kd := .i64) (t := 37) (e := 9) (size := 1) (bytes := 16) (by kernel_rfl) (x := (.tmp 7)) (y := (.tmp 9)) b 0 3 3 0 ho (by kernel_rfl) (by kernel_rfl) (by omega) w) ?_
  refine s_load1F H1 (some 12) 9 (.tmp 11) b (0 + 0 * 1) #[.string s1, .string s2, .string s3] 9 (0, 0) (.string s1) (by kernel_rfl) (by kernel_rfl) (by kernel_rfl) hpre.2 (lt_of_heap hpre.2) (by kernel_rfl) (by rfl) ?_
  refine s_val (some 6) (.string s1) (fun w => by kernel_rfl) (by kernel_rfl) ?_
  refine s_nil ?_
  refine g_reg0 [0, 1, 2, 3, 4, 5, 6, 7, 8] (by kernel_rfl) ?_
  refine s_load H1 (some 14) 26 (.tmp 3) 0 b1 Z25 26 (0, 0) (by kernel_rfl) (by kernel_rfl) (by kernel_rfl) (by kernel_rfl) (by kernel_rfl) ?_
  refine s_val (some 15) (.int .i64 0) (fun w => by kernel_rfl) (by kernel_rfl) ?_
  refine s_val (some 16) (.string s1) (fun w => by kernel_rfl) (by kernel_rfl) ?_
  refine s_callP H1 (some 17) 16 #[.agg Z25, .int .i64 0, .string s1] (Marks) (.tuple #[svn ((takeB (zeroS, 0) (tl s1)).1), .int .i64 (((takeB (zeroS, 0) (tl s1)).2 : Nat) : Int)]) (take_fnq (zeroS, 0) zero_ok s1 (by assumption)) (Marks.old H1 rfl hpre.1) (fun w => by kernel_rfl) (by kernel_rfl) ?_
  intro w2 H2; clear H1
  refine s_val (some 13) (.tuple #[svn ((takeB (zeroS, 0) (tl s1)).1), .int .i64 (((takeB (zeroS, 0) (tl s1)).2 : Nat) : Int)]) (fun w => by kernel_rfl) (by kernel_rfl) ?_
  refine s_val (some 18) (svn ((takeB (zeroS, 0) (tl s1)).1)) (fun w => by kernel_rfl) (by kernel_rfl) ?_
  refine s_val (some 19) (.int .i64 (((takeB (zeroS, 0) (tl s1)).2 : Nat) : Int)) (fun w => by kernel_rfl) (by kernel_rfl) ?_
  refine s_store H2 0 [(b1, Obj.cells (Value.cells (svn ((takeB (zeroS, 0) (tl s1)).1))) 26 (0, 0))] 26 (.tmp 3) (.tmp 18) b1 (0) Z25 (Value.cells (svn ((takeB (zeroS, 0) (tl s1)).1))) 26 (svn ((takeB (zeroS, 0) (tl s1)).1)) (by kernel_rfl) (by kernel_rfl) (by kernel_rfl) (by kernel_rfl) (by kernel_rfl) (by kernel_rfl) (of_decide_eq_true (by kernel_rfl)) (by kernel_rfl) (by kernel_rfl) ?_
  intro w3 H3; clear H2
  refine s_val (some 4) (.int .i64 (((takeB (zeroS, 0) (tl s1)).2 : Nat) : Int)) (fun w => by kernel_rfl) (by kernel_rfl) ?_
  refine s_nil ?_
  show WP _ _ _ _ _ _
  refine g_reg0 [0, 1] (by kernel_rfl) ?_
  refine s_val (some 20) (.int .i64 1) (fun w => by kernel_rfl) (by kernel_rfl) ?_
  refine s_val (some 9) (.int .i64 1) (fun w => by kernel_rfl) (by kernel_rfl) ?_
  refine s_nil ?_
  show WPL _ _ _ _ _ _
  refine g_next ?_
  refine g_sreg [0] (by kernel_rfl) (by kernel_rfl) ?_
  refine s_val (some 10) (.bool true) (fun w => by kernel_rfl) (by kernel_rfl) ?_
  refine s_nil ?_
  refine g_seq (by kernel_rfl) ?_
  refine g_cond_t (by kernel_rfl) (by kernel_rfl) ?_
  refine g_skip (by kernel_rfl) ?_
  show WP _ _ _ _ _ _
  refine g_seq (by kernel_rfl) ?_
  refine g_block 1 (by kernel_rfl) ?_
  refine g_sreg [0, 1, 2] (by kernel_rfl) (by kernel_rfl) ?_
  refine s_op (some 11) _ (.pointer (some ⟨b, 0 + 1 * 1, none⟩)) (by kernel_rfl) (by kernel_rfl) (fun o w ho => idxS_run (kd := .i64) (t := 37) (e := 9) (size := 1) (bytes := 16) (by kernel_rfl) (x := (.tmp 7)) (y := (.tmp 9)) b 0 3 3 1 ho (by kernel_rfl) (by kernel_rfl) (by omega) w) ?_
  refine s_load1F H3 (some 12) 9 (.tmp 11) b (0 + 1 * 1) #[.string s1, .string s2, .string s3] 9 (0, 0) (.string s2) (by kernel_rfl) (by kernel_rfl) (by kernel_rfl) hpre.2 (lt_of_heap hpre.2) (by kernel_rfl) (by rfl) ?_
  refine s_val (some 6) (.string s2) (fun w => by kernel_rfl) (by kernel_rfl) ?_
  refine s_nil ?_
  refine g_reg0 [0, 1, 2, 3, 4, 5, 6, 7, 8] (by kernel_rfl) ?_
  refine s_load H3 (some 14) 26 (.tmp 3) 0 b1 (Value.cells (svn ((takeB (zeroS, 0) (tl s1)).1))) 26 (0, 0) (by kernel_rfl) (by kernel_rfl) (by kernel_rfl) (by kernel_rfl) (by kernel_rfl) ?_
  refine s_val (some 15) (.int .i64 (((takeB (zeroS, 0) (tl s1)).2 : Nat) : Int)) (fun w => by kernel_rfl) (by kernel_rfl) ?_
  refine s_val (some 16) (.string s2) (fun w => by kernel_rfl) (by kernel_rfl) ?_
  refine s_callP H3 (some 17) 16 #[svn ((takeB (zeroS, 0) (tl s1)).1), .int .i64 (((takeB (zeroS, 0) (tl s1)).2 : Nat) : Int), .string s2] (Marks) (.tuple #[svn ((takeB (takeB (zeroS, 0) (tl s1)) (tl s2)).1), .int .i64 (((takeB (takeB (zeroS, 0) (tl s1)) (tl s2)).2 : Nat) : Int)]) (take_fnq (takeB (zeroS, 0) (tl s1)) (takeB_ok _ zero_ok) s2 (by assumption)) (Marks.old H3 rfl hpre.1) (fun w => by kernel_rfl) (by kernel_rfl) ?_
  intro w4 H4; clear H3
  refine s_val (some 13) (.tuple #[svn ((takeB (takeB (zeroS, 0) (tl s1)) (tl s2)).1), .int .i64 (((takeB (takeB (zeroS, 0) (tl s1)) (tl s2)).2 : Nat) : Int)]) (fun w => by kernel_rfl) (by kernel_rfl) ?_
  refine s_val (some 18) (svn ((takeB (takeB (zeroS, 0) (tl s1)) (tl s2)).1)) (fun w => by kernel_rfl) (by kernel_rfl) ?_
  refine s_val (some 19) (.int .i64 (((takeB (takeB (zeroS, 0) (tl s1)) (tl s2)).2 : Nat) : Int)) (fun w => by kernel_rfl) (by kernel_rfl) ?_
  refine s_store H4 0 [(b1, Obj.cells (Value.cells (svn ((takeB (takeB (zeroS, 0) (tl s1)) (tl s2)).1))) 26 (0, 0))] 26 (.tmp 3) (.tmp 18) b1 (0) (Value.cells (svn ((takeB (zeroS, 0) (tl s1)).1))) (Value.cells (svn ((takeB (takeB (zeroS, 0) (tl s1)) (tl s2)).1))) 26 (svn ((takeB (takeB (zeroS, 0) (tl s1)) (tl s2)).1)) (by kernel_rfl) (by kernel_rfl) (by kernel_rfl) (by kernel_rfl) (by kernel_rfl) (by kernel_rfl) (of_decide_eq_true (by kernel_rfl)) (by kernel_rfl) (by kernel_rfl) ?_
  intro w5 H5; clear H4
  refine s_val (some 4) (.int .i64 (((takeB (takeB (zeroS, 0) (tl s1)) (tl s2)).2 : Nat) : Int)) (fun w => by kernel_rfl) (by kernel_rfl) ?_
  refine s_nil ?_
  show WP _ _ _ _ _ _
  refine g_reg0 [0, 1] (by kernel_rfl) ?_
  refine s_val (some 20) (.int .i64 2) (fun w => by kernel_rfl) (by kernel_rfl) ?_
  refine s_val (some 9) (.int .i64 2) (fun w => by kernel_rfl) (by kernel_rfl) ?_
  refine s_nil ?_
  show WPL _ _ _ _ _ _
  refine g_next ?_
  refine g_sreg [0] (by kernel_rfl) (by kernel_rfl) ?_
  refine s_val (some 10) (.bool true) (fun w => by kernel_rfl) (by kernel_rfl) ?_
  refine s_nil ?_
  refine g_seq (by kernel_rfl) ?_
  refine g_cond_t (by kernel_rfl) (by kernel_rfl) ?_
  refine g_skip (by kernel_rfl) ?_
  show WP _ _ _ _ _ _
  refine g_seq (by kernel_rfl) ?_
  refine g_block 1 (by kernel_rfl) ?_
  refine g_sreg [0, 1, 2] (by kernel_rfl) (by kernel_rfl) ?_
  refine s_op (some 11) _ (.pointer (some ⟨b, 0 + 2 * 1, none⟩)) (by kernel_rfl) (by kernel_rfl) (fun o w ho => idxS_run (kd := .i64) (t := 37) (e := 9) (size := 1) (bytes := 16) (by kernel_rfl) (x := (.tmp 7)) (y := (.tmp 9)) b 0 3 3 2 ho (by kernel_rfl) (by kernel_rfl) (by omega) w) ?_
  refine s_load1F H5 (some 12) 9 (.tmp 11) b (0 + 2 * 1) #[.string s1, .string s2, .string s3] 9 (0, 0) (.string s3) (by kernel_rfl) (by kernel_rfl) (by kernel_rfl) hpre.2 (lt_of_heap hpre.2) (by kernel_rfl) (by rfl) ?_
  refine s_val (some 6) (.string s3) (fun w => by kernel_rfl) (by kernel_rfl) ?_
  refine s_nil ?_
  refine g_reg0 [0, 1, 2, 3, 4, 5, 6, 7, 8] (by kernel_rfl) ?_
  refine s_load H5 (some 14) 26 (.tmp 3) 0 b1 (Value.cells (svn ((takeB (takeB (zeroS, 0) (tl s1)) (tl s2)).1))) 26 (0, 0) (by kernel_rfl) (by kernel_rfl) (by kernel_rfl) (by kernel_rfl) (by kernel_rfl) ?_
  refine s_val (some 15) (.int .i64 (((takeB (takeB (zeroS, 0) (tl s1)) (tl s2)).2 : Nat) : Int)) (fun w => by kernel_rfl) (by kernel_rfl) ?_
  refine s_val (some 16) (.string s3) (fun w => by kernel_rfl) (by kernel_rfl) ?_
  refine s_callP H5 (some 17) 16 #[svn ((takeB (takeB (zeroS, 0) (tl s1)) (tl s2)).1), .int .i64 (((takeB (takeB (zeroS, 0) (tl s1)) (tl s2)).2 : Nat) : Int), .string s3] (Marks) (.tuple #[svn ((takeB (takeB (takeB (zeroS, 0) (tl s1)) (tl s2)) (tl s3)).1), .int .i64 (((takeB (takeB (takeB (zeroS, 0) (tl s1)) (tl s2)) (tl s3)).2 : Nat) : Int)]) (take_fnq (takeB (takeB (zeroS, 0) (tl s1)) (tl s2)) (takeB_ok _ (takeB_ok _ zero_ok)) s3 (by assumption)) (Marks.old H5 rfl hpre.1) (fun w => by kernel_rfl) (by kernel_rfl) ?_
  intro w6 H6; clear H5
  refine s_val (some 13) (.tuple #[svn ((takeB (takeB (takeB (zeroS, 0) (tl s1)) (tl s2)) (tl s3)).1), .int .i64 (((takeB (takeB (takeB (zeroS, 0) (tl s1)) (tl s2)) (tl s3)).2 : Nat) : Int)]) (fun w => by kernel_rfl) (by kernel_rfl) ?_
  refine s_val (some 18) (svn ((takeB (takeB (takeB (zeroS, 0) (tl s1)) (tl s2)) (tl s3)).1)) (fun w => by kernel_rfl) (by kernel_rfl) ?_
  refine s_val (some 19) (.int .i64 (((takeB (takeB (takeB (zeroS, 0) (tl s1)) (tl s2)) (tl s3)).2 : Nat) : Int)) (fun w => by kernel_rfl) (by kernel_rfl) ?_
  refine s_store H6 0 [(b1, Obj.cells (Value.cells (svn ((takeB (takeB (takeB (zeroS, 0) (tl s1)) (tl s2)) (tl s3)).1))) 26 (0, 0))] 26 (.tmp 3) (.tmp 18) b1 (0) (Value.cells (svn ((takeB (takeB (zeroS, 0) (tl s1)) (tl s2)).1))) (Value.cells (svn ((takeB (takeB (takeB (zeroS, 0) (tl s1)) (tl s2)) (tl s3)).1))) 26 (svn ((takeB (takeB (takeB (zeroS, 0) (tl s1)) (tl s2)) (tl s3)).1)) (by kernel_rfl) (by kernel_rfl) (by kernel_rfl) (by kernel_rfl) (by kernel_rfl) (by kernel_rfl) (of_decide_eq_true (by kernel_rfl)) (by kernel_rfl) (by kernel_rfl) ?_
  intro w7 H7; clear H6
  refine s_val (some 4) (.int .i64 (((takeB (takeB (takeB (zeroS, 0) (tl s1)) (tl s2)) (tl s3)).2 : Nat) : Int)) (fun w => by kernel_rfl) (by kernel_rfl) ?_
  refine s_nil ?_
  show WP _ _ _ _ _ _
  refine g_reg0 [0, 1] (by kernel_rfl) ?_
  refine s_val (some 20) (.int .i64 3) (fun w => by kernel_rfl) (by kernel_rfl) ?_
  refine s_val (some 9) (.int .i64 3) (fun w => by kernel_rfl) (by kernel_rfl) ?_
  refine s_nil ?_
  show WPL _ _ _ _ _ _
  refine g_next ?_
  refine g_sreg [0] (by kernel_rfl) (by kernel_rfl) ?_
  refine s_val (some 10) (.bool false) (fun w => by kernel_rfl) (by kernel_rfl) ?_
  refine s_nil ?_
  refine g_seq (by kernel_rfl) ?_
  refine g_cond_f (by kernel_rfl) (by kernel_rfl) ?_
  refine g_exit 0 (by kernel_rfl) ?_
  show WP _ _ _ _ _ _
  refine g_sreg [0, 1, 2, 3, 4, 5] (by kernel_rfl) (by kernel_rfl) ?_
  refine s_load H7 (some 21) 26 (.tmp 3) 0 b1 (Value.cells (svn ((takeB (takeB (takeB (zeroS, 0) (tl s1)) (tl s2)) (tl s3)).1))) 26 (0, 0) (by kernel_rfl) (by kernel_rfl) (by kernel_rfl) (by kernel_rfl) (by kernel_rfl) ?_
  refine s_val (some 22) (.int .i64 (((takeB (takeB (takeB (zeroS, 0) (tl s1)) (tl s2)) (tl s3)).2 : Nat) : Int)) (fun w => by kernel_rfl) (by kernel_rfl) ?_
  refine s_call H7 (some 23) 18 #[svn ((takeB (takeB (takeB (zeroS, 0) (tl s1)) (tl s2)) (tl s3)).1), .int .i64 (((takeB (takeB (takeB (zeroS, 0) (tl s1)) (tl s2)) (tl s3)).2 : Nat) : Int)] (svn (endB (takeB (takeB (takeB (zeroS, 0) (tl s1)) (tl s2)) (tl s3)))) (end_fnq (takeB (takeB (takeB (zeroS, 0) (tl s1)) (tl s2)) (tl s3)) (takeB_ok _ (takeB_ok _ (takeB_ok _ zero_ok)))) (fun w => by kernel_rfl) (by kernel_rfl) ?_
  intro w8 H8; clear H7
  refine s_callP H8 (some 24) 10 #[svn (endB (takeB (takeB (takeB (zeroS, 0) (tl s1)) (tl s2)) (tl s3)))] (Marks) (svn (mix (endB (takeB (takeB (takeB (zeroS, 0) (tl s1)) (tl s2)) (tl s3))))) (mix_fn (endB (takeB (takeB (takeB (zeroS, 0) (tl s1)) (tl s2)) (tl s3)))) (Marks.old H8 rfl hpre.1) (fun w => by kernel_rfl) (by kernel_rfl) ?_
  intro w9 H9; clear H8
  refine s_call H9 (some 25) 17 #[svn (mix (endB (takeB (takeB (takeB (zeroS, 0) (tl s1)) (tl s2)) (tl s3))))] (.string (strB (firstB (mix (endB (takeB (takeB (takeB (zeroS, 0) (tl s1)) (tl s2)) (tl s3))))))) (first_fn (mix (endB (takeB (takeB (takeB (zeroS, 0) (tl s1)) (tl s2)) (tl s3))))) (fun w => by kernel_rfl) (by kernel_rfl) ?_
  intro w10 H10; clear H9
  refine s_val (some 2) (.string (strB (firstB (mix (endB (takeB (takeB (takeB (zeroS, 0) (tl s1)) (tl s2)) (tl s3))))))) (fun w => by kernel_rfl) (by kernel_rfl) ?_
  refine s_nil ?_
  refine g_ret (by kernel_rfl) ?_
  show ∃ vs, Res _ _ _ _ vs ∧ _
  refine ⟨[.string (strB (firstB (mix (endB (takeB (takeB (takeB (zeroS, 0) (tl s1)) (tl s2)) (tl s3))))))], (.tmp (.string (strB (firstB (mix (endB (takeB (takeB (takeB (zeroS, 0) (tl s1)) (tl s2)) (tl s3))))))) (by kernel_rfl) .nil), ?_, H10.below⟩
  rw [show sumB (tl s1 ++ tl s2 ++ tl s3) = firstB (mix (endB (takeB (takeB (takeB (zeroS, 0) (tl s1)) (tl s2)) (tl s3)))) by unfold sumB; rw [takeB_append, takeB_append]]; rfl

set_option maxRecDepth 100000 in
set_option maxHeartbeats 2000000 in
theorem of_fn0  : FnP Tryd.prog 12 #[.slice none 0 0] (Marks) (.string (strB (sumB []))) := by
  refine FnP.intro (c := codeOf Tryd.f12) [.tmp 2] 26 Tryd.func12 (by kernel_rfl) (by kernel_rfl) (by kernel_rfl) fun w hpre => ?_
  have H0 := St.start w
  refine g_sreg [0] (by kernel_rfl) (by kernel_rfl) ?_
  refine s_val (some 2) (.string (⟨#[]⟩)) (fun w => by kernel_rfl) (by kernel_rfl) ?_
  refine s_nil ?_
  refine g_sreg [0] (by kernel_rfl) (by kernel_rfl) ?_
  refine s_alloc H0 (some 3) 26 (.agg Z25) (by kernel_rfl) (by kernel_rfl) (by kernel_rfl) ?_
  intro b1 w1 H1; clear H0
  refine s_nil ?_
  refine g_sreg [0] (by kernel_rfl) (by kernel_rfl) ?_
  refine s_val (some 4) (.int .i64 0) (fun w => by kernel_rfl) (by kernel_rfl) ?_
  refine s_nil ?_
  refine g_seq (by kernel_rfl) ?_
  refine g_sreg [0, 1, 2] (by kernel_rfl) (by kernel_rfl) ?_
  refine s_val (some 7) (.slice none 0 0) (fun w => by kernel_rfl) (by kernel_rfl) ?_
  refine s_val (some 8) (.int .i64 0) (fun w => by kernel_rfl) (by kernel_rfl) ?_
  refine s_val (some 9) (.int .i64 0) (fun w => by kernel_rfl) (by kernel_rfl) ?_
  refine s_nil ?_
  refine g_block 0 (by kernel_rfl) ?_
  refine g_first (by kernel_rfl) ?_
  refine g_sreg [0] (by kernel_rfl) (by kernel_rfl) ?_
  refine s_val (some 10) (.bool false) (fun w => by kernel_rfl) (by kernel_rfl) ?_
  refine s_nil ?_
  refine g_seq (by kernel_rfl) ?_
  refine g_cond_f (by kernel_rfl) (by kernel_rfl) ?_
  refine g_exit 0 (by kernel_rfl) ?_
  show WP _ _ _ _ _ _
  refine g_sreg [0, 1, 2, 3, 4, 5] (by kernel_rfl) (by kernel_rfl) ?_
  refine s_load H1 (some 21) 26 (.tmp 3) 0 b1 Z25 26 (0, 0) (by kernel_rfl) (by kernel_rfl) (by kernel_rfl) (by kernel_rfl) (by kernel_rfl) ?_
  refine s_val (some 22) (.int .i64 0) (fun w => by kernel_rfl) (by kernel_rfl) ?_
  refine s_call H1 (some 23) 18 #[.agg Z25, .int .i64 0] (svn (endB (zeroS, 0))) (end_fnq (zeroS, 0) zero_ok) (fun w => by kernel_rfl) (by kernel_rfl) ?_
  intro w2 H2; clear H1
  refine s_callP H2 (some 24) 10 #[svn (endB (zeroS, 0))] (Marks) (svn (mix (endB (zeroS, 0)))) (mix_fn (endB (zeroS, 0))) (Marks.old H2 rfl hpre) (fun w => by kernel_rfl) (by kernel_rfl) ?_
  intro w3 H3; clear H2
  refine s_call H3 (some 25) 17 #[svn (mix (endB (zeroS, 0)))] (.string (strB (firstB (mix (endB (zeroS, 0)))))) (first_fn (mix (endB (zeroS, 0)))) (fun w => by kernel_rfl) (by kernel_rfl) ?_
  intro w4 H4; clear H3
  refine s_val (some 2) (.string (strB (firstB (mix (endB (zeroS, 0)))))) (fun w => by kernel_rfl) (by kernel_rfl) ?_
  refine s_nil ?_
  refine g_ret (by kernel_rfl) ?_
  show ∃ vs, Res _ _ _ _ vs ∧ _
  refine ⟨[.string (strB (firstB (mix (endB (zeroS, 0)))))], (.tmp (.string (strB (firstB (mix (endB (zeroS, 0)))))) (by kernel_rfl) .nil), ?_, H4.below⟩
  rfl
end Go.Proofs.YtddhadddpllbcaaDoor
