/-
  The table.
-/
import Derived.Test.YthipcmpmfjeakaaProg
import Derived.Test.YthipcmpmfjeakaaCrcF
import Derived.Test.YthipcmpmfjeakaaTxt
namespace Go.Proofs.Ythipcmpmfjeakaa
open Go Go.RowKit Go.Proofs.Crc
set_option linter.unusedVariables false

def arr (n : Nat) (s : List W) : Value := .agg (arrF n fun i => .int .u32 ((BitVec.toNat (nth s i) : Nat) : Int)).toArray
theorem arr_at {n : Nat} (s : List W) {k off : Nat} (ho : off = 0 + k * 1) (hk : k < n) : (Value.cells (arr n s))[off]? = some (.int .u32 ((BitVec.toNat (nth s k) : Nat) : Int)) :=
  seg_at (pre := []) (post := []) (n := n) (f := fun j => .int .u32 ((BitVec.toNat (nth s j) : Nat) : Int)) (by show arrF n _ = [] ++ arrF n _ ++ []; simp) (by simpa using ho) hk
theorem arr_put {n : Nat} {s t : List W} {k off : Nat} {x : W} (ho : off = 0 + k * 1) (hk : k < n) (hg : ∀ j, j < n → nth t j = if j = k then x else nth s j) :
    ((Value.cells (arr n s)).toList.take off ++ (Value.int .u32 ((BitVec.toNat x : Nat) : Int)).cells.toList ++ (Value.cells (arr n s)).toList.drop (off + (Value.int .u32 ((BitVec.toNat x : Nat) : Int)).cells.size)).toArray = Value.cells (arr n t) := by
  rw [seg_put (pre := []) (post := []) (n := n) (f := fun j => .int .u32 ((BitVec.toNat (nth s j) : Nat) : Int)) (g := fun j => .int .u32 ((BitVec.toNat (nth t j) : Nat) : Int)) (by show arrF n _ = [] ++ arrF n _ ++ []; simp) rfl (by simpa using ho) hk (fun j hj => by rw [hg j hj]; split <;> rfl)]
  simp; rfl
theorem arr_congr {n : Nat} {s t : List W} (h : ∀ j, j < n → nth s j = nth t j) : arr n s = arr n t := by
  unfold arr; rw [arrF_congr (fun j hj => by rw [h j hj])]
theorem nth_nil (j : Nat) : nth [] j = 0 := rfl

set_option maxRecDepth 100000 in
set_option maxHeartbeats 2000000 in
theorem moved_fn (x : W) : Fn Try.prog 24 #[.int .u32 ((BitVec.toNat x : Nat) : Int)] (.int .u32 ((BitVec.toNat (mv x) : Nat) : Int)) := by
  refine Fn.intro (c := codeOf Try.f24) [.tmp 2] 11 Try.func24 (by kernel_rfl) (by kernel_rfl) (by kernel_rfl) fun w => ?_
  have H0 := St.start w
  refine g_sreg [0] (by kernel_rfl) (by kernel_rfl) ?_
  refine s_val (some 2) (.int .u32 0) (fun w => by kernel_rfl) (by kernel_rfl) ?_
  refine s_nil ?_
  refine g_seq (by kernel_rfl) ?_
  refine g_sreg [0, 1, 2] (by kernel_rfl) (by kernel_rfl) ?_
  refine s_val (some 3) (.int .u32 ((BitVec.toNat x : Nat) : Int)) (fun w => by kernel_rfl) (by kernel_rfl) ?_
  refine s_valE (some 4) (.int .u32 (Go.bits .and .u32 (((BitVec.toNat x : Nat) : Int)) (1))) (.int .u32 ((BitVec.toNat (x &&& (1 : BitVec 32)) : Nat) : Int)) (fun w => by kernel_rfl) (bv_and_u32 x (1 : BitVec 32)) (by kernel_rfl) ?_
  by_cases hc1 : ((BitVec.toNat (x &&& (1 : BitVec 32))) : Nat) = 0
  · skip
    refine s_valE (some 5) (.bool (((BitVec.toNat (x &&& (1 : BitVec 32)) : Nat) : Int) == 0)) (.bool true) (fun w => by kernel_rfl) (bool_eq (beq_iff_eq.2 (by omega))) (by kernel_rfl) ?_
    refine s_nil ?_
    refine g_cond_t (by kernel_rfl) (by kernel_rfl) ?_
    refine g_sreg [0, 1, 2] (by kernel_rfl) (by kernel_rfl) ?_
    refine s_val (some 6) (.int .u32 ((BitVec.toNat x : Nat) : Int)) (fun w => by kernel_rfl) (by kernel_rfl) ?_
    refine s_valE (some 7) (.int .u32 (Int.fdiv (((BitVec.toNat x : Nat) : Int)) (2 ^ (min 1 32)))) (.int .u32 ((BitVec.toNat (x >>> 1) : Nat) : Int)) (fun w => by kernel_rfl) (bv_shr_u32 x 1) (by kernel_rfl) ?_
    refine s_val (some 2) (.int .u32 ((BitVec.toNat (x >>> 1) : Nat) : Int)) (fun w => by kernel_rfl) (by kernel_rfl) ?_
    refine s_nil ?_
    refine g_ret (by kernel_rfl) ?_
    show ∃ vs, Res _ _ _ _ vs ∧ _
    refine ⟨[.int .u32 ((BitVec.toNat (x >>> 1) : Nat) : Int)], (.tmp (.int .u32 ((BitVec.toNat (x >>> 1) : Nat) : Int)) (by kernel_rfl) .nil), ?_, H0.below⟩
    refine congrArg (fun y : W => Value.int .u32 ((BitVec.toNat y : Nat) : Int)) ?_
    unfold mv poly
    rw [if_pos (BitVec.eq_of_toNat_eq hc1)]
  · skip
    refine s_valE (some 5) (.bool (((BitVec.toNat (x &&& (1 : BitVec 32)) : Nat) : Int) == 0)) (.bool false) (fun w => by kernel_rfl) (bool_eq (beq_eq_false_iff_ne.2 (by omega))) (by kernel_rfl) ?_
    refine s_nil ?_
    refine g_cond_f (by kernel_rfl) (by kernel_rfl) ?_
    refine g_skip (by kernel_rfl) ?_
    show WP _ _ _ _ _ _
    refine g_sreg [0, 1, 2, 3] (by kernel_rfl) (by kernel_rfl) ?_
    refine s_val (some 8) (.int .u32 ((BitVec.toNat x : Nat) : Int)) (fun w => by kernel_rfl) (by kernel_rfl) ?_
    refine s_valE (some 9) (.int .u32 (Int.fdiv (((BitVec.toNat x : Nat) : Int)) (2 ^ (min 1 32)))) (.int .u32 ((BitVec.toNat (x >>> 1) : Nat) : Int)) (fun w => by kernel_rfl) (bv_shr_u32 x 1) (by kernel_rfl) ?_
    refine s_valE (some 10) (.int .u32 (Go.bits .xor .u32 (((BitVec.toNat (x >>> 1) : Nat) : Int)) (3988292384))) (.int .u32 ((BitVec.toNat ((x >>> 1) ^^^ (3988292384 : BitVec 32)) : Nat) : Int)) (fun w => by kernel_rfl) (bv_xor_u32 (x >>> 1) (3988292384 : BitVec 32)) (by kernel_rfl) ?_
    refine s_val (some 2) (.int .u32 ((BitVec.toNat ((x >>> 1) ^^^ (3988292384 : BitVec 32)) : Nat) : Int)) (fun w => by kernel_rfl) (by kernel_rfl) ?_
    refine s_nil ?_
    refine g_ret (by kernel_rfl) ?_
    show ∃ vs, Res _ _ _ _ vs ∧ _
    refine ⟨[.int .u32 ((BitVec.toNat ((x >>> 1) ^^^ (3988292384 : BitVec 32)) : Nat) : Int)], (.tmp (.int .u32 ((BitVec.toNat ((x >>> 1) ^^^ (3988292384 : BitVec 32)) : Nat) : Int)) (by kernel_rfl) .nil), ?_, H0.below⟩
    refine congrArg (fun y : W => Value.int .u32 ((BitVec.toNat y : Nat) : Int)) ?_
    unfold mv poly
    rw [if_neg (by intro q; exact hc1 (by rw [q]; rfl))]

theorem t0_nth (j : Nat) (hj : j < 256) : nth [] j = if j % (2 * 128) = 0 then mvk 8 (BitVec.ofNat 32 j) else 0 := by
  by_cases h : j % (2 * 128) = 0
  · obtain rfl : j = 0 := by omega
    rw [if_pos rfl]; decide
  · rw [if_neg h]; rfl
theorem zero_arr : zeroV .u32 256 = arr 256 [] := by kernel_rfl

set_option maxRecDepth 100000 in
set_option maxHeartbeats 2000000 in
theorem table_fn  : Fn Try.prog 21 #[] (arr 256 tabL) := by
  refine Fn.intro (c := codeOf Try.f21) [.cell 0 40] 27 Try.func21 (by kernel_rfl) (by kernel_rfl) (by kernel_rfl) fun w => ?_
  have H0 := St.start w
  refine g_sreg [0] (by kernel_rfl) (by kernel_rfl) ?_
  refine s_alloc H0 (some 0) 40 (zeroV .u32 256) (by kernel_rfl) (by kernel_rfl) (by kernel_rfl) ?_
  intro b1 w1 H1; clear H0
  refine s_nil ?_
  refine g_sreg [0] (by kernel_rfl) (by kernel_rfl) ?_
  refine s_alloc H1 (some 1) 40 (zeroV .u32 256) (by kernel_rfl) (by kernel_rfl) (by kernel_rfl) ?_
  intro b2 w2 H2; clear H1
  refine s_nil ?_
  refine g_sreg [0] (by kernel_rfl) (by kernel_rfl) ?_
  have HZ1 : St w.heap.size w w2 [(b2, Obj.cells (Value.cells (arr 256 ([]))) 40 (0, 0)), (b1, Obj.cells (Value.cells (zeroV .u32 256)) 40 (0, 0))] := by rw [← zero_arr]; exact H2
  refine s_val (some 2) (.int .u32 1) (fun w => by kernel_rfl) (by kernel_rfl) ?_
  refine s_nil ?_
  refine g_seq (by kernel_rfl) ?_
  refine g_sreg [0] (by kernel_rfl) (by kernel_rfl) ?_
  refine s_val (some 3) (.int .i64 128) (fun w => by kernel_rfl) (by kernel_rfl) ?_
  refine s_nil ?_
  refine g_block 0 (by kernel_rfl) ?_
  refine g_first (by kernel_rfl) ?_
  refine g_seq (by kernel_rfl) ?_
  refine g_sreg [0, 1] (by kernel_rfl) (by kernel_rfl) ?_
  refine s_val (some 5) (.int .i64 128) (fun w => by kernel_rfl) (by kernel_rfl) ?_
  refine s_val (some 6) (.bool true) (fun w => by kernel_rfl) (by kernel_rfl) ?_
  refine s_nil ?_
  refine g_cond_t (by kernel_rfl) (by kernel_rfl) ?_
  refine g_skip (by kernel_rfl) ?_
  show WP _ _ _ _ _ _
  refine g_seq (by kernel_rfl) ?_
  refine g_block 1 (by kernel_rfl) ?_
  refine g_sreg [0, 1, 2] (by kernel_rfl) (by kernel_rfl) ?_
  refine s_val (some 9) (.int .u32 1) (fun w => by kernel_rfl) (by kernel_rfl) ?_
  refine s_call HZ1 (some 10) 24 #[.int .u32 1] (.int .u32 ((BitVec.toNat (mv (1 : BitVec 32)) : Nat) : Int)) (moved_fn (1 : BitVec 32)) (fun w => by kernel_rfl) (by kernel_rfl) ?_
  intro w3 H3; clear HZ1
  refine s_val (some 2) (.int .u32 ((BitVec.toNat (mv (1 : BitVec 32)) : Nat) : Int)) (fun w => by kernel_rfl) (by kernel_rfl) ?_
  refine s_nil ?_
  refine g_sreg [0] (by kernel_rfl) (by kernel_rfl) ?_
  refine s_val (some 4) (.int .i64 0) (fun w => by kernel_rfl) (by kernel_rfl) ?_
  refine s_nil ?_
  refine g_block 2 (by kernel_rfl) ?_
  have hacc2 : arr 256 ([]) = arr 256 (tb 128 0) := arr_congr (fun j hj => by rw [tb_start 128 j hj]; exact t0_nth j hj)
  have HA2 : St w.heap.size w w3 [(b2, Obj.cells (Value.cells (arr 256 (tb 128 0))) 40 (0, 0)), (b1, Obj.cells (Value.cells (zeroV .u32 256)) 40 (0, 0))] := by rw [← hacc2]; exact H3
  refine g_loop (by kernel_rfl) (fun mz ρ ww => ∃ (a : Nat), 256 - 2 * 128 * a = mz ∧ (2 * 128 * a ≤ 256) ∧ St w.heap.size w ww [(b2, Obj.cells (Value.cells (arr 256 (tb 128 a))) 40 (0, 0)), (b1, Obj.cells (Value.cells (zeroV .u32 256)) 40 (0, 0))] ∧ Is [(0, .pointer (some ⟨b1, 0, none⟩)), (1, .pointer (some ⟨b2, 0, none⟩)), (2, .int .u32 ((BitVec.toNat (mv (1 : BitVec 32)) : Nat) : Int)), (3, .int .i64 128), (4, .int .i64 ((2 * 128 * a : Nat) : Int)), (6, .bool true)] ρ) (256 - 2 * 128 * 0) ⟨0, rfl, (by omega), HA2, (Is.of ⟨(by kernel_rfl), (by kernel_rfl), (by kernel_rfl), (by kernel_rfl), (by kernel_rfl), (by kernel_rfl), trivial⟩)⟩ ?_
  clear HA2
  rintro _ _ w4 ⟨a, rfl, ha, H4, _, rfl⟩
  refine g_seq (by kernel_rfl) ?_
  refine g_sreg [0, 1] (by kernel_rfl) (by kernel_rfl) ?_
  refine s_val (some 11) (.int .i64 ((2 * 128 * a : Nat) : Int)) (fun w => by kernel_rfl) (by kernel_rfl) ?_
  by_cases hc3 : (2 * 128 * a : Nat) < 256
  · skip
    refine s_valE (some 12) (.bool (decide (((2 * 128 * a : Nat) : Int) < 256))) (.bool true) (fun w => by kernel_rfl) (bool_eq (decide_eq_true (by omega))) (by kernel_rfl) ?_
    refine s_nil ?_
    refine g_cond_t (by kernel_rfl) (by kernel_rfl) ?_
    refine g_skip (by kernel_rfl) ?_
    show WP _ _ _ _ _ _
    refine g_seq (by kernel_rfl) ?_
    refine g_block 3 (by kernel_rfl) ?_
    refine g_reg0 [0, 1, 2, 3, 4, 5, 6, 7, 8, 9] (by kernel_rfl) ?_
    refine s_val (some 17) (.int .i64 ((2 * 128 * a : Nat) : Int)) (fun w => by kernel_rfl) (by kernel_rfl) ?_
    refine s_val (some 18) (.int .i64 128) (fun w => by kernel_rfl) (by kernel_rfl) ?_
    refine s_valE (some 19) (.int .i64 (IntKind.i64.wrap (((2 * 128 * a : Nat) : Int) + 128))) (.int .i64 (((2 * 128 * a) + 128 : Nat) : Int)) (fun w => by kernel_rfl) (int_eq (wrapAdd_i64 (a := 2 * 128 * a) (b := 128) (by omega))) (by kernel_rfl) ?_
    refine s_val (some 20) (.int .i64 ((2 * 128 * a : Nat) : Int)) (fun w => by kernel_rfl) (by kernel_rfl) ?_
    refine s_op (some 21) _ (.pointer (some ⟨b2, 0 + (2 * 128 * a) * 1, none⟩)) (by kernel_rfl) (by kernel_rfl) (fun o w ho => idxA_run (kd := .i64) (t := 40) (n := 256) (size := 1) (by kernel_rfl) (x := (.tmp 1)) (y := (.tmp 20)) b2 0 (2 * 128 * a) ho (by kernel_rfl) (by kernel_rfl) (by omega) w) ?_
    refine s_load1 H4 (some 22) 25 (.tmp 21) 0 b2 (0 + (2 * 128 * a) * 1) (Value.cells (arr 256 (tb 128 a))) 40 (0, 0) (.int .u32 ((BitVec.toNat (nth (tb 128 a) (2 * 128 * a)) : Nat) : Int)) (by kernel_rfl) (by kernel_rfl) (by kernel_rfl) (by kernel_rfl) (by kernel_rfl) (arr_at (n := 256) (tb 128 a) (k := (2 * 128 * a)) (by omega) (by omega)) ?_
    refine s_val (some 23) (.int .u32 ((BitVec.toNat (mv (1 : BitVec 32)) : Nat) : Int)) (fun w => by kernel_rfl) (by kernel_rfl) ?_
    refine s_valE (some 24) (.int .u32 (Go.bits .xor .u32 (((BitVec.toNat (nth (tb 128 a) (2 * 128 * a)) : Nat) : Int)) (((BitVec.toNat (mv (1 : BitVec 32)) : Nat) : Int)))) (.int .u32 ((BitVec.toNat ((nth (tb 128 a) (2 * 128 * a)) ^^^ (mv (1 : BitVec 32))) : Nat) : Int)) (fun w => by kernel_rfl) (bv_xor_u32 (nth (tb 128 a) (2 * 128 * a)) (mv (1 : BitVec 32))) (by kernel_rfl) ?_
    refine s_op (some 25) _ (.pointer (some ⟨b2, 0 + ((2 * 128 * a) + 128) * 1, none⟩)) (by kernel_rfl) (by kernel_rfl) (fun o w ho => idxA_run (kd := .i64) (t := 40) (n := 256) (size := 1) (by kernel_rfl) (x := (.tmp 1)) (y := (.tmp 19)) b2 0 ((2 * 128 * a) + 128) ho (by kernel_rfl) (by kernel_rfl) (by omega) w) ?_
    refine s_store H4 0 [(b2, Obj.cells (Value.cells (arr 256 (tb 128 (a + 1)))) 40 (0, 0)), (b1, Obj.cells (Value.cells (zeroV .u32 256)) 40 (0, 0))] 25 (.tmp 25) (.tmp 24) b2 (0 + ((2 * 128 * a) + 128) * 1) (Value.cells (arr 256 (tb 128 a))) (Value.cells (arr 256 (tb 128 (a + 1)))) 40 (.int .u32 ((BitVec.toNat ((nth (tb 128 a) (2 * 128 * a)) ^^^ (mv (1 : BitVec 32))) : Nat) : Int)) (by kernel_rfl) (by kernel_rfl) (by kernel_rfl) (by kernel_rfl) (by kernel_rfl) (by kernel_rfl) (by show _ + 1 ≤ 256; omega) (arr_put (k := ((2 * 128 * a) + 128)) (x := (nth (tb 128 a) (2 * 128 * a)) ^^^ (mv (1 : BitVec 32))) (by omega) (by omega) (fun j hj => tb_go (bit := 128) (a := a) (r := mv (1 : BitVec 32)) (by omega) (by omega) (tab_val 0 (by omega) a (by omega)) j hj)) (by kernel_rfl) ?_
    intro w5 H5; clear H4
    refine s_nil ?_
    show WP _ _ _ _ _ _
    refine g_reg0 [0, 1, 2, 3, 4] (by kernel_rfl) ?_
    refine s_val (some 13) (.int .i64 ((2 * 128 * a : Nat) : Int)) (fun w => by kernel_rfl) (by kernel_rfl) ?_
    refine s_val (some 14) (.int .i64 128) (fun w => by kernel_rfl) (by kernel_rfl) ?_
    refine s_val (some 15) (.int .i64 256) (fun w => by kernel_rfl) (by kernel_rfl) ?_
    refine s_valE (some 16) (.int .i64 (IntKind.i64.wrap (((2 * 128 * a : Nat) : Int) + 256))) (.int .i64 (((2 * 128 * a) + 256 : Nat) : Int)) (fun w => by kernel_rfl) (int_eq (wrapAdd_i64 (a := 2 * 128 * a) (b := 256) (by omega))) (by kernel_rfl) ?_
    refine s_val (some 4) (.int .i64 (((2 * 128 * a) + 256 : Nat) : Int)) (fun w => by kernel_rfl) (by kernel_rfl) ?_
    refine s_nil ?_
    rw [show (((2 * 128 * a) + 256 : Nat) : Int) = ((2 * 128 * (a + 1) : Nat) : Int) from by omega]
    show ∃ m, _ ∧ _
    exact ⟨_, (by omega), (a + 1), rfl, (by omega), H5, (Is.of ⟨(by kernel_rfl), (by kernel_rfl), (by kernel_rfl), (by kernel_rfl), (by kernel_rfl), (by kernel_rfl), trivial⟩)⟩
  · skip
    refine s_valE (some 12) (.bool (decide (((2 * 128 * a : Nat) : Int) < 256))) (.bool false) (fun w => by kernel_rfl) (bool_eq (decide_eq_false (by omega))) (by kernel_rfl) ?_
    refine s_nil ?_
    refine g_cond_f (by kernel_rfl) (by kernel_rfl) ?_
    refine g_exit 2 (by kernel_rfl) ?_
    show WP _ _ _ _ _ _
    refine g_reg0 [0, 1, 2] (by kernel_rfl) ?_
    refine s_val (some 7) (.int .i64 128) (fun w => by kernel_rfl) (by kernel_rfl) ?_
    refine s_val (some 8) (.int .i64 64) (fun w => by kernel_rfl) (by kernel_rfl) ?_
    refine s_val (some 3) (.int .i64 64) (fun w => by kernel_rfl) (by kernel_rfl) ?_
    refine s_nil ?_
    show WPL _ _ _ _ _ _
    refine g_next ?_
    refine g_seq (by kernel_rfl) ?_
    refine g_sreg [0, 1] (by kernel_rfl) (by kernel_rfl) ?_
    refine s_val (some 5) (.int .i64 64) (fun w => by kernel_rfl) (by kernel_rfl) ?_
    refine s_val (some 6) (.bool true) (fun w => by kernel_rfl) (by kernel_rfl) ?_
    refine s_nil ?_
    refine g_cond_t (by kernel_rfl) (by kernel_rfl) ?_
    refine g_skip (by kernel_rfl) ?_
    show WP _ _ _ _ _ _
    refine g_seq (by kernel_rfl) ?_
    refine g_block 1 (by kernel_rfl) ?_
    refine g_sreg [0, 1, 2] (by kernel_rfl) (by kernel_rfl) ?_
    refine s_val (some 9) (.int .u32 ((BitVec.toNat (mv (1 : BitVec 32)) : Nat) : Int)) (fun w => by kernel_rfl) (by kernel_rfl) ?_
    refine s_call H4 (some 10) 24 #[.int .u32 ((BitVec.toNat (mv (1 : BitVec 32)) : Nat) : Int)] (.int .u32 ((BitVec.toNat (mv (mv (1 : BitVec 32))) : Nat) : Int)) (moved_fn (mv (1 : BitVec 32))) (fun w => by kernel_rfl) (by kernel_rfl) ?_
    intro w6 H6; clear H4
    refine s_val (some 2) (.int .u32 ((BitVec.toNat (mv (mv (1 : BitVec 32))) : Nat) : Int)) (fun w => by kernel_rfl) (by kernel_rfl) ?_
    refine s_nil ?_
    refine g_sreg [0] (by kernel_rfl) (by kernel_rfl) ?_
    refine s_val (some 4) (.int .i64 0) (fun w => by kernel_rfl) (by kernel_rfl) ?_
    refine s_nil ?_
    refine g_block 2 (by kernel_rfl) ?_
    have hacc4 : arr 256 (tb 128 a) = arr 256 (tb 64 0) := arr_congr (fun j hj => by rw [tb_end (by omega) (by omega) j hj, tb_start 64 j hj])
    have HA4 : St w.heap.size w w6 [(b2, Obj.cells (Value.cells (arr 256 (tb 64 0))) 40 (0, 0)), (b1, Obj.cells (Value.cells (zeroV .u32 256)) 40 (0, 0))] := by rw [← hacc4]; exact H6
    refine g_loop (by kernel_rfl) (fun mz ρ ww => ∃ (a : Nat), 256 - 2 * 64 * a = mz ∧ (2 * 64 * a ≤ 256) ∧ St w.heap.size w ww [(b2, Obj.cells (Value.cells (arr 256 (tb 64 a))) 40 (0, 0)), (b1, Obj.cells (Value.cells (zeroV .u32 256)) 40 (0, 0))] ∧ Is [(0, .pointer (some ⟨b1, 0, none⟩)), (1, .pointer (some ⟨b2, 0, none⟩)), (2, .int .u32 ((BitVec.toNat (mv (mv (1 : BitVec 32))) : Nat) : Int)), (3, .int .i64 64), (4, .int .i64 ((2 * 64 * a : Nat) : Int)), (6, .bool true)] ρ) (256 - 2 * 64 * 0) ⟨0, rfl, (by omega), HA4, (Is.of ⟨(by kernel_rfl), (by kernel_rfl), (by kernel_rfl), (by kernel_rfl), (by kernel_rfl), (by kernel_rfl), trivial⟩)⟩ ?_
    clear HA4
    rintro _ _ w7 ⟨a, rfl, ha, H7, _, rfl⟩
    refine g_seq (by kernel_rfl) ?_
    refine g_sreg [0, 1] (by kernel_rfl) (by kernel_rfl) ?_
    refine s_val (some 11) (.int .i64 ((2 * 64 * a : Nat) : Int)) (fun w => by kernel_rfl) (by kernel_rfl) ?_
    by_cases hc5 : (2 * 64 * a : Nat) < 256
    · skip
      refine s_valE (some 12) (.bool (decide (((2 * 64 * a : Nat) : Int) < 256))) (.bool true) (fun w => by kernel_rfl) (bool_eq (decide_eq_true (by omega))) (by kernel_rfl) ?_
      refine s_nil ?_
      refine g_cond_t (by kernel_rfl) (by kernel_rfl) ?_
      refine g_skip (by kernel_rfl) ?_
      show WP _ _ _ _ _ _
      refine g_seq (by kernel_rfl) ?_
      refine g_block 3 (by kernel_rfl) ?_
      refine g_reg0 [0, 1, 2, 3, 4, 5, 6, 7, 8, 9] (by kernel_rfl) ?_
      refine s_val (some 17) (.int .i64 ((2 * 64 * a : Nat) : Int)) (fun w => by kernel_rfl) (by kernel_rfl) ?_
      refine s_val (some 18) (.int .i64 64) (fun w => by kernel_rfl) (by kernel_rfl) ?_
      refine s_valE (some 19) (.int .i64 (IntKind.i64.wrap (((2 * 64 * a : Nat) : Int) + 64))) (.int .i64 (((2 * 64 * a) + 64 : Nat) : Int)) (fun w => by kernel_rfl) (int_eq (wrapAdd_i64 (a := 2 * 64 * a) (b := 64) (by omega))) (by kernel_rfl) ?_
      refine s_val (some 20) (.int .i64 ((2 * 64 * a : Nat) : Int)) (fun w => by kernel_rfl) (by kernel_rfl) ?_
      refine s_op (some 21) _ (.pointer (some ⟨b2, 0 + (2 * 64 * a) * 1, none⟩)) (by kernel_rfl) (by kernel_rfl) (fun o w ho => idxA_run (kd := .i64) (t := 40) (n := 256) (size := 1) (by kernel_rfl) (x := (.tmp 1)) (y := (.tmp 20)) b2 0 (2 * 64 * a) ho (by kernel_rfl) (by kernel_rfl) (by omega) w) ?_
      refine s_load1 H7 (some 22) 25 (.tmp 21) 0 b2 (0 + (2 * 64 * a) * 1) (Value.cells (arr 256 (tb 64 a))) 40 (0, 0) (.int .u32 ((BitVec.toNat (nth (tb 64 a) (2 * 64 * a)) : Nat) : Int)) (by kernel_rfl) (by kernel_rfl) (by kernel_rfl) (by kernel_rfl) (by kernel_rfl) (arr_at (n := 256) (tb 64 a) (k := (2 * 64 * a)) (by omega) (by omega)) ?_
      refine s_val (some 23) (.int .u32 ((BitVec.toNat (mv (mv (1 : BitVec 32))) : Nat) : Int)) (fun w => by kernel_rfl) (by kernel_rfl) ?_
      refine s_valE (some 24) (.int .u32 (Go.bits .xor .u32 (((BitVec.toNat (nth (tb 64 a) (2 * 64 * a)) : Nat) : Int)) (((BitVec.toNat (mv (mv (1 : BitVec 32))) : Nat) : Int)))) (.int .u32 ((BitVec.toNat ((nth (tb 64 a) (2 * 64 * a)) ^^^ (mv (mv (1 : BitVec 32)))) : Nat) : Int)) (fun w => by kernel_rfl) (bv_xor_u32 (nth (tb 64 a) (2 * 64 * a)) (mv (mv (1 : BitVec 32)))) (by kernel_rfl) ?_
      refine s_op (some 25) _ (.pointer (some ⟨b2, 0 + ((2 * 64 * a) + 64) * 1, none⟩)) (by kernel_rfl) (by kernel_rfl) (fun o w ho => idxA_run (kd := .i64) (t := 40) (n := 256) (size := 1) (by kernel_rfl) (x := (.tmp 1)) (y := (.tmp 19)) b2 0 ((2 * 64 * a) + 64) ho (by kernel_rfl) (by kernel_rfl) (by omega) w) ?_
      refine s_store H7 0 [(b2, Obj.cells (Value.cells (arr 256 (tb 64 (a + 1)))) 40 (0, 0)), (b1, Obj.cells (Value.cells (zeroV .u32 256)) 40 (0, 0))] 25 (.tmp 25) (.tmp 24) b2 (0 + ((2 * 64 * a) + 64) * 1) (Value.cells (arr 256 (tb 64 a))) (Value.cells (arr 256 (tb 64 (a + 1)))) 40 (.int .u32 ((BitVec.toNat ((nth (tb 64 a) (2 * 64 * a)) ^^^ (mv (mv (1 : BitVec 32)))) : Nat) : Int)) (by kernel_rfl) (by kernel_rfl) (by kernel_rfl) (by kernel_rfl) (by kernel_rfl) (by kernel_rfl) (by show _ + 1 ≤ 256; omega) (arr_put (k := ((2 * 64 * a) + 64)) (x := (nth (tb 64 a) (2 * 64 * a)) ^^^ (mv (mv (1 : BitVec 32)))) (by omega) (by omega) (fun j hj => tb_go (bit := 64) (a := a) (r := mv (mv (1 : BitVec 32))) (by omega) (by omega) (tab_val 1 (by omega) a (by omega)) j hj)) (by kernel_rfl) ?_
      intro w8 H8; clear H7
      refine s_nil ?_
      show WP _ _ _ _ _ _
      refine g_reg0 [0, 1, 2, 3, 4] (by kernel_rfl) ?_
      refine s_val (some 13) (.int .i64 ((2 * 64 * a : Nat) : Int)) (fun w => by kernel_rfl) (by kernel_rfl) ?_
      refine s_val (some 14) (.int .i64 64) (fun w => by kernel_rfl) (by kernel_rfl) ?_
      refine s_val (some 15) (.int .i64 128) (fun w => by kernel_rfl) (by kernel_rfl) ?_
      refine s_valE (some 16) (.int .i64 (IntKind.i64.wrap (((2 * 64 * a : Nat) : Int) + 128))) (.int .i64 (((2 * 64 * a) + 128 : Nat) : Int)) (fun w => by kernel_rfl) (int_eq (wrapAdd_i64 (a := 2 * 64 * a) (b := 128) (by omega))) (by kernel_rfl) ?_
      refine s_val (some 4) (.int .i64 (((2 * 64 * a) + 128 : Nat) : Int)) (fun w => by kernel_rfl) (by kernel_rfl) ?_
      refine s_nil ?_
      rw [show (((2 * 64 * a) + 128 : Nat) : Int) = ((2 * 64 * (a + 1) : Nat) : Int) from by omega]
      show ∃ m, _ ∧ _
      exact ⟨_, (by omega), (a + 1), rfl, (by omega), H8, (Is.of ⟨(by kernel_rfl), (by kernel_rfl), (by kernel_rfl), (by kernel_rfl), (by kernel_rfl), (by kernel_rfl), trivial⟩)⟩
    · skip
      refine s_valE (some 12) (.bool (decide (((2 * 64 * a : Nat) : Int) < 256))) (.bool false) (fun w => by kernel_rfl) (bool_eq (decide_eq_false (by omega))) (by kernel_rfl) ?_
      refine s_nil ?_
      refine g_cond_f (by kernel_rfl) (by kernel_rfl) ?_
      refine g_exit 2 (by kernel_rfl) ?_
      show WP _ _ _ _ _ _
      refine g_reg0 [0, 1, 2] (by kernel_rfl) ?_
      refine s_val (some 7) (.int .i64 64) (fun w => by kernel_rfl) (by kernel_rfl) ?_
      refine s_val (some 8) (.int .i64 32) (fun w => by kernel_rfl) (by kernel_rfl) ?_
      refine s_val (some 3) (.int .i64 32) (fun w => by kernel_rfl) (by kernel_rfl) ?_
      refine s_nil ?_
      show WPL _ _ _ _ _ _
      refine g_next ?_
      refine g_seq (by kernel_rfl) ?_
      refine g_sreg [0, 1] (by kernel_rfl) (by kernel_rfl) ?_
      refine s_val (some 5) (.int .i64 32) (fun w => by kernel_rfl) (by kernel_rfl) ?_
      refine s_val (some 6) (.bool true) (fun w => by kernel_rfl) (by kernel_rfl) ?_
      refine s_nil ?_
      refine g_cond_t (by kernel_rfl) (by kernel_rfl) ?_
      refine g_skip (by kernel_rfl) ?_
      show WP _ _ _ _ _ _
      refine g_seq (by kernel_rfl) ?_
      refine g_block 1 (by kernel_rfl) ?_
      refine g_sreg [0, 1, 2] (by kernel_rfl) (by kernel_rfl) ?_
      refine s_val (some 9) (.int .u32 ((BitVec.toNat (mv (mv (1 : BitVec 32))) : Nat) : Int)) (fun w => by kernel_rfl) (by kernel_rfl) ?_
      refine s_call H7 (some 10) 24 #[.int .u32 ((BitVec.toNat (mv (mv (1 : BitVec 32))) : Nat) : Int)] (.int .u32 ((BitVec.toNat (mv (mv (mv (1 : BitVec 32)))) : Nat) : Int)) (moved_fn (mv (mv (1 : BitVec 32)))) (fun w => by kernel_rfl) (by kernel_rfl) ?_
      intro w9 H9; clear H7
      refine s_val (some 2) (.int .u32 ((BitVec.toNat (mv (mv (mv (1 : BitVec 32)))) : Nat) : Int)) (fun w => by kernel_rfl) (by kernel_rfl) ?_
      refine s_nil ?_
      refine g_sreg [0] (by kernel_rfl) (by kernel_rfl) ?_
      refine s_val (some 4) (.int .i64 0) (fun w => by kernel_rfl) (by kernel_rfl) ?_
      refine s_nil ?_
      refine g_block 2 (by kernel_rfl) ?_
      have hacc6 : arr 256 (tb 64 a) = arr 256 (tb 32 0) := arr_congr (fun j hj => by rw [tb_end (by omega) (by omega) j hj, tb_start 32 j hj])
      have HA6 : St w.heap.size w w9 [(b2, Obj.cells (Value.cells (arr 256 (tb 32 0))) 40 (0, 0)), (b1, Obj.cells (Value.cells (zeroV .u32 256)) 40 (0, 0))] := by rw [← hacc6]; exact H9
      refine g_loop (by kernel_rfl) (fun mz ρ ww => ∃ (a : Nat), 256 - 2 * 32 * a = mz ∧ (2 * 32 * a ≤ 256) ∧ St w.heap.size w ww [(b2, Obj.cells (Value.cells (arr 256 (tb 32 a))) 40 (0, 0)), (b1, Obj.cells (Value.cells (zeroV .u32 256)) 40 (0, 0))] ∧ Is [(0, .pointer (some ⟨b1, 0, none⟩)), (1, .pointer (some ⟨b2, 0, none⟩)), (2, .int .u32 ((BitVec.toNat (mv (mv (mv (1 : BitVec 32)))) : Nat) : Int)), (3, .int .i64 32), (4, .int .i64 ((2 * 32 * a : Nat) : Int)), (6, .bool true)] ρ) (256 - 2 * 32 * 0) ⟨0, rfl, (by omega), HA6, (Is.of ⟨(by kernel_rfl), (by kernel_rfl), (by kernel_rfl), (by kernel_rfl), (by kernel_rfl), (by kernel_rfl), trivial⟩)⟩ ?_
      clear HA6
      rintro _ _ w10 ⟨a, rfl, ha, H10, _, rfl⟩
      refine g_seq (by kernel_rfl) ?_
      refine g_sreg [0, 1] (by kernel_rfl) (by kernel_rfl) ?_
      refine s_val (some 11) (.int .i64 ((2 * 32 * a : Nat) : Int)) (fun w => by kernel_rfl) (by kernel_rfl) ?_
      by_cases hc7 : (2 * 32 * a : Nat) < 256
      · skip
        refine s_valE (some 12) (.bool (decide (((2 * 32 * a : Nat) : Int) < 256))) (.bool true) (fun w => by kernel_rfl) (bool_eq (decide_eq_true (by omega))) (by kernel_rfl) ?_
        refine s_nil ?_
        refine g_cond_t (by kernel_rfl) (by kernel_rfl) ?_
        refine g_skip (by kernel_rfl) ?_
        show WP _ _ _ _ _ _
        refine g_seq (by kernel_rfl) ?_
        refine g_block 3 (by kernel_rfl) ?_
        refine g_reg0 [0, 1, 2, 3, 4, 5, 6, 7, 8, 9] (by kernel_rfl) ?_
        refine s_val (some 17) (.int .i64 ((2 * 32 * a : Nat) : Int)) (fun w => by kernel_rfl) (by kernel_rfl) ?_
        refine s_val (some 18) (.int .i64 32) (fun w => by kernel_rfl) (by kernel_rfl) ?_
        refine s_valE (some 19) (.int .i64 (IntKind.i64.wrap (((2 * 32 * a : Nat) : Int) + 32))) (.int .i64 (((2 * 32 * a) + 32 : Nat) : Int)) (fun w => by kernel_rfl) (int_eq (wrapAdd_i64 (a := 2 * 32 * a) (b := 32) (by omega))) (by kernel_rfl) ?_
        refine s_val (some 20) (.int .i64 ((2 * 32 * a : Nat) : Int)) (fun w => by kernel_rfl) (by kernel_rfl) ?_
        refine s_op (some 21) _ (.pointer (some ⟨b2, 0 + (2 * 32 * a) * 1, none⟩)) (by kernel_rfl) (by kernel_rfl) (fun o w ho => idxA_run (kd := .i64) (t := 40) (n := 256) (size := 1) (by kernel_rfl) (x := (.tmp 1)) (y := (.tmp 20)) b2 0 (2 * 32 * a) ho (by kernel_rfl) (by kernel_rfl) (by omega) w) ?_
        refine s_load1 H10 (some 22) 25 (.tmp 21) 0 b2 (0 + (2 * 32 * a) * 1) (Value.cells (arr 256 (tb 32 a))) 40 (0, 0) (.int .u32 ((BitVec.toNat (nth (tb 32 a) (2 * 32 * a)) : Nat) : Int)) (by kernel_rfl) (by kernel_rfl) (by kernel_rfl) (by kernel_rfl) (by kernel_rfl) (arr_at (n := 256) (tb 32 a) (k := (2 * 32 * a)) (by omega) (by omega)) ?_
        refine s_val (some 23) (.int .u32 ((BitVec.toNat (mv (mv (mv (1 : BitVec 32)))) : Nat) : Int)) (fun w => by kernel_rfl) (by kernel_rfl) ?_
        refine s_valE (some 24) (.int .u32 (Go.bits .xor .u32 (((BitVec.toNat (nth (tb 32 a) (2 * 32 * a)) : Nat) : Int)) (((BitVec.toNat (mv (mv (mv (1 : BitVec 32)))) : Nat) : Int)))) (.int .u32 ((BitVec.toNat ((nth (tb 32 a) (2 * 32 * a)) ^^^ (mv (mv (mv (1 : BitVec 32))))) : Nat) : Int)) (fun w => by kernel_rfl) (bv_xor_u32 (nth (tb 32 a) (2 * 32 * a)) (mv (mv (mv (1 : BitVec 32))))) (by kernel_rfl) ?_
        refine s_op (some 25) _ (.pointer (some ⟨b2, 0 + ((2 * 32 * a) + 32) * 1, none⟩)) (by kernel_rfl) (by kernel_rfl) (fun o w ho => idxA_run (kd := .i64) (t := 40) (n := 256) (size := 1) (by kernel_rfl) (x := (.tmp 1)) (y := (.tmp 19)) b2 0 ((2 * 32 * a) + 32) ho (by kernel_rfl) (by kernel_rfl) (by omega) w) ?_
        refine s_store H10 0 [(b2, Obj.cells (Value.cells (arr 256 (tb 32 (a + 1)))) 40 (0, 0)), (b1, Obj.cells (Value.cells (zeroV .u32 256)) 40 (0, 0))] 25 (.tmp 25) (.tmp 24) b2 (0 + ((2 * 32 * a) + 32) * 1) (Value.cells (arr 256 (tb 32 a))) (Value.cells (arr 256 (tb 32 (a + 1)))) 40 (.int .u32 ((BitVec.toNat ((nth (tb 32 a) (2 * 32 * a)) ^^^ (mv (mv (mv (1 : BitVec 32))))) : Nat) : Int)) (by kernel_rfl) (by kernel_rfl) (by kernel_rfl) (by kernel_rfl) (by kernel_rfl) (by kernel_rfl) (by show _ + 1 ≤ 256; omega) (arr_put (k := ((2 * 32 * a) + 32)) (x := (nth (tb 32 a) (2 * 32 * a)) ^^^ (mv (mv (mv (1 : BitVec 32))))) (by omega) (by omega) (fun j hj => tb_go (bit := 32) (a := a) (r := mv (mv (mv (1 : BitVec 32)))) (by omega) (by omega) (tab_val 2 (by omega) a (by omega)) j hj)) (by kernel_rfl) ?_
        intro w11 H11; clear H10
        refine s_nil ?_
        show WP _ _ _ _ _ _
        refine g_reg0 [0, 1, 2, 3, 4] (by kernel_rfl) ?_
        refine s_val (some 13) (.int .i64 ((2 * 32 * a : Nat) : Int)) (fun w => by kernel_rfl) (by kernel_rfl) ?_
        refine s_val (some 14) (.int .i64 32) (fun w => by kernel_rfl) (by kernel_rfl) ?_
        refine s_val (some 15) (.int .i64 64) (fun w => by kernel_rfl) (by kernel_rfl) ?_
        refine s_valE (some 16) (.int .i64 (IntKind.i64.wrap (((2 * 32 * a : Nat) : Int) + 64))) (.int .i64 (((2 * 32 * a) + 64 : Nat) : Int)) (fun w => by kernel_rfl) (int_eq (wrapAdd_i64 (a := 2 * 32 * a) (b := 64) (by omega))) (by kernel_rfl) ?_
        refine s_val (some 4) (.int .i64 (((2 * 32 * a) + 64 : Nat) : Int)) (fun w => by kernel_rfl) (by kernel_rfl) ?_
        refine s_nil ?_
        rw [show (((2 * 32 * a) + 64 : Nat) : Int) = ((2 * 32 * (a + 1) : Nat) : Int) from by omega]
        show ∃ m, _ ∧ _
        exact ⟨_, (by omega), (a + 1), rfl, (by omega), H11, (Is.of ⟨(by kernel_rfl), (by kernel_rfl), (by kernel_rfl), (by kernel_rfl), (by kernel_rfl), (by kernel_rfl), trivial⟩)⟩
      · skip
        refine s_valE (some 12) (.bool (decide (((2 * 32 * a : Nat) : Int) < 256))) (.bool false) (fun w => by kernel_rfl) (bool_eq (decide_eq_false (by omega))) (by kernel_rfl) ?_
        refine s_nil ?_
        refine g_cond_f (by kernel_rfl) (by kernel_rfl) ?_
        refine g_exit 2 (by kernel_rfl) ?_
        show WP _ _ _ _ _ _
        refine g_reg0 [0, 1, 2] (by kernel_rfl) ?_
        refine s_val (some 7) (.int .i64 32) (fun w => by kernel_rfl) (by kernel_rfl) ?_
        refine s_val (some 8) (.int .i64 16) (fun w => by kernel_rfl) (by kernel_rfl) ?_
        refine s_val (some 3) (.int .i64 16) (fun w => by kernel_rfl) (by kernel_rfl) ?_
        refine s_nil ?_
        show WPL _ _ _ _ _ _
        refine g_next ?_
        refine g_seq (by kernel_rfl) ?_
        refine g_sreg [0, 1] (by kernel_rfl) (by kernel_rfl) ?_
        refine s_val (some 5) (.int .i64 16) (fun w => by kernel_rfl) (by kernel_rfl) ?_
        refine s_val (some 6) (.bool true) (fun w => by kernel_rfl) (by kernel_rfl) ?_
        refine s_nil ?_
        refine g_cond_t (by kernel_rfl) (by kernel_rfl) ?_
        refine g_skip (by kernel_rfl) ?_
        show WP _ _ _ _ _ _
        refine g_seq (by kernel_rfl) ?_
        refine g_block 1 (by kernel_rfl) ?_
        refine g_sreg [0, 1, 2] (by kernel_rfl) (by kernel_rfl) ?_
        refine s_val (some 9) (.int .u32 ((BitVec.toNat (mv (mv (mv (1 : BitVec 32)))) : Nat) : Int)) (fun w => by kernel_rfl) (by kernel_rfl) ?_
        refine s_call H10 (some 10) 24 #[.int .u32 ((BitVec.toNat (mv (mv (mv (1 : BitVec 32)))) : Nat) : Int)] (.int .u32 ((BitVec.toNat (mv (mv (mv (mv (1 : BitVec 32))))) : Nat) : Int)) (moved_fn (mv (mv (mv (1 : BitVec 32))))) (fun w => by kernel_rfl) (by kernel_rfl) ?_
        intro w12 H12; clear H10
        refine s_val (some 2) (.int .u32 ((BitVec.toNat (mv (mv (mv (mv (1 : BitVec 32))))) : Nat) : Int)) (fun w => by kernel_rfl) (by kernel_rfl) ?_
        refine s_nil ?_
        refine g_sreg [0] (by kernel_rfl) (by kernel_rfl) ?_
        refine s_val (some 4) (.int .i64 0) (fun w => by kernel_rfl) (by kernel_rfl) ?_
        refine s_nil ?_
        refine g_block 2 (by kernel_rfl) ?_
        have hacc8 : arr 256 (tb 32 a) = arr 256 (tb 16 0) := arr_congr (fun j hj => by rw [tb_end (by omega) (by omega) j hj, tb_start 16 j hj])
        have HA8 : St w.heap.size w w12 [(b2, Obj.cells (Value.cells (arr 256 (tb 16 0))) 40 (0, 0)), (b1, Obj.cells (Value.cells (zeroV .u32 256)) 40 (0, 0))] := by rw [← hacc8]; exact H12
        refine g_loop (by kernel_rfl) (fun mz ρ ww => ∃ (a : Nat), 256 - 2 * 16 * a = mz ∧ (2 * 16 * a ≤ 256) ∧ St w.heap.size w ww [(b2, Obj.cells (Value.cells (arr 256 (tb 16 a))) 40 (0, 0)), (b1, Obj.cells (Value.cells (zeroV .u32 256)) 40 (0, 0))] ∧ Is [(0, .pointer (some ⟨b1, 0, none⟩)), (1, .pointer (some ⟨b2, 0, none⟩)), (2, .int .u32 ((BitVec.toNat (mv (mv (mv (mv (1 : BitVec 32))))) : Nat) : Int)), (3, .int .i64 16), (4, .int .i64 ((2 * 16 * a : Nat) : Int)), (6, .bool true)] ρ) (256 - 2 * 16 * 0) ⟨0, rfl, (by omega), HA8, (Is.of ⟨(by kernel_rfl), (by kernel_rfl), (by kernel_rfl), (by kernel_rfl), (by kernel_rfl), (by kernel_rfl), trivial⟩)⟩ ?_
        clear HA8
        rintro _ _ w13 ⟨a, rfl, ha, H13, _, rfl⟩
        refine g_seq (by kernel_rfl) ?_
        refine g_sreg [0, 1] (by kernel_rfl) (by kernel_rfl) ?_
        refine s_val (some 11) (.int .i64 ((2 * 16 * a : Nat) : Int)) (fun w => by kernel_rfl) (by kernel_rfl) ?_
        by_cases hc9 : (2 * 16 * a : Nat) < 256
        · skip
          refine s_valE (some 12) (.bool (decide (((2 * 16 * a : Nat) : Int) < 256))) (.bool true) (fun w => by kernel_rfl) (bool_eq (decide_eq_true (by omega))) (by kernel_rfl) ?_
          refine s_nil ?_
          refine g_cond_t (by kernel_rfl) (by kernel_rfl) ?_
          refine g_skip (by kernel_rfl) ?_
          show WP _ _ _ _ _ _
          refine g_seq (by kernel_rfl) ?_
          refine g_block 3 (by kernel_rfl) ?_
          refine g_reg0 [0, 1, 2, 3, 4, 5, 6, 7, 8, 9] (by kernel_rfl) ?_
          refine s_val (some 17) (.int .i64 ((2 * 16 * a : Nat) : Int)) (fun w => by kernel_rfl) (by kernel_rfl) ?_
          refine s_val (some 18) (.int .i64 16) (fun w => by kernel_rfl) (by kernel_rfl) ?_
          refine s_valE (some 19) (.int .i64 (IntKind.i64.wrap (((2 * 16 * a : Nat) : Int) + 16))) (.int .i64 (((2 * 16 * a) + 16 : Nat) : Int)) (fun w => by kernel_rfl) (int_eq (wrapAdd_i64 (a := 2 * 16 * a) (b := 16) (by omega))) (by kernel_rfl) ?_
          refine s_val (some 20) (.int .i64 ((2 * 16 * a : Nat) : Int)) (fun w => by kernel_rfl) (by kernel_rfl) ?_
          refine s_op (some 21) _ (.pointer (some ⟨b2, 0 + (2 * 16 * a) * 1, none⟩)) (by kernel_rfl) (by kernel_rfl) (fun o w ho => idxA_run (kd := .i64) (t := 40) (n := 256) (size := 1) (by kernel_rfl) (x := (.tmp 1)) (y := (.tmp 20)) b2 0 (2 * 16 * a) ho (by kernel_rfl) (by kernel_rfl) (by omega) w) ?_
          refine s_load1 H13 (some 22) 25 (.tmp 21) 0 b2 (0 + (2 * 16 * a) * 1) (Value.cells (arr 256 (tb 16 a))) 40 (0, 0) (.int .u32 ((BitVec.toNat (nth (tb 16 a) (2 * 16 * a)) : Nat) : Int)) (by kernel_rfl) (by kernel_rfl) (by kernel_rfl) (by kernel_rfl) (by kernel_rfl) (arr_at (n := 256) (tb 16 a) (k := (2 * 16 * a)) (by omega) (by omega)) ?_
          refine s_val (some 23) (.int .u32 ((BitVec.toNat (mv (mv (mv (mv (1 : BitVec 32))))) : Nat) : Int)) (fun w => by kernel_rfl) (by kernel_rfl) ?_
          refine s_valE (some 24) (.int .u32 (Go.bits .xor .u32 (((BitVec.toNat (nth (tb 16 a) (2 * 16 * a)) : Nat) : Int)) (((BitVec.toNat (mv (mv (mv (mv (1 : BitVec 32))))) : Nat) : Int)))) (.int .u32 ((BitVec.toNat ((nth (tb 16 a) (2 * 16 * a)) ^^^ (mv (mv (mv (mv (1 : BitVec 32)))))) : Nat) : Int)) (fun w => by kernel_rfl) (bv_xor_u32 (nth (tb 16 a) (2 * 16 * a)) (mv (mv (mv (mv (1 : BitVec 32)))))) (by kernel_rfl) ?_
          refine s_op (some 25) _ (.pointer (some ⟨b2, 0 + ((2 * 16 * a) + 16) * 1, none⟩)) (by kernel_rfl) (by kernel_rfl) (fun o w ho => idxA_run (kd := .i64) (t := 40) (n := 256) (size := 1) (by kernel_rfl) (x := (.tmp 1)) (y := (.tmp 19)) b2 0 ((2 * 16 * a) + 16) ho (by kernel_rfl) (by kernel_rfl) (by omega) w) ?_
          refine s_store H13 0 [(b2, Obj.cells (Value.cells (arr 256 (tb 16 (a + 1)))) 40 (0, 0)), (b1, Obj.cells (Value.cells (zeroV .u32 256)) 40 (0, 0))] 25 (.tmp 25) (.tmp 24) b2 (0 + ((2 * 16 * a) + 16) * 1) (Value.cells (arr 256 (tb 16 a))) (Value.cells (arr 256 (tb 16 (a + 1)))) 40 (.int .u32 ((BitVec.toNat ((nth (tb 16 a) (2 * 16 * a)) ^^^ (mv (mv (mv (mv (1 : BitVec 32)))))) : Nat) : Int)) (by kernel_rfl) (by kernel_rfl) (by kernel_rfl) (by kernel_rfl) (by kernel_rfl) (by kernel_rfl) (by show _ + 1 ≤ 256; omega) (arr_put (k := ((2 * 16 * a) + 16)) (x := (nth (tb 16 a) (2 * 16 * a)) ^^^ (mv (mv (mv (mv (1 : BitVec 32)))))) (by omega) (by omega) (fun j hj => tb_go (bit := 16) (a := a) (r := mv (mv (mv (mv (1 : BitVec 32))))) (by omega) (by omega) (tab_val 3 (by omega) a (by omega)) j hj)) (by kernel_rfl) ?_
          intro w14 H14; clear H13
          refine s_nil ?_
          show WP _ _ _ _ _ _
          refine g_reg0 [0, 1, 2, 3, 4] (by kernel_rfl) ?_
          refine s_val (some 13) (.int .i64 ((2 * 16 * a : Nat) : Int)) (fun w => by kernel_rfl) (by kernel_rfl) ?_
          refine s_val (some 14) (.int .i64 16) (fun w => by kernel_rfl) (by kernel_rfl) ?_
          refine s_val (some 15) (.int .i64 32) (fun w => by kernel_rfl) (by kernel_rfl) ?_
          refine s_valE (some 16) (.int .i64 (IntKind.i64.wrap (((2 * 16 * a : Nat) : Int) + 32))) (.int .i64 (((2 * 16 * a) + 32 : Nat) : Int)) (fun w => by kernel_rfl) (int_eq (wrapAdd_i64 (a := 2 * 16 * a) (b := 32) (by omega))) (by kernel_rfl) ?_
          refine s_val (some 4) (.int .i64 (((2 * 16 * a) + 32 : Nat) : Int)) (fun w => by kernel_rfl) (by kernel_rfl) ?_
          refine s_nil ?_
          rw [show (((2 * 16 * a) + 32 : Nat) : Int) = ((2 * 16 * (a + 1) : Nat) : Int) from by omega]
          show ∃ m, _ ∧ _
          exact ⟨_, (by omega), (a + 1), rfl, (by omega), H14, (Is.of ⟨(by kernel_rfl), (by kernel_rfl), (by kernel_rfl), (by kernel_rfl), (by kernel_rfl), (by kernel_rfl), trivial⟩)⟩
        · skip
          refine s_valE (some 12) (.bool (decide (((2 * 16 * a : Nat) : Int) < 256))) (.bool false) (fun w => by kernel_rfl) (bool_eq (decide_eq_false (by omega))) (by kernel_rfl) ?_
          refine s_nil ?_
          refine g_cond_f (by kernel_rfl) (by kernel_rfl) ?_
          refine g_exit 2 (by kernel_rfl) ?_
          show WP _ _ _ _ _ _
          refine g_reg0 [0, 1, 2] (by kernel_rfl) ?_
          refine s_val (some 7) (.int .i64 16) (fun w => by kernel_rfl) (by kernel_rfl) ?_
          refine s_val (some 8) (.int .i64 8) (fun w => by kernel_rfl) (by kernel_rfl) ?_
          refine s_val (some 3) (.int .i64 8) (fun w => by kernel_rfl) (by kernel_rfl) ?_
          refine s_nil ?_
          show WPL _ _ _ _ _ _
          refine g_next ?_
          refine g_seq (by kernel_rfl) ?_
          refine g_sreg [0, 1] (by kernel_rfl) (by kernel_rfl) ?_
          refine s_val (some 5) (.int .i64 8) (fun w => by kernel_rfl) (by kernel_rfl) ?_
          refine s_val (some 6) (.bool true) (fun w => by kernel_rfl) (by kernel_rfl) ?_
          refine s_nil ?_
          refine g_cond_t (by kernel_rfl) (by kernel_rfl) ?_
          refine g_skip (by kernel_rfl) ?_
          show WP _ _ _ _ _ _
          refine g_seq (by kernel_rfl) ?_
          refine g_block 1 (by kernel_rfl) ?_
          refine g_sreg [0, 1, 2] (by kernel_rfl) (by kernel_rfl) ?_
          refine s_val (some 9) (.int .u32 ((BitVec.toNat (mv (mv (mv (mv (1 : BitVec 32))))) : Nat) : Int)) (fun w => by kernel_rfl) (by kernel_rfl) ?_
          refine s_call H13 (some 10) 24 #[.int .u32 ((BitVec.toNat (mv (mv (mv (mv (1 : BitVec 32))))) : Nat) : Int)] (.int .u32 ((BitVec.toNat (mv (mv (mv (mv (mv (1 : BitVec 32)))))) : Nat) : Int)) (moved_fn (mv (mv (mv (mv (1 : BitVec 32)))))) (fun w => by kernel_rfl) (by kernel_rfl) ?_
          intro w15 H15; clear H13
          refine s_val (some 2) (.int .u32 ((BitVec.toNat (mv (mv (mv (mv (mv (1 : BitVec 32)))))) : Nat) : Int)) (fun w => by kernel_rfl) (by kernel_rfl) ?_
          refine s_nil ?_
          refine g_sreg [0] (by kernel_rfl) (by kernel_rfl) ?_
          refine s_val (some 4) (.int .i64 0) (fun w => by kernel_rfl) (by kernel_rfl) ?_
          refine s_nil ?_
          refine g_block 2 (by kernel_rfl) ?_
          have hacc10 : arr 256 (tb 16 a) = arr 256 (tb 8 0) := arr_congr (fun j hj => by rw [tb_end (by omega) (by omega) j hj, tb_start 8 j hj])
          have HA10 : St w.heap.size w w15 [(b2, Obj.cells (Value.cells (arr 256 (tb 8 0))) 40 (0, 0)), (b1, Obj.cells (Value.cells (zeroV .u32 256)) 40 (0, 0))] := by rw [← hacc10]; exact H15
          refine g_loop (by kernel_rfl) (fun mz ρ ww => ∃ (a : Nat), 256 - 2 * 8 * a = mz ∧ (2 * 8 * a ≤ 256) ∧ St w.heap.size w ww [(b2, Obj.cells (Value.cells (arr 256 (tb 8 a))) 40 (0, 0)), (b1, Obj.cells (Value.cells (zeroV .u32 256)) 40 (0, 0))] ∧ Is [(0, .pointer (some ⟨b1, 0, none⟩)), (1, .pointer (some ⟨b2, 0, none⟩)), (2, .int .u32 ((BitVec.toNat (mv (mv (mv (mv (mv (1 : BitVec 32)))))) : Nat) : Int)), (3, .int .i64 8), (4, .int .i64 ((2 * 8 * a : Nat) : Int)), (6, .bool true)] ρ) (256 - 2 * 8 * 0) ⟨0, rfl, (by omega), HA10, (Is.of ⟨(by kernel_rfl), (by kernel_rfl), (by kernel_rfl), (by kernel_rfl), (by kernel_rfl), (by kernel_rfl), trivial⟩)⟩ ?_
          clear HA10
          rintro _ _ w16 ⟨a, rfl, ha, H16, _, rfl⟩
          refine g_seq (by kernel_rfl) ?_
          refine g_sreg [0, 1] (by kernel_rfl) (by kernel_rfl) ?_
          refine s_val (some 11) (.int .i64 ((2 * 8 * a : Nat) : Int)) (fun w => by kernel_rfl) (by kernel_rfl) ?_
          by_cases hc11 : (2 * 8 * a : Nat) < 256
          · skip
            refine s_valE (some 12) (.bool (decide (((2 * 8 * a : Nat) : Int) < 256))) (.bool true) (fun w => by kernel_rfl) (bool_eq (decide_eq_true (by omega))) (by kernel_rfl) ?_
            refine s_nil ?_
            refine g_cond_t (by kernel_rfl) (by kernel_rfl) ?_
            refine g_skip (by kernel_rfl) ?_
            show WP _ _ _ _ _ _
            refine g_seq (by kernel_rfl) ?_
            refine g_block 3 (by kernel_rfl) ?_
            refine g_reg0 [0, 1, 2, 3, 4, 5, 6, 7, 8, 9] (by kernel_rfl) ?_
            refine s_val (some 17) (.int .i64 ((2 * 8 * a : Nat) : Int)) (fun w => by kernel_rfl) (by kernel_rfl) ?_
            refine s_val (some 18) (.int .i64 8) (fun w => by kernel_rfl) (by kernel_rfl) ?_
            refine s_valE (some 19) (.int .i64 (IntKind.i64.wrap (((2 * 8 * a : Nat) : Int) + 8))) (.int .i64 (((2 * 8 * a) + 8 : Nat) : Int)) (fun w => by kernel_rfl) (int_eq (wrapAdd_i64 (a := 2 * 8 * a) (b := 8) (by omega))) (by kernel_rfl) ?_
            refine s_val (some 20) (.int .i64 ((2 * 8 * a : Nat) : Int)) (fun w => by kernel_rfl) (by kernel_rfl) ?_
            refine s_op (some 21) _ (.pointer (some ⟨b2, 0 + (2 * 8 * a) * 1, none⟩)) (by kernel_rfl) (by kernel_rfl) (fun o w ho => idxA_run (kd := .i64) (t := 40) (n := 256) (size := 1) (by kernel_rfl) (x := (.tmp 1)) (y := (.tmp 20)) b2 0 (2 * 8 * a) ho (by kernel_rfl) (by kernel_rfl) (by omega) w) ?_
            refine s_load1 H16 (some 22) 25 (.tmp 21) 0 b2 (0 + (2 * 8 * a) * 1) (Value.cells (arr 256 (tb 8 a))) 40 (0, 0) (.int .u32 ((BitVec.toNat (nth (tb 8 a) (2 * 8 * a)) : Nat) : Int)) (by kernel_rfl) (by kernel_rfl) (by kernel_rfl) (by kernel_rfl) (by kernel_rfl) (arr_at (n := 256) (tb 8 a) (k := (2 * 8 * a)) (by omega) (by omega)) ?_
            refine s_val (some 23) (.int .u32 ((BitVec.toNat (mv (mv (mv (mv (mv (1 : BitVec 32)))))) : Nat) : Int)) (fun w => by kernel_rfl) (by kernel_rfl) ?_
            refine s_valE (some 24) (.int .u32 (Go.bits .xor .u32 (((BitVec.toNat (nth (tb 8 a) (2 * 8 * a)) : Nat) : Int)) (((BitVec.toNat (mv (mv (mv (mv (mv (1 : BitVec 32)))))) : Nat) : Int)))) (.int .u32 ((BitVec.toNat ((nth (tb 8 a) (2 * 8 * a)) ^^^ (mv (mv (mv (mv (mv (1 : BitVec 32))))))) : Nat) : Int)) (fun w => by kernel_rfl) (bv_xor_u32 (nth (tb 8 a) (2 * 8 * a)) (mv (mv (mv (mv (mv (1 : BitVec 32))))))) (by kernel_rfl) ?_
            refine s_op (some 25) _ (.pointer (some ⟨b2, 0 + ((2 * 8 * a) + 8) * 1, none⟩)) (by kernel_rfl) (by kernel_rfl) (fun o w ho => idxA_run (kd := .i64) (t := 40) (n := 256) (size := 1) (by kernel_rfl) (x := (.tmp 1)) (y := (.tmp 19)) b2 0 ((2 * 8 * a) + 8) ho (by kernel_rfl) (by kernel_rfl) (by omega) w) ?_
            refine s_store H16 0 [(b2, Obj.cells (Value.cells (arr 256 (tb 8 (a + 1)))) 40 (0, 0)), (b1, Obj.cells (Value.cells (zeroV .u32 256)) 40 (0, 0))] 25 (.tmp 25) (.tmp 24) b2 (0 + ((2 * 8 * a) + 8) * 1) (Value.cells (arr 256 (tb 8 a))) (Value.cells (arr 256 (tb 8 (a + 1)))) 40 (.int .u32 ((BitVec.toNat ((nth (tb 8 a) (2 * 8 * a)) ^^^ (mv (mv (mv (mv (mv (1 : BitVec 32))))))) : Nat) : Int)) (by kernel_rfl) (by kernel_rfl) (by kernel_rfl) (by kernel_rfl) (by kernel_rfl) (by kernel_rfl) (by show _ + 1 ≤ 256; omega) (arr_put (k := ((2 * 8 * a) + 8)) (x := (nth (tb 8 a) (2 * 8 * a)) ^^^ (mv (mv (mv (mv (mv (1 : BitVec 32))))))) (by omega) (by omega) (fun j hj => tb_go (bit := 8) (a := a) (r := mv (mv (mv (mv (mv (1 : BitVec 32)))))) (by omega) (by omega) (tab_val 4 (by omega) a (by omega)) j hj)) (by kernel_rfl) ?_
            intro w17 H17; clear H16
            refine s_nil ?_
            show WP _ _ _ _ _ _
            refine g_reg0 [0, 1, 2, 3, 4] (by kernel_rfl) ?_
            refine s_val (some 13) (.int .i64 ((2 * 8 * a : Nat) : Int)) (fun w => by kernel_rfl) (by kernel_rfl) ?_
            refine s_val (some 14) (.int .i64 8) (fun w => by kernel_rfl) (by kernel_rfl) ?_
            refine s_val (some 15) (.int .i64 16) (fun w => by kernel_rfl) (by kernel_rfl) ?_
            refine s_valE (some 16) (.int .i64 (IntKind.i64.wrap (((2 * 8 * a : Nat) : Int) + 16))) (.int .i64 (((2 * 8 * a) + 16 : Nat) : Int)) (fun w => by kernel_rfl) (int_eq (wrapAdd_i64 (a := 2 * 8 * a) (b := 16) (by omega))) (by kernel_rfl) ?_
            refine s_val (some 4) (.int .i64 (((2 * 8 * a) + 16 : Nat) : Int)) (fun w => by kernel_rfl) (by kernel_rfl) ?_
            refine s_nil ?_
            rw [show (((2 * 8 * a) + 16 : Nat) : Int) = ((2 * 8 * (a + 1) : Nat) : Int) from by omega]
            show ∃ m, _ ∧ _
            exact ⟨_, (by omega), (a + 1), rfl, (by omega), H17, (Is.of ⟨(by kernel_rfl), (by kernel_rfl), (by kernel_rfl), (by kernel_rfl), (by kernel_rfl), (by kernel_rfl), trivial⟩)⟩
          · skip
            refine s_valE (some 12) (.bool (decide (((2 * 8 * a : Nat) : Int) < 256))) (.bool false) (fun w => by kernel_rfl) (bool_eq (decide_eq_false (by omega))) (by kernel_rfl) ?_
            refine s_nil ?_
            refine g_cond_f (by kernel_rfl) (by kernel_rfl) ?_
            refine g_exit 2 (by kernel_rfl) ?_
            show WP _ _ _ _ _ _
            refine g_reg0 [0, 1, 2] (by kernel_rfl) ?_
            refine s_val (some 7) (.int .i64 8) (fun w => by kernel_rfl) (by kernel_rfl) ?_
            refine s_val (some 8) (.int .i64 4) (fun w => by kernel_rfl) (by kernel_rfl) ?_
            refine s_val (some 3) (.int .i64 4) (fun w => by kernel_rfl) (by kernel_rfl) ?_
            refine s_nil ?_
            show WPL _ _ _ _ _ _
            refine g_next ?_
            refine g_seq (by kernel_rfl) ?_
            refine g_sreg [0, 1] (by kernel_rfl) (by kernel_rfl) ?_
            refine s_val (some 5) (.int .i64 4) (fun w => by kernel_rfl) (by kernel_rfl) ?_
            refine s_val (some 6) (.bool true) (fun w => by kernel_rfl) (by kernel_rfl) ?_
            refine s_nil ?_
            refine g_cond_t (by kernel_rfl) (by kernel_rfl) ?_
            refine g_skip (by kernel_rfl) ?_
            show WP _ _ _ _ _ _
            refine g_seq (by kernel_rfl) ?_
            refine g_block 1 (by kernel_rfl) ?_
            refine g_sreg [0, 1, 2] (by kernel_rfl) (by kernel_rfl) ?_
            refine s_val (some 9) (.int .u32 ((BitVec.toNat (mv (mv (mv (mv (mv (1 : BitVec 32)))))) : Nat) : Int)) (fun w => by kernel_rfl) (by kernel_rfl) ?_
            refine s_call H16 (some 10) 24 #[.int .u32 ((BitVec.toNat (mv (mv (mv (mv (mv (1 : BitVec 32)))))) : Nat) : Int)] (.int .u32 ((BitVec.toNat (mv (mv (mv (mv (mv (mv (1 : BitVec 32))))))) : Nat) : Int)) (moved_fn (mv (mv (mv (mv (mv (1 : BitVec 32))))))) (fun w => by kernel_rfl) (by kernel_rfl) ?_
            intro w18 H18; clear H16
            refine s_val (some 2) (.int .u32 ((BitVec.toNat (mv (mv (mv (mv (mv (mv (1 : BitVec 32))))))) : Nat) : Int)) (fun w => by kernel_rfl) (by kernel_rfl) ?_
            refine s_nil ?_
            refine g_sreg [0] (by kernel_rfl) (by kernel_rfl) ?_
            refine s_val (some 4) (.int .i64 0) (fun w => by kernel_rfl) (by kernel_rfl) ?_
            refine s_nil ?_
            refine g_block 2 (by kernel_rfl) ?_
            have hacc12 : arr 256 (tb 8 a) = arr 256 (tb 4 0) := arr_congr (fun j hj => by rw [tb_end (by omega) (by omega) j hj, tb_start 4 j hj])
            have HA12 : St w.heap.size w w18 [(b2, Obj.cells (Value.cells (arr 256 (tb 4 0))) 40 (0, 0)), (b1, Obj.cells (Value.cells (zeroV .u32 256)) 40 (0, 0))] := by rw [← hacc12]; exact H18
            refine g_loop (by kernel_rfl) (fun mz ρ ww => ∃ (a : Nat), 256 - 2 * 4 * a = mz ∧ (2 * 4 * a ≤ 256) ∧ St w.heap.size w ww [(b2, Obj.cells (Value.cells (arr 256 (tb 4 a))) 40 (0, 0)), (b1, Obj.cells (Value.cells (zeroV .u32 256)) 40 (0, 0))] ∧ Is [(0, .pointer (some ⟨b1, 0, none⟩)), (1, .pointer (some ⟨b2, 0, none⟩)), (2, .int .u32 ((BitVec.toNat (mv (mv (mv (mv (mv (mv (1 : BitVec 32))))))) : Nat) : Int)), (3, .int .i64 4), (4, .int .i64 ((2 * 4 * a : Nat) : Int)), (6, .bool true)] ρ) (256 - 2 * 4 * 0) ⟨0, rfl, (by omega), HA12, (Is.of ⟨(by kernel_rfl), (by kernel_rfl), (by kernel_rfl), (by kernel_rfl), (by kernel_rfl), (by kernel_rfl), trivial⟩)⟩ ?_
            clear HA12
            rintro _ _ w19 ⟨a, rfl, ha, H19, _, rfl⟩
            refine g_seq (by kernel_rfl) ?_
            refine g_sreg [0, 1] (by kernel_rfl) (by kernel_rfl) ?_
            refine s_val (some 11) (.int .i64 ((2 * 4 * a : Nat) : Int)) (fun w => by kernel_rfl) (by kernel_rfl) ?_
            by_cases hc13 : (2 * 4 * a : Nat) < 256
            · skip
              refine s_valE (some 12) (.bool (decide (((2 * 4 * a : Nat) : Int) < 256))) (.bool true) (fun w => by kernel_rfl) (bool_eq (decide_eq_true (by omega))) (by kernel_rfl) ?_
              refine s_nil ?_
              refine g_cond_t (by kernel_rfl) (by kernel_rfl) ?_
              refine g_skip (by kernel_rfl) ?_
              show WP _ _ _ _ _ _
              refine g_seq (by kernel_rfl) ?_
              refine g_block 3 (by kernel_rfl) ?_
              refine g_reg0 [0, 1, 2, 3, 4, 5, 6, 7, 8, 9] (by kernel_rfl) ?_
              refine s_val (some 17) (.int .i64 ((2 * 4 * a : Nat) : Int)) (fun w => by kernel_rfl) (by kernel_rfl) ?_
              refine s_val (some 18) (.int .i64 4) (fun w => by kernel_rfl) (by kernel_rfl) ?_
              refine s_valE (some 19) (.int .i64 (IntKind.i64.wrap (((2 * 4 * a : Nat) : Int) + 4))) (.int .i64 (((2 * 4 * a) + 4 : Nat) : Int)) (fun w => by kernel_rfl) (int_eq (wrapAdd_i64 (a := 2 * 4 * a) (b := 4) (by omega))) (by kernel_rfl) ?_
              refine s_val (some 20) (.int .i64 ((2 * 4 * a : Nat) : Int)) (fun w => by kernel_rfl) (by kernel_rfl) ?_
              refine s_op (some 21) _ (.pointer (some ⟨b2, 0 + (2 * 4 * a) * 1, none⟩)) (by kernel_rfl) (by kernel_rfl) (fun o w ho => idxA_run (kd := .i64) (t := 40) (n := 256) (size := 1) (by kernel_rfl) (x := (.tmp 1)) (y := (.tmp 20)) b2 0 (2 * 4 * a) ho (by kernel_rfl) (by kernel_rfl) (by omega) w) ?_
              refine s_load1 H19 (some 22) 25 (.tmp 21) 0 b2 (0 + (2 * 4 * a) * 1) (Value.cells (arr 256 (tb 4 a))) 40 (0, 0) (.int .u32 ((BitVec.toNat (nth (tb 4 a) (2 * 4 * a)) : Nat) : Int)) (by kernel_rfl) (by kernel_rfl) (by kernel_rfl) (by kernel_rfl) (by kernel_rfl) (arr_at (n := 256) (tb 4 a) (k := (2 * 4 * a)) (by omega) (by omega)) ?_
              refine s_val (some 23) (.int .u32 ((BitVec.toNat (mv (mv (mv (mv (mv (mv (1 : BitVec 32))))))) : Nat) : Int)) (fun w => by kernel_rfl) (by kernel_rfl) ?_
              refine s_valE (some 24) (.int .u32 (Go.bits .xor .u32 (((BitVec.toNat (nth (tb 4 a) (2 * 4 * a)) : Nat) : Int)) (((BitVec.toNat (mv (mv (mv (mv (mv (mv (1 : BitVec 32))))))) : Nat) : Int)))) (.int .u32 ((BitVec.toNat ((nth (tb 4 a) (2 * 4 * a)) ^^^ (mv (mv (mv (mv (mv (mv (1 : BitVec 32)))))))) : Nat) : Int)) (fun w => by kernel_rfl) (bv_xor_u32 (nth (tb 4 a) (2 * 4 * a)) (mv (mv (mv (mv (mv (mv (1 : BitVec 32)))))))) (by kernel_rfl) ?_
              refine s_op (some 25) _ (.pointer (some ⟨b2, 0 + ((2 * 4 * a) + 4) * 1, none⟩)) (by kernel_rfl) (by kernel_rfl) (fun o w ho => idxA_run (kd := .i64) (t := 40) (n := 256) (size := 1) (by kernel_rfl) (x := (.tmp 1)) (y := (.tmp 19)) b2 0 ((2 * 4 * a) + 4) ho (by kernel_rfl) (by kernel_rfl) (by omega) w) ?_
              refine s_store H19 0 [(b2, Obj.cells (Value.cells (arr 256 (tb 4 (a + 1)))) 40 (0, 0)), (b1, Obj.cells (Value.cells (zeroV .u32 256)) 40 (0, 0))] 25 (.tmp 25) (.tmp 24) b2 (0 + ((2 * 4 * a) + 4) * 1) (Value.cells (arr 256 (tb 4 a))) (Value.cells (arr 256 (tb 4 (a + 1)))) 40 (.int .u32 ((BitVec.toNat ((nth (tb 4 a) (2 * 4 * a)) ^^^ (mv (mv (mv (mv (mv (mv (1 : BitVec 32)))))))) : Nat) : Int)) (by kernel_rfl) (by kernel_rfl) (by kernel_rfl) (by kernel_rfl) (by kernel_rfl) (by kernel_rfl) (by show _ + 1 ≤ 256; omega) (arr_put (k := ((2 * 4 * a) + 4)) (x := (nth (tb 4 a) (2 * 4 * a)) ^^^ (mv (mv (mv (mv (mv (mv (1 : BitVec 32)))))))) (by omega) (by omega) (fun j hj => tb_go (bit := 4) (a := a) (r := mv (mv (mv (mv (mv (mv (1 : BitVec 32))))))) (by omega) (by omega) (tab_val 5 (by omega) a (by omega)) j hj)) (by kernel_rfl) ?_
              intro w20 H20; clear H19
              refine s_nil ?_
              show WP _ _ _ _ _ _
              refine g_reg0 [0, 1, 2, 3, 4] (by kernel_rfl) ?_
              refine s_val (some 13) (.int .i64 ((2 * 4 * a : Nat) : Int)) (fun w => by kernel_rfl) (by kernel_rfl) ?_
              refine s_val (some 14) (.int .i64 4) (fun w => by kernel_rfl) (by kernel_rfl) ?_
              refine s_val (some 15) (.int .i64 8) (fun w => by kernel_rfl) (by kernel_rfl) ?_
              refine s_valE (some 16) (.int .i64 (IntKind.i64.wrap (((2 * 4 * a : Nat) : Int) + 8))) (.int .i64 (((2 * 4 * a) + 8 : Nat) : Int)) (fun w => by kernel_rfl) (int_eq (wrapAdd_i64 (a := 2 * 4 * a) (b := 8) (by omega))) (by kernel_rfl) ?_
              refine s_val (some 4) (.int .i64 (((2 * 4 * a) + 8 : Nat) : Int)) (fun w => by kernel_rfl) (by kernel_rfl) ?_
              refine s_nil ?_
              rw [show (((2 * 4 * a) + 8 : Nat) : Int) = ((2 * 4 * (a + 1) : Nat) : Int) from by omega]
              show ∃ m, _ ∧ _
              exact ⟨_, (by omega), (a + 1), rfl, (by omega), H20, (Is.of ⟨(by kernel_rfl), (by kernel_rfl), (by kernel_rfl), (by kernel_rfl), (by kernel_rfl), (by kernel_rfl), trivial⟩)⟩
            · skip
              refine s_valE (some 12) (.bool (decide (((2 * 4 * a : Nat) : Int) < 256))) (.bool false) (fun w => by kernel_rfl) (bool_eq (decide_eq_false (by omega))) (by kernel_rfl) ?_
              refine s_nil ?_
              refine g_cond_f (by kernel_rfl) (by kernel_rfl) ?_
              refine g_exit 2 (by kernel_rfl) ?_
              show WP _ _ _ _ _ _
              refine g_reg0 [0, 1, 2] (by kernel_rfl) ?_
              refine s_val (some 7) (.int .i64 4) (fun w => by kernel_rfl) (by kernel_rfl) ?_
              refine s_val (some 8) (.int .i64 2) (fun w => by kernel_rfl) (by kernel_rfl) ?_
              refine s_val (some 3) (.int .i64 2) (fun w => by kernel_rfl) (by kernel_rfl) ?_
              refine s_nil ?_
              show WPL _ _ _ _ _ _
              refine g_next ?_
              refine g_seq (by kernel_rfl) ?_
              refine g_sreg [0, 1] (by kernel_rfl) (by kernel_rfl) ?_
              refine s_val (some 5) (.int .i64 2) (fun w => by kernel_rfl) (by kernel_rfl) ?_
              refine s_val (some 6) (.bool true) (fun w => by kernel_rfl) (by kernel_rfl) ?_
              refine s_nil ?_
              refine g_cond_t (by kernel_rfl) (by kernel_rfl) ?_
              refine g_skip (by kernel_rfl) ?_
              show WP _ _ _ _ _ _
              refine g_seq (by kernel_rfl) ?_
              refine g_block 1 (by kernel_rfl) ?_
              refine g_sreg [0, 1, 2] (by kernel_rfl) (by kernel_rfl) ?_
              refine s_val (some 9) (.int .u32 ((BitVec.toNat (mv (mv (mv (mv (mv (mv (1 : BitVec 32))))))) : Nat) : Int)) (fun w => by kernel_rfl) (by kernel_rfl) ?_
              refine s_call H19 (some 10) 24 #[.int .u32 ((BitVec.toNat (mv (mv (mv (mv (mv (mv (1 : BitVec 32))))))) : Nat) : Int)] (.int .u32 ((BitVec.toNat (mv (mv (mv (mv (mv (mv (mv (1 : BitVec 32)))))))) : Nat) : Int)) (moved_fn (mv (mv (mv (mv (mv (mv (1 : BitVec 32)))))))) (fun w => by kernel_rfl) (by kernel_rfl) ?_
              intro w21 H21; clear H19
              refine s_val (some 2) (.int .u32 ((BitVec.toNat (mv (mv (mv (mv (mv (mv (mv (1 : BitVec 32)))))))) : Nat) : Int)) (fun w => by kernel_rfl) (by kernel_rfl) ?_
              refine s_nil ?_
              refine g_sreg [0] (by kernel_rfl) (by kernel_rfl) ?_
              refine s_val (some 4) (.int .i64 0) (fun w => by kernel_rfl) (by kernel_rfl) ?_
              refine s_nil ?_
              refine g_block 2 (by kernel_rfl) ?_
              have hacc14 : arr 256 (tb 4 a) = arr 256 (tb 2 0) := arr_congr (fun j hj => by rw [tb_end (by omega) (by omega) j hj, tb_start 2 j hj])
              have HA14 : St w.heap.size w w21 [(b2, Obj.cells (Value.cells (arr 256 (tb 2 0))) 40 (0, 0)), (b1, Obj.cells (Value.cells (zeroV .u32 256)) 40 (0, 0))] := by rw [← hacc14]; exact H21
              refine g_loop (by kernel_rfl) (fun mz ρ ww => ∃ (a : Nat), 256 - 2 * 2 * a = mz ∧ (2 * 2 * a ≤ 256) ∧ St w.heap.size w ww [(b2, Obj.cells (Value.cells (arr 256 (tb 2 a))) 40 (0, 0)), (b1, Obj.cells (Value.cells (zeroV .u32 256)) 40 (0, 0))] ∧ Is [(0, .pointer (some ⟨b1, 0, none⟩)), (1, .pointer (some ⟨b2, 0, none⟩)), (2, .int .u32 ((BitVec.toNat (mv (mv (mv (mv (mv (mv (mv (1 : BitVec 32)))))))) : Nat) : Int)), (3, .int .i64 2), (4, .int .i64 ((2 * 2 * a : Nat) : Int)), (6, .bool true)] ρ) (256 - 2 * 2 * 0) ⟨0, rfl, (by omega), HA14, (Is.of ⟨(by kernel_rfl), (by kernel_rfl), (by kernel_rfl), (by kernel_rfl), (by kernel_rfl), (by kernel_rfl), trivial⟩)⟩ ?_
              clear HA14
              rintro _ _ w22 ⟨a, rfl, ha, H22, _, rfl⟩
              refine g_seq (by kernel_rfl) ?_
              refine g_sreg [0, 1] (by kernel_rfl) (by kernel_rfl) ?_
              refine s_val (some 11) (.int .i64 ((2 * 2 * a : Nat) : Int)) (fun w => by kernel_rfl) (by kernel_rfl) ?_
              by_cases hc15 : (2 * 2 * a : Nat) < 256
              · skip
                refine s_valE (some 12) (.bool (decide (((2 * 2 * a : Nat) : Int) < 256))) (.bool true) (fun w => by kernel_rfl) (bool_eq (decide_eq_true (by omega))) (by kernel_rfl) ?_
                refine s_nil ?_
                refine g_cond_t (by kernel_rfl) (by kernel_rfl) ?_
                refine g_skip (by kernel_rfl) ?_
                show WP _ _ _ _ _ _
                refine g_seq (by kernel_rfl) ?_
                refine g_block 3 (by kernel_rfl) ?_
                refine g_reg0 [0, 1, 2, 3, 4, 5, 6, 7, 8, 9] (by kernel_rfl) ?_
                refine s_val (some 17) (.int .i64 ((2 * 2 * a : Nat) : Int)) (fun w => by kernel_rfl) (by kernel_rfl) ?_
                refine s_val (some 18) (.int .i64 2) (fun w => by kernel_rfl) (by kernel_rfl) ?_
                refine s_valE (some 19) (.int .i64 (IntKind.i64.wrap (((2 * 2 * a : Nat) : Int) + 2))) (.int .i64 (((2 * 2 * a) + 2 : Nat) : Int)) (fun w => by kernel_rfl) (int_eq (wrapAdd_i64 (a := 2 * 2 * a) (b := 2) (by omega))) (by kernel_rfl) ?_
                refine s_val (some 20) (.int .i64 ((2 * 2 * a : Nat) : Int)) (fun w => by kernel_rfl) (by kernel_rfl) ?_
                refine s_op (some 21) _ (.pointer (some ⟨b2, 0 + (2 * 2 * a) * 1, none⟩)) (by kernel_rfl) (by kernel_rfl) (fun o w ho => idxA_run (kd := .i64) (t := 40) (n := 256) (size := 1) (by kernel_rfl) (x := (.tmp 1)) (y := (.tmp 20)) b2 0 (2 * 2 * a) ho (by kernel_rfl) (by kernel_rfl) (by omega) w) ?_
                refine s_load1 H22 (some 22) 25 (.tmp 21) 0 b2 (0 + (2 * 2 * a) * 1) (Value.cells (arr 256 (tb 2 a))) 40 (0, 0) (.int .u32 ((BitVec.toNat (nth (tb 2 a) (2 * 2 * a)) : Nat) : Int)) (by kernel_rfl) (by kernel_rfl) (by kernel_rfl) (by kernel_rfl) (by kernel_rfl) (arr_at (n := 256) (tb 2 a) (k := (2 * 2 * a)) (by omega) (by omega)) ?_
                refine s_val (some 23) (.int .u32 ((BitVec.toNat (mv (mv (mv (mv (mv (mv (mv (1 : BitVec 32)))))))) : Nat) : Int)) (fun w => by kernel_rfl) (by kernel_rfl) ?_
                refine s_valE (some 24) (.int .u32 (Go.bits .xor .u32 (((BitVec.toNat (nth (tb 2 a) (2 * 2 * a)) : Nat) : Int)) (((BitVec.toNat (mv (mv (mv (mv (mv (mv (mv (1 : BitVec 32)))))))) : Nat) : Int)))) (.int .u32 ((BitVec.toNat ((nth (tb 2 a) (2 * 2 * a)) ^^^ (mv (mv (mv (mv (mv (mv (mv (1 : BitVec 32))))))))) : Nat) : Int)) (fun w => by kernel_rfl) (bv_xor_u32 (nth (tb 2 a) (2 * 2 * a)) (mv (mv (mv (mv (mv (mv (mv (1 : BitVec 32))))))))) (by kernel_rfl) ?_
                refine s_op (some 25) _ (.pointer (some ⟨b2, 0 + ((2 * 2 * a) + 2) * 1, none⟩)) (by kernel_rfl) (by kernel_rfl) (fun o w ho => idxA_run (kd := .i64) (t := 40) (n := 256) (size := 1) (by kernel_rfl) (x := (.tmp 1)) (y := (.tmp 19)) b2 0 ((2 * 2 * a) + 2) ho (by kernel_rfl) (by kernel_rfl) (by omega) w) ?_
                refine s_store H22 0 [(b2, Obj.cells (Value.cells (arr 256 (tb 2 (a + 1)))) 40 (0, 0)), (b1, Obj.cells (Value.cells (zeroV .u32 256)) 40 (0, 0))] 25 (.tmp 25) (.tmp 24) b2 (0 + ((2 * 2 * a) + 2) * 1) (Value.cells (arr 256 (tb 2 a))) (Value.cells (arr 256 (tb 2 (a + 1)))) 40 (.int .u32 ((BitVec.toNat ((nth (tb 2 a) (2 * 2 * a)) ^^^ (mv (mv (mv (mv (mv (mv (mv (1 : BitVec 32))))))))) : Nat) : Int)) (by kernel_rfl) (by kernel_rfl) (by kernel_rfl) (by kernel_rfl) (by kernel_rfl) (by kernel_rfl) (by show _ + 1 ≤ 256; omega) (arr_put (k := ((2 * 2 * a) + 2)) (x := (nth (tb 2 a) (2 * 2 * a)) ^^^ (mv (mv (mv (mv (mv (mv (mv (1 : BitVec 32))))))))) (by omega) (by omega) (fun j hj => tb_go (bit := 2) (a := a) (r := mv (mv (mv (mv (mv (mv (mv (1 : BitVec 32)))))))) (by omega) (by omega) (tab_val 6 (by omega) a (by omega)) j hj)) (by kernel_rfl) ?_
                intro w23 H23; clear H22
                refine s_nil ?_
                show WP _ _ _ _ _ _
                refine g_reg0 [0, 1, 2, 3, 4] (by kernel_rfl) ?_
                refine s_val (some 13) (.int .i64 ((2 * 2 * a : Nat) : Int)) (fun w => by kernel_rfl) (by kernel_rfl) ?_
                refine s_val (some 14) (.int .i64 2) (fun w => by kernel_rfl) (by kernel_rfl) ?_
                refine s_val (some 15) (.int .i64 4) (fun w => by kernel_rfl) (by kernel_rfl) ?_
                refine s_valE (some 16) (.int .i64 (IntKind.i64.wrap (((2 * 2 * a : Nat) : Int) + 4))) (.int .i64 (((2 * 2 * a) + 4 : Nat) : Int)) (fun w => by kernel_rfl) (int_eq (wrapAdd_i64 (a := 2 * 2 * a) (b := 4) (by omega))) (by kernel_rfl) ?_
                refine s_val (some 4) (.int .i64 (((2 * 2 * a) + 4 : Nat) : Int)) (fun w => by kernel_rfl) (by kernel_rfl) ?_
                refine s_nil ?_
                rw [show (((2 * 2 * a) + 4 : Nat) : Int) = ((2 * 2 * (a + 1) : Nat) : Int) from by omega]
                show ∃ m, _ ∧ _
                exact ⟨_, (by omega), (a + 1), rfl, (by omega), H23, (Is.of ⟨(by kernel_rfl), (by kernel_rfl), (by kernel_rfl), (by kernel_rfl), (by kernel_rfl), (by kernel_rfl), trivial⟩)⟩
              · skip
                refine s_valE (some 12) (.bool (decide (((2 * 2 * a : Nat) : Int) < 256))) (.bool false) (fun w => by kernel_rfl) (bool_eq (decide_eq_false (by omega))) (by kernel_rfl) ?_
                refine s_nil ?_
                refine g_cond_f (by kernel_rfl) (by kernel_rfl) ?_
                refine g_exit 2 (by kernel_rfl) ?_
                show WP _ _ _ _ _ _
                refine g_reg0 [0, 1, 2] (by kernel_rfl) ?_
                refine s_val (some 7) (.int .i64 2) (fun w => by kernel_rfl) (by kernel_rfl) ?_
                refine s_val (some 8) (.int .i64 1) (fun w => by kernel_rfl) (by kernel_rfl) ?_
                refine s_val (some 3) (.int .i64 1) (fun w => by kernel_rfl) (by kernel_rfl) ?_
                refine s_nil ?_
                show WPL _ _ _ _ _ _
                refine g_next ?_
                refine g_seq (by kernel_rfl) ?_
                refine g_sreg [0, 1] (by kernel_rfl) (by kernel_rfl) ?_
                refine s_val (some 5) (.int .i64 1) (fun w => by kernel_rfl) (by kernel_rfl) ?_
                refine s_val (some 6) (.bool true) (fun w => by kernel_rfl) (by kernel_rfl) ?_
                refine s_nil ?_
                refine g_cond_t (by kernel_rfl) (by kernel_rfl) ?_
                refine g_skip (by kernel_rfl) ?_
                show WP _ _ _ _ _ _
                refine g_seq (by kernel_rfl) ?_
                refine g_block 1 (by kernel_rfl) ?_
                refine g_sreg [0, 1, 2] (by kernel_rfl) (by kernel_rfl) ?_
                refine s_val (some 9) (.int .u32 ((BitVec.toNat (mv (mv (mv (mv (mv (mv (mv (1 : BitVec 32)))))))) : Nat) : Int)) (fun w => by kernel_rfl) (by kernel_rfl) ?_
                refine s_call H22 (some 10) 24 #[.int .u32 ((BitVec.toNat (mv (mv (mv (mv (mv (mv (mv (1 : BitVec 32)))))))) : Nat) : Int)] (.int .u32 ((BitVec.toNat (mv (mv (mv (mv (mv (mv (mv (mv (1 : BitVec 32))))))))) : Nat) : Int)) (moved_fn (mv (mv (mv (mv (mv (mv (mv (1 : BitVec 32))))))))) (fun w => by kernel_rfl) (by kernel_rfl) ?_
                intro w24 H24; clear H22
                refine s_val (some 2) (.int .u32 ((BitVec.toNat (mv (mv (mv (mv (mv (mv (mv (mv (1 : BitVec 32))))))))) : Nat) : Int)) (fun w => by kernel_rfl) (by kernel_rfl) ?_
                refine s_nil ?_
                refine g_sreg [0] (by kernel_rfl) (by kernel_rfl) ?_
                refine s_val (some 4) (.int .i64 0) (fun w => by kernel_rfl) (by kernel_rfl) ?_
                refine s_nil ?_
                refine g_block 2 (by kernel_rfl) ?_
                have hacc16 : arr 256 (tb 2 a) = arr 256 (tb 1 0) := arr_congr (fun j hj => by rw [tb_end (by omega) (by omega) j hj, tb_start 1 j hj])
                have HA16 : St w.heap.size w w24 [(b2, Obj.cells (Value.cells (arr 256 (tb 1 0))) 40 (0, 0)), (b1, Obj.cells (Value.cells (zeroV .u32 256)) 40 (0, 0))] := by rw [← hacc16]; exact H24
                refine g_loop (by kernel_rfl) (fun mz ρ ww => ∃ (a : Nat), 256 - 2 * 1 * a = mz ∧ (2 * 1 * a ≤ 256) ∧ St w.heap.size w ww [(b2, Obj.cells (Value.cells (arr 256 (tb 1 a))) 40 (0, 0)), (b1, Obj.cells (Value.cells (zeroV .u32 256)) 40 (0, 0))] ∧ Is [(0, .pointer (some ⟨b1, 0, none⟩)), (1, .pointer (some ⟨b2, 0, none⟩)), (2, .int .u32 ((BitVec.toNat (mv (mv (mv (mv (mv (mv (mv (mv (1 : BitVec 32))))))))) : Nat) : Int)), (3, .int .i64 1), (4, .int .i64 ((2 * 1 * a : Nat) : Int)), (6, .bool true)] ρ) (256 - 2 * 1 * 0) ⟨0, rfl, (by omega), HA16, (Is.of ⟨(by kernel_rfl), (by kernel_rfl), (by kernel_rfl), (by kernel_rfl), (by kernel_rfl), (by kernel_rfl), trivial⟩)⟩ ?_
                clear HA16
                rintro _ _ w25 ⟨a, rfl, ha, H25, _, rfl⟩
                refine g_seq (by kernel_rfl) ?_
                refine g_sreg [0, 1] (by kernel_rfl) (by kernel_rfl) ?_
                refine s_val (some 11) (.int .i64 ((2 * 1 * a : Nat) : Int)) (fun w => by kernel_rfl) (by kernel_rfl) ?_
                by_cases hc17 : (2 * 1 * a : Nat) < 256
                · skip
                  refine s_valE (some 12) (.bool (decide (((2 * 1 * a : Nat) : Int) < 256))) (.bool true) (fun w => by kernel_rfl) (bool_eq (decide_eq_true (by omega))) (by kernel_rfl) ?_
                  refine s_nil ?_
                  refine g_cond_t (by kernel_rfl) (by kernel_rfl) ?_
                  refine g_skip (by kernel_rfl) ?_
                  show WP _ _ _ _ _ _
                  refine g_seq (by kernel_rfl) ?_
                  refine g_block 3 (by kernel_rfl) ?_
                  refine g_reg0 [0, 1, 2, 3, 4, 5, 6, 7, 8, 9] (by kernel_rfl) ?_
                  refine s_val (some 17) (.int .i64 ((2 * 1 * a : Nat) : Int)) (fun w => by kernel_rfl) (by kernel_rfl) ?_
                  refine s_val (some 18) (.int .i64 1) (fun w => by kernel_rfl) (by kernel_rfl) ?_
                  refine s_valE (some 19) (.int .i64 (IntKind.i64.wrap (((2 * 1 * a : Nat) : Int) + 1))) (.int .i64 (((2 * 1 * a) + 1 : Nat) : Int)) (fun w => by kernel_rfl) (int_eq (wrapAdd_i64 (a := 2 * 1 * a) (b := 1) (by omega))) (by kernel_rfl) ?_
                  refine s_val (some 20) (.int .i64 ((2 * 1 * a : Nat) : Int)) (fun w => by kernel_rfl) (by kernel_rfl) ?_
                  refine s_op (some 21) _ (.pointer (some ⟨b2, 0 + (2 * 1 * a) * 1, none⟩)) (by kernel_rfl) (by kernel_rfl) (fun o w ho => idxA_run (kd := .i64) (t := 40) (n := 256) (size := 1) (by kernel_rfl) (x := (.tmp 1)) (y := (.tmp 20)) b2 0 (2 * 1 * a) ho (by kernel_rfl) (by kernel_rfl) (by omega) w) ?_
                  refine s_load1 H25 (some 22) 25 (.tmp 21) 0 b2 (0 + (2 * 1 * a) * 1) (Value.cells (arr 256 (tb 1 a))) 40 (0, 0) (.int .u32 ((BitVec.toNat (nth (tb 1 a) (2 * 1 * a)) : Nat) : Int)) (by kernel_rfl) (by kernel_rfl) (by kernel_rfl) (by kernel_rfl) (by kernel_rfl) (arr_at (n := 256) (tb 1 a) (k := (2 * 1 * a)) (by omega) (by omega)) ?_
                  refine s_val (some 23) (.int .u32 ((BitVec.toNat (mv (mv (mv (mv (mv (mv (mv (mv (1 : BitVec 32))))))))) : Nat) : Int)) (fun w => by kernel_rfl) (by kernel_rfl) ?_
                  refine s_valE (some 24) (.int .u32 (Go.bits .xor .u32 (((BitVec.toNat (nth (tb 1 a) (2 * 1 * a)) : Nat) : Int)) (((BitVec.toNat (mv (mv (mv (mv (mv (mv (mv (mv (1 : BitVec 32))))))))) : Nat) : Int)))) (.int .u32 ((BitVec.toNat ((nth (tb 1 a) (2 * 1 * a)) ^^^ (mv (mv (mv (mv (mv (mv (mv (mv (1 : BitVec 32)))))))))) : Nat) : Int)) (fun w => by kernel_rfl) (bv_xor_u32 (nth (tb 1 a) (2 * 1 * a)) (mv (mv (mv (mv (mv (mv (mv (mv (1 : BitVec 32)))))))))) (by kernel_rfl) ?_
                  refine s_op (some 25) _ (.pointer (some ⟨b2, 0 + ((2 * 1 * a) + 1) * 1, none⟩)) (by kernel_rfl) (by kernel_rfl) (fun o w ho => idxA_run (kd := .i64) (t := 40) (n := 256) (size := 1) (by kernel_rfl) (x := (.tmp 1)) (y := (.tmp 19)) b2 0 ((2 * 1 * a) + 1) ho (by kernel_rfl) (by kernel_rfl) (by omega) w) ?_
                  refine s_store H25 0 [(b2, Obj.cells (Value.cells (arr 256 (tb 1 (a + 1)))) 40 (0, 0)), (b1, Obj.cells (Value.cells (zeroV .u32 256)) 40 (0, 0))] 25 (.tmp 25) (.tmp 24) b2 (0 + ((2 * 1 * a) + 1) * 1) (Value.cells (arr 256 (tb 1 a))) (Value.cells (arr 256 (tb 1 (a + 1)))) 40 (.int .u32 ((BitVec.toNat ((nth (tb 1 a) (2 * 1 * a)) ^^^ (mv (mv (mv (mv (mv (mv (mv (mv (1 : BitVec 32)))))))))) : Nat) : Int)) (by kernel_rfl) (by kernel_rfl) (by kernel_rfl) (by kernel_rfl) (by kernel_rfl) (by kernel_rfl) (by show _ + 1 ≤ 256; omega) (arr_put (k := ((2 * 1 * a) + 1)) (x := (nth (tb 1 a) (2 * 1 * a)) ^^^ (mv (mv (mv (mv (mv (mv (mv (mv (1 : BitVec 32)))))))))) (by omega) (by omega) (fun j hj => tb_go (bit := 1) (a := a) (r := mv (mv (mv (mv (mv (mv (mv (mv (1 : BitVec 32))))))))) (by omega) (by omega) (tab_val 7 (by omega) a (by omega)) j hj)) (by kernel_rfl) ?_
                  intro w26 H26; clear H25
                  refine s_nil ?_
                  show WP _ _ _ _ _ _
                  refine g_reg0 [0, 1, 2, 3, 4] (by kernel_rfl) ?_
                  refine s_val (some 13) (.int .i64 ((2 * 1 * a : Nat) : Int)) (fun w => by kernel_rfl) (by kernel_rfl) ?_
                  refine s_val (some 14) (.int .i64 1) (fun w => by kernel_rfl) (by kernel_rfl) ?_
                  refine s_val (some 15) (.int .i64 2) (fun w => by kernel_rfl) (by kernel_rfl) ?_
                  refine s_valE (some 16) (.int .i64 (IntKind.i64.wrap (((2 * 1 * a : Nat) : Int) + 2))) (.int .i64 (((2 * 1 * a) + 2 : Nat) : Int)) (fun w => by kernel_rfl) (int_eq (wrapAdd_i64 (a := 2 * 1 * a) (b := 2) (by omega))) (by kernel_rfl) ?_
                  refine s_val (some 4) (.int .i64 (((2 * 1 * a) + 2 : Nat) : Int)) (fun w => by kernel_rfl) (by kernel_rfl) ?_
                  refine s_nil ?_
                  rw [show (((2 * 1 * a) + 2 : Nat) : Int) = ((2 * 1 * (a + 1) : Nat) : Int) from by omega]
                  show ∃ m, _ ∧ _
                  exact ⟨_, (by omega), (a + 1), rfl, (by omega), H26, (Is.of ⟨(by kernel_rfl), (by kernel_rfl), (by kernel_rfl), (by kernel_rfl), (by kernel_rfl), (by kernel_rfl), trivial⟩)⟩
                · skip
                  refine s_valE (some 12) (.bool (decide (((2 * 1 * a : Nat) : Int) < 256))) (.bool false) (fun w => by kernel_rfl) (bool_eq (decide_eq_false (by omega))) (by kernel_rfl) ?_
                  refine s_nil ?_
                  refine g_cond_f (by kernel_rfl) (by kernel_rfl) ?_
                  refine g_exit 2 (by kernel_rfl) ?_
                  show WP _ _ _ _ _ _
                  refine g_reg0 [0, 1, 2] (by kernel_rfl) ?_
                  refine s_val (some 7) (.int .i64 1) (fun w => by kernel_rfl) (by kernel_rfl) ?_
                  refine s_val (some 8) (.int .i64 0) (fun w => by kernel_rfl) (by kernel_rfl) ?_
                  refine s_val (some 3) (.int .i64 0) (fun w => by kernel_rfl) (by kernel_rfl) ?_
                  refine s_nil ?_
                  show WPL _ _ _ _ _ _
                  refine g_next ?_
                  refine g_seq (by kernel_rfl) ?_
                  refine g_sreg [0, 1] (by kernel_rfl) (by kernel_rfl) ?_
                  refine s_val (some 5) (.int .i64 0) (fun w => by kernel_rfl) (by kernel_rfl) ?_
                  refine s_val (some 6) (.bool false) (fun w => by kernel_rfl) (by kernel_rfl) ?_
                  refine s_nil ?_
                  refine g_cond_f (by kernel_rfl) (by kernel_rfl) ?_
                  refine g_exit 0 (by kernel_rfl) ?_
                  show WP _ _ _ _ _ _
                  refine g_sreg [0, 1] (by kernel_rfl) (by kernel_rfl) ?_
                  refine s_load H25 (some 26) 40 (.tmp 1) 0 b2 (Value.cells (arr 256 (tb 1 a))) 40 (0, 0) (by kernel_rfl) (by kernel_rfl) (by kernel_rfl) (by kernel_rfl) (by kernel_rfl) ?_
                  refine s_store H25 1 [(b2, Obj.cells (Value.cells (arr 256 (tb 1 a))) 40 (0, 0)), (b1, Obj.cells (Value.cells (arr 256 (tb 1 a))) 40 (0, 0))] 40 (.tmp 0) (.tmp 26) b1 (0) (Value.cells (zeroV .u32 256)) (Value.cells (arr 256 (tb 1 a))) 40 (arr 256 (tb 1 a)) (by kernel_rfl) (by kernel_rfl) (by kernel_rfl) (by kernel_rfl) (by kernel_rfl) (by kernel_rfl) (of_decide_eq_true (by kernel_rfl)) (by kernel_rfl) (by kernel_rfl) ?_
                  intro w27 H27; clear H25
                  refine s_nil ?_
                  refine g_ret (by kernel_rfl) ?_
                  show ∃ vs, Res _ _ _ _ vs ∧ _
                  refine ⟨[arr 256 (tb 1 a)], (.agg (b := b1) (Value.cells (arr 256 (tb 1 a))) 40 (0, 0) (by kernel_rfl) (H27.get 1 (by kernel_rfl)) (by kernel_rfl) .nil), ?_, H27.below⟩
                  exact arr_congr (fun j hj => by rw [tb_end (by omega) (by omega) j hj, if_pos (Nat.mod_one j)]; unfold tabL; rw [nth_fix, if_pos hj])
end Go.Proofs.Ythipcmpmfjeakaa
