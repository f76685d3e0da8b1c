/-
  ShaBlocks.
-/
import Derived.Test.YtjhldipeicpoeaaDoorProg
import Derived.ChangeKeysEq
import Derived.Laws.StructEq
import Derived.Test.YtjhldipeicpoeaaDoorShaM
import Derived.Test.YtjhldipeicpoeaaDoorShaBl
namespace Go.Proofs.YtjhldipeicpoeaaDoor
open Go Go.RowKit Go.Proofs.Sha
set_option linter.unusedVariables false
theorem grow_congr {b b' : List W} (h : fix 16 (nth b) = fix 16 (nth b')) : ∀ k, grow b k = grow b' k
  | 0 => h
  | k + 1 => by unfold grow; rw [grow_congr h k]
theorem become_congr (s : List W) {b b' : List W} (h : ∀ j, j < 16 → nth b j = nth b' j) : become s b = become s b' := by
  have e : fix 16 (nth b) = fix 16 (nth b') := by unfold fix; exact List.map_congr_left fun j hj => h j (by simpa using hj)
  unfold become; rw [grow_congr e]
theorem byte_or (x : W) (b : Nat) (hb : b < 256) : x <<< 8 ||| BitVec.ofNat 32 b = 256 * x + BitVec.ofNat 32 b := by
  have h0 : x <<< 8 &&& BitVec.ofNat 32 b = 0#32 := by
    apply BitVec.eq_of_getLsbD_eq
    intro i hi
    rw [BitVec.getLsbD_and, BitVec.getLsbD_shiftLeft, BitVec.getLsbD_ofNat, BitVec.getLsbD_zero]
    by_cases h : i < 8
    · simp [h]
    · rw [Nat.testBit_lt_two_pow (Nat.lt_of_lt_of_le hb (show 256 ≤ 2 ^ i from Nat.pow_le_pow_right (n := 2) (by omega) (show 8 ≤ i by omega)))]; simp
  rw [← BitVec.add_eq_or_of_and_eq_zero _ _ h0, BitVec.shiftLeft_eq_mul_twoPow, BitVec.mul_comm]; rfl
theorem part_step (s : ByteArray) (q m : Nat) (hm : m < 4) : wpt s q m <<< (8 * (4 - m)) ||| BitVec.ofNat 32 (by_ s (4 * q + m)) <<< (8 * (3 - m)) = wpt s q (m + 1) <<< (8 * (4 - (m + 1))) := by
  show _ = (256 * wpt s q m + BitVec.ofNat 32 (by_ s (4 * q + m))) <<< (8 * (4 - (m + 1)))
  rw [← byte_or _ _ (by_lt s _), show 8 * (4 - m) = 8 + 8 * (3 - m) by omega, BitVec.shiftLeft_add, ← BitVec.shiftLeft_or_distrib, show 8 * (4 - (m + 1)) = 8 * (3 - m) by omega]
theorem blk_take (h : List W) (s : ByteArray) (n0 : Nat) (hn : n0 % 64 = 0) : ∀ j, j ≤ 63 → j ≤ s.size → ∃ B, takeB ⟨h, [], n0⟩ ((tl s).take j) = ⟨h, B, n0 + j⟩ ∧ ∀ q, q < 16 → nth B q = wpt s q (min 4 (j - 4 * q)) <<< (8 * (4 - min 4 (j - 4 * q)))
  | 0, _, _ => ⟨[], rfl, fun q _ => by rw [show min 4 (0 - 4 * q) = 0 by omega]; show (0#32 : W) = 0#32 <<< _; rw [BitVec.zero_shiftLeft]⟩
  | j + 1, hj, hs => by
    obtain ⟨B, hB, hp⟩ := blk_take h s n0 hn j (by omega) (by omega)
    refine ⟨lay B (j % 64) (by_ s j), ?_, fun q hq => ?_⟩
    · rw [take_stepS hB (by omega), step1_neg _ (by_ s j) _ rfl (by show ¬ (n0 + j + 1) % 64 = 0; omega)]
      show Pd.mk h (lay B ((n0 + j) % 64) (by_ s j)) (n0 + j + 1) = _
      rw [show (n0 + j) % 64 = j % 64 by omega]; rfl
    · unfold lay
      rw [nth_put _ _ _ _ hq]
      by_cases e : q = j % 64 / 4
      · rw [if_pos e]
        unfold layW
        rw [← e, hp q hq, show min 4 (j - 4 * q) = j % 64 % 4 by omega, show min 4 (j + 1 - 4 * q) = j % 64 % 4 + 1 by omega]
        have := part_step s q (j % 64 % 4) (by omega)
        rw [show 4 * q + j % 64 % 4 = j by omega] at this
        exact this
      · rw [if_neg e, hp q hq]
        rw [show min 4 (j + 1 - 4 * q) = min 4 (j - 4 * q) by omega]
theorem blk_full (h : List W) (s : ByteArray) (n0 : Nat) (hn : n0 % 64 = 0) (hs : s.size = 64) : takeB ⟨h, [], n0⟩ (tl s) = ⟨become h (bw s), [], n0 + 64⟩ := by
  obtain ⟨B, hB, hp⟩ := blk_take h s n0 hn 63 (by omega) (by omega)
  have := take_stepS (k := 63) hB (by omega)
  rw [List.take_of_length_le (show (tl s).length ≤ 63 + 1 by rw [tl_len]; omega)] at this
  rw [this, step1_pos _ (by_ s 63) ((tl s).getD 63 0) rfl (by show (n0 + 63 + 1) % 64 = 0; omega)]
  show Pd.mk (become h (lay B ((n0 + 63) % 64) (by_ s 63))) [] (n0 + 64) = _
  rw [show (n0 + 63) % 64 = 63 by omega]
  suffices e : become h (lay B 63 (by_ s 63)) = become h (bw s) by rw [e]
  refine become_congr h fun q hq => ?_
  unfold lay bw
  rw [nth_put _ _ _ _ hq, nth_fix, if_pos hq]
  by_cases e : q = 63 / 4
  · rw [if_pos e]
    unfold layW
    rw [← e, hp q hq, show min 4 (63 - 4 * q) = 3 by omega]
    have := part_step s q 3 (by omega)
    rw [show 4 * q + 3 = 63 by omega] at this
    rw [show 63 % 4 = 3 from rfl, this]
    show wpt s q 4 <<< 0 = _
    rw [BitVec.shiftLeft_zero]
  · rw [if_neg e, hp q hq, show min 4 (63 - 4 * q) = 4 by omega]
    show wpt s q 4 <<< 0 = _
    rw [BitVec.shiftLeft_zero]
theorem itemsW {P : Program} {w : World} (d e : Nat) (xs : Array Value) (f : Nat → BitVec 32) (n : Nat) (he : P.underlying e = some (.int .u32)) (hk : P.plainKey e = true)
    (hx : ∀ i, i < n → xs[i]? = some (.int .u32 ((BitVec.toNat (f i) : Nat) : Int))) :
    ∀ is : List Nat, (∀ i ∈ is, i < n) → (Op.eqItems (d + 1) e 1 xs xs is).run P w = .ok true w
  | [], _ => by simp [Op.eqItems]
  | i :: is, h => by
    have p1 : (part e xs (i * 1)).run P w = .ok (.int .u32 ((BitVec.toNat (f i) : Nat) : Int)) w := by
      rw [Nat.mul_one]; exact run_part_plain w hk (hx i (h i (by simp)))
    have p3 : (Op.equalIn (d + 1) e (.int .u32 ((BitVec.toNat (f i) : Nat) : Int)) (.int .u32 ((BitVec.toNat (f i) : Nat) : Int))).run P w = .ok true w := by
      rw [run_equalIn_int w d e .u32 .u32 _ _ he]
      simp
    have ih := itemsW (w := w) d e xs f n he hk hx is (fun j hj => h j (by simp [hj]))
    simp only [Op.eqItems, Sem.run_bind, p1, p3, Result.andThen_ok]
    simpa using ih
theorem eq8 (s : List W) (w : World) : (Op.equalIn 10000 31 (.agg (Value.cells (arr 8 s))) (.agg (Value.cells (arr 8 s)))).run Tryd.prog w = .ok true w := by
  obtain ⟨it, hi, hsz⟩ := Option.map_eq_some_iff.1 (show (Tryd.prog.info? 30).map (·.size) = some 1 by kernel_rfl)
  rw [run_equalIn_array w 9999 _ _ Tryd.underlying31 hi, show Tryd.prog.cellsOf 30 = 1 by kernel_rfl]
  exact itemsW 9998 30 _ (nth s) 8 Tryd.underlying30 (by kernel_rfl) (fun i h => arr_at s (by omega) h) _ (fun i h => by simpa using h)
theorem eq8_run {ρ : Env} (s : List W) {x y : Operand} {o : Oper} (w : World) (ho : o.op = .binOp .eql 31 x y 31) (hx : ev ρ x = .agg (Value.cells (arr 8 s))) (hy : ev ρ y = .agg (Value.cells (arr 8 s))) :
    (execOp (ev ρ) o).run Tryd.prog w = .ok (.value (.bool true)) w := by
  have q := eq8 s w
  generalize Value.cells (arr 8 s) = X at q hx hy
  unfold execOp
  simp only [ho, hx, hy]
  go_simp

set_option maxRecDepth 100000 in
set_option maxHeartbeats 2000000 in
theorem block_fn (h : List W) (s : ByteArray) (hs : s.size = 64) : FnP Tryd.prog 13 #[arr 8 h, .string s] (Roots) (.tuple #[arr 8 (become h (bw s)), .int .i64 0]) := by
  refine FnP.intro (c := codeOf Tryd.f13) [.cell 4 31, .tmp 5] 15 Tryd.func13 (by kernel_rfl) (by kernel_rfl) (by kernel_rfl) fun w hpre => ?_
  have H0 := St.start w
  refine g_sreg [0, 1, 2] (by kernel_rfl) (by kernel_rfl) ?_
  refine s_box H0 (some 2) 31 (.tmp 0) (arr 8 h) (by kernel_rfl) (by kernel_rfl) (by kernel_rfl) ?_
  intro b1 w1 H1; clear H0
  refine s_alloc H1 (some 4) 31 (.agg #[.int .u32 0, .int .u32 0, .int .u32 0, .int .u32 0, .int .u32 0, .int .u32 0, .int .u32 0, .int .u32 0]) (by kernel_rfl) (by kernel_rfl) (by kernel_rfl) ?_
  intro b2 w2 H2; clear H1
  refine s_val (some 5) (.int .i64 0) (fun w => by kernel_rfl) (by kernel_rfl) ?_
  refine s_nil ?_
  refine g_seq (by kernel_rfl) ?_
  refine g_sreg [0, 1, 2] (by kernel_rfl) (by kernel_rfl) ?_
  refine s_val (some 6) (.string s) (fun w => by kernel_rfl) (by kernel_rfl) ?_
  refine s_val (some 7) (.int .i64 ((ByteArray.size s : Nat) : Int)) (fun w => by kernel_rfl) (by kernel_rfl) ?_
  refine s_valE (some 8) (.bool (!(((ByteArray.size s : Nat) : Int) == 64))) (.bool false) (fun w => by kernel_rfl) (bool_eq (by rw [beq_iff_eq.2 (by omega)]; rfl)) (by kernel_rfl) ?_
  refine s_nil ?_
  refine g_cond_f (by kernel_rfl) (by kernel_rfl) ?_
  refine g_skip (by kernel_rfl) ?_
  show WP _ _ _ _ _ _
  refine g_sreg [0, 1, 2, 3, 4, 5, 6] (by kernel_rfl) (by kernel_rfl) ?_
  refine s_load H2 (some 10) 31 (.tmp 2) 1 b1 (Value.cells (arr 8 h)) 31 (0, 0) (by kernel_rfl) (by kernel_rfl) (by kernel_rfl) (by kernel_rfl) (by kernel_rfl) ?_
  refine s_val (some 11) (pdV (Pd.mk h [] 0)) (fun w => by kernel_rfl) (by kernel_rfl) ?_
  refine s_val (some 12) (.string s) (fun w => by kernel_rfl) (by kernel_rfl) ?_
  refine s_callP H2 (some 13) 18 #[pdV (Pd.mk h [] 0), .string s] (Roots) (pdV (takeB (Pd.mk h [] 0) (tl s))) (take_fn (Pd.mk h [] 0) s (Nat.le_trans (show Pd.n (Pd.mk h [] 0) ≤ 0 from Nat.le_refl _) (by decide)) (Nat.le_trans (show List.length (tl s) ≤ 64 from Nat.le_of_eq hs) (by decide))) (Roots.old H2 rfl hpre) (fun w => by kernel_rfl) (by kernel_rfl) ?_
  intro w3 H3; clear H2
  refine s_val (some 14) (arr 8 (Pd.s (takeB (Pd.mk h [] 0) (tl s)))) (fun w => by kernel_rfl) (by kernel_rfl) ?_
  refine s_store H3 0 [(b2, Obj.cells (Value.cells (arr 8 (Pd.s (takeB (Pd.mk h [] 0) (tl s))))) 31 (0, 0)), (b1, Obj.cells (Value.cells (arr 8 h)) 31 (0, 0))] 31 (.tmp 4) (.tmp 14) b2 (0) #[.int .u32 0, .int .u32 0, .int .u32 0, .int .u32 0, .int .u32 0, .int .u32 0, .int .u32 0, .int .u32 0] (Value.cells (arr 8 (Pd.s (takeB (Pd.mk h [] 0) (tl s))))) 31 (arr 8 (Pd.s (takeB (Pd.mk h [] 0) (tl s)))) (by kernel_rfl) (by kernel_rfl) (by kernel_rfl) (by kernel_rfl) (by kernel_rfl) (by kernel_rfl) (of_decide_eq_true (by kernel_rfl)) (by kernel_rfl) (by kernel_rfl) ?_
  intro w4 H4; clear H3
  refine s_val (some 5) (.int .i64 0) (fun w => by kernel_rfl) (by kernel_rfl) ?_
  refine s_nil ?_
  refine g_ret (by kernel_rfl) ?_
  show ∃ vs, Res _ _ _ _ vs ∧ _
  refine ⟨[arr 8 (Pd.s (takeB (Pd.mk h [] 0) (tl s))), .int .i64 0], (.agg (b := b2) (Value.cells (arr 8 (Pd.s (takeB (Pd.mk h [] 0) (tl s))))) 31 (0, 0) (by kernel_rfl) (H4.get 0 (by kernel_rfl)) (by kernel_rfl) (.tmp (.int .i64 0) (by kernel_rfl) .nil)), ?_, H4.below⟩
  rw [show become h (bw s) = Pd.s (takeB (Pd.mk h [] 0) (tl s)) by rw [blk_full h s 0 rfl hs]]; rfl

set_option maxRecDepth 100000 in
set_option maxHeartbeats 2000000 in
theorem block_fnNo (h : List W) (s : ByteArray) (hs : ¬ s.size = 64) : FnP Tryd.prog 13 #[arr 8 h, .string s] (Roots) (.tuple #[arr 8 [], .int .i64 4]) := by
  refine FnP.intro (c := codeOf Tryd.f13) [.cell 4 31, .tmp 5] 15 Tryd.func13 (by kernel_rfl) (by kernel_rfl) (by kernel_rfl) fun w hpre => ?_
  have H0 := St.start w
  refine g_sreg [0, 1, 2] (by kernel_rfl) (by kernel_rfl) ?_
  refine s_box H0 (some 2) 31 (.tmp 0) (arr 8 h) (by kernel_rfl) (by kernel_rfl) (by kernel_rfl) ?_
  intro b1 w1 H1; clear H0
  refine s_alloc H1 (some 4) 31 (.agg #[.int .u32 0, .int .u32 0, .int .u32 0, .int .u32 0, .int .u32 0, .int .u32 0, .int .u32 0, .int .u32 0]) (by kernel_rfl) (by kernel_rfl) (by kernel_rfl) ?_
  intro b2 w2 H2; clear H1
  refine s_val (some 5) (.int .i64 0) (fun w => by kernel_rfl) (by kernel_rfl) ?_
  refine s_nil ?_
  refine g_seq (by kernel_rfl) ?_
  refine g_sreg [0, 1, 2] (by kernel_rfl) (by kernel_rfl) ?_
  refine s_val (some 6) (.string s) (fun w => by kernel_rfl) (by kernel_rfl) ?_
  refine s_val (some 7) (.int .i64 ((ByteArray.size s : Nat) : Int)) (fun w => by kernel_rfl) (by kernel_rfl) ?_
  refine s_valE (some 8) (.bool (!(((ByteArray.size s : Nat) : Int) == 64))) (.bool true) (fun w => by kernel_rfl) (bool_eq (by rw [beq_eq_false_iff_ne.2 (by omega)]; rfl)) (by kernel_rfl) ?_
  refine s_nil ?_
  refine g_cond_t (by kernel_rfl) (by kernel_rfl) ?_
  refine g_sreg [0, 1, 2] (by kernel_rfl) (by kernel_rfl) ?_
  refine s_val (some 9) (.agg #[.int .u32 0, .int .u32 0, .int .u32 0, .int .u32 0, .int .u32 0, .int .u32 0, .int .u32 0, .int .u32 0]) (fun w => by kernel_rfl) (by kernel_rfl) ?_
  refine s_store H2 0 [(b2, Obj.cells #[.int .u32 0, .int .u32 0, .int .u32 0, .int .u32 0, .int .u32 0, .int .u32 0, .int .u32 0, .int .u32 0] 31 (0, 0)), (b1, Obj.cells (Value.cells (arr 8 h)) 31 (0, 0))] 31 (.tmp 4) (.tmp 9) b2 (0) #[.int .u32 0, .int .u32 0, .int .u32 0, .int .u32 0, .int .u32 0, .int .u32 0, .int .u32 0, .int .u32 0] #[.int .u32 0, .int .u32 0, .int .u32 0, .int .u32 0, .int .u32 0, .int .u32 0, .int .u32 0, .int .u32 0] 31 (.agg #[.int .u32 0, .int .u32 0, .int .u32 0, .int .u32 0, .int .u32 0, .int .u32 0, .int .u32 0, .int .u32 0]) (by kernel_rfl) (by kernel_rfl) (by kernel_rfl) (by kernel_rfl) (by kernel_rfl) (by kernel_rfl) (of_decide_eq_true (by kernel_rfl)) (by kernel_rfl) (by kernel_rfl) ?_
  intro w3 H3; clear H2
  refine s_val (some 5) (.int .i64 4) (fun w => by kernel_rfl) (by kernel_rfl) ?_
  refine s_nil ?_
  refine g_ret (by kernel_rfl) ?_
  show ∃ vs, Res _ _ _ _ vs ∧ _
  refine ⟨[.agg #[.int .u32 0, .int .u32 0, .int .u32 0, .int .u32 0, .int .u32 0, .int .u32 0, .int .u32 0, .int .u32 0], .int .i64 4], (.agg (b := b2) #[.int .u32 0, .int .u32 0, .int .u32 0, .int .u32 0, .int .u32 0, .int .u32 0, .int .u32 0, .int .u32 0] 31 (0, 0) (by kernel_rfl) (H3.get 0 (by kernel_rfl)) (by kernel_rfl) (.tmp (.int .i64 4) (by kernel_rfl) .nil)), ?_, H3.below⟩
  rfl

set_option maxRecDepth 100000 in
set_option maxHeartbeats 2000000 in
theorem shaBlocks_fn (h : List W) (s : ByteArray) : FnP Tryd.prog 4 #[arr 8 h, .string s] (Roots) (.bool true) := by
  refine FnP.intro (c := codeOf Tryd.f4) [.tmp 4] 44 Tryd.func4 (by kernel_rfl) (by kernel_rfl) (by kernel_rfl) fun w hpre => ?_
  have H0 := St.start w
  refine g_sreg [0, 1] (by kernel_rfl) (by kernel_rfl) ?_
  refine s_box H0 (some 2) 31 (.tmp 0) (arr 8 h) (by kernel_rfl) (by kernel_rfl) (by kernel_rfl) ?_
  intro b1 w1 H1; clear H0
  refine s_val (some 4) (.bool false) (fun w => by kernel_rfl) (by kernel_rfl) ?_
  refine s_nil ?_
  refine g_sreg [0, 1, 2, 3, 4, 5] (by kernel_rfl) (by kernel_rfl) ?_
  refine s_val (some 7) (.string s) (fun w => by kernel_rfl) (by kernel_rfl) ?_
  refine s_val (some 8) (.string s) (fun w => by kernel_rfl) (by kernel_rfl) ?_
  refine s_val (some 9) (.int .i64 ((ByteArray.size s : Nat) : Int)) (fun w => by kernel_rfl) (by kernel_rfl) ?_
  refine s_valE (some 10) (.int .i64 (if (80 : Int) < (((ByteArray.size s : Nat) : Int) : Int) then (80 : Int) else (((ByteArray.size s : Nat) : Int) : Int))) (.int .i64 ((min (ByteArray.size s) 80 : Nat) : Int)) (fun w => by kernel_rfl) (int_eq (minN (ByteArray.size s) 80)) (by kernel_rfl) ?_
  refine s_op (some 11) _ (.string (ByteArray.extract s 0 (min (ByteArray.size s) 80))) (by kernel_rfl) (by kernel_rfl) (fun o w ho => scut_run (t := 9) (kd := .i64) (by kernel_rfl) (x := (.tmp 7)) (y := (.tmp 10)) s (min (ByteArray.size s) 80) ho (by kernel_rfl) (by kernel_rfl) (by omega) w) ?_
  refine s_val (some 1) (.string (ByteArray.extract s 0 (min (ByteArray.size s) 80))) (fun w => by kernel_rfl) (by kernel_rfl) ?_
  refine s_nil ?_
  refine g_sreg [0, 1, 2, 3, 4, 5, 6, 7, 8] (by kernel_rfl) (by kernel_rfl) ?_
  refine s_load H1 (some 13) 31 (.tmp 2) 0 b1 (Value.cells (arr 8 h)) 31 (0, 0) (by kernel_rfl) (by kernel_rfl) (by kernel_rfl) (by kernel_rfl) (by kernel_rfl) ?_
  by_cases h64 : ByteArray.size (ByteArray.extract s 0 (min (ByteArray.size s) 80)) = 64
  · skip
    refine s_val (some 14) (.string (ByteArray.extract s 0 (min (ByteArray.size s) 80))) (fun w => by kernel_rfl) (by kernel_rfl) ?_
    refine s_callP H1 (some 15) 13 #[arr 8 h, .string (ByteArray.extract s 0 (min (ByteArray.size s) 80))] (Roots) (.tuple #[arr 8 (become h (bw (ByteArray.extract s 0 (min (ByteArray.size s) 80)))), .int .i64 0]) (block_fn h (ByteArray.extract s 0 (min (ByteArray.size s) 80)) h64) (Roots.old H1 rfl hpre) (fun w => by kernel_rfl) (by kernel_rfl) ?_
    intro w2 H2; clear H1
    refine s_val (some 12) (.tuple #[arr 8 (become h (bw (ByteArray.extract s 0 (min (ByteArray.size s) 80)))), .int .i64 0]) (fun w => by kernel_rfl) (by kernel_rfl) ?_
    refine s_val (some 16) (arr 8 (become h (bw (ByteArray.extract s 0 (min (ByteArray.size s) 80))))) (fun w => by kernel_rfl) (by kernel_rfl) ?_
    refine s_val (some 17) (.int .i64 0) (fun w => by kernel_rfl) (by kernel_rfl) ?_
    refine s_alloc H2 (some 5) 31 (.agg #[.int .u32 0, .int .u32 0, .int .u32 0, .int .u32 0, .int .u32 0, .int .u32 0, .int .u32 0, .int .u32 0]) (by kernel_rfl) (by kernel_rfl) (by kernel_rfl) ?_
    intro b2 w3 H3; clear H2
    refine s_store H3 0 [(b2, Obj.cells (Value.cells (arr 8 (become h (bw (ByteArray.extract s 0 (min (ByteArray.size s) 80)))))) 31 (0, 0)), (b1, Obj.cells (Value.cells (arr 8 h)) 31 (0, 0))] 31 (.tmp 5) (.tmp 16) b2 (0) #[.int .u32 0, .int .u32 0, .int .u32 0, .int .u32 0, .int .u32 0, .int .u32 0, .int .u32 0, .int .u32 0] (Value.cells (arr 8 (become h (bw (ByteArray.extract s 0 (min (ByteArray.size s) 80)))))) 31 (arr 8 (become h (bw (ByteArray.extract s 0 (min (ByteArray.size s) 80))))) (by kernel_rfl) (by kernel_rfl) (by kernel_rfl) (by kernel_rfl) (by kernel_rfl) (by kernel_rfl) (of_decide_eq_true (by kernel_rfl)) (by kernel_rfl) (by kernel_rfl) ?_
    intro w4 H4; clear H3
    refine s_val (some 6) (.int .i64 0) (fun w => by kernel_rfl) (by kernel_rfl) ?_
    refine s_nil ?_
    refine g_seq (by kernel_rfl) ?_
    refine g_sreg [0, 1, 2] (by kernel_rfl) (by kernel_rfl) ?_
    refine s_val (some 18) (.string (ByteArray.extract s 0 (min (ByteArray.size s) 80))) (fun w => by kernel_rfl) (by kernel_rfl) ?_
    refine s_val (some 19) (.int .i64 ((ByteArray.size (ByteArray.extract s 0 (min (ByteArray.size s) 80)) : Nat) : Int)) (fun w => by kernel_rfl) (by kernel_rfl) ?_
    refine s_valE (some 20) (.bool (!(((ByteArray.size (ByteArray.extract s 0 (min (ByteArray.size s) 80)) : Nat) : Int) == 64))) (.bool false) (fun w => by kernel_rfl) (bool_eq (by rw [beq_iff_eq.2 (by omega)]; rfl)) (by kernel_rfl) ?_
    refine s_nil ?_
    refine g_cond_f (by kernel_rfl) (by kernel_rfl) ?_
    refine g_skip (by kernel_rfl) ?_
    show WP _ _ _ _ _ _
    refine D2.g_sdraw [0, 1, 2, 3, 4, 5, 6, 7, 8, 9, 10, 11, 12, 13] [((some 31), fun _ => .bool true), ((some 32), fun _ => .bool true), ((some 33), fun _ => .int .i64 0), ((some 34), fun _ => .bool true), ((some 35), fun _ => .bool true), ((some 36), fun _ => .bool true), ((some 37), fun _ => arr 8 (become h (bw (ByteArray.extract s 0 (min (ByteArray.size s) 80))))), ((some 38), fun _ => arr 8 h), ((some 39), fun _ => .string (ByteArray.extract s 0 (min (ByteArray.size s) 80))), ((some 40), fun x => .slice (some ⟨x.b, 0, none⟩) x.n x.cap), ((some 41), fun _ => arr 8 (become h (bw (ByteArray.extract s 0 (min (ByteArray.size s) 80))))), ((some 42), fun _ => .bool true), ((some 43), fun _ => .bool true), ((some 4), fun _ => .bool true)] (D2.Pre w.heap.size w (fun L g => [(true, (b2, Obj.cells (Value.cells (arr 8 (become h (bw (ByteArray.extract s 0 (min (ByteArray.size s) 80)))))) 31 (0, 0))), (true, (b1, Obj.cells (Value.cells (arr 8 h)) 31 (0, 0))), (L 9, ((g 9).b, Obj.cells ((g 9).cur) 30 (0, 0)))]) (fun L g => (L 9 = true → ((g 9).n = 64 ∧ Rw 1 (g 9).cur (g 9).cap (g 9).n (cellsW Sha.roots))) ∧ True)) (by kernel_rfl) (by kernel_rfl) (by kernel_rfl) (by kernel_rfl) ⟨D2.StE.of H4.drew _ (by kernel_rfl), ⟨(fun h => nomatch h), trivial⟩⟩ ⟨?_, ?_, ?_, ?_, ?_, ?_, ?_, ?_, ?_, ?_, ?_, ?_, ?_, ?_, trivial⟩ ?_
    · exact D2.gv_callP 8 (fun g => #[]) (fun g => Roots) (fun _ _ _ h => h) (fun L g hN hF => by exact alive_fn) (fun L g w hN hE hF => by exact (Roots.oldE hE rfl hpre)) (fun g w => by kernel_rfl)
    · exact D2.gv_val (fun _ _ _ h => h) (fun g w => by kernel_rfl)
    · exact D2.gv_val (fun _ _ _ h => h) (fun g w => by kernel_rfl)
    · exact D2.gv_val (fun _ _ _ h => h) (fun g w => by kernel_rfl)
    · exact D2.gv_val (fun _ _ _ h => h) (fun g w => by kernel_rfl)
    · exact D2.gv_val (fun _ _ _ h => h) (fun g w => by kernel_rfl)
    · exact D2.gv_load 31 (.tmp 5) 0 (fun g => b2) (Value.cells (arr 8 (become h (bw (ByteArray.extract s 0 (min (ByteArray.size s) 80)))))) 31 (0, 0) (fun _ _ _ h => h) (fun g => by kernel_rfl) (fun g => by kernel_rfl) (fun L g hN => (by kernel_rfl)) (by kernel_rfl)
    · exact D2.gv_load 31 (.tmp 2) 1 (fun g => b1) (Value.cells (arr 8 h)) 31 (0, 0) (fun _ _ _ h => h) (fun g => by kernel_rfl) (fun g => by kernel_rfl) (fun L g hN => (by kernel_rfl)) (by kernel_rfl)
    · exact D2.gv_val (fun _ _ _ h => h) (fun g w => by kernel_rfl)
    · exact D2.gv_callS 7 (fun g => #[]) (fun g => fun _ => True) 30 1 (fun g curZ capZ nZ lZ => (nZ = 64 ∧ Rw 1 curZ capZ nZ (cellsW Sha.roots))) 2 (fun L g hN hF => by exact K_fn) (fun L g w hN hE hF => by exact trivial) (fun g w => by kernel_rfl) (fun L g x hN => (by kernel_rfl)) (fun L g x hN hF hS => ⟨fun _ => hS, trivial⟩)
    · exact D2.gv_callP 14 (fun g => #[arr 8 h, .string (ByteArray.extract s 0 (min (ByteArray.size s) 80)), .slice (some ⟨(g 9).b, 0, none⟩) ((g 9).n) ((g 9).cap)]) (fun g => fun w => w.heap[(g 9).b]? = some (.cells (g 9).cur 30 (0, 0))) (fun _ _ _ h => h) (fun L g hN hF => by have hf9 := (hF.1 (hN.bef 9 (by kernel_rfl))); exact (blockR_fn h (ByteArray.extract s 0 (min (ByteArray.size s) 80)) h64 ((g 9).b) ((g 9).n) ((g 9).cap) ((g 9).cur) hf9.1 hf9.2)) (fun L g w hN hE hF => by have hf9 := (hF.1 (hN.bef 9 (by kernel_rfl))); exact (hE.get 2 (by have hL9 : L 9 = true := (hN.bef 9 (by kernel_rfl)); exact D2.ent_get' (p := L 9) (e := ((g 9).b, Obj.cells ((g 9).cur) 30 (0, 0))) (by kernel_rfl) (by exact hL9) (by simp only [hL9, cond_true, cond_false] <;> rfl)))) (fun g w => by kernel_rfl)
    · exact D2.gv_op (fun _ _ _ h => h) _ (fun g => by kernel_rfl) (fun g => (fun o w ho => eq8_run (become h (bw (ByteArray.extract s 0 (min (ByteArray.size s) 80)))) (x := (.tmp 37)) (y := (.tmp 41)) w ho (by kernel_rfl) (by kernel_rfl)))
    · exact D2.gv_val (fun _ _ _ h => h) (fun g w => by kernel_rfl)
    · exact D2.gv_val (fun _ _ _ h => h) (fun g w => by kernel_rfl)
    intro L0 G5 w5 hall HL; clear H4
    have H5 : St w.heap.size w w5 [(b2, Obj.cells (Value.cells (arr 8 (become h (bw (ByteArray.extract s 0 (min (ByteArray.size s) 80)))))) 31 (0, 0)), (b1, Obj.cells (Value.cells (arr 8 h)) 31 (0, 0)), ((G5 9).b, Obj.cells ((G5 9).cur) 30 (0, 0))] := by have e9 := hall 9 (Nat.le_of_ble_eq_true (by kernel_rfl)); have hS := D2.StE.st HL.1; simp only [e9, cond_true, D2.pres] at hS; exact hS
    have hf9_5 : ((G5 9).n = 64 ∧ Rw 1 (G5 9).cur (G5 9).cap (G5 9).n (cellsW Sha.roots)) := HL.2.1 (hall 9 (Nat.le_of_ble_eq_true (by kernel_rfl)))
    clear HL hall
    refine g_ret (by kernel_rfl) ?_
    show ∃ vs, Res _ _ _ _ vs ∧ _
    refine ⟨[.bool true], (.tmp (.bool true) (by kernel_rfl) .nil), ?_, H5.below⟩
    rfl
  · skip
    refine s_val (some 14) (.string (ByteArray.extract s 0 (min (ByteArray.size s) 80))) (fun w => by kernel_rfl) (by kernel_rfl) ?_
    refine s_callP H1 (some 15) 13 #[arr 8 h, .string (ByteArray.extract s 0 (min (ByteArray.size s) 80))] (Roots) (.tuple #[arr 8 ([]), .int .i64 4]) (block_fnNo h (ByteArray.extract s 0 (min (ByteArray.size s) 80)) h64) (Roots.old H1 rfl hpre) (fun w => by kernel_rfl) (by kernel_rfl) ?_
    intro w6 H6; clear H1
    refine s_val (some 12) (.tuple #[arr 8 ([]), .int .i64 4]) (fun w => by kernel_rfl) (by kernel_rfl) ?_
    refine s_val (some 16) (arr 8 ([])) (fun w => by kernel_rfl) (by kernel_rfl) ?_
    refine s_val (some 17) (.int .i64 4) (fun w => by kernel_rfl) (by kernel_rfl) ?_
    refine s_alloc H6 (some 5) 31 (.agg #[.int .u32 0, .int .u32 0, .int .u32 0, .int .u32 0, .int .u32 0, .int .u32 0, .int .u32 0, .int .u32 0]) (by kernel_rfl) (by kernel_rfl) (by kernel_rfl) ?_
    intro b3 w7 H7; clear H6
    refine s_store H7 0 [(b3, Obj.cells (Value.cells (arr 8 ([]))) 31 (0, 0)), (b1, Obj.cells (Value.cells (arr 8 h)) 31 (0, 0))] 31 (.tmp 5) (.tmp 16) b3 (0) #[.int .u32 0, .int .u32 0, .int .u32 0, .int .u32 0, .int .u32 0, .int .u32 0, .int .u32 0, .int .u32 0] (Value.cells (arr 8 ([]))) 31 (arr 8 ([])) (by kernel_rfl) (by kernel_rfl) (by kernel_rfl) (by kernel_rfl) (by kernel_rfl) (by kernel_rfl) (of_decide_eq_true (by kernel_rfl)) (by kernel_rfl) (by kernel_rfl) ?_
    intro w8 H8; clear H7
    refine s_val (some 6) (.int .i64 4) (fun w => by kernel_rfl) (by kernel_rfl) ?_
    refine s_nil ?_
    refine g_seq (by kernel_rfl) ?_
    refine g_sreg [0, 1, 2] (by kernel_rfl) (by kernel_rfl) ?_
    refine s_val (some 18) (.string (ByteArray.extract s 0 (min (ByteArray.size s) 80))) (fun w => by kernel_rfl) (by kernel_rfl) ?_
    refine s_val (some 19) (.int .i64 ((ByteArray.size (ByteArray.extract s 0 (min (ByteArray.size s) 80)) : Nat) : Int)) (fun w => by kernel_rfl) (by kernel_rfl) ?_
    refine s_valE (some 20) (.bool (!(((ByteArray.size (ByteArray.extract s 0 (min (ByteArray.size s) 80)) : Nat) : Int) == 64))) (.bool true) (fun w => by kernel_rfl) (bool_eq (by rw [beq_eq_false_iff_ne.2 (by omega)]; rfl)) (by kernel_rfl) ?_
    refine s_nil ?_
    refine g_cond_t (by kernel_rfl) (by kernel_rfl) ?_
    refine g_sreg [0, 1, 2, 3, 4, 5, 6, 7, 8, 9, 10] (by kernel_rfl) (by kernel_rfl) ?_
    refine s_callP H8 (some 21) 8 #[] (Roots) (.bool true) alive_fn (Roots.old H8 rfl hpre) (fun w => by kernel_rfl) (by kernel_rfl) ?_
    intro w9 H9; clear H8
    refine s_val (some 22) (.bool true) (fun w => by kernel_rfl) (by kernel_rfl) ?_
    refine s_val (some 23) (.int .i64 4) (fun w => by kernel_rfl) (by kernel_rfl) ?_
    refine s_val (some 24) (.bool true) (fun w => by kernel_rfl) (by kernel_rfl) ?_
    refine s_val (some 25) (.bool true) (fun w => by kernel_rfl) (by kernel_rfl) ?_
    refine s_val (some 26) (.bool true) (fun w => by kernel_rfl) (by kernel_rfl) ?_
    refine s_load H9 (some 27) 31 (.tmp 5) 0 b3 (Value.cells (arr 8 ([]))) 31 (0, 0) (by kernel_rfl) (by kernel_rfl) (by kernel_rfl) (by kernel_rfl) (by kernel_rfl) ?_
    refine s_val (some 28) (.agg #[.int .u32 0, .int .u32 0, .int .u32 0, .int .u32 0, .int .u32 0, .int .u32 0, .int .u32 0, .int .u32 0]) (fun w => by kernel_rfl) (by kernel_rfl) ?_
    refine s_op (some 29) _ (.bool true) (by kernel_rfl) (by kernel_rfl) (fun o w ho => eq8_run ([]) (x := (.tmp 27)) (y := (.tmp 28)) w ho (by kernel_rfl) (by kernel_rfl)) ?_
    refine s_val (some 30) (.bool true) (fun w => by kernel_rfl) (by kernel_rfl) ?_
    refine s_val (some 4) (.bool true) (fun w => by kernel_rfl) (by kernel_rfl) ?_
    refine s_nil ?_
    refine g_ret (by kernel_rfl) ?_
    show ∃ vs, Res _ _ _ _ vs ∧ _
    refine ⟨[.bool true], (.tmp (.bool true) (by kernel_rfl) .nil), ?_, H9.below⟩
    rfl
end Go.Proofs.YtjhldipeicpoeaaDoor
