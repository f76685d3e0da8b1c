/-
  What stands behind a text; masks; the sum told.
-/
import Derived.Test.YtjhldipeicpoeaaDoorProg
import Derived.Test.YtjhldipeicpoeaaDoorShaM
import Derived.Test.YtjhldipeicpoeaaDoorShaT
namespace Go.Proofs.YtjhldipeicpoeaaDoor
open Go Go.RowKit Go.Proofs.Sha
set_option linter.unusedVariables false
def tailI (n i : Nat) : List UInt8 := 128 :: (List.replicate (63 - (n + 8) % 64) 0 ++ (List.range i).map fun i => UInt8.ofNat (8 * n / 2 ^ (8 * (7 - i))))
theorem tailI_succ (n i : Nat) : tailI n (i + 1) = tailI n i ++ [UInt8.ofNat (8 * n / 2 ^ (8 * (7 - i)))] := by
  unfold tailI; rw [List.range_succ, List.map_append]; simp
theorem tailI_len (n i : Nat) : (tailI n i).length = 1 + (63 - (n + 8) % 64) + i := by unfold tailI; simp; omega
theorem tailI0 (n z : Nat) (h : 1 + (63 - (n + 8) % 64) = z) : List.set (List.replicate z 0) 0 (UInt8.ofBitVec (128 : BitVec 8)) = tailI n 0 := by
  subst h; rw [Nat.add_comm 1, List.replicate_succ]; unfold tailI; simp
theorem cellsB_zeros (z : Nat) : cellsB (List.replicate z 0) = List.replicate z (.int .u8 0) := by unfold cellsB; rw [List.map_replicate]; rfl
theorem maskF_put (K : List UInt8) (m : BitVec 8) (i j : Nat) : (if j < i + 1 then (K.getD j 0).toBitVec ^^^ m else (K.getD j 0).toBitVec) = if j = i then (if i < i then (K.getD i 0).toBitVec ^^^ m else (K.getD i 0).toBitVec) ^^^ m else if j < i then (K.getD j 0).toBitVec ^^^ m else (K.getD j 0).toBitVec := by
  by_cases h : j = i
  · subst h; rw [if_pos (by omega), if_pos rfl, if_neg (by omega)]
  · rw [if_neg h]
    by_cases h2 : j < i
    · rw [if_pos (by omega), if_pos h2]
    · rw [if_neg (by omega), if_neg h2]
def maskF (K : List UInt8) (m : BitVec 8) (i j : Nat) : BitVec 8 := if j < i then (K.getD j 0).toBitVec ^^^ m else (K.getD j 0).toBitVec
theorem mask_copy (s : ByteArray) (m : BitVec 8) (h : s.size ≤ 64) : (cellsB (tl s) ++ List.drop s.size (List.replicate 64 (Value.int .u8 0))).toArray = Value.cells (arrB 64 (maskF (tl s) m 0)) := by
  show _ = (arrF 64 _).toArray
  congr 1
  apply List.ext_getElem?
  intro j
  have hl : (tl s).length = s.size := rfl
  by_cases hj : j < 64
  · rw [arrF_get hj]
    show _ = some (Value.int .u8 ((((tl s).getD j 0).toBitVec.toNat : Nat) : Int))
    by_cases h1 : j < s.size
    · rw [List.getElem?_append_left (by rw [cellsB_len]; exact h1), cellsB_get (tl s) j h1]; rfl
    · rw [List.getElem?_append_right (by rw [cellsB_len]; omega), List.getElem?_drop, cellsB_len, hl, show s.size + (j - s.size) = j by omega, List.getElem?_replicate, if_pos hj,
        List.getD_eq_getElem?_getD, List.getElem?_eq_none (by omega)]; rfl
  · rw [List.getElem?_eq_none (by simp [cellsB_len, hl]; omega), List.getElem?_eq_none (by rw [arrF_len]; omega)]
theorem mask_done (K : List UInt8) (m : BitVec 8) : ((List.range 64).map fun i => UInt8.ofBitVec (maskF K m 64 i)) = maskB K m := by
  unfold maskB
  refine List.map_congr_left fun i hi => ?_
  unfold maskF; rw [if_pos (by simpa using hi)]
def outF (s : List W) (i j : Nat) : BitVec 8 := if j < i then obyte s j else 0
theorem outF_put (s : List W) (i j : Nat) : outF s (i + 1) j = if j = i then obyte s i else outF s i j := by
  unfold outF
  by_cases h : j = i
  · subst h; rw [if_pos (by omega), if_pos rfl]
  · rw [if_neg h]
    by_cases h2 : j < i
    · rw [if_pos (by omega), if_pos h2]
    · rw [if_neg (by omega), if_neg h2]
theorem out_done (s : List W) : ((List.range 32).map fun i => UInt8.ofBitVec (outF s 32 i)) = outB s := by
  unfold outB
  refine List.map_congr_left fun i hi => ?_
  unfold outF; rw [if_pos (by simpa using hi)]

set_option maxRecDepth 100000 in
set_option maxHeartbeats 2000000 in
theorem behind_fn (n : Nat) (hn : n ≤ 2000000000000000000) : Fn Tryd.prog 27 #[.int .u64 ((n : Nat) : Int)] (.string (strB (tailB n))) := by
  refine Fn.intro (c := codeOf Tryd.f27) [.tmp 2] 36 Tryd.func27 (by kernel_rfl) (by kernel_rfl) (by kernel_rfl) fun w => ?_
  have H0 := St.start w
  refine g_sreg [0] (by kernel_rfl) (by kernel_rfl) ?_
  refine s_val (some 2) (.string (⟨#[]⟩)) (fun w => by kernel_rfl) (by kernel_rfl) ?_
  refine s_nil ?_
  refine g_sreg [0, 1, 2, 3, 4] (by kernel_rfl) (by kernel_rfl) ?_
  refine s_val (some 7) (.int .u64 ((n : Nat) : Int)) (fun w => by kernel_rfl) (by kernel_rfl) ?_
  refine s_valE (some 8) (.int .u64 (IntKind.u64.wrap (((n : Nat) : Int) + 8))) (.int .u64 ((n + 8 : Nat) : Int)) (fun w => by kernel_rfl) (int_eq (wrapAdd_u64 (a := n) (b := 8) (by omega))) (by kernel_rfl) ?_
  refine s_valE (some 9) (.int .u64 (Int.tmod ((n + 8 : Nat) : Int) 64)) (.int .u64 (((n + 8) % 64 : Nat) : Int)) (fun w => by kernel_rfl) (int_eq (remN (n + 8) 64)) (by kernel_rfl) ?_
  refine s_valE (some 10) (.int .u64 (IntKind.u64.wrap (63 - (((n + 8) % 64 : Nat) : Int)))) (.int .u64 ((63 - ((n + 8) % 64) : Nat) : Int)) (fun w => by kernel_rfl) (int_eq (wrapSub_u64 (a := 63) (b := (n + 8) % 64) (by omega))) (by kernel_rfl) ?_
  refine s_val (some 3) (.int .u64 ((63 - ((n + 8) % 64) : Nat) : Int)) (fun w => by kernel_rfl) (by kernel_rfl) ?_
  refine s_nil ?_
  refine g_sreg [0, 1, 2, 3, 4, 5, 6] (by kernel_rfl) (by kernel_rfl) ?_
  refine s_val (some 11) (.int .u64 ((63 - ((n + 8) % 64) : Nat) : Int)) (fun w => by kernel_rfl) (by kernel_rfl) ?_
  refine s_valE (some 12) (.int .u64 (IntKind.u64.wrap (1 + ((63 - ((n + 8) % 64) : Nat) : Int)))) (.int .u64 ((1 + (63 - ((n + 8) % 64)) : Nat) : Int)) (fun w => by kernel_rfl) (int_eq (wrapAdd_u64 (a := 1) (b := 63 - ((n + 8) % 64)) (by omega))) (by kernel_rfl) ?_
  refine s_val (some 13) (.int .u64 ((63 - ((n + 8) % 64) : Nat) : Int)) (fun w => by kernel_rfl) (by kernel_rfl) ?_
  refine s_valE (some 14) (.int .u64 (IntKind.u64.wrap (1 + ((63 - ((n + 8) % 64) : Nat) : Int)))) (.int .u64 ((1 + (63 - ((n + 8) % 64)) : Nat) : Int)) (fun w => by kernel_rfl) (int_eq (wrapAdd_u64 (a := 1) (b := 63 - ((n + 8) % 64)) (by omega))) (by kernel_rfl) ?_
  refine s_valE (some 15) (.int .u64 (IntKind.u64.wrap (((1 + (63 - ((n + 8) % 64)) : Nat) : Int) + 8))) (.int .u64 (((1 + (63 - ((n + 8) % 64))) + 8 : Nat) : Int)) (fun w => by kernel_rfl) (int_eq (wrapAdd_u64 (a := 1 + (63 - ((n + 8) % 64))) (b := 8) (by omega))) (by kernel_rfl) ?_
  refine s_make2 H0 (some 16) 38 5 1 (.int .u8 0) (.tmp 12) (.tmp 15) .u64 .u64 (1 + (63 - ((n + 8) % 64))) ((1 + (63 - ((n + 8) % 64))) + 8) (by kernel_rfl) (by kernel_rfl) (by kernel_rfl) (by kernel_rfl) rfl (by kernel_rfl) (by kernel_rfl) (by omega) (by omega) (by unfold maxLen; omega) ?_
  intro b_1 cur_2 w1 H1 hr_3; clear H0
  have hr_3z : Rw 1 cur_2 ((1 + (63 - ((n + 8) % 64))) + 8) (1 + (63 - ((n + 8) % 64))) (cellsB (List.replicate (1 + (63 - ((n + 8) % 64))) 0)) := by rw [cellsB_zeros]; exact hr_3
  refine s_val (some 4) (.slice (some ⟨b_1, 0, none⟩) (1 + (63 - ((n + 8) % 64))) ((1 + (63 - ((n + 8) % 64))) + 8)) (fun w => by kernel_rfl) (by kernel_rfl) ?_
  refine s_nil ?_
  refine g_sreg [0, 1, 2] (by kernel_rfl) (by kernel_rfl) ?_
  refine s_val (some 17) (.slice (some ⟨b_1, 0, none⟩) (1 + (63 - ((n + 8) % 64))) ((1 + (63 - ((n + 8) % 64))) + 8)) (fun w => by kernel_rfl) (by kernel_rfl) ?_
  refine s_op (some 18) _ (.pointer (some ⟨b_1, 0 + 0 * 1, none⟩)) (by kernel_rfl) (by kernel_rfl) (fun o w ho => idxS_run (kd := .i64) (t := 38) (e := 5) (size := 1) (bytes := 1) (by kernel_rfl) (x := (.tmp 17)) (y := (.const (.int .i64 0))) b_1 0 (1 + (63 - ((n + 8) % 64))) ((1 + (63 - ((n + 8) % 64))) + 8) 0 ho (by kernel_rfl) (by kernel_rfl) (by omega) w) ?_
  obtain ⟨cur_4, hc_5, hs_6, hr_7⟩ := hr_3z.putB 0 (UInt8.ofBitVec (128 : BitVec 8)) (by omega)
  refine s_store H1 0 [(b_1, Obj.cells cur_4 5 (0, 0))] 5 (.tmp 18) (.const (.int .u8 128)) b_1 (0 + 0 * 1) cur_2 cur_4 5 (.int .u8 128) (by kernel_rfl) (by kernel_rfl) (by kernel_rfl) (by kernel_rfl) (by kernel_rfl) (by kernel_rfl) hs_6 hc_5 (by kernel_rfl) ?_
  intro w2 H2; clear H1
  refine s_nil ?_
  refine g_sreg [0, 1, 2] (by kernel_rfl) (by kernel_rfl) ?_
  refine s_val (some 19) (.int .u64 ((n : Nat) : Int)) (fun w => by kernel_rfl) (by kernel_rfl) ?_
  refine s_valE (some 20) (.int .u64 (IntKind.u64.wrap (8 * ((n : Nat) : Int)))) (.int .u64 ((8 * n : Nat) : Int)) (fun w => by kernel_rfl) (int_eq (wrapMul_u64 (a := 8) (b := n) (by omega))) (by kernel_rfl) ?_
  refine s_val (some 5) (.int .u64 ((8 * n : Nat) : Int)) (fun w => by kernel_rfl) (by kernel_rfl) ?_
  refine s_nil ?_
  refine g_seq (by kernel_rfl) ?_
  refine g_sreg [0] (by kernel_rfl) (by kernel_rfl) ?_
  refine s_val (some 21) (.int .i64 0) (fun w => by kernel_rfl) (by kernel_rfl) ?_
  refine s_nil ?_
  refine g_block 0 (by kernel_rfl) ?_
  have hr0 := hr_7; rw [tailI0 n _ rfl] at hr0
  refine g_loop (by kernel_rfl) (fun mz ρ ww => ∃ (b : Nat) (cap : Nat) (z : Nat) (cur : Array Value) (i : Nat), 8 - i = mz ∧ (i ≤ 8) ∧ (z = List.length (tailI n i)) ∧ (Rw 1 cur cap z (cellsB (tailI n i))) ∧ St w.heap.size w ww [(b, Obj.cells cur 5 (0, 0))] ∧ Is [(0, .int .u64 ((n : Nat) : Int)), (2, .string (⟨#[]⟩)), (3, .int .u64 ((63 - ((n + 8) % 64) : Nat) : Int)), (4, .slice (some ⟨b, 0, none⟩) z cap), (5, .int .u64 ((8 * n : Nat) : Int)), (21, .int .i64 ((i : Nat) : Int))] ρ) (8 - 0) ⟨b_1, (1 + (63 - ((n + 8) % 64))) + 8, 1 + (63 - ((n + 8) % 64)), cur_4, 0, rfl, (by omega), (by rw [tailI_len]; omega), hr0, H2, (Is.of ⟨(by kernel_rfl), (by kernel_rfl), (by kernel_rfl), (by kernel_rfl), (by kernel_rfl), (by kernel_rfl), trivial⟩)⟩ ?_
  clear H2
  rintro _ _ w3 ⟨b, cap, z, cur, i, rfl, hi, hm, hr, H3, _, rfl⟩
  have hlen := tailI_len n i
  refine g_sreg [0] (by kernel_rfl) (by kernel_rfl) ?_
  by_cases hc1 : (i : Nat) < 8
  · skip
    refine s_valE (some 22) (.bool (decide (((i : Nat) : Int) < 8))) (.bool true) (fun w => by kernel_rfl) (bool_eq (decide_eq_true (by omega))) (by kernel_rfl) ?_
    refine s_nil ?_
    refine g_seq (by kernel_rfl) ?_
    refine g_cond_t (by kernel_rfl) (by kernel_rfl) ?_
    refine g_skip (by kernel_rfl) ?_
    show WP _ _ _ _ _ _
    refine g_seq (by kernel_rfl) ?_
    refine g_block 1 (by kernel_rfl) ?_
    refine g_sreg [0, 1] (by kernel_rfl) (by kernel_rfl) ?_
    refine s_val (some 23) (.int .i64 ((i : Nat) : Int)) (fun w => by kernel_rfl) (by kernel_rfl) ?_
    refine s_val (some 6) (.int .i64 ((i : Nat) : Int)) (fun w => by kernel_rfl) (by kernel_rfl) ?_
    refine s_nil ?_
    refine g_reg0 [0, 1, 2, 3, 4, 5, 6, 7, 8, 9] (by kernel_rfl) ?_
    refine s_val (some 24) (.slice (some ⟨b, 0, none⟩) z cap) (fun w => by kernel_rfl) (by kernel_rfl) ?_
    refine s_val (some 25) (.int .u64 ((8 * n : Nat) : Int)) (fun w => by kernel_rfl) (by kernel_rfl) ?_
    refine s_val (some 26) (.int .i64 ((i : Nat) : Int)) (fun w => by kernel_rfl) (by kernel_rfl) ?_
    refine s_valE (some 27) (.int .i64 (IntKind.i64.wrap (7 - ((i : Nat) : Int)))) (.int .i64 ((7 - i : Nat) : Int)) (fun w => by kernel_rfl) (int_eq (wrapSub_i64 (a := 7) (b := i) (by omega))) (by kernel_rfl) ?_
    refine s_valE (some 28) (.int .i64 (IntKind.i64.wrap (8 * ((7 - i : Nat) : Int)))) (.int .i64 ((8 * (7 - i) : Nat) : Int)) (fun w => by kernel_rfl) (int_eq (wrapMul_i64 (a := 8) (b := 7 - i) (by omega))) (by kernel_rfl) ?_
    refine s_valE (some 29) (.int .u64 (Int.fdiv ((8 * n : Nat) : Int) (2 ^ (min (8 * (7 - i)) 64)))) (.int .u64 (((8 * n) / 2 ^ (8 * (7 - i)) : Nat) : Int)) (fun w => by kernel_rfl) (int_eq (shr_min (8 * n) (8 * (7 - i)) 64 (by omega))) (by kernel_rfl) ?_
    refine s_valE (some 30) (.int .u8 (IntKind.u8.wrap ((((8 * n) / 2 ^ (8 * (7 - i)) : Nat) : Int)))) (.int .u8 ((BitVec.toNat (BitVec.ofNat 8 ((8 * n) / 2 ^ (8 * (7 - i)))) : Nat) : Int)) (fun w => by kernel_rfl) (bv_ofNat_u8 ((8 * n) / 2 ^ (8 * (7 - i)))) (by kernel_rfl) ?_
    refine s_new H3 (some 31) (fun b => .slice (some ⟨b, 0, none⟩) 1 1) #[.int .u8 ((BitVec.toNat (BitVec.ofNat 8 ((8 * n) / 2 ^ (8 * (7 - i)))) : Nat) : Int)] 5 (fun w => by kernel_rfl) (by kernel_rfl) ?_
    intro b1 w4 H4; clear H3
    refine s_append H4 (some 32) 38 5 1 1 (.tmp 24) (.tmp 31) 1 0 b b1 z 1 cap 1 cur #[.int .u8 ((BitVec.toNat (BitVec.ofNat 8 ((8 * n) / 2 ^ (8 * (7 - i)))) : Nat) : Int)] 5 (0, 0) (cellsB (tailI n i)) ([.int .u8 ((BitVec.toNat (BitVec.ofNat 8 ((8 * n) / 2 ^ (8 * (7 - i)))) : Nat) : Int)]) (fun b_8 cur_10 => [(b1, Obj.cells #[.int .u8 ((BitVec.toNat (BitVec.ofNat 8 ((8 * n) / 2 ^ (8 * (7 - i)))) : Nat) : Int)] 5 (0, 0)), (b_8, Obj.cells cur_10 5 (0, 0))]) (by kernel_rfl) (by kernel_rfl) (by kernel_rfl) (by kernel_rfl) (by kernel_rfl) hr (by kernel_rfl) (by kernel_rfl) (by rfl) (by rfl) (by intro u hu; simp at hu; first | exact hu.elim | (rcases hu with rfl | rfl | rfl | rfl <;> rfl) | (rcases hu with rfl | rfl <;> rfl) | (subst hu; rfl)) (by omega) (by unfold maxLen; omega) (fun _ _ => by kernel_rfl) ?_
    intro b_8 cap_9 cur_10 w5 H5 hr_11; clear H4
    refine s_val (some 4) (.slice (some ⟨b_8, 0, none⟩) (z + 1) cap_9) (fun w => by kernel_rfl) (by kernel_rfl) ?_
    refine s_nil ?_
    show WP _ _ _ _ _ _
    refine g_reg0 [0, 1] (by kernel_rfl) ?_
    refine s_valE (some 33) (.int .i64 (IntKind.i64.wrap (((i : Nat) : Int) + 1))) (.int .i64 ((i + 1 : Nat) : Int)) (fun w => by kernel_rfl) (int_eq (wrapAdd_i64 (a := i) (b := 1) (by omega))) (by kernel_rfl) ?_
    refine s_val (some 21) (.int .i64 ((i + 1 : Nat) : Int)) (fun w => by kernel_rfl) (by kernel_rfl) ?_
    refine s_nil ?_
    have hrow : Rw 1 cur_10 cap_9 (z + 1) (cellsB (tailI n (i + 1))) := by rw [tailI_succ, cellsB_append]; exact hr_11
    have HD2 : St w.heap.size w w5 [(b_8, Obj.cells cur_10 5 (0, 0))] := H5.sub (List.Sublist.cons _ (List.Sublist.cons_cons _ List.Sublist.slnil))
    show ∃ m, _ ∧ _
    exact ⟨_, (by omega), b_8, cap_9, (z + 1), cur_10, (i + 1), rfl, (by omega), (by rw [tailI_succ, List.length_append, ← hm]; rfl), hrow, HD2, (Is.of ⟨(by kernel_rfl), (by kernel_rfl), (by kernel_rfl), (by kernel_rfl), (by kernel_rfl), (by kernel_rfl), trivial⟩)⟩
  · skip
    refine s_valE (some 22) (.bool (decide (((i : Nat) : Int) < 8))) (.bool false) (fun w => by kernel_rfl) (bool_eq (decide_eq_false (by omega))) (by kernel_rfl) ?_
    refine s_nil ?_
    refine g_seq (by kernel_rfl) ?_
    refine g_cond_f (by kernel_rfl) (by kernel_rfl) ?_
    refine g_exit 0 (by kernel_rfl) ?_
    show WP _ _ _ _ _ _
    refine g_sreg [0, 1, 2] (by kernel_rfl) (by kernel_rfl) ?_
    refine s_val (some 34) (.slice (some ⟨b, 0, none⟩) z cap) (fun w => by kernel_rfl) (by kernel_rfl) ?_
    refine s_bytesStrB H3 (some 35) 38 9 5 (.tmp 34) 0 b z cap cur 5 (0, 0) (tailI n i) (by kernel_rfl) (by kernel_rfl) (by kernel_rfl) (by kernel_rfl) (by kernel_rfl) (by kernel_rfl) (by kernel_rfl) hr ?_
    refine s_val (some 2) (.string (strB (tailI n i))) (fun w => by kernel_rfl) (by kernel_rfl) ?_
    refine s_nil ?_
    refine g_ret (by kernel_rfl) ?_
    show ∃ vs, Res _ _ _ _ vs ∧ _
    refine ⟨[.string (strB (tailI n i))], (.tmp (.string (strB (tailI n i))) (by kernel_rfl) .nil), ?_, H3.below⟩
    obtain rfl : i = 8 := by omega
    rfl

set_option maxRecDepth 100000 in
set_option maxHeartbeats 2000000 in
theorem masked_fn (s : ByteArray) (hs : s.size ≤ 64) (m : BitVec 8) : Fn Tryd.prog 21 #[.string s, .int .u8 ((BitVec.toNat m : Nat) : Int)] (.string (strB (maskB (tl s) m))) := by
  refine Fn.intro (c := codeOf Tryd.f21) [.tmp 4] 22 Tryd.func21 (by kernel_rfl) (by kernel_rfl) (by kernel_rfl) fun w => ?_
  have H0 := St.start w
  refine g_sreg [0] (by kernel_rfl) (by kernel_rfl) ?_
  refine s_val (some 4) (.string (⟨#[]⟩)) (fun w => by kernel_rfl) (by kernel_rfl) ?_
  refine s_nil ?_
  refine g_sreg [0] (by kernel_rfl) (by kernel_rfl) ?_
  refine s_alloc H0 (some 5) 59 (zeroV .u8 64) (by kernel_rfl) (by kernel_rfl) (by kernel_rfl) ?_
  intro b1 w1 H1; clear H0
  refine s_nil ?_
  refine g_sreg [0, 1, 2] (by kernel_rfl) (by kernel_rfl) ?_
  refine s_op (some 7) _ (.slice (some ⟨b1, 0, none⟩) 64 64) (by kernel_rfl) (by kernel_rfl) (fun o w ho => slArr_run (t := 59) (n := 64) (e := 5) (z := 1) (by kernel_rfl) (by kernel_rfl) (x := (.tmp 5)) b1 ho (by kernel_rfl) w) ?_
  refine s_val (some 8) (.string s) (fun w => by kernel_rfl) (by kernel_rfl) ?_
  refine s_copyStr H1 (some 9) 38 9 5 1 (.tmp 7) (.tmp 8) 0 b1 64 64 s (Value.cells (zeroV .u8 64)) (Value.cells (arrB 64 (maskF (tl s) m 0))) 59 [(b1, Obj.cells (Value.cells (arrB 64 (maskF (tl s) m 0))) 59 (0, 0))] (by kernel_rfl) (by kernel_rfl) (by kernel_rfl) (by kernel_rfl) (by kernel_rfl) (by kernel_rfl) (by omega) (by show _ ≤ 64; omega) (mask_copy s m hs) (by kernel_rfl) ?_
  intro w2 H2; clear H1
  refine s_nil ?_
  refine g_seq (by kernel_rfl) ?_
  refine g_sreg [0] (by kernel_rfl) (by kernel_rfl) ?_
  refine s_val (some 10) (.int .i64 0) (fun w => by kernel_rfl) (by kernel_rfl) ?_
  refine s_nil ?_
  refine g_block 0 (by kernel_rfl) ?_
  refine g_loop (by kernel_rfl) (fun mz ρ ww => ∃ (i : Nat), 64 - i = mz ∧ (i ≤ 64) ∧ St w.heap.size w ww [(b1, Obj.cells (Value.cells (arrB 64 (maskF (tl s) m i))) 59 (0, 0))] ∧ Is [(0, .string s), (1, .int .u8 ((BitVec.toNat m : Nat) : Int)), (4, .string (⟨#[]⟩)), (5, .pointer (some ⟨b1, 0, none⟩)), (10, .int .i64 ((i : Nat) : Int))] ρ) (64 - 0) ⟨0, rfl, (by omega), H2, (Is.of ⟨(by kernel_rfl), (by kernel_rfl), (by kernel_rfl), (by kernel_rfl), (by kernel_rfl), trivial⟩)⟩ ?_
  clear H2
  rintro _ _ w3 ⟨i, rfl, hi, H3, _, rfl⟩
  refine g_sreg [0] (by kernel_rfl) (by kernel_rfl) ?_
  by_cases hc1 : (i : Nat) < 64
  · skip
    refine s_valE (some 11) (.bool (decide (((i : Nat) : Int) < 64))) (.bool true) (fun w => by kernel_rfl) (bool_eq (decide_eq_true (by omega))) (by kernel_rfl) ?_
    refine s_nil ?_
    refine g_seq (by kernel_rfl) ?_
    refine g_cond_t (by kernel_rfl) (by kernel_rfl) ?_
    refine g_skip (by kernel_rfl) ?_
    show WP _ _ _ _ _ _
    refine g_seq (by kernel_rfl) ?_
    refine g_block 1 (by kernel_rfl) ?_
    refine g_sreg [0, 1] (by kernel_rfl) (by kernel_rfl) ?_
    refine s_val (some 12) (.int .i64 ((i : Nat) : Int)) (fun w => by kernel_rfl) (by kernel_rfl) ?_
    refine s_val (some 6) (.int .i64 ((i : Nat) : Int)) (fun w => by kernel_rfl) (by kernel_rfl) ?_
    refine s_nil ?_
    refine g_reg0 [0, 1, 2, 3, 4, 5, 6] (by kernel_rfl) ?_
    refine s_val (some 13) (.int .i64 ((i : Nat) : Int)) (fun w => by kernel_rfl) (by kernel_rfl) ?_
    refine s_op (some 14) _ (.pointer (some ⟨b1, 0 + i * 1, none⟩)) (by kernel_rfl) (by kernel_rfl) (fun o w ho => idxA_run (kd := .i64) (t := 59) (n := 64) (size := 1) (by kernel_rfl) (x := (.tmp 5)) (y := (.tmp 13)) b1 0 i ho (by kernel_rfl) (by kernel_rfl) (by omega) w) ?_
    refine s_load1 H3 (some 15) 5 (.tmp 14) 0 b1 (0 + i * 1) (Value.cells (arrB 64 (maskF (tl s) m i))) 59 (0, 0) (.int .u8 ((BitVec.toNat ((maskF (tl s) m i) i) : Nat) : Int)) (by kernel_rfl) (by kernel_rfl) (by kernel_rfl) (by kernel_rfl) (by kernel_rfl) (arrB_at (n := 64) (maskF (tl s) m i) (k := i) (by omega) (by omega)) ?_
    refine s_val (some 16) (.int .u8 ((BitVec.toNat m : Nat) : Int)) (fun w => by kernel_rfl) (by kernel_rfl) ?_
    refine s_valE (some 17) (.int .u8 (Go.bits .xor .u8 (((BitVec.toNat ((maskF (tl s) m i) i) : Nat) : Int)) (((BitVec.toNat m : Nat) : Int)))) (.int .u8 ((BitVec.toNat (((maskF (tl s) m i) i) ^^^ m) : Nat) : Int)) (fun w => by kernel_rfl) (bv_xor_u8 ((maskF (tl s) m i) i) m) (by kernel_rfl) ?_
    refine s_op (some 18) _ (.pointer (some ⟨b1, 0 + i * 1, none⟩)) (by kernel_rfl) (by kernel_rfl) (fun o w ho => idxA_run (kd := .i64) (t := 59) (n := 64) (size := 1) (by kernel_rfl) (x := (.tmp 5)) (y := (.tmp 13)) b1 0 i ho (by kernel_rfl) (by kernel_rfl) (by omega) w) ?_
    refine s_store H3 0 [(b1, Obj.cells (Value.cells (arrB 64 (maskF (tl s) m (i + 1)))) 59 (0, 0))] 5 (.tmp 18) (.tmp 17) b1 (0 + i * 1) (Value.cells (arrB 64 (maskF (tl s) m i))) (Value.cells (arrB 64 (maskF (tl s) m (i + 1)))) 59 (.int .u8 ((BitVec.toNat (((maskF (tl s) m i) i) ^^^ m) : Nat) : Int)) (by kernel_rfl) (by kernel_rfl) (by kernel_rfl) (by kernel_rfl) (by kernel_rfl) (by kernel_rfl) (by show _ + 1 ≤ 64; omega) (arrB_put (k := i) (x := ((maskF (tl s) m i) i) ^^^ m) (by omega) (by omega) (fun j _ => maskF_put (tl s) m i j)) (by kernel_rfl) ?_
    intro w4 H4; clear H3
    refine s_nil ?_
    show WP _ _ _ _ _ _
    refine g_reg0 [0, 1] (by kernel_rfl) ?_
    refine s_valE (some 19) (.int .i64 (IntKind.i64.wrap (((i : Nat) : Int) + 1))) (.int .i64 ((i + 1 : Nat) : Int)) (fun w => by kernel_rfl) (int_eq (wrapAdd_i64 (a := i) (b := 1) (by omega))) (by kernel_rfl) ?_
    refine s_val (some 10) (.int .i64 ((i + 1 : Nat) : Int)) (fun w => by kernel_rfl) (by kernel_rfl) ?_
    refine s_nil ?_
    show ∃ m, _ ∧ _
    exact ⟨_, (by omega), (i + 1), rfl, (by omega), H4, (Is.of ⟨(by kernel_rfl), (by kernel_rfl), (by kernel_rfl), (by kernel_rfl), (by kernel_rfl), trivial⟩)⟩
  · skip
    refine s_valE (some 11) (.bool (decide (((i : Nat) : Int) < 64))) (.bool false) (fun w => by kernel_rfl) (bool_eq (decide_eq_false (by omega))) (by kernel_rfl) ?_
    refine s_nil ?_
    refine g_seq (by kernel_rfl) ?_
    refine g_cond_f (by kernel_rfl) (by kernel_rfl) ?_
    refine g_exit 0 (by kernel_rfl) ?_
    show WP _ _ _ _ _ _
    refine g_sreg [0, 1, 2] (by kernel_rfl) (by kernel_rfl) ?_
    refine s_op (some 20) _ (.slice (some ⟨b1, 0, none⟩) 64 64) (by kernel_rfl) (by kernel_rfl) (fun o w ho => slArr_run (t := 59) (n := 64) (e := 5) (z := 1) (by kernel_rfl) (by kernel_rfl) (x := (.tmp 5)) b1 ho (by kernel_rfl) w) ?_
    have hi64 : i = 64 := by omega
    have hrow := arrB_rw 64 (maskF (tl s) m i) (by unfold maxLen; omega)
    rw [show ((List.range 64).map fun j => UInt8.ofBitVec (maskF (tl s) m i j)) = maskB (tl s) m by rw [hi64]; exact mask_done _ _] at hrow
    refine s_bytesStrB H3 (some 21) 38 9 5 (.tmp 20) 0 b1 64 64 (Value.cells (arrB 64 (maskF (tl s) m i))) 59 (0, 0) (maskB (tl s) m) (by kernel_rfl) (by kernel_rfl) (by kernel_rfl) (by kernel_rfl) (by kernel_rfl) (by kernel_rfl) (by kernel_rfl) hrow ?_
    refine s_val (some 4) (.string (strB (maskB (tl s) m))) (fun w => by kernel_rfl) (by kernel_rfl) ?_
    refine s_nil ?_
    refine g_ret (by kernel_rfl) ?_
    show ∃ vs, Res _ _ _ _ vs ∧ _
    refine ⟨[.string (strB (maskB (tl s) m))], (.tmp (.string (strB (maskB (tl s) m))) (by kernel_rfl) .nil), ?_, H3.below⟩
    rfl

set_option maxRecDepth 100000 in
set_option maxHeartbeats 2000000 in
theorem end_fn (p : Pd) (hp : p.n ≤ 1000000000000000000) : FnP Tryd.prog 19 #[pdV p] (Roots) (.string (strB (endB p))) := by
  refine FnP.intro (c := codeOf Tryd.f19) [.tmp 2] 30 Tryd.func19 (by kernel_rfl) (by kernel_rfl) (by kernel_rfl) fun w hpre => ?_
  have H0 := St.start w
  refine g_sreg [0, 1] (by kernel_rfl) (by kernel_rfl) ?_
  refine s_box H0 (some 1) 45 (.tmp 0) (pdV p) (by kernel_rfl) (by kernel_rfl) (by kernel_rfl) ?_
  intro b1 w1 H1; clear H0
  refine s_val (some 2) (.string (⟨#[]⟩)) (fun w => by kernel_rfl) (by kernel_rfl) ?_
  refine s_nil ?_
  refine D2.g_sdraw [0, 1, 2, 3, 4, 5, 6, 7] [((some 6), fun _ => pdV p), ((some 7), fun _ => .pointer (some ⟨b1, 24, none⟩)), ((some 8), fun _ => .int .u64 ((Pd.n p : Nat) : Int)), ((some 9), fun _ => .string (strB (tailB (Pd.n p)))), ((some 10), fun _ => pdV (takeB p (tailB (Pd.n p)))), ((some 11), fun _ => arr 8 (Pd.s (takeB p (tailB (Pd.n p))))), ((some 3), fun b => .pointer (some ⟨b.b, 0, none⟩)), (none, fun _ => undef)] (D2.Pre w.heap.size w (fun L g => [(true, (b1, Obj.cells (Value.cells (pdV p)) 45 (0, 0))), (L 6, (bif L 7 then ((g 6).b, Obj.cells (Value.cells (arr 8 (Pd.s (takeB p (tailB (Pd.n p)))))) 31 (0, 0)) else ((g 6).b, Obj.cells #[.int .u32 0, .int .u32 0, .int .u32 0, .int .u32 0, .int .u32 0, .int .u32 0, .int .u32 0, .int .u32 0] 31 (0, 0))))]) (fun L g => True)) (by kernel_rfl) (by kernel_rfl) (by kernel_rfl) (by kernel_rfl) ⟨D2.StE.of H1.drew _ (by kernel_rfl), trivial⟩ ⟨?_, ?_, ?_, ?_, ?_, ?_, ?_, ?_, trivial⟩ ?_
  · exact D2.gv_load 45 (.tmp 1) 0 (fun g => b1) (Value.cells (pdV p)) 45 (0, 0) (fun _ _ _ h => h) (fun g => by kernel_rfl) (fun g => by kernel_rfl) (fun L g hN => (by kernel_rfl)) (by kernel_rfl)
  · exact D2.gv_val (fun _ _ _ h => h) (fun g w => by kernel_rfl)
  · exact D2.gv_load1 43 (.tmp 7) 0 (fun g => b1) (fun g => 24) (fun g => (Value.cells (pdV p))) 45 (0, 0) (fun _ _ _ h => h) (fun g => by kernel_rfl) (fun g => by kernel_rfl) (fun L g hN => (by kernel_rfl)) (by kernel_rfl) (fun L g hN hF => by kernel_rfl)
  · exact D2.gv_call 27 #[.int .u64 ((Pd.n p : Nat) : Int)] (fun _ _ _ h => h) (behind_fn (Pd.n p) (Nat.le_trans hp (by decide))) (fun g w => by kernel_rfl)
  · exact D2.gv_callP 18 (fun g => #[pdV p, .string (strB (tailB (Pd.n p)))]) (fun g => Roots) (fun _ _ _ h => h) (fun L g hN hF => by exact (take_fn p (strB (tailB (Pd.n p))) (Nat.le_trans hp (by decide)) (Nat.le_trans (tailB_len (Pd.n p)) (by decide)))) (fun L g w hN hE hF => by exact (Roots.oldE hE rfl hpre)) (fun g w => by kernel_rfl)
  · exact D2.gv_val (fun _ _ _ h => h) (fun g w => by kernel_rfl)
  · exact D2.gv_alloc 31 (.agg #[.int .u32 0, .int .u32 0, .int .u32 0, .int .u32 0, .int .u32 0, .int .u32 0, .int .u32 0, .int .u32 0]) 1 (fun g => by kernel_rfl) (by kernel_rfl) (fun L g b hN => (by have hL7 : L 7 = false := (hN.post 7 (by kernel_rfl)); exact D2.ent_set (x' := (true, (bif L 7 then (((D2.setN g 6 { b := b }) 6).b, Obj.cells (Value.cells (arr 8 (Pd.s (takeB p (tailB (Pd.n p)))))) 31 (0, 0)) else (((D2.setN g 6 { b := b }) 6).b, Obj.cells #[.int .u32 0, .int .u32 0, .int .u32 0, .int .u32 0, .int .u32 0, .int .u32 0, .int .u32 0, .int .u32 0] 31 (0, 0))))) (by kernel_rfl) (by simp only [hL7, cond_true, cond_false] <;> rfl))) (fun L g b hN hF => hF)
  · exact D2.gv_store 1 31 (.tmp 3) (.tmp 11) (fun g => (g 6).b) (fun g => 0) #[.int .u32 0, .int .u32 0, .int .u32 0, .int .u32 0, .int .u32 0, .int .u32 0, .int .u32 0, .int .u32 0] (Value.cells (arr 8 (Pd.s (takeB p (tailB (Pd.n p)))))) 31 (arr 8 (Pd.s (takeB p (tailB (Pd.n p))))) (fun g => by kernel_rfl) (fun g => by kernel_rfl) (fun g => by kernel_rfl) (by kernel_rfl) (by kernel_rfl) (fun g => (of_decide_eq_true (by kernel_rfl))) (fun g => (by kernel_rfl)) (fun L g hN => ⟨(by have hL6 : L 6 = true := (hN.bef 6 (by kernel_rfl)); have hL7 : L 7 = false := hN.1; exact D2.ent_get' (p := L 6) (e := (bif L 7 then ((g 6).b, Obj.cells (Value.cells (arr 8 (Pd.s (takeB p (tailB (Pd.n p)))))) 31 (0, 0)) else ((g 6).b, Obj.cells #[.int .u32 0, .int .u32 0, .int .u32 0, .int .u32 0, .int .u32 0, .int .u32 0, .int .u32 0, .int .u32 0] 31 (0, 0)))) (by kernel_rfl) (by exact hL6) (by simp only [hL6, hL7, cond_true, cond_false] <;> rfl)), (by have hL6 : L 6 = true := (hN.bef 6 (by kernel_rfl)); exact D2.ent_set (x' := (L 6, ((g 6).b, Obj.cells (Value.cells (arr 8 (Pd.s (takeB p (tailB (Pd.n p)))))) 31 (0, 0)))) (by kernel_rfl) (by simp only [hL6, cond_true, cond_false] <;> rfl))⟩) (fun L g hN hF => hF)
  intro L0 G2 w2 hall HL; clear H1
  have H2 : St w.heap.size w w2 [(b1, Obj.cells (Value.cells (pdV p)) 45 (0, 0)), ((G2 6).b, Obj.cells (Value.cells (arr 8 (Pd.s (takeB p (tailB (Pd.n p)))))) 31 (0, 0))] := by have e6 := hall 6 (Nat.le_of_ble_eq_true (by kernel_rfl)); have e7 := hall 7 (Nat.le_of_ble_eq_true (by kernel_rfl)); have hS := D2.StE.st HL.1; simp only [e6, e7, cond_true, D2.pres] at hS; exact hS
  clear HL hall
  refine g_sreg [0] (by kernel_rfl) (by kernel_rfl) ?_
  refine s_alloc H2 (some 4) 58 (zeroV .u8 32) (by kernel_rfl) (by kernel_rfl) (by kernel_rfl) ?_
  intro b2 w3 H3; clear H2
  refine s_nil ?_
  refine g_seq (by kernel_rfl) ?_
  refine g_sreg [0] (by kernel_rfl) (by kernel_rfl) ?_
  refine s_val (some 12) (.int .i64 0) (fun w => by kernel_rfl) (by kernel_rfl) ?_
  refine s_nil ?_
  refine g_block 0 (by kernel_rfl) ?_
  have HA : St w.heap.size w w3 [(b2, Obj.cells (Value.cells (arrB 32 (outF (Pd.s (takeB p (tailB (Pd.n p)))) 0))) 58 (0, 0)), (b1, Obj.cells (Value.cells (pdV p)) 45 (0, 0)), ((G2 6).b, Obj.cells (Value.cells (arr 8 (Pd.s (takeB p (tailB (Pd.n p)))))) 31 (0, 0))] := H3
  have HD1 : St w.heap.size w w3 [(b2, Obj.cells (Value.cells (arrB 32 (outF (Pd.s (takeB p (tailB (Pd.n p)))) 0))) 58 (0, 0)), ((G2 6).b, Obj.cells (Value.cells (arr 8 (Pd.s (takeB p (tailB (Pd.n p)))))) 31 (0, 0))] := HA.sub (List.Sublist.cons_cons _ (List.Sublist.cons _ (List.Sublist.cons_cons _ List.Sublist.slnil)))
  have HF2 : St w.heap.size w w3 [(b2, Obj.cells (Value.cells (arrB 32 (outF (Pd.s (takeB p (tailB (Pd.n p)))) 0))) 58 (0, 0)), ((G2 6).b, Obj.cells (Value.cells (arr 8 (Pd.s (takeB p (tailB (Pd.n p)))))) 31 (0, 0))] := HD1.front 0 (by kernel_rfl) (by kernel_rfl)
  have HF3 : St w.heap.size w w3 [((G2 6).b, Obj.cells (Value.cells (arr 8 (Pd.s (takeB p (tailB (Pd.n p)))))) 31 (0, 0)), (b2, Obj.cells (Value.cells (arrB 32 (outF (Pd.s (takeB p (tailB (Pd.n p)))) 0))) 58 (0, 0))] := HF2.front 1 (by kernel_rfl) (by kernel_rfl)
  refine g_loop (by kernel_rfl) (fun mz ρ ww => ∃ (i : Nat), 32 - i = mz ∧ (i ≤ 32) ∧ St w.heap.size w ww [((G2 6).b, Obj.cells (Value.cells (arr 8 (Pd.s (takeB p (tailB (Pd.n p)))))) 31 (0, 0)), (b2, Obj.cells (Value.cells (arrB 32 (outF (Pd.s (takeB p (tailB (Pd.n p)))) i))) 58 (0, 0))] ∧ Is [(0, pdV p), (1, .pointer (some ⟨b1, 0, none⟩)), (2, .string (⟨#[]⟩)), (3, .pointer (some ⟨(G2 6).b, 0, none⟩)), (4, .pointer (some ⟨b2, 0, none⟩)), (12, .int .i64 ((i : Nat) : Int))] ρ) (32 - 0) ⟨0, rfl, (by omega), HF3, (Is.of ⟨(by kernel_rfl), (by kernel_rfl), (by kernel_rfl), (by kernel_rfl), (by kernel_rfl), (by kernel_rfl), trivial⟩)⟩ ?_
  clear HF3
  rintro _ _ w4 ⟨i, rfl, hi, H4, _, rfl⟩
  refine g_sreg [0] (by kernel_rfl) (by kernel_rfl) ?_
  by_cases hc4 : (i : Nat) < 32
  · skip
    refine s_valE (some 13) (.bool (decide (((i : Nat) : Int) < 32))) (.bool true) (fun w => by kernel_rfl) (bool_eq (decide_eq_true (by omega))) (by kernel_rfl) ?_
    refine s_nil ?_
    refine g_seq (by kernel_rfl) ?_
    refine g_cond_t (by kernel_rfl) (by kernel_rfl) ?_
    refine g_skip (by kernel_rfl) ?_
    show WP _ _ _ _ _ _
    refine g_seq (by kernel_rfl) ?_
    refine g_block 1 (by kernel_rfl) ?_
    refine g_sreg [0, 1] (by kernel_rfl) (by kernel_rfl) ?_
    refine s_val (some 14) (.int .i64 ((i : Nat) : Int)) (fun w => by kernel_rfl) (by kernel_rfl) ?_
    refine s_val (some 5) (.int .i64 ((i : Nat) : Int)) (fun w => by kernel_rfl) (by kernel_rfl) ?_
    refine s_nil ?_
    refine g_reg0 [0, 1, 2, 3, 4, 5, 6, 7, 8, 9, 10, 11, 12] (by kernel_rfl) ?_
    refine s_val (some 15) (.int .i64 ((i : Nat) : Int)) (fun w => by kernel_rfl) (by kernel_rfl) ?_
    refine s_val (some 16) (.int .i64 ((i : Nat) : Int)) (fun w => by kernel_rfl) (by kernel_rfl) ?_
    refine s_valE (some 17) (.int .i64 (IntKind.i64.wrap (((i : Nat) : Int).tdiv 4))) (.int .i64 ((i / 4 : Nat) : Int)) (fun w => by kernel_rfl) (int_eq (quoN_i64 (a := i) (b := 4) (by omega))) (by kernel_rfl) ?_
    refine s_op (some 18) _ (.pointer (some ⟨(G2 6).b, 0 + (i / 4) * 1, none⟩)) (by kernel_rfl) (by kernel_rfl) (fun o w ho => idxA_run (kd := .i64) (t := 31) (n := 8) (size := 1) (by kernel_rfl) (x := (.tmp 3)) (y := (.tmp 17)) (G2 6).b 0 (i / 4) ho (by kernel_rfl) (by kernel_rfl) (by omega) w) ?_
    refine s_load1 H4 (some 19) 30 (.tmp 18) 0 ((G2 6).b) (0 + (i / 4) * 1) (Value.cells (arr 8 (Pd.s (takeB p (tailB (Pd.n p)))))) 31 (0, 0) (.int .u32 ((BitVec.toNat (nth (Pd.s (takeB p (tailB (Pd.n p)))) (i / 4)) : Nat) : Int)) (by kernel_rfl) (by kernel_rfl) (by kernel_rfl) (by kernel_rfl) (by kernel_rfl) (arr_at (n := 8) (Pd.s (takeB p (tailB (Pd.n p)))) (k := (i / 4)) (by omega) (by omega)) ?_
    refine s_val (some 20) (.int .i64 ((i : Nat) : Int)) (fun w => by kernel_rfl) (by kernel_rfl) ?_
    refine s_valE (some 21) (.int .i64 (Int.tmod ((i : Nat) : Int) 4)) (.int .i64 ((i % 4 : Nat) : Int)) (fun w => by kernel_rfl) (int_eq (remN i 4)) (by kernel_rfl) ?_
    refine s_valE (some 22) (.int .i64 (IntKind.i64.wrap (3 - ((i % 4 : Nat) : Int)))) (.int .i64 ((3 - (i % 4) : Nat) : Int)) (fun w => by kernel_rfl) (int_eq (wrapSub_i64 (a := 3) (b := i % 4) (by omega))) (by kernel_rfl) ?_
    refine s_valE (some 23) (.int .i64 (IntKind.i64.wrap (8 * ((3 - (i % 4) : Nat) : Int)))) (.int .i64 ((8 * (3 - (i % 4)) : Nat) : Int)) (fun w => by kernel_rfl) (int_eq (wrapMul_i64 (a := 8) (b := 3 - (i % 4)) (by omega))) (by kernel_rfl) ?_
    refine s_valE (some 24) (.int .u32 (Int.fdiv (((BitVec.toNat (nth (Pd.s (takeB p (tailB (Pd.n p)))) (i / 4)) : Nat) : Int)) (2 ^ (min (8 * (3 - (i % 4))) 32)))) (.int .u32 ((BitVec.toNat ((nth (Pd.s (takeB p (tailB (Pd.n p)))) (i / 4)) >>> (8 * (3 - (i % 4)))) : Nat) : Int)) (fun w => by kernel_rfl) (bv_shr_u32 (nth (Pd.s (takeB p (tailB (Pd.n p)))) (i / 4)) (8 * (3 - (i % 4)))) (by kernel_rfl) ?_
    refine s_valE (some 25) (.int .u8 (IntKind.u8.wrap (((BitVec.toNat ((nth (Pd.s (takeB p (tailB (Pd.n p)))) (i / 4)) >>> (8 * (3 - (i % 4)))) : Nat) : Int)))) (.int .u8 ((BitVec.toNat (BitVec.setWidth 8 ((nth (Pd.s (takeB p (tailB (Pd.n p)))) (i / 4)) >>> (8 * (3 - (i % 4))))) : Nat) : Int)) (fun w => by kernel_rfl) (bv_conv_u8 ((nth (Pd.s (takeB p (tailB (Pd.n p)))) (i / 4)) >>> (8 * (3 - (i % 4))))) (by kernel_rfl) ?_
    refine s_op (some 26) _ (.pointer (some ⟨b2, 0 + i * 1, none⟩)) (by kernel_rfl) (by kernel_rfl) (fun o w ho => idxA_run (kd := .i64) (t := 58) (n := 32) (size := 1) (by kernel_rfl) (x := (.tmp 4)) (y := (.tmp 15)) b2 0 i ho (by kernel_rfl) (by kernel_rfl) (by omega) w) ?_
    refine s_store H4 1 [((G2 6).b, Obj.cells (Value.cells (arr 8 (Pd.s (takeB p (tailB (Pd.n p)))))) 31 (0, 0)), (b2, Obj.cells (Value.cells (arrB 32 (outF (Pd.s (takeB p (tailB (Pd.n p)))) (i + 1)))) 58 (0, 0))] 5 (.tmp 26) (.tmp 25) b2 (0 + i * 1) (Value.cells (arrB 32 (outF (Pd.s (takeB p (tailB (Pd.n p)))) i))) (Value.cells (arrB 32 (outF (Pd.s (takeB p (tailB (Pd.n p)))) (i + 1)))) 58 (.int .u8 ((BitVec.toNat (BitVec.setWidth 8 ((nth (Pd.s (takeB p (tailB (Pd.n p)))) (i / 4)) >>> (8 * (3 - (i % 4))))) : Nat) : Int)) (by kernel_rfl) (by kernel_rfl) (by kernel_rfl) (by kernel_rfl) (by kernel_rfl) (by kernel_rfl) (by show _ + 1 ≤ 32; omega) (arrB_put (k := i) (x := BitVec.setWidth 8 ((nth (Pd.s (takeB p (tailB (Pd.n p)))) (i / 4)) >>> (8 * (3 - (i % 4))))) (by omega) (by omega) (fun j _ => outF_put (Pd.s (takeB p (tailB (Pd.n p)))) i j)) (by kernel_rfl) ?_
    intro w5 H5; clear H4
    refine s_nil ?_
    show WP _ _ _ _ _ _
    refine g_reg0 [0, 1] (by kernel_rfl) ?_
    refine s_valE (some 27) (.int .i64 (IntKind.i64.wrap (((i : Nat) : Int) + 1))) (.int .i64 ((i + 1 : Nat) : Int)) (fun w => by kernel_rfl) (int_eq (wrapAdd_i64 (a := i) (b := 1) (by omega))) (by kernel_rfl) ?_
    refine s_val (some 12) (.int .i64 ((i + 1 : Nat) : Int)) (fun w => by kernel_rfl) (by kernel_rfl) ?_
    refine s_nil ?_
    show ∃ m, _ ∧ _
    exact ⟨_, (by omega), (i + 1), rfl, (by omega), H5, (Is.of ⟨(by kernel_rfl), (by kernel_rfl), (by kernel_rfl), (by kernel_rfl), (by kernel_rfl), (by kernel_rfl), trivial⟩)⟩
  · skip
    refine s_valE (some 13) (.bool (decide (((i : Nat) : Int) < 32))) (.bool false) (fun w => by kernel_rfl) (bool_eq (decide_eq_false (by omega))) (by kernel_rfl) ?_
    refine s_nil ?_
    refine g_seq (by kernel_rfl) ?_
    refine g_cond_f (by kernel_rfl) (by kernel_rfl) ?_
    refine g_exit 0 (by kernel_rfl) ?_
    show WP _ _ _ _ _ _
    refine g_sreg [0, 1, 2] (by kernel_rfl) (by kernel_rfl) ?_
    refine s_op (some 28) _ (.slice (some ⟨b2, 0, none⟩) 32 32) (by kernel_rfl) (by kernel_rfl) (fun o w ho => slArr_run (t := 58) (n := 32) (e := 5) (z := 1) (by kernel_rfl) (by kernel_rfl) (x := (.tmp 4)) b2 ho (by kernel_rfl) w) ?_
    have hi32 : i = 32 := by omega
    have hrow := arrB_rw 32 (outF (Pd.s (takeB p (tailB (Pd.n p)))) i) (by unfold maxLen; omega)
    rw [show ((List.range 32).map fun j => UInt8.ofBitVec (outF (Pd.s (takeB p (tailB (Pd.n p)))) i j)) = outB (Pd.s (takeB p (tailB (Pd.n p)))) by rw [hi32]; exact out_done _] at hrow
    refine s_bytesStrB H4 (some 29) 38 9 5 (.tmp 28) 1 b2 32 32 (Value.cells (arrB 32 (outF (Pd.s (takeB p (tailB (Pd.n p)))) i))) 58 (0, 0) (outB (Pd.s (takeB p (tailB (Pd.n p))))) (by kernel_rfl) (by kernel_rfl) (by kernel_rfl) (by kernel_rfl) (by kernel_rfl) (by kernel_rfl) (by kernel_rfl) hrow ?_
    refine s_val (some 2) (.string (strB (outB (Pd.s (takeB p (tailB (Pd.n p))))))) (fun w => by kernel_rfl) (by kernel_rfl) ?_
    refine s_nil ?_
    refine g_ret (by kernel_rfl) ?_
    show ∃ vs, Res _ _ _ _ vs ∧ _
    refine ⟨[.string (strB (outB (Pd.s (takeB p (tailB (Pd.n p))))))], (.tmp (.string (strB (outB (Pd.s (takeB p (tailB (Pd.n p))))))) (by kernel_rfl) .nil), ?_, H4.below⟩
    rfl
end Go.Proofs.YtjhldipeicpoeaaDoor
