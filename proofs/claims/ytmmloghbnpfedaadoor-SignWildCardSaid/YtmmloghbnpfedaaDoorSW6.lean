/-
  Texts of the proof, part 6.
-/
import Derived.Test.YtmmloghbnpfedaaDoorProg
import Derived.Test.YtmmloghbnpfedaaDoorChecked
import Derived.Laws.IdiomArrays
import Derived.Deep.Strs
import Derived.Test.YtmmloghbnpfedaaDoorRows
import Derived.Lib.LaidTab
import Derived.MakeChecks
import Derived.LaidLaws
import Derived.LaidHandle
import Derived.ProofKit
import Derived.Test.YtmmloghbnpfedaaDoorSW2
import Derived.Test.YtmmloghbnpfedaaDoorSW3
import Derived.Test.YtmmloghbnpfedaaDoorSW4
import Derived.Test.YtmmloghbnpfedaaDoorSW5

namespace Go.Proofs.YtmmloghbnpfedaaDoor.Ke
open Go Go.RowKit Go.Proofs.Kec
set_option linter.unusedVariables false
set_option maxRecDepth 100000 in
set_option maxHeartbeats 2000000 in
theorem word_fn (s : ByteArray) (hs : ByteArray.size s = 8) : Fn Tryd.prog 69 #[.string s] (.int .u64 ((BitVec.toNat (wrk (tl s) 0 8) : Nat) : Int)) := by
  refine Fn.intro (c := codeOf Tryd.f69) [.tmp 2] 17 Tryd.func69 kr kr kr fun w => ?_
  have H0 := St.start w
  refine rS [.v] H0 kr fun gs1 w1 H1 => ?_
  clear H0
  refine rS [.v] H1 kr fun gs2 w2 H2 => ?_
  clear H1
  refine g_seq kr ?_
  refine rS [.v] H2 kr fun gs3 w3 H3 => ?_
  clear H2
  refine g_block 0 kr ?_
  have HL1 : St w.heap.size w w3 [] := H3.as kr
  clear H3
  refine g_loop kr (fun mz ρ ww => ∃ (j : Nat), j = mz ∧ (j ≤ 8) ∧ St w.heap.size w ww [] ∧ Is [(0, .string s), (2, .int .u64 0), (3, .int .u64 ((BitVec.toNat (wrk (tl s) 0 (8 - j)) : Nat) : Int)), (4, .int .i64 (((j : Nat) : Int) - 1))] ρ) 8 ⟨8, rfl, (by omega), HL1, (Is.of ⟨kr, kr, kr, kr, trivial⟩)⟩ ?_
  clear HL1
  rintro _ _ w4 ⟨j, rfl, hj, H4, _, rfl⟩
  refine g_seq kr ?_
  refine g_sreg [0, 1] kr kr ?_
  refine rp [.v] H4 kr fun gs5 w5 H5 => ?_
  show WPs _ _ _ _ [1] _ _
  clear H4
  by_cases hc2 : (((j : Nat) : Int) - 1 : Int) ≥ 0
  · skip
    refine rp [.e (v := .bool (decide (0 ≤ ((j : Nat) : Int) - 1))) (v' := .bool true) (bool_eq (decide_eq_true (by omega)))] H5 kr fun gs6 w6 H6 => ?_
    show WPs _ _ _ _ [] _ _
    clear H5
    refine s_nil ?_
    refine g_cond_t kr kr ?_
    refine g_skip kr ?_
    show WP _ _ _ _ _ _
    refine g_seq kr ?_
    refine g_block 1 kr ?_
    refine g_now 4 (v := .int .i64 (((j : Nat) : Int) - 1)) (v' := .int .i64 ((j - 1 : Nat) : Int)) (int_eq (show (((j : Nat) : Int) - 1) = ((j - 1 : Nat) : Int) from by omega)) kr ?_
    refine g_now 5 (v := .int .i64 (((j : Nat) : Int) - 1)) (v' := .int .i64 ((j - 1 : Nat) : Int)) (int_eq (show (((j : Nat) : Int) - 1) = ((j - 1 : Nat) : Int) from by omega)) kr ?_
    have hbl := by_lt s (j - 1)
    refine rL [.v, .e (v := .int .u64 (IntKind.u64.wrap ((256) * (((BitVec.toNat (wrk (tl s) 0 (8 - j)) : Nat) : Int))))) (v' := .int .u64 ((BitVec.toNat ((256 : BitVec 64) * (wrk (tl s) 0 (8 - j))) : Nat) : Int)) (bv_mul_u64 (256 : BitVec 64) (wrk (tl s) 0 (8 - j))), .v, .v, .o (ins := [((.tmp 11), .string s), ((.tmp 12), .int .i64 ((j - 1 : Nat) : Int))]) (v := .int .u8 ((by_ s (j - 1) : Nat) : Int)) (fun ρ o w ho hi => sindex_run (t := 9) (kd := .i64) kr (x := (.tmp 11)) (y := (.tmp 12)) s (j - 1) ho hi.1 hi.2.1 (by omega) w), .e (v := .int .u64 (IntKind.u64.wrap (((by_ s (j - 1) : Nat) : Int)))) (v' := .int .u64 ((BitVec.toNat (BitVec.ofNat 64 (by_ s (j - 1))) : Nat) : Int)) (bv_ofNat_u64 (by_ s (j - 1))), .e (v := .int .u64 (IntKind.u64.wrap ((((BitVec.toNat ((256 : BitVec 64) * (wrk (tl s) 0 (8 - j))) : Nat) : Int)) + (((BitVec.toNat (BitVec.ofNat 64 (by_ s (j - 1))) : Nat) : Int))))) (v' := .int .u64 ((BitVec.toNat (((256 : BitVec 64) * (wrk (tl s) 0 (8 - j))) + (BitVec.ofNat 64 (by_ s (j - 1)))) : Nat) : Int)) (bv_add_u64 ((256 : BitVec 64) * (wrk (tl s) 0 (8 - j))) (BitVec.ofNat 64 (by_ s (j - 1)))), .v] H6 kr fun gs7 w7 H7 => ?_
    clear H6
    show WP _ _ _ _ _ _
    refine rL [.v, .e (v := .int .i64 (IntKind.i64.wrap (((j - 1 : Nat) : Int) - 1))) (v' := .int .i64 (((j - 1 : Nat) : Int) - 1)) (int_eq (wrap_i64 (by omega) (by omega))), .v] H7 kr fun gs8 w8 H8 => ?_
    clear H7
    have HL3 : St w.heap.size w w8 [] := H8.as kr
    clear H8
    have hw : wrk (tl s) 0 (8 - (j - 1)) = ((256 : BitVec 64) * (wrk (tl s) 0 (8 - j))) + (BitVec.ofNat 64 (by_ s (j - 1))) := by rw [show 8 - (j - 1) = 8 - j + 1 by omega]; show 256 * wrk (tl s) 0 (8 - j) + bt (tl s) (0 + (7 - (8 - j))) = _; rw [show 0 + (7 - (8 - j)) = j - 1 by omega]; rfl
    show ∃ m, _ ∧ _
    exact ⟨_, (by omega), (j - 1), rfl, (by omega), HL3, (Is.of ⟨kr, kr, (Eq.trans (b := .int .u64 ((BitVec.toNat (((256 : BitVec 64) * (wrk (tl s) 0 (8 - j))) + (BitVec.ofNat 64 (by_ s (j - 1)))) : Nat) : Int)) kr (by rw [hw])), kr, trivial⟩)⟩
  · skip
    refine rp [.e (v := .bool (decide (0 ≤ ((j : Nat) : Int) - 1))) (v' := .bool false) (bool_eq (decide_eq_false (by omega)))] H5 kr fun gs9 w9 H9 => ?_
    show WPs _ _ _ _ [] _ _
    clear H5
    refine s_nil ?_
    refine g_cond_f kr kr ?_
    refine g_exit 0 kr ?_
    show WP _ _ _ _ _ _
    refine rS [.v, .v] H9 kr fun gs10 w10 H10 => ?_
    clear H9
    refine g_ret kr ?_
    show ∃ vs, Res _ _ _ _ vs ∧ _
    refine ⟨[.int .u64 ((BitVec.toNat (wrk (tl s) 0 (8 - j)) : Nat) : Int)], (.tmp (.int .u64 ((BitVec.toNat (wrk (tl s) 0 (8 - j)) : Nat) : Int)) kr .nil), ?_, H10.below⟩
    obtain rfl : j = 0 := by omega
    rfl
set_option maxRecDepth 100000 in
set_option maxHeartbeats 2000000 in
theorem sumR_fn (s : ByteArray) (hsz : ByteArray.size s ≤ 100000000000000) : Fn Tryd.prog 33 #[.string s] (.string (strB (sumB (tl s)))) := by
  refine Fn.intro (c := codeOf Tryd.f33) [.tmp 2] 86 Tryd.func33 kr kr kr fun w => ?_
  have H0 := St.start w
  refine rS [.v] H0 kr fun gs1 w1 H1 => ?_
  clear H0
  refine g_sreg [0, 1, 2] kr kr ?_
  refine rp [.v] H1 kr fun gs2 w2 H2 => ?_
  show WPs _ _ _ _ [1, 2] _ _
  clear H1
  refine s_strBytes H2 (some 10) 9 69 5 (.tmp 9) s kr kr kr kr kr kr (by unfold maxLen; omega) ?_
  intro b_1 cap_2 cur_3 fz_4 w3 H3 hf_5 hr_6; clear H2
  refine rp [.v] H3 kr fun gs4 w4 H4 => ?_
  show WPs _ _ _ _ [] _ _
  clear H3
  refine s_nil ?_
  refine g_sreg [0, 1, 2, 3] kr kr ?_
  refine rp [.v, .nw (fun b => .slice (some ⟨b, 0, none⟩) 1 1) #[.int .u8 1] 5] H4 kr fun gs5 w5 H5 => ?_
  show WPs _ _ _ _ [2, 3] _ _
  clear H4
  refine s_appendM H5 (some 13) 69 5 1 1 (.tmp 11) (.tmp 12) 0 1 b_1 ((gs5 1).b) (ByteArray.size s) 1 cap_2 1 cur_3 #[.int .u8 1] fz_4 5 (0, 0) (cellsB (tl s)) ([.int .u8 1]) (fun b_7 cur_9 fz_10 => [(b_7, Obj.cells cur_9 5 fz_10), ((gs5 1).b, Obj.cells #[.int .u8 1] 5 (0, 0))]) kr kr kr kr kr hf_5 hr_6 kr kr (by rfl) (by rfl) (by intro u hu; simp at hu; first | exact hu.elim | (rcases hu with rfl | rfl | rfl | rfl <;> rfl) | (rcases hu with rfl | rfl <;> rfl) | (subst hu; rfl)) (by omega) (by unfold maxLen; omega) (fun _ _ _ => by kernel_rfl) ?_
  intro b_7 cap_8 cur_9 fz_10 w6 H6 hf_11 hr_12; clear H5
  have hr_12t : Rw 1 cur_9 cap_8 ((ByteArray.size s) + 1) (cellsB (tl s ++ [UInt8.ofBitVec (1 : BitVec 8)])) := by rw [cellsB_append]; exact hr_12
  have hr_12n : (ByteArray.size s) + 1 = List.length (tl s ++ [UInt8.ofBitVec (1 : BitVec 8)]) := by have h0 : ByteArray.size s = List.length (tl s) := rfl; rw [List.length_append, ← h0]; rfl
  refine rp [.v] H6 kr fun gs7 w7 H7 => ?_
  show WPs _ _ _ _ [] _ _
  clear H6
  refine s_nil ?_
  refine g_seq kr ?_
  refine g_block 0 kr ?_
  have HL1 : St w.heap.size w w7 [(b_7, Obj.cells cur_9 5 fz_10), ((gs5 1).b, Obj.cells #[.int .u8 1] 5 (0, 0))] := H7.as kr
  clear H7
  have HD2 : St w.heap.size w w7 [(b_7, Obj.cells cur_9 5 fz_10)] := HL1.sub (List.Sublist.cons_cons _ (List.Sublist.cons _ List.Sublist.slnil))
  refine g_loop kr (fun mz ρ ww => ∃ (b : Nat) (cap : Nat) (n : Nat) (cur : Array Value) (fz : Nat × Nat) (z : Nat), 135 - z = mz ∧ (n = List.length (padK s z)) ∧ (Rw 1 cur cap n (cellsB (padK s z))) ∧ (Clr fz cur) ∧ (z ≤ 135 - ByteArray.size s % 136) ∧ St w.heap.size w ww [(b, Obj.cells cur 5 fz)] ∧ Is [(0, .string s), (2, .string (⟨#[]⟩)), (3, .slice (some ⟨b, 0, none⟩) n cap)] ρ) (135 - 0) ⟨b_7, cap_8, (ByteArray.size s) + 1, cur_9, fz_10, 0, rfl, hr_12n, hr_12t, hf_11, (by omega), HD2, (Is.of ⟨kr, kr, kr, trivial⟩)⟩ ?_
  clear HD2
  rintro _ _ w8 ⟨b, cap, n, cur, fz, z, rfl, hn, hr, hf, hz, H8, _, rfl⟩
  have hlz := padK_len s z; rw [← hn] at hlz
  refine g_seq kr ?_
  refine g_sreg [0, 1, 2, 3] kr kr ?_
  refine rp [.v, .v, .e (v := .int .i64 (Int.tmod ((n : Nat) : Int) 136)) (v' := .int .i64 ((n % 136 : Nat) : Int)) (int_eq (remN n 136))] H8 kr fun gs9 w9 H9 => ?_
  show WPs _ _ _ _ [3] _ _
  clear H8
  by_cases hc3 : (n % 136 : Nat) > 0
  · skip
    refine rp [.e (v := .bool (decide (0 < ((n % 136 : Nat) : Int)))) (v' := .bool true) (bool_eq (decide_eq_true (by omega)))] H9 kr fun gs10 w10 H10 => ?_
    show WPs _ _ _ _ [] _ _
    clear H9
    refine s_nil ?_
    refine g_cond_t kr kr ?_
    refine g_skip kr ?_
    show WP _ _ _ _ _ _
    refine g_block 1 kr ?_
    refine g_reg0 [0, 1, 2, 3] kr ?_
    refine rp [.v, .nw (fun b => .slice (some ⟨b, 0, none⟩) 1 1) #[.int .u8 0] 5] H10 kr fun gs11 w11 H11 => ?_
    show WPs _ _ _ _ [2, 3] _ _
    clear H10
    refine s_appendM H11 (some 20) 69 5 1 1 (.tmp 18) (.tmp 19) 0 1 b ((gs11 1).b) n 1 cap 1 cur #[.int .u8 0] fz 5 (0, 0) (cellsB (padK s z)) ([.int .u8 0]) (fun b_13 cur_15 fz_16 => [(b_13, Obj.cells cur_15 5 fz_16), ((gs11 1).b, Obj.cells #[.int .u8 0] 5 (0, 0))]) kr kr kr kr kr hf hr kr kr (by rfl) (by rfl) (by intro u hu; simp at hu; first | exact hu.elim | (rcases hu with rfl | rfl | rfl | rfl <;> rfl) | (rcases hu with rfl | rfl <;> rfl) | (subst hu; rfl)) (by omega) (by unfold maxLen; omega) (fun _ _ _ => by kernel_rfl) ?_
    intro b_13 cap_14 cur_15 fz_16 w12 H12 hf_17 hr_18; clear H11
    have hr_18t : Rw 1 cur_15 cap_14 (n + 1) (cellsB (padK s z ++ [UInt8.ofBitVec (0 : BitVec 8)])) := by rw [cellsB_append]; exact hr_18
    have hr_18n : n + 1 = List.length (padK s z ++ [UInt8.ofBitVec (0 : BitVec 8)]) := by have h0 : n = List.length (padK s z) := hn; rw [List.length_append, ← h0]; rfl
    refine rp [.v] H12 kr fun gs13 w13 H13 => ?_
    show WPs _ _ _ _ [] _ _
    clear H12
    refine s_nil ?_
    have HL4 : St w.heap.size w w13 [(b_13, Obj.cells cur_15 5 fz_16), ((gs11 1).b, Obj.cells #[.int .u8 0] 5 (0, 0))] := H13.as kr
    clear H13
    have hrw := hr_18t; rw [padK_succ] at hrw
    have HD5 : St w.heap.size w w13 [(b_13, Obj.cells cur_15 5 fz_16)] := HL4.sub (List.Sublist.cons_cons _ (List.Sublist.cons _ List.Sublist.slnil))
    show ∃ m, _ ∧ _
    exact ⟨_, (by omega), b_13, cap_14, n + 1, cur_15, fz_16, (z + 1), rfl, (by rw [padK_len]; omega), hrw, hf_17, (by omega), HD5, (Is.of ⟨kr, kr, kr, trivial⟩)⟩
  · skip
    refine rp [.e (v := .bool (decide (0 < ((n % 136 : Nat) : Int)))) (v' := .bool false) (bool_eq (decide_eq_false (by omega)))] H9 kr fun gs14 w14 H14 => ?_
    show WPs _ _ _ _ [] _ _
    clear H9
    refine s_nil ?_
    refine g_cond_f kr kr ?_
    refine g_exit 0 kr ?_
    show WP _ _ _ _ _ _
    have hnp : 1 ≤ n := by omega
    refine g_sreg [0, 1, 2, 3, 4, 5, 6, 7, 8, 9, 10, 11, 12] kr kr ?_
    refine rp [.v, .v, .v, .e (v := .int .i64 (IntKind.i64.wrap (((n : Nat) : Int) - 1))) (v' := .int .i64 ((n - 1 : Nat) : Int)) (int_eq (wrapSub_i64 (a := n) (b := 1) (by omega))), .v, .v, .v, .e (v := .int .i64 (IntKind.i64.wrap (((n : Nat) : Int) - 1))) (v' := .int .i64 ((n - 1 : Nat) : Int)) (int_eq (wrapSub_i64 (a := n) (b := 1) (by omega))), .o (ins := [((.tmp 25), .slice (some ⟨b, 0, none⟩) n cap), ((.tmp 28), .int .i64 ((n - 1 : Nat) : Int))]) (v := .pointer (some ⟨b, 0 + (n - 1) * 1, none⟩)) (fun ρ o w ho hi => idxS_run (kd := .i64) (t := 69) (e := 5) (size := 1) (bytes := 1) kr (x := (.tmp 25)) (y := (.tmp 28)) b 0 n cap (n - 1) ho hi.1 hi.2.1 (by omega) w), .ls (C := cur) (off := 0 + (n - 1) * 1) (v := .int .u8 ((BitVec.toNat (UInt8.toBitVec (List.getD (padK s z) (n - 1) 0)) : Nat) : Int)) 0 (hr.atB (by omega) hn), .e (v := .int .u8 (IntKind.u8.wrap ((((BitVec.toNat (UInt8.toBitVec (List.getD (padK s z) (n - 1) 0)) : Nat) : Int)) + (128)))) (v' := .int .u8 ((BitVec.toNat ((UInt8.toBitVec (List.getD (padK s z) (n - 1) 0)) + (128 : BitVec 8)) : Nat) : Int)) (bv_add_u8 (UInt8.toBitVec (List.getD (padK s z) (n - 1) 0)) (128 : BitVec 8)), .o (ins := [((.tmp 21), .slice (some ⟨b, 0, none⟩) n cap), ((.tmp 24), .int .i64 ((n - 1 : Nat) : Int))]) (v := .pointer (some ⟨b, 0 + (n - 1) * 1, none⟩)) (fun ρ o w ho hi => idxS_run (kd := .i64) (t := 69) (e := 5) (size := 1) (bytes := 1) kr (x := (.tmp 21)) (y := (.tmp 24)) b 0 n cap (n - 1) ho hi.1 hi.2.1 (by omega) w)] H14 kr fun gs15 w15 H15 => ?_
    show WPs _ _ _ _ [12] _ _
    clear H14
    obtain ⟨cur_20, hc_21, hs_22, hr_23⟩ := hr.putB (n - 1) (UInt8.ofBitVec ((UInt8.toBitVec (List.getD (padK s z) (n - 1) 0)) + (128 : BitVec 8))) (by omega)
    refine s_storeM H15 0 [(b, Obj.cells cur_20 5 fz)] 5 (.tmp 32) (.tmp 31) b (0 + (n - 1) * 1) cur cur_20 5 fz (.int .u8 ((BitVec.toNat ((UInt8.toBitVec (List.getD (padK s z) (n - 1) 0)) + (128 : BitVec 8)) : Nat) : Int)) kr kr kr kr hf kr kr hs_22 hc_21 kr ?_
    intro w16 H16 hf_19; clear H15
    refine s_nil ?_
    refine g_keep [0, 2, 3, 17] fun ρ1 => ?_
    refine rS [.v, .a, .s 1] H16 kr fun gs17 w17 H17 => ?_
    clear H16
    refine g_seq kr ?_
    refine rS [.v] H17 kr fun gs18 w18 H18 => ?_
    clear H17
    refine g_block 2 kr ?_
    have HL6 : St w.heap.size w w18 [(b, Obj.cells cur_20 5 fz), ((gs17 1).b, Obj.cells #[.int .u64 0, .int .u64 0, .int .u64 0, .int .u64 0, .int .u64 0, .int .u64 0, .int .u64 0, .int .u64 0, .int .u64 0, .int .u64 0, .int .u64 0, .int .u64 0, .int .u64 0, .int .u64 0, .int .u64 0, .int .u64 0, .int .u64 0, .int .u64 0, .int .u64 0, .int .u64 0, .int .u64 0, .int .u64 0, .int .u64 0, .int .u64 0, .int .u64 0] 84 (0, 0))] := H18.as kr
    clear H18
    have hz2 : z = 135 - ByteArray.size s % 136 := by omega
    have hLr : Rw 1 cur_20 cap n (cellsB (PK s z)) := by have h0 := hr_23; rw [show n - 1 = (padK s z).length - 1 by rw [← hn]] at h0; exact h0
    have hLn : n = List.length (PK s z) := by rw [PK_len]; omega
    have hn136 : n % 136 = 0 := by omega
    have HS7 : St w.heap.size w w18 [(b, Obj.cells cur_20 5 fz), ((gs17 1).b, Obj.cells (Value.cells (svn zeroS)) 84 (0, 0))] := by rw [show (Value.cells (svn zeroS)) = #[.int .u64 0, .int .u64 0, .int .u64 0, .int .u64 0, .int .u64 0, .int .u64 0, .int .u64 0, .int .u64 0, .int .u64 0, .int .u64 0, .int .u64 0, .int .u64 0, .int .u64 0, .int .u64 0, .int .u64 0, .int .u64 0, .int .u64 0, .int .u64 0, .int .u64 0, .int .u64 0, .int .u64 0, .int .u64 0, .int .u64 0, .int .u64 0, .int .u64 0] from by kernel_rfl]; exact HL6
    have HF8 : St w.heap.size w w18 [(b, Obj.cells cur_20 5 fz), ((gs17 1).b, Obj.cells (Value.cells (svn zeroS)) 84 (0, 0))] := HS7.front 0 kr kr
    have HF9 : St w.heap.size w w18 [((gs17 1).b, Obj.cells (Value.cells (svn zeroS)) 84 (0, 0)), (b, Obj.cells cur_20 5 fz)] := HF8.front 1 kr kr
    refine g_loop kr (fun mz ρ ww => ∃ (a : List (BitVec 64)) (m : Nat), n - 136 * m = mz ∧ (136 * m ≤ n) ∧ (a.length = 25) ∧ (takeB (zeroS, 0) ((PK s z).take (136 * m)) = (a, 0)) ∧ St w.heap.size w ww [((gs17 1).b, Obj.cells (Value.cells (svn a)) 84 (0, 0)), (b, Obj.cells cur_20 5 fz)] ∧ Is [(0, .string s), (2, .string (⟨#[]⟩)), (3, .slice (some ⟨b, 0, none⟩) n cap), (4, .pointer (some ⟨(gs17 1).b, 0, none⟩)), (5, .int .i64 ((136 * m : Nat) : Int)), (17, .bool false)] ρ) (n - 0) ⟨zeroS, 0, rfl, (by omega), (by decide), rfl, HF9, (Is.of ⟨kr, kr, kr, kr, kr, kr, trivial⟩)⟩ ?_
    clear HF9
    rintro _ _ w19 ⟨a, m, rfl, hm, ha, ht, H19, _, rfl⟩
    refine g_seq kr ?_
    refine g_sreg [0, 1, 2, 3] kr kr ?_
    refine rp [.v, .v, .v] H19 kr fun gs20 w20 H20 => ?_
    show WPs _ _ _ _ [3] _ _
    clear H19
    by_cases hc10 : (136 * m : Nat) < n
    · skip
      refine rp [.e (v := .bool (decide (((136 * m : Nat) : Int) < ((n : Nat) : Int)))) (v' := .bool true) (bool_eq (decide_eq_true (by omega)))] H20 kr fun gs21 w21 H21 => ?_
      show WPs _ _ _ _ [] _ _
      clear H20
      refine s_nil ?_
      refine g_cond_t kr kr ?_
      refine g_skip kr ?_
      show WP _ _ _ _ _ _
      refine g_seq kr ?_
      refine g_block 3 kr ?_
      refine g_seq kr ?_
      refine rS [.v] H21 kr fun gs22 w22 H22 => ?_
      clear H21
      refine g_block 4 kr ?_
      have HL11 : St w.heap.size w w22 [((gs17 1).b, Obj.cells (Value.cells (svn a)) 84 (0, 0)), (b, Obj.cells cur_20 5 fz)] := H22.as kr
      clear H22
      have HX : St w.heap.size w w22 [((gs17 1).b, Obj.cells (Value.cells (svn (xw a (wd s z m) 0))) 84 (0, 0)), (b, Obj.cells cur_20 5 fz)] := by rw [← xw_zero (wd s z m) ha]; exact HL11
      refine g_loop kr (fun mz ρ ww => ∃ (i : Nat), 17 - i = mz ∧ (i ≤ 17) ∧ St w.heap.size w ww [((gs17 1).b, Obj.cells (Value.cells (svn (xw a (wd s z m) i))) 84 (0, 0)), (b, Obj.cells cur_20 5 fz)] ∧ Is [(0, .string s), (2, .string (⟨#[]⟩)), (3, .slice (some ⟨b, 0, none⟩) n cap), (4, .pointer (some ⟨(gs17 1).b, 0, none⟩)), (5, .int .i64 ((136 * m : Nat) : Int)), (6, .int .i64 ((i : Nat) : Int)), (17, .bool false), (37, .bool true)] ρ) (17 - 0) ⟨0, rfl, (by omega), HX, (Is.of ⟨kr, kr, kr, kr, kr, kr, kr, kr, trivial⟩)⟩ ?_
      clear HX
      rintro _ _ w23 ⟨i, rfl, hi, H23, _, rfl⟩
      refine g_seq kr ?_
      refine g_sreg [0, 1] kr kr ?_
      refine rp [.v] H23 kr fun gs24 w24 H24 => ?_
      show WPs _ _ _ _ [1] _ _
      clear H23
      by_cases hc12 : (i : Nat) < 17
      · skip
        refine rp [.e (v := .bool (decide (((i : Nat) : Int) < 17))) (v' := .bool true) (bool_eq (decide_eq_true (by omega)))] H24 kr fun gs25 w25 H25 => ?_
        show WPs _ _ _ _ [] _ _
        clear H24
        refine s_nil ?_
        refine g_cond_t kr kr ?_
        refine g_skip kr ?_
        show WP _ _ _ _ _ _
        refine g_seq kr ?_
        refine g_block 5 kr ?_
        have HL13 : St w.heap.size w w25 [((gs17 1).b, Obj.cells (Value.cells (svn (xw a (wd s z m) i))) 84 (0, 0)), (b, Obj.cells cur_20 5 fz)] := H25.as kr
        clear H25
        refine D2.g_draw0 [0, 1, 2, 3, 4, 5, 6, 7, 8, 9, 10, 11, 12, 13, 14, 15, 16, 17, 18, 19] [((some 44), fun _ => .int .i64 ((i : Nat) : Int)), ((some 45), fun _ => .int .i64 ((i : Nat) : Int)), ((some 46), fun _ => .pointer (some ⟨(gs17 1).b, 0 + i * 1, none⟩)), ((some 47), fun _ => .int .u64 ((BitVec.toNat (nth a i) : Nat) : Int)), ((some 48), fun _ => .slice (some ⟨b, 0, none⟩) n cap), ((some 49), fun _ => .int .i64 ((136 * m : Nat) : Int)), ((some 50), fun _ => .int .i64 ((i : Nat) : Int)), ((some 51), fun _ => .int .i64 ((8 * i : Nat) : Int)), ((some 52), fun _ => .int .i64 (((136 * m) + (8 * i) : Nat) : Int)), ((some 53), fun _ => .int .i64 ((136 * m : Nat) : Int)), ((some 54), fun _ => .int .i64 ((i : Nat) : Int)), ((some 55), fun _ => .int .i64 ((8 * i : Nat) : Int)), ((some 56), fun _ => .int .i64 (((136 * m) + (8 * i) : Nat) : Int)), ((some 57), fun _ => .int .i64 ((((136 * m) + (8 * i)) + 8 : Nat) : Int)), ((some 58), fun _ => .slice (some ⟨b, 136 * m + 8 * i, none⟩) 8 (cap - ((136 * m) + (8 * i)))), ((some 59), fun _ => .string (strB (List.take 8 (List.drop (136 * m + 8 * i) (PK s z))))), ((some 60), fun _ => .int .u64 ((BitVec.toNat (wrk (List.take 8 (List.drop (136 * m + 8 * i) (PK s z))) 0 8) : Nat) : Int)), ((some 61), fun _ => .int .u64 ((BitVec.toNat ((nth a i) ^^^ (wrk (List.take 8 (List.drop (136 * m + 8 * i) (PK s z))) 0 8)) : Nat) : Int)), ((some 62), fun _ => .pointer (some ⟨(gs17 1).b, 0 + i * 1, none⟩)), (none, fun _ => undef)] (D2.Pre w.heap.size w (fun L g => [(true, (bif L 19 then ((gs17 1).b, Obj.cells (Value.cells (svn (xw a (wd s z m) (i + 1)))) 84 (0, 0)) else ((gs17 1).b, Obj.cells (Value.cells (svn (xw a (wd s z m) i))) 84 (0, 0)))), (true, (b, Obj.cells cur_20 5 fz))]) (fun L g => True)) kr kr kr ⟨D2.StE.of HL13.drew _ kr, trivial⟩ ⟨?_, ?_, ?_, ?_, ?_, ?_, ?_, ?_, ?_, ?_, ?_, ?_, ?_, ?_, ?_, ?_, ?_, ?_, ?_, ?_, trivial⟩ ?_
        · exact D2.gv_val (fun _ _ _ h => h) (fun g w => by kernel_rfl)
        · exact D2.gv_val (fun _ _ _ h => h) (fun g w => by kernel_rfl)
        · exact D2.gv_op (fun _ _ _ h => h) _ (fun g => by kernel_rfl) (fun g => (fun o w ho => idxA_run (kd := .i64) (t := 84) (n := 25) (size := 1) kr (x := (.tmp 4)) (y := (.tmp 45)) (gs17 1).b 0 i ho kr kr (by omega) w))
        · exact D2.gv_load1 22 (.tmp 46) 0 (fun g => (gs17 1).b) (fun g => 0 + i * 1) (fun g => (Value.cells (svn (xw a (wd s z m) i)))) 84 (0, 0) (fun _ _ _ h => h) (fun g => by kernel_rfl) (fun g => by kernel_rfl) (fun L g hN => (by have hL19 : L 19 = false := (hN.post 19 kr); exact D2.ent_get' (p := true) (e := (bif L 19 then ((gs17 1).b, Obj.cells (Value.cells (svn (xw a (wd s z m) (i + 1)))) 84 (0, 0)) else ((gs17 1).b, Obj.cells (Value.cells (svn (xw a (wd s z m) i))) 84 (0, 0)))) kr (by rfl) (by simp only [hL19, cond_false] <;> rfl))) kr (fun L g hN hF => by exact ((show nth (xw a (wd s z m) i) i = nth a i from xw_at _ _ _ (by omega)) ▸ svn_at (xw a (wd s z m) i) i _ (by omega) (by omega)))
        · exact D2.gv_val (fun _ _ _ h => h) (fun g w => by kernel_rfl)
        · exact D2.gv_val (fun _ _ _ h => h) (fun g w => by kernel_rfl)
        · exact D2.gv_val (fun _ _ _ h => h) (fun g w => by kernel_rfl)
        · exact D2.gv_valE (fun _ _ _ h => h) (V' := .int .i64 (IntKind.i64.wrap (8 * ((i : Nat) : Int)))) (fun g w => by kernel_rfl) (int_eq (wrapMul_i64 (a := 8) (b := i) (by omega)))
        · exact D2.gv_valE (fun _ _ _ h => h) (V' := .int .i64 (IntKind.i64.wrap (((136 * m : Nat) : Int) + ((8 * i : Nat) : Int)))) (fun g w => by kernel_rfl) (int_eq (wrapAdd_i64 (a := 136 * m) (b := 8 * i) (by omega)))
        · exact D2.gv_val (fun _ _ _ h => h) (fun g w => by kernel_rfl)
        · exact D2.gv_val (fun _ _ _ h => h) (fun g w => by kernel_rfl)
        · exact D2.gv_valE (fun _ _ _ h => h) (V' := .int .i64 (IntKind.i64.wrap (8 * ((i : Nat) : Int)))) (fun g w => by kernel_rfl) (int_eq (wrapMul_i64 (a := 8) (b := i) (by omega)))
        · exact D2.gv_valE (fun _ _ _ h => h) (V' := .int .i64 (IntKind.i64.wrap (((136 * m : Nat) : Int) + ((8 * i : Nat) : Int)))) (fun g w => by kernel_rfl) (int_eq (wrapAdd_i64 (a := 136 * m) (b := 8 * i) (by omega)))
        · exact D2.gv_valE (fun _ _ _ h => h) (V' := .int .i64 (IntKind.i64.wrap ((((136 * m) + (8 * i) : Nat) : Int) + 8))) (fun g w => by kernel_rfl) (int_eq (wrapAdd_i64 (a := (136 * m) + (8 * i)) (b := 8) (by omega)))
        · exact D2.gv_op (fun _ _ _ h => h) _ (fun g => by kernel_rfl) (fun g => (fun o w ho => cut2_run (kd := .i64) (kz := .i64) (t := 69) (e := 5) (size := 1) (bytes := 1) kr (x := (.tmp 48)) (y := (.tmp 57)) (z := (.tmp 52)) b n cap ((136 * m) + (8 * i)) (((136 * m) + (8 * i)) + 8) ho kr kr kr (by have := hLr.le; omega) (by omega) (by have := hLr.le; omega) (136 * m + 8 * i) (8) (by omega) (by omega) w))
        · exact D2.gv_bytesCut 1 69 9 5 (.tmp 58) (fun g => b) (136 * m + 8 * i) 8 (cap - ((136 * m) + (8 * i))) cap n cur_20 5 fz (PK s z) (fun _ _ _ h => h) (fun g => by kernel_rfl) kr kr kr (fun g => by kernel_rfl) (fun L g hN => kr) hLr (by omega)
        · exact D2.gv_call 69 #[.string (strB (List.take 8 (List.drop (136 * m + 8 * i) (PK s z))))] (fun _ _ _ h => h) (word_fn (strB (List.take 8 (List.drop (136 * m + 8 * i) (PK s z)))) (show ByteArray.size (strB (List.take 8 (List.drop (136 * m + 8 * i) (PK s z)))) = 8 by rw [strB_size, List.length_take, List.length_drop]; omega)) (fun g w => by kernel_rfl)
        · exact D2.gv_valE (fun _ _ _ h => h) (V' := .int .u64 (Go.bits .xor .u64 (((BitVec.toNat (nth a i) : Nat) : Int)) (((BitVec.toNat (wrk (List.take 8 (List.drop (136 * m + 8 * i) (PK s z))) 0 8) : Nat) : Int)))) (fun g w => by kernel_rfl) (bv_xor_u64 (nth a i) (wrk (List.take 8 (List.drop (136 * m + 8 * i) (PK s z))) 0 8))
        · exact D2.gv_op (fun _ _ _ h => h) _ (fun g => by kernel_rfl) (fun g => (fun o w ho => idxA_run (kd := .i64) (t := 84) (n := 25) (size := 1) kr (x := (.tmp 4)) (y := (.tmp 44)) (gs17 1).b 0 i ho kr kr (by omega) w))
        · exact D2.gv_store 0 22 (.tmp 62) (.tmp 61) (fun g => (gs17 1).b) (fun g => 0 + i * 1) (Value.cells (svn (xw a (wd s z m) i))) (Value.cells (svn (xw a (wd s z m) (i + 1)))) 84 (.int .u64 ((BitVec.toNat ((nth a i) ^^^ (wrk (List.take 8 (List.drop (136 * m + 8 * i) (PK s z))) 0 8)) : Nat) : Int)) (fun g => by kernel_rfl) (fun g => by kernel_rfl) (fun g => by kernel_rfl) kr kr (fun g => (by show _ + 1 ≤ 25; omega)) (fun g => ((xw_set a (wd s z m) i (by omega)) ▸ svn_put (xw a (wd s z m) i) i _ ((nth a i) ^^^ (wrk (List.take 8 (List.drop (136 * m + 8 * i) (PK s z))) 0 8)) (xw_len _ _ _) (by omega) (by omega))) (fun L g hN => ⟨(by have hL19 : L 19 = false := hN.1; exact D2.ent_get' (p := true) (e := (bif L 19 then ((gs17 1).b, Obj.cells (Value.cells (svn (xw a (wd s z m) (i + 1)))) 84 (0, 0)) else ((gs17 1).b, Obj.cells (Value.cells (svn (xw a (wd s z m) i))) 84 (0, 0)))) kr (by rfl) (by simp only [hL19, cond_false] <;> rfl)), kr⟩) (fun L g hN hF => hF)
        intro L0 G26 w26 hall HL; clear HL13
        have H26 : St w.heap.size w w26 [((gs17 1).b, Obj.cells (Value.cells (svn (xw a (wd s z m) (i + 1)))) 84 (0, 0)), (b, Obj.cells cur_20 5 fz)] := by have e19 := hall 19 (Nat.le_of_ble_eq_true kr); have hS := D2.StE.st HL.1; simp only [e19, cond_true, D2.pres] at hS; exact hS
        clear HL hall
        show WP _ _ _ _ _ _
        refine g_keep [0, 2, 3, 4, 5, 6, 17, 37, 41] fun ρ2 => ?_
        refine rL [.v, .e (v := .int .i64 (IntKind.i64.wrap (((i : Nat) : Int) + 1))) (v' := .int .i64 ((i + 1 : Nat) : Int)) (int_eq (wrapAdd_i64 (a := i) (b := 1) (by omega))), .v] H26 kr fun gs27 w27 H27 => ?_
        clear H26
        have HL14 : St w.heap.size w w27 [((gs17 1).b, Obj.cells (Value.cells (svn (xw a (wd s z m) (i + 1)))) 84 (0, 0)), (b, Obj.cells cur_20 5 fz)] := H27.as kr
        clear H27
        show ∃ m, _ ∧ _
        exact ⟨_, (by omega), (i + 1), rfl, (by omega), HL14, (Is.of ⟨kr, kr, kr, kr, kr, kr, kr, kr, trivial⟩)⟩
      · skip
        refine rp [.e (v := .bool (decide (((i : Nat) : Int) < 17))) (v' := .bool false) (bool_eq (decide_eq_false (by omega)))] H24 kr fun gs28 w28 H28 => ?_
        show WPs _ _ _ _ [] _ _
        clear H24
        refine s_nil ?_
        refine g_cond_f kr kr ?_
        refine g_exit 4 kr ?_
        show WP _ _ _ _ _ _
        refine rL [.l 0, .c (mixR_fn (xw a (wd s z m) i)), .s 0] H28 kr fun gs29 w29 H29 => ?_
        clear H28
        show WP _ _ _ _ _ _
        refine rL [.v, .e (v := .int .i64 (IntKind.i64.wrap (((136 * m : Nat) : Int) + 136))) (v' := .int .i64 (((136 * m) + 136 : Nat) : Int)) (int_eq (wrapAdd_i64 (a := 136 * m) (b := 136) (by omega))), .v] H29 kr fun gs30 w30 H30 => ?_
        clear H29
        have HL15 : St w.heap.size w w30 [((gs17 1).b, Obj.cells (Value.cells (svn (mix (xw a (wd s z m) i)))) 84 (0, 0)), (b, Obj.cells cur_20 5 fz)] := H30.as kr
        clear H30
        have hw5 : (.int .i64 (((136 * m) + 136 : Nat) : Int) : Value) = .int .i64 ((136 * (m + 1) : Nat) : Int) := (int_eq (by omega))
        obtain rfl : i = 17 := by omega
        show ∃ m, _ ∧ _
        exact ⟨_, (by omega), (mix (xw a (wd s z m) 17)), (m + 1), rfl, (by omega), (mix_len (xw_len _ _ _)), (block_go s z m a ha ht (by omega)), HL15, (Is.of ⟨kr, kr, kr, kr, (Eq.trans (b := .int .i64 (((136 * m) + 136 : Nat) : Int)) kr hw5), kr, trivial⟩)⟩
    · skip
      refine rp [.e (v := .bool (decide (((136 * m : Nat) : Int) < ((n : Nat) : Int)))) (v' := .bool false) (bool_eq (decide_eq_false (by omega)))] H20 kr fun gs31 w31 H31 => ?_
      show WPs _ _ _ _ [] _ _
      clear H20
      refine s_nil ?_
      refine g_cond_f kr kr ?_
      refine g_exit 2 kr ?_
      show WP _ _ _ _ _ _
      refine rS [.nw (fun b => .slice (some ⟨b, 0, none⟩) 0 0) #[] 5, .v] H31 kr fun gs32 w32 H32 => ?_
      clear H31
      refine g_seq kr ?_
      refine rS [.v] H32 kr fun gs33 w33 H33 => ?_
      clear H32
      refine g_block 6 kr ?_
      have HL16 : St w.heap.size w w33 [((gs17 1).b, Obj.cells (Value.cells (svn a)) 84 (0, 0)), (b, Obj.cells cur_20 5 fz), ((gs32 0).b, Obj.cells #[] 5 (0, 0))] := H33.as kr
      clear H33
      have HD17 : St w.heap.size w w33 [((gs17 1).b, Obj.cells (Value.cells (svn a)) 84 (0, 0)), ((gs32 0).b, Obj.cells #[] 5 (0, 0))] := HL16.sub (List.Sublist.cons_cons _ (List.Sublist.cons _ (List.Sublist.cons_cons _ List.Sublist.slnil)))
      have HF18 : St w.heap.size w w33 [((gs17 1).b, Obj.cells (Value.cells (svn a)) 84 (0, 0)), ((gs32 0).b, Obj.cells #[] 5 (0, 0))] := HD17.front 0 kr kr
      have HF19 : St w.heap.size w w33 [((gs32 0).b, Obj.cells #[] 5 (0, 0)), ((gs17 1).b, Obj.cells (Value.cells (svn a)) 84 (0, 0))] := HF18.front 1 kr kr
      refine g_loop kr (fun mz ρ ww => ∃ (bo : Nat) (capo : Nat) (no : Nat) (curo : Array Value) (i : Nat), 32 - i = mz ∧ (no = i) ∧ (Rw 1 curo capo no (cellsB (outK a i))) ∧ (i ≤ 32) ∧ St w.heap.size w ww [(bo, Obj.cells curo 5 (0, 0)), ((gs17 1).b, Obj.cells (Value.cells (svn a)) 84 (0, 0))] ∧ Is [(0, .string s), (2, .string (⟨#[]⟩)), (3, .slice (some ⟨b, 0, none⟩) n cap), (4, .pointer (some ⟨(gs17 1).b, 0, none⟩)), (5, .int .i64 ((136 * m : Nat) : Int)), (7, .slice (some ⟨bo, 0, none⟩) no capo), (8, .int .i64 ((i : Nat) : Int)), (17, .bool false), (37, .bool false)] ρ) (32 - 0) ⟨(gs32 0).b, 0, 0, #[], 0, rfl, rfl, (Rw.lit #[] 0 rfl (by unfold maxLen; omega)), (by omega), HF19, (Is.of ⟨kr, kr, kr, kr, kr, kr, kr, kr, kr, trivial⟩)⟩ ?_
      clear HF19
      rintro _ _ w34 ⟨bo, capo, no, curo, i, rfl, hno, hro, hi, H34, _, rfl⟩
      refine g_seq kr ?_
      refine g_sreg [0, 1] kr kr ?_
      refine rp [.v] H34 kr fun gs35 w35 H35 => ?_
      show WPs _ _ _ _ [1] _ _
      clear H34
      by_cases hc20 : (i : Nat) < 32
      · skip
        refine rp [.e (v := .bool (decide (((i : Nat) : Int) < 32))) (v' := .bool true) (bool_eq (decide_eq_true (by omega)))] H35 kr fun gs36 w36 H36 => ?_
        show WPs _ _ _ _ [] _ _
        clear H35
        refine s_nil ?_
        refine g_cond_t kr kr ?_
        refine g_skip kr ?_
        show WP _ _ _ _ _ _
        refine g_seq kr ?_
        refine g_block 7 kr ?_
        refine g_reg0 [0, 1, 2, 3, 4, 5, 6, 7, 8, 9, 10, 11, 12, 13, 14] kr ?_
        refine rp [.v, .v, .e (v := .int .i64 (IntKind.i64.wrap (((i : Nat) : Int).tdiv 8))) (v' := .int .i64 ((i / 8 : Nat) : Int)) (int_eq (quoN_i64 (a := i) (b := 8) (by omega))), .o (ins := [((.tmp 4), .pointer (some ⟨(gs17 1).b, 0, none⟩)), ((.tmp 72), .int .i64 ((i / 8 : Nat) : Int))]) (v := .pointer (some ⟨(gs17 1).b, 0 + (i / 8) * 1, none⟩)) (fun ρ o w ho hi => idxA_run (kd := .i64) (t := 84) (n := 25) (size := 1) kr (x := (.tmp 4)) (y := (.tmp 72)) (gs17 1).b 0 (i / 8) ho hi.1 hi.2.1 (by omega) w), .ls (C := (Value.cells (svn a))) (off := 0 + (i / 8) * 1) (v := .int .u64 ((BitVec.toNat (nth a (i / 8)) : Nat) : Int)) 1 (svn_at a (i / 8) _ (by omega) (by omega)), .v, .e (v := .int .i64 (Int.tmod ((i : Nat) : Int) 8)) (v' := .int .i64 ((i % 8 : Nat) : Int)) (int_eq (remN i 8)), .e (v := .int .i64 (IntKind.i64.wrap (8 * ((i % 8 : Nat) : Int)))) (v' := .int .i64 ((8 * (i % 8) : Nat) : Int)) (int_eq (wrapMul_i64 (a := 8) (b := i % 8) (by omega))), .e (v := .int .u64 (IntKind.u64.wrap (((8 * (i % 8) : Nat) : Int)))) (v' := .int .u64 ((8 * (i % 8) : Nat) : Int)) (int_eq (wrapN_u64 (a := 8 * (i % 8)) (by omega))), .e (v := .int .u64 (Int.fdiv (((BitVec.toNat (nth a (i / 8)) : Nat) : Int)) (2 ^ (min (8 * (i % 8)) 64)))) (v' := .int .u64 ((BitVec.toNat ((nth a (i / 8)) >>> (8 * (i % 8))) : Nat) : Int)) (bv_shr_u64 (nth a (i / 8)) (8 * (i % 8))), .e (v := .int .u64 (Int.tmod (((BitVec.toNat ((nth a (i / 8)) >>> (8 * (i % 8))) : Nat) : Int)) (256))) (v' := .int .u64 ((BitVec.toNat (((nth a (i / 8)) >>> (8 * (i % 8))) % (256 : BitVec 64)) : Nat) : Int)) (bv_rem_u64 ((nth a (i / 8)) >>> (8 * (i % 8))) (256 : BitVec 64)), .e (v := .int .u8 (IntKind.u8.wrap (((BitVec.toNat (((nth a (i / 8)) >>> (8 * (i % 8))) % (256 : BitVec 64)) : Nat) : Int)))) (v' := .int .u8 ((BitVec.toNat (BitVec.setWidth 8 (((nth a (i / 8)) >>> (8 * (i % 8))) % (256 : BitVec 64))) : Nat) : Int)) (bv_conv_u8 (((nth a (i / 8)) >>> (8 * (i % 8))) % (256 : BitVec 64))), .nw (fun b => .slice (some ⟨b, 0, none⟩) 1 1) #[.int .u8 ((BitVec.toNat (BitVec.setWidth 8 (((nth a (i / 8)) >>> (8 * (i % 8))) % (256 : BitVec 64))) : Nat) : Int)] 5] H36 kr fun gs37 w37 H37 => ?_
        show WPs _ _ _ _ [13, 14] _ _
        clear H36
        refine s_append H37 (some 83) 69 5 1 1 (.tmp 70) (.tmp 82) 0 2 bo ((gs37 12).b) no 1 capo 1 curo #[.int .u8 ((BitVec.toNat (BitVec.setWidth 8 (((nth a (i / 8)) >>> (8 * (i % 8))) % (256 : BitVec 64))) : Nat) : Int)] 5 (0, 0) (cellsB (outK a i)) ([.int .u8 ((BitVec.toNat (BitVec.setWidth 8 (((nth a (i / 8)) >>> (8 * (i % 8))) % (256 : BitVec 64))) : Nat) : Int)]) (fun b_24 cur_26 => [(b_24, Obj.cells cur_26 5 (0, 0)), ((gs17 1).b, Obj.cells (Value.cells (svn a)) 84 (0, 0)), ((gs37 12).b, Obj.cells #[.int .u8 ((BitVec.toNat (BitVec.setWidth 8 (((nth a (i / 8)) >>> (8 * (i % 8))) % (256 : BitVec 64))) : Nat) : Int)] 5 (0, 0))]) kr kr kr kr kr hro kr kr (by rfl) (by rfl) (by intro u hu; simp at hu; first | exact hu.elim | (rcases hu with rfl | rfl | rfl | rfl <;> rfl) | (rcases hu with rfl | rfl <;> rfl) | (subst hu; rfl)) (by omega) (by unfold maxLen; omega) (fun _ _ => by kernel_rfl) ?_
        intro b_24 cap_25 cur_26 w38 H38 hr_27; clear H37
        have hr_27t : Rw 1 cur_26 cap_25 (no + 1) (cellsB (outK a i ++ [UInt8.ofBitVec (BitVec.setWidth 8 (((nth a (i / 8)) >>> (8 * (i % 8))) % (256 : BitVec 64)))])) := by rw [cellsB_append]; exact hr_27
        have hr_27n : no + 1 = List.length (outK a i ++ [UInt8.ofBitVec (BitVec.setWidth 8 (((nth a (i / 8)) >>> (8 * (i % 8))) % (256 : BitVec 64)))]) := by have h0 : no = List.length (outK a i) := (by rw [outK_len]; exact hno); rw [List.length_append, ← h0]; rfl
        refine rp [.v] H38 kr fun gs39 w39 H39 => ?_
        show WPs _ _ _ _ [] _ _
        clear H38
        refine s_nil ?_
        show WP _ _ _ _ _ _
        refine g_keep [0, 2, 3, 4, 5, 7, 8, 17, 37, 67] fun ρ3 => ?_
        have HK21 := H39.keep
        clear H39
        refine rL [.v, .e (v := .int .i64 (IntKind.i64.wrap (((i : Nat) : Int) + 1))) (v' := .int .i64 ((i + 1 : Nat) : Int)) (int_eq (wrapAdd_i64 (a := i) (b := 1) (by omega))), .v] HK21 kr fun gs40 w40 H40 => ?_
        clear HK21
        have HL22 : St w.heap.size w w40 [(b_24, Obj.cells cur_26 5 (0, 0)), ((gs17 1).b, Obj.cells (Value.cells (svn a)) 84 (0, 0)), ((gs37 12).b, Obj.cells #[.int .u8 ((BitVec.toNat (BitVec.setWidth 8 (((nth a (i / 8)) >>> (8 * (i % 8))) % (256 : BitVec 64))) : Nat) : Int)] 5 (0, 0))] := H40.as kr
        clear H40
        have hrw : Rw 1 cur_26 cap_25 (no + 1) (cellsB (outK a (i + 1))) := by rw [outK_succ]; have h0 := hr_27t; rw [byteK] at h0; exact h0
        have HD23 : St w.heap.size w w40 [(b_24, Obj.cells cur_26 5 (0, 0)), ((gs17 1).b, Obj.cells (Value.cells (svn a)) 84 (0, 0))] := HL22.sub (List.Sublist.cons_cons _ (List.Sublist.cons_cons _ (List.Sublist.cons _ List.Sublist.slnil)))
        show ∃ m, _ ∧ _
        exact ⟨_, (by omega), b_24, cap_25, no + 1, cur_26, (i + 1), rfl, (by omega), hrw, (by omega), HD23, (Is.of ⟨kr, kr, kr, kr, kr, kr, kr, kr, kr, trivial⟩)⟩
      · skip
        refine rp [.e (v := .bool (decide (((i : Nat) : Int) < 32))) (v' := .bool false) (bool_eq (decide_eq_false (by omega)))] H35 kr fun gs41 w41 H41 => ?_
        show WPs _ _ _ _ [] _ _
        clear H35
        refine s_nil ?_
        refine g_cond_f kr kr ?_
        refine g_exit 6 kr ?_
        show WP _ _ _ _ _ _
        refine g_sreg [0, 1, 2] kr kr ?_
        refine rp [.v] H41 kr fun gs42 w42 H42 => ?_
        show WPs _ _ _ _ [1, 2] _ _
        clear H41
        refine s_bytesStrB H42 (some 85) 69 9 5 (.tmp 84) 0 bo no capo curo 5 (0, 0) (outK a i) kr kr kr kr kr kr kr hro ?_
        refine rp [.v] H42 kr fun gs43 w43 H43 => ?_
        show WPs _ _ _ _ [] _ _
        clear H42
        refine s_nil ?_
        refine g_ret kr ?_
        show ∃ vs, Res _ _ _ _ vs ∧ _
        refine ⟨[.string (strB (outK a i))], (.tmp (.string (strB (outK a i))) kr .nil), ?_, H43.below⟩
        obtain rfl : i = 32 := by omega
        exact congrArg (fun x => Value.string (strB x)) (sum_done s z m a hz2 ht (by omega))
end Go.Proofs.YtmmloghbnpfedaaDoor.Ke

namespace Go.Proofs.YtmmloghbnpfedaaDoor
open Go Go.RowKit
set_option linter.unusedVariables false
open Go.Proofs.Kec Ke
def gx (a : Nat) : Nat := (Ec.ofPt (Ec.mulP Ec.G a)).X
def gy (a : Nat) : Nat := (Ec.ofPt (Ec.mulP Ec.G a)).Y
theorem radr (X Y : Nat) : ByteArray.extract (strB (sumB (tl (bs X ++ bs Y)))) 12 (ByteArray.size (strB (sumB (tl (bs X ++ bs Y))))) = adrB X Y := by
  have e : tl (bs X ++ bs Y) = tl (bs X) ++ tl (bs Y) := tl_add _ _
  unfold adrB; rw [e, ksum_size]
set_option maxRecDepth 100000 in
set_option maxHeartbeats 2000000 in
theorem raddr_p (X Y : Nat) (hX : X < big) (hY : Y < big) : Fn Tryd.prog 9 #[pv (Ec.Pd.mk X Y false)] (.string (adrB X Y)) := by
  have hz := ksum_size (tl (bs X ++ bs Y))
  refine Fn.intro (c := codeOf Tryd.f9) [.tmp 2] 12 Tryd.func9 kr kr kr fun w => ?_
  have H0 := St.start w
  refine rS [.b, .v] H0 kr fun gs1 w1 H1 => ?_
  clear H0
  refine dS [.v, .l 0, .c (refbytes_fn X hX), .v, .l 0, .c (refbytes_fn Y hY), .o (ins := [((.tmp 5), .string (bs X)), ((.tmp 8), .string (bs Y))]) (v := .string ((bs X) ++ (bs Y))) (fun ρ o w ho hi => sadd_run (t := 9) (t' := 9) (x := (.tmp 5)) (y := (.tmp 8)) (bs X) (bs Y) w ho hi.1 hi.2.1 (by rw [bs_size, bs_size]; omega)), .c (sumR_fn ((bs X) ++ (bs Y)) (by rw [sizes_add, bs_size, bs_size]; omega)), .o (ins := [((.tmp 10), .string (strB (sumB (tl ((bs X) ++ (bs Y)))))), ((.const (.int .i64 12)), .int .i64 12)]) (v := .string (ByteArray.extract (strB (sumB (tl ((bs X) ++ (bs Y))))) 12 (ByteArray.size (strB (sumB (tl ((bs X) ++ (bs Y)))))))) (fun ρ o w ho hi => scut3_run (t := 9) (kz := .i64) kr (x := (.tmp 10)) (z := (.const (.int .i64 12))) (strB (sumB (tl ((bs X) ++ (bs Y))))) 12 ho hi.1 hi.2.1 (by omega) w), .v] H1 kr fun w2 H2 => ?_
  clear H1
  refine g_ret kr ?_
  show ∃ vs, Res _ _ _ _ vs ∧ _
  refine ⟨[.string (ByteArray.extract (strB (sumB (tl ((bs X) ++ (bs Y))))) 12 (ByteArray.size (strB (sumB (tl ((bs X) ++ (bs Y)))))))], (.tmp (.string (ByteArray.extract (strB (sumB (tl ((bs X) ++ (bs Y))))) 12 (ByteArray.size (strB (sumB (tl ((bs X) ++ (bs Y)))))))) kr .nil), ?_, H2.below⟩
  exact congrArg Value.string (radr X Y)
end Go.Proofs.YtmmloghbnpfedaaDoor

namespace Go.Proofs.YtmmloghbnpfedaaDoor
open Go Go.RowKit
set_option linter.unusedVariables false
set_option maxRecDepth 100000 in
set_option maxHeartbeats 2000000 in
theorem rfrom_fn (s : ByteArray) (hs : ByteArray.size s ≤ 32) : Fn Tryd.prog 43 #[.string s] (uv (sv (tl s))) := by
  refine Fn.intro (c := codeOf Tryd.f43) [.cell 2 24] 23 Tryd.func43 kr kr kr fun w => ?_
  have H0 := St.start w
  refine rS [.a] H0 kr fun gs1 w1 H1 => ?_
  clear H0
  refine rS [.nw (fun b => .slice (some ⟨b, 0, none⟩) 0 0) #[] 3, .v] H1 kr fun gs2 w2 H2 => ?_
  clear H1
  refine g_seq kr ?_
  refine rS [.v] H2 kr fun gs3 w3 H3 => ?_
  clear H2
  refine g_block 0 kr ?_
  have HL1 : St w.heap.size w w3 [((gs1 0).b, Obj.cells #[.int .u64 0, .int .u64 0, .int .u64 0, .int .u64 0] 24 (0, 0)), ((gs2 0).b, Obj.cells #[] 3 (0, 0))] := H3.as kr
  clear H3
  refine g_loop kr (fun mz ρ ww => ∃ (b : Nat) (cap : Nat) (n : Nat) (cur : Array Value) (l : List Nat) (k : Nat), ByteArray.size s + 1 - k = mz ∧ (n = List.length l) ∧ (Rw 1 cur cap n (cellsD l)) ∧ (Ok l) ∧ (vl l = sv (List.take k (tl s))) ∧ (n ≤ 3 * k) ∧ (k ≤ ByteArray.size s) ∧ St w.heap.size w ww [((gs1 0).b, Obj.cells #[.int .u64 0, .int .u64 0, .int .u64 0, .int .u64 0] 24 (0, 0)), (b, Obj.cells cur 3 (0, 0))] ∧ Is [(0, .string s), (2, .pointer (some ⟨(gs1 0).b, 0, none⟩)), (3, .slice (some ⟨b, 0, none⟩) n cap), (4, .int .i64 ((k : Nat) : Int))] ρ) (ByteArray.size s + 1 - 0) ⟨(gs2 0).b, 0, 0, #[], [], 0, rfl, rfl, (Rw.lit #[] 0 rfl (by unfold maxLen; omega)), (by intro d hd; cases hd), rfl, (by omega), (by omega), HL1, (Is.of ⟨kr, kr, kr, kr, trivial⟩)⟩ ?_
  clear HL1
  rintro _ _ w4 ⟨b, cap, n, cur, l, k, rfl, hn, hr, hok, hv, hl, hk, H4, _, rfl⟩
  have hby := by_lt s k; have h256 : vl [256] = 256 := rfl; have hl256 : List.length [256] = 1 := rfl; have hlb : List.length [by_ s k] = 1 := rfl; have hvb : vl [by_ s k] = by_ s k := by simp [vl]
  refine g_seq kr ?_
  refine g_sreg [0, 1, 2, 3] kr kr ?_
  refine rp [.v, .v, .v] H4 kr fun gs5 w5 H5 => ?_
  show WPs _ _ _ _ [3] _ _
  clear H4
  by_cases hc2 : (k : Nat) < ByteArray.size s
  · skip
    refine rp [.e (v := .bool (decide (((k : Nat) : Int) < ((ByteArray.size s : Nat) : Int)))) (v' := .bool true) (bool_eq (decide_eq_true (by omega)))] H5 kr fun gs6 w6 H6 => ?_
    show WPs _ _ _ _ [] _ _
    clear H5
    refine s_nil ?_
    refine g_cond_t kr kr ?_
    refine g_skip kr ?_
    show WP _ _ _ _ _ _
    refine g_seq kr ?_
    refine g_block 1 kr ?_
    have HL3 : St w.heap.size w w6 [((gs1 0).b, Obj.cells #[.int .u64 0, .int .u64 0, .int .u64 0, .int .u64 0] 24 (0, 0)), (b, Obj.cells cur 3 (0, 0))] := H6.as kr
    clear H6
    refine D2.g_draw0 [0, 1, 2, 3, 4, 5, 6, 7, 8, 9] [((some 12), fun _ => .slice (some ⟨b, 0, none⟩) n cap), ((some 13), fun b => .slice (some ⟨b.b, 0, none⟩) 1 1), ((some 14), fun x => .slice (some ⟨x.b, 0, none⟩) x.n x.cap), ((some 15), fun _ => .string s), ((some 16), fun _ => .int .i64 ((k : Nat) : Int)), ((some 17), fun _ => .int .u8 ((by_ s k : Nat) : Int)), ((some 18), fun _ => .int .i64 ((by_ s k : Nat) : Int)), ((some 19), fun b => .slice (some ⟨b.b, 0, none⟩) 1 1), ((some 20), fun x => .slice (some ⟨x.b, 0, none⟩) x.n x.cap), ((some 3), fun y => .slice (some ⟨y.b, 0, none⟩) (y.n) (y.cap))] (D2.Pre w.heap.size w (fun L g => [(true, ((gs1 0).b, Obj.cells #[.int .u64 0, .int .u64 0, .int .u64 0, .int .u64 0] 24 (0, 0))), (true, (b, Obj.cells cur 3 (0, 0))), (L 1, ((g 1).b, Obj.cells #[.int .i64 256] 3 (0, 0))), (L 2, ((g 2).b, Obj.cells ((g 2).cur) 3 (0, 0))), (L 7, ((g 7).b, Obj.cells #[.int .i64 ((by_ s k : Nat) : Int)] 3 (0, 0))), (L 8, ((g 8).b, Obj.cells ((g 8).cur) 3 (0, 0)))]) (fun L g => (L 2 = true → ((g 2).n = List.length ((g 2).l) ∧ Rw 1 (g 2).cur (g 2).cap (g 2).n (cellsD ((g 2).l)) ∧ Ok ((g 2).l) ∧ (vl ((g 2).l) = vl l * vl ([256]) ∧ List.length ((g 2).l) = List.length l + List.length ([256]) + 1))) ∧ (L 8 = true → ((g 8).n = List.length ((g 8).l) ∧ Rw 1 (g 8).cur (g 8).cap (g 8).n (cellsD ((g 8).l)) ∧ Ok ((g 8).l) ∧ (vl ((g 8).l) = vl ((g 2).l) + vl ([by_ s k]) ∧ List.length ((g 8).l) ≤ max (List.length ((g 2).l)) (List.length ([by_ s k])) + 1 ∧ max (List.length ((g 2).l)) (List.length ([by_ s k])) ≤ List.length ((g 8).l)))) ∧ (L 9 = true → g 9 = g 8) ∧ True)) kr kr kr ⟨D2.StE.of HL3.drew _ kr, ⟨(fun h => nomatch h), (fun h => nomatch h), (fun h => nomatch h), trivial⟩⟩ ⟨?_, ?_, ?_, ?_, ?_, ?_, ?_, ?_, ?_, ?_, trivial⟩ ?_
    · exact D2.gv_val (fun _ _ _ h => h) (fun g w => by kernel_rfl)
    · exact D2.gv_new (fun b => .slice (some ⟨b, 0, none⟩) 1 1) #[.int .i64 256] 3 2 (fun g w => by kernel_rfl) (fun L g b hN => kr) (fun L g b hN hF => hF)
    · exact D2.gv_callS 58 (fun g => #[.slice (some ⟨b, 0, none⟩) n cap, .slice (some ⟨(g 1).b, 0, none⟩) 1 1]) (fun g => fun w => w.heap[b]? = some (.cells cur 3 (0, 0)) ∧ w.heap[(g 1).b]? = some (.cells #[.int .i64 256] 3 (0, 0))) 3 1 (fun g curZ capZ nZ lZ => (nZ = List.length lZ ∧ Rw 1 curZ capZ nZ (cellsD lZ) ∧ Ok lZ ∧ (vl lZ = vl l * vl ([256]) ∧ List.length lZ = List.length l + List.length ([256]) + 1))) 3 (fun L g hN hF => by exact times_fn l ([256]) b n cap ((g 1).b) 1 1 cur #[.int .i64 256] hn rfl hr (Rw.lit #[.int .i64 256] 1 (by rfl) (by unfold maxLen; omega)) hok (by intro d hd; simp at hd; omega) (by omega) (by simp)) (fun L g w hN hE hF => by exact ⟨(hE.get 1 kr), (hE.get 2 (by have hL1 : L 1 = true := (hN.bef 1 kr); exact D2.ent_get' (p := L 1) (e := ((g 1).b, Obj.cells #[.int .i64 256] 3 (0, 0))) kr (by exact hL1) (by simp only [] <;> rfl)))⟩) (fun g w => by kernel_rfl) (fun L g x hN => kr) (fun L g x hN hF hS => ⟨fun _ => hS, (fun hx => nomatch (Eq.trans (Eq.symm (show L 8 = true from hx)) (hN.post 8 kr))), hF.2.2.1, trivial⟩)
    · exact D2.gv_val (fun _ _ _ h => h) (fun g w => by kernel_rfl)
    · exact D2.gv_val (fun _ _ _ h => h) (fun g w => by kernel_rfl)
    · exact D2.gv_op (fun _ _ _ h => h) _ (fun g => by kernel_rfl) (fun g => (fun o w ho => sindex_run (t := 9) (kd := .i64) kr (x := (.tmp 15)) (y := (.tmp 16)) s k ho kr kr (by omega) w))
    · exact D2.gv_valE (fun _ _ _ h => h) (V' := .int .i64 (IntKind.i64.wrap (((by_ s k : Nat) : Int)))) (fun g w => by kernel_rfl) (int_eq (wrapN_i64 (a := by_ s k) (by omega)))
    · exact D2.gv_new (fun b => .slice (some ⟨b, 0, none⟩) 1 1) #[.int .i64 ((by_ s k : Nat) : Int)] 3 4 (fun g w => by kernel_rfl) (fun L g b hN => kr) (fun L g b hN hF => hF)
    · exact D2.gv_callS 59 (fun g => #[.slice (some ⟨(g 2).b, 0, none⟩) ((g 2).n) ((g 2).cap), .slice (some ⟨(g 7).b, 0, none⟩) 1 1]) (fun g => fun w => w.heap[(g 2).b]? = some (.cells (g 2).cur 3 (0, 0)) ∧ w.heap[(g 7).b]? = some (.cells #[.int .i64 ((by_ s k : Nat) : Int)] 3 (0, 0))) 3 1 (fun g curZ capZ nZ lZ => (nZ = List.length lZ ∧ Rw 1 curZ capZ nZ (cellsD lZ) ∧ Ok lZ ∧ (vl lZ = vl ((g 2).l) + vl ([by_ s k]) ∧ List.length lZ ≤ max (List.length ((g 2).l)) (List.length ([by_ s k])) + 1 ∧ max (List.length ((g 2).l)) (List.length ([by_ s k])) ≤ List.length lZ))) 5 (fun L g hN hF => by have hf2 := (hF.1 (hN.bef 2 kr)); exact sum_fn ((g 2).l) ([by_ s k]) ((g 2).b) ((g 2).n) ((g 2).cap) ((g 7).b) 1 1 ((g 2).cur) #[.int .i64 ((by_ s k : Nat) : Int)] hf2.1 rfl hf2.2.1 (Rw.lit #[.int .i64 ((by_ s k : Nat) : Int)] 1 (by rfl) (by unfold maxLen; omega)) hf2.2.2.1 (by intro d hd; simp at hd; omega) (by have := hf2.2.2.2; omega) (by simp)) (fun L g w hN hE hF => by have hf2 := (hF.1 (hN.bef 2 kr)); exact ⟨(hE.get 3 (by have hL2 : L 2 = true := (hN.bef 2 kr); exact D2.ent_get' (p := L 2) (e := ((g 2).b, Obj.cells ((g 2).cur) 3 (0, 0))) kr (by exact hL2) (by simp only [] <;> rfl))), (hE.get 4 (by have hL7 : L 7 = true := (hN.bef 7 kr); exact D2.ent_get' (p := L 7) (e := ((g 7).b, Obj.cells #[.int .i64 ((by_ s k : Nat) : Int)] 3 (0, 0))) kr (by exact hL7) (by simp only [] <;> rfl)))⟩) (fun g w => by kernel_rfl) (fun L g x hN => kr) (fun L g x hN hF hS => ⟨hF.1, fun _ => hS, (fun hx => nomatch (Eq.trans (Eq.symm (show L 9 = true from hx)) (hN.post 9 kr))), trivial⟩)
    · exact D2.gv_valG (fun g => g 8) (fun L g w hN hp => ⟨hp.1, hp.2.1, hp.2.2.1, fun _ => rfl, trivial⟩) (fun g w => by kernel_rfl)
    intro L0 G7 w7 hall HL; clear HL3
    have H7 : St w.heap.size w w7 [((gs1 0).b, Obj.cells #[.int .u64 0, .int .u64 0, .int .u64 0, .int .u64 0] 24 (0, 0)), (b, Obj.cells cur 3 (0, 0)), ((G7 1).b, Obj.cells #[.int .i64 256] 3 (0, 0)), ((G7 2).b, Obj.cells ((G7 2).cur) 3 (0, 0)), ((G7 7).b, Obj.cells #[.int .i64 ((by_ s k : Nat) : Int)] 3 (0, 0)), ((G7 8).b, Obj.cells ((G7 8).cur) 3 (0, 0))] := by have e1 := hall 1 (Nat.le_of_ble_eq_true kr); have e2 := hall 2 (Nat.le_of_ble_eq_true kr); have e7 := hall 7 (Nat.le_of_ble_eq_true kr); have e8 := hall 8 (Nat.le_of_ble_eq_true kr); have e9 := hall 9 (Nat.le_of_ble_eq_true kr); have hS := D2.StE.st HL.1; simp only [e1, e2, e7, e8, D2.pres] at hS; exact hS
    have hf2_7 : ((G7 2).n = List.length ((G7 2).l) ∧ Rw 1 (G7 2).cur (G7 2).cap (G7 2).n (cellsD ((G7 2).l)) ∧ Ok ((G7 2).l) ∧ (vl ((G7 2).l) = vl l * vl ([256]) ∧ List.length ((G7 2).l) = List.length l + List.length ([256]) + 1)) := HL.2.1 (hall 2 (Nat.le_of_ble_eq_true kr))
    have hf8_7 : ((G7 8).n = List.length ((G7 8).l) ∧ Rw 1 (G7 8).cur (G7 8).cap (G7 8).n (cellsD ((G7 8).l)) ∧ Ok ((G7 8).l) ∧ (vl ((G7 8).l) = vl ((G7 2).l) + vl ([by_ s k]) ∧ List.length ((G7 8).l) ≤ max (List.length ((G7 2).l)) (List.length ([by_ s k])) + 1 ∧ max (List.length ((G7 2).l)) (List.length ([by_ s k])) ≤ List.length ((G7 8).l))) := HL.2.2.1 (hall 8 (Nat.le_of_ble_eq_true kr))
    have hf9_7 : G7 9 = G7 8 := HL.2.2.2.1 (hall 9 (Nat.le_of_ble_eq_true kr))
    clear HL hall
    rw [← hf9_7] at H7 hf8_7
    show WP _ _ _ _ _ _
    refine rL [.v, .e (v := .int .i64 (IntKind.i64.wrap (((k : Nat) : Int) + 1))) (v' := .int .i64 ((k + 1 : Nat) : Int)) (int_eq (wrapAdd_i64 (a := k) (b := 1) (by omega))), .v] H7 kr fun gs8 w8 H8 => ?_
    clear H7
    have HL4 : St w.heap.size w w8 [((gs1 0).b, Obj.cells #[.int .u64 0, .int .u64 0, .int .u64 0, .int .u64 0] 24 (0, 0)), (b, Obj.cells cur 3 (0, 0)), ((G7 1).b, Obj.cells #[.int .i64 256] 3 (0, 0)), ((G7 2).b, Obj.cells ((G7 2).cur) 3 (0, 0)), ((G7 7).b, Obj.cells #[.int .i64 ((by_ s k : Nat) : Int)] 3 (0, 0)), ((G7 9).b, Obj.cells ((G7 9).cur) 3 (0, 0))] := H8.as kr
    clear H8
    have hst := sv_take s k (by omega)
    have HD5 : St w.heap.size w w8 [((gs1 0).b, Obj.cells #[.int .u64 0, .int .u64 0, .int .u64 0, .int .u64 0] 24 (0, 0)), ((G7 9).b, Obj.cells ((G7 9).cur) 3 (0, 0))] := HL4.sub (List.Sublist.cons_cons _ (List.Sublist.cons _ (List.Sublist.cons _ (List.Sublist.cons _ (List.Sublist.cons _ (List.Sublist.cons_cons _ List.Sublist.slnil))))))
    show ∃ m, _ ∧ _
    exact ⟨_, (by omega), (G7 9).b, (G7 9).cap, (G7 9).n, (G7 9).cur, (G7 9).l, k + 1, rfl, hf8_7.1, hf8_7.2.1, hf8_7.2.2.1, (by have e8 := hf8_7.2.2.2; have e2 := hf2_7.2.2.2; rw [hst, e8.1, e2.1, hvb, h256, hv]; omega), (by have e8 := hf8_7.2.2.2; have e2 := hf2_7.2.2.2; have e0 := hf8_7.1; omega), (by omega), HD5, (Is.of ⟨kr, kr, kr, kr, trivial⟩)⟩
  · skip
    refine rp [.e (v := .bool (decide (((k : Nat) : Int) < ((ByteArray.size s : Nat) : Int)))) (v' := .bool false) (bool_eq (decide_eq_false (by omega)))] H5 kr fun gs9 w9 H9 => ?_
    show WPs _ _ _ _ [] _ _
    clear H5
    refine s_nil ?_
    refine g_cond_f kr kr ?_
    refine g_exit 0 kr ?_
    show WP _ _ _ _ _ _
    refine g_sreg [0, 1, 2] kr kr ?_
    refine rp [.v] H9 kr fun gs10 w10 H10 => ?_
    show WPs _ _ _ _ [1, 2] _ _
    clear H9
    refine s_callP H10 (some 22) 77 #[.slice (some ⟨b, 0, none⟩) n cap] (fun w => w.heap[b]? = some (.cells cur 3 (0, 0))) (uv (sv (tl s))) (by have hnum := to_fn l b n cap cur hn hr (by omega) hok; have heq : (vl l % big) = (sv (tl s)) := (by rw [hv, show k = ByteArray.size s by omega, List.take_of_length_le (Nat.le_of_eq (tl_len s)), Nat.mod_eq_of_lt (sv_big s hs)]); rw [heq] at hnum; exact hnum) (H10.get 1 kr) (fun w => by kernel_rfl) kr ?_
    intro w11 H11; clear H10
    refine rp [.s 0] H11 kr fun gs12 w12 H12 => ?_
    show WPs _ _ _ _ [] _ _
    clear H11
    refine s_nil ?_
    refine g_ret kr ?_
    show ∃ vs, Res _ _ _ _ vs ∧ _
    refine ⟨[uv (sv (tl s))], (.agg (b := (gs1 0).b) (Value.cells (uv (sv (tl s)))) 24 (0, 0) kr (H12.get 0 kr) kr .nil), ?_, H12.below⟩
    rfl
end Go.Proofs.YtmmloghbnpfedaaDoor

namespace Go.Proofs.YtmmloghbnpfedaaDoor
open Go Go.RowKit
set_option linter.unusedVariables false
open Go.Proofs.Kec Ke
set_option maxRecDepth 100000 in
set_option maxHeartbeats 2000000 in
theorem num_no (t : ByteArray) (ht : ByteArray.size t ≤ 9223372036854775807) (hsz : ByteArray.size t ≠ 32) : Fn Tryd.prog 45 #[.string t] (.tuple #[.agg #[.int .u64 0, .int .u64 0, .int .u64 0, .int .u64 0], .int .i64 1]) := by
  refine Fn.intro (c := codeOf Tryd.f45) [.cell 2 24, .tmp 3] 20 Tryd.func45 kr kr kr fun w => ?_
  have H0 := St.start w
  refine rS [.a, .v] H0 kr fun gs1 w1 H1 => ?_
  clear H0
  refine g_seq kr ?_
  refine rS [.v, .v, .e (v := .bool (!(((ByteArray.size t : Nat) : Int) == 32))) (v' := .bool true) (bool_eq (by rw [beq_eq_false_iff_ne.2 (by omega)]; rfl))] H1 kr fun gs2 w2 H2 => ?_
  clear H1
  refine g_cond_t kr kr ?_
  refine rS [.v, .s 0, .v] H2 kr fun gs3 w3 H3 => ?_
  clear H2
  refine g_ret kr ?_
  show ∃ vs, Res _ _ _ _ vs ∧ _
  refine ⟨[.agg #[.int .u64 0, .int .u64 0, .int .u64 0, .int .u64 0], .int .i64 1], (.agg (b := (gs1 0).b) #[.int .u64 0, .int .u64 0, .int .u64 0, .int .u64 0] 24 (0, 0) kr (H3.get 0 kr) kr (.tmp (.int .i64 1) kr .nil)), ?_, H3.below⟩
  kernel_rfl
set_option maxRecDepth 100000 in
set_option maxHeartbeats 2000000 in
theorem num_yes (t : ByteArray) (ht : ByteArray.size t ≤ 9223372036854775807) (hsz : ByteArray.size t = 32) : Fn Tryd.prog 45 #[.string t] (.tuple #[uv (rs (sv (tl t)) 0 NR), .int .i64 0]) := by
  refine Fn.intro (c := codeOf Tryd.f45) [.cell 2 24, .tmp 3] 20 Tryd.func45 kr kr kr fun w => ?_
  have H0 := St.start w
  refine rS [.a, .v] H0 kr fun gs1 w1 H1 => ?_
  clear H0
  refine g_seq kr ?_
  refine rS [.v, .v, .e (v := .bool (!(((ByteArray.size t : Nat) : Int) == 32))) (v' := .bool false) (bool_eq (by rw [beq_iff_eq.2 (by omega)]; rfl))] H1 kr fun gs2 w2 H2 => ?_
  clear H1
  refine g_cond_f kr kr ?_
  refine g_skip kr ?_
  show WP _ _ _ _ _ _
  refine rS [.v, .c (from_short t (by omega)), .v, .v, .v, .a, .s 1, .v] H2 kr fun gs3 w3 H3 => ?_
  clear H2
  refine rS [.l 1, .v, .c (reduce1_fn (sv (tl t)) 0 (sv_big t (by omega)) (by unfold big; omega)), .v, .v, .s 0, .v] H3 kr fun gs4 w4 H4 => ?_
  clear H3
  refine g_ret kr ?_
  show ∃ vs, Res _ _ _ _ vs ∧ _
  refine ⟨[uv (rs (sv (tl t)) 0 NR), .int .i64 0], (.agg (b := (gs1 0).b) (Value.cells (uv (rs (sv (tl t)) 0 NR))) 24 (0, 0) kr (H4.get 0 kr) kr (.tmp (.int .i64 0) kr .nil)), ?_, H4.below⟩
  rfl
set_option maxRecDepth 100000 in
set_option maxHeartbeats 2000000 in
theorem product_fn (A B : Nat) (hA : A < big) (hB : B < big) : Fn Tryd.prog 46 #[uv A, uv B] (uv (fMul A B NR)) := by
  refine Fn.intro (c := codeOf Tryd.f46) [.cell 4 24] 14 Tryd.func46 kr kr kr fun w => ?_
  have H0 := St.start w
  refine rS [.b, .b, .a] H0 kr fun gs1 w1 H1 => ?_
  clear H0
  refine rS [.l 0, .l 1, .c (fmul1_fn A B hA hB), .v, .v, .v, .a, .s 3, .v] H1 kr fun gs2 w2 H2 => ?_
  clear H1
  refine rS [.l 3, .s 2] H2 kr fun gs3 w3 H3 => ?_
  clear H2
  refine g_ret kr ?_
  show ∃ vs, Res _ _ _ _ vs ∧ _
  refine ⟨[uv (fMul A B NR)], (.agg (b := (gs1 2).b) (Value.cells (uv (fMul A B NR))) 24 (0, 0) kr (H3.get 2 kr) kr .nil), ?_, H3.below⟩
  rfl
set_option maxRecDepth 100000 in
set_option maxHeartbeats 2000000 in
theorem rnum_fn (t : ByteArray) (ht : ByteArray.size t ≤ 9223372036854775807) (hsz : ByteArray.size t = 32) : Fn Tryd.prog 25 #[.string t] (uv (rs (sv (tl t)) 0 NR)) := by
  refine Fn.intro (c := codeOf Tryd.f25) [.cell 2 24] 7 Tryd.func25 kr kr kr fun w => ?_
  have H0 := St.start w
  refine rS [.a] H0 kr fun gs1 w1 H1 => ?_
  clear H0
  refine g_sreg [0, 1, 2, 3, 4] kr kr ?_
  refine rp [.v, .c (rfrom_fn t (by omega))] H1 kr fun gs2 w2 H2 => ?_
  show WPs _ _ _ _ [2, 3, 4] _ _
  clear H1
  refine s_callS H2 (some 5) 35 #[uv (sv (tl t))] (fun _ => True) 3 1 (fun curZ capZ nZ lZ => (nZ = List.length lZ ∧ Rw 1 curZ capZ nZ (cellsD lZ) ∧ Ok lZ ∧ (lZ = dgs (sv (tl t)) 16 ∧ vl lZ = (sv (tl t)) ∧ List.length lZ = 16))) (of_fn (sv (tl t)) (sv_big t (by omega))) trivial kr kr ?_
  intro b_1 cap_2 n_3 cur_4 l_5 w3 H3 hs_6; clear H2
  obtain ⟨hs_6n, hs_6r, hs_6o, hs_6s⟩ := hs_6
  obtain ⟨hs_6a, hs_6b, hs_6c⟩ := hs_6s
  refine rp [.cp (pre := fun w => w.heap[b_1]? = some (.cells cur_4 3 (0, 0))) (left021_fn l_5 b_1 n_3 cap_2 cur_4 hs_6n hs_6r (by omega) hs_6o) [(0, (b_1, Obj.cells cur_4 3 (0, 0)))] (fun w hb hd => hd.1), .s 1] H3 kr fun gs4 w4 H4 => ?_
  show WPs _ _ _ _ [] _ _
  clear H3
  refine s_nil ?_
  refine g_ret kr ?_
  show ∃ vs, Res _ _ _ _ vs ∧ _
  refine ⟨[uv (vl l_5 % NR)], (.agg (b := (gs1 0).b) (Value.cells (uv (vl l_5 % NR))) 24 (0, 0) kr (H4.get 1 kr) kr .nil), ?_, H4.below⟩
  rw [rs_zero, hs_6b]; rfl
end Go.Proofs.YtmmloghbnpfedaaDoor

namespace Go.Proofs.YtmmloghbnpfedaaDoor
open Go Go.RowKit
set_option linter.unusedVariables false
open Go.Proofs.Kec Ke
set_option maxRecDepth 100000 in
set_option maxHeartbeats 2000000 in
theorem rec_lenv (t : ByteArray) (hle : ByteArray.size t ≤ 9223372036854775807) (r s : Nat) (hr : r < big) (hs : s < big) (v : Int) (hsz : ByteArray.size t ≠ 32) : Fn Tryd.prog 19 #[.string t, sgv r s (v)] (.tuple #[.string ⟨#[]⟩, .int .i64 1]) := by
  refine Fn.intro (c := codeOf Tryd.f19) [.tmp 4, .tmp 5] 64 Tryd.func19 kr kr kr fun w => ?_
  have H0 := St.start w
  refine rS [.b, .v, .v] H0 kr fun gs1 w1 H1 => ?_
  clear H0
  refine rS [.v, .c (num_no t hle hsz), .v, .v, .v, .a, .s 1, .v] H1 kr fun gs2 w2 H2 => ?_
  clear H1
  refine g_seq kr ?_
  refine rS [.v, .v] H2 kr fun gs3 w3 H3 => ?_
  clear H2
  refine g_cond_t kr kr ?_
  refine rS [.v, .v, .v] H3 kr fun gs4 w4 H4 => ?_
  clear H3
  refine g_ret kr ?_
  show ∃ vs, Res _ _ _ _ vs ∧ _
  refine ⟨[.string (⟨#[]⟩), .int .i64 1], (.tmp (.string (⟨#[]⟩)) kr (.tmp (.int .i64 1) kr .nil)), ?_, H4.below⟩
  rfl
set_option maxRecDepth 100000 in
set_option maxHeartbeats 2000000 in
theorem rec_nov (t : ByteArray) (hle : ByteArray.size t ≤ 9223372036854775807) (r s : Nat) (hr : r < big) (hs : s < big) (v : Int) (hsz : ByteArray.size t = 32) (hm : mayB r s v = false) : Fn Tryd.prog 19 #[.string t, sgv r s (v)] (.tuple #[.string ⟨#[]⟩, .int .i64 20]) := by
  refine Fn.intro (c := codeOf Tryd.f19) [.tmp 4, .tmp 5] 64 Tryd.func19 kr kr kr fun w => ?_
  have H0 := St.start w
  refine rS [.b, .v, .v] H0 kr fun gs1 w1 H1 => ?_
  clear H0
  refine rS [.v, .c (num_yes t hle hsz), .v, .v, .v, .a, .s 1, .v] H1 kr fun gs2 w2 H2 => ?_
  clear H1
  refine g_seq kr ?_
  refine rS [.v, .v] H2 kr fun gs3 w3 H3 => ?_
  clear H2
  refine g_cond_f kr kr ?_
  refine g_skip kr ?_
  show WP _ _ _ _ _ _
  refine g_seq kr ?_
  refine g_sreg [0, 1, 2] kr kr ?_
  refine rp [.l 0, .c (may_fn r s hr hs (v))] H3 kr fun gs4 w4 H4 => ?_
  show WPs _ _ _ _ [2] _ _
  clear H3
  refine s_now 23 (v := .bool (mayB r s (v))) (v' := .bool false) (bool_eq hm) kr ?_
  refine rp [.v] H4 kr fun gs5 w5 H5 => ?_
  show WPs _ _ _ _ [] _ _
  clear H4
  refine s_nil ?_
  refine g_cond_t kr kr ?_
  refine rS [.v, .v] H5 kr fun gs6 w6 H6 => ?_
  clear H5
  refine g_ret kr ?_
  show ∃ vs, Res _ _ _ _ vs ∧ _
  refine ⟨[.string (⟨#[]⟩), .int .i64 20], (.tmp (.string (⟨#[]⟩)) kr (.tmp (.int .i64 20) kr .nil)), ?_, H6.below⟩
  rfl
set_option maxRecDepth 100000 in
set_option maxHeartbeats 2000000 in
theorem rec_lf0 (t : ByteArray) (hle : ByteArray.size t ≤ 9223372036854775807) (r s : Nat) (hr : r < big) (hs : s < big) (hsz : ByteArray.size t = 32) (hm : mayB r s 0 = true) (hL : Fn Tryd.prog 20 #[uv r, .bool false] (.tuple #[pv (Ec.Pd.mk 0 0 false), .int .i64 6])) : Fn Tryd.prog 19 #[.string t, sgv r s (0)] (.tuple #[.string ⟨#[]⟩, .int .i64 20]) := by
  refine Fn.intro (c := codeOf Tryd.f19) [.tmp 4, .tmp 5] 64 Tryd.func19 kr kr kr fun w => ?_
  have H0 := St.start w
  refine rS [.b, .v, .v] H0 kr fun gs1 w1 H1 => ?_
  clear H0
  refine rS [.v, .c (num_yes t hle hsz), .v, .v, .v, .a, .s 1, .v] H1 kr fun gs2 w2 H2 => ?_
  clear H1
  refine g_seq kr ?_
  refine rS [.v, .v] H2 kr fun gs3 w3 H3 => ?_
  clear H2
  refine g_cond_f kr kr ?_
  refine g_skip kr ?_
  show WP _ _ _ _ _ _
  refine g_seq kr ?_
  refine g_sreg [0, 1, 2] kr kr ?_
  refine rp [.l 0, .c (may_fn r s hr hs (0))] H3 kr fun gs4 w4 H4 => ?_
  show WPs _ _ _ _ [2] _ _
  clear H3
  refine s_now 23 (v := .bool (mayB r s (0))) (v' := .bool true) (bool_eq hm) kr ?_
  refine rp [.v] H4 kr fun gs5 w5 H5 => ?_
  show WPs _ _ _ _ [] _ _
  clear H4
  refine s_nil ?_
  refine g_cond_f kr kr ?_
  refine g_skip kr ?_
  show WP _ _ _ _ _ _
  refine rS [.v, .l 0, .v, .l 0, .v, .c hL, .v, .v, .v, .a, .s 2, .v] H5 kr fun gs6 w6 H6 => ?_
  clear H5
  refine g_keep [0, 1, 3, 4, 5, 6, 7, 8, 20, 24] fun ρ1 => ?_
  have HK1 := H6.keep
  clear H6
  refine g_seq kr ?_
  refine rS [.v, .v] HK1 kr fun gs7 w7 H7 => ?_
  clear HK1
  refine g_cond_t kr kr ?_
  refine rS [.v, .v] H7 kr fun gs8 w8 H8 => ?_
  clear H7
  refine g_ret kr ?_
  show ∃ vs, Res _ _ _ _ vs ∧ _
  refine ⟨[.string (⟨#[]⟩), .int .i64 20], (.tmp (.string (⟨#[]⟩)) kr (.tmp (.int .i64 20) kr .nil)), ?_, H8.below⟩
  rfl
set_option maxRecDepth 100000 in
set_option maxHeartbeats 2000000 in
theorem rec_z0 (t : ByteArray) (hle : ByteArray.size t ≤ 9223372036854775807) (r s : Nat) (hr : r < big) (hs : s < big) (hsz : ByteArray.size t = 32) (hm : mayB r s 0 = true) (hz : rs r 0 NR ≠ 0) (P : Ec.Pt Ec.Fp) (hP : P.On Ec.seven) (X Y : Nat) (hX : X < big) (hY : Y < big) (hL : Fn Tryd.prog 20 #[uv r, .bool false] (.tuple #[pv (Ec.ofPt P), .int .i64 0])) (hB : Fn Tryd.prog 22 #[pv (Ec.ofPt P), uv (fMul s (finv r NR) NR), pv (Ec.ofPt Ec.G), uv (fMul (fSub 0 (rs (sv (tl t)) 0 NR) NR) (finv r NR) NR)] (.tuple #[pv (Ec.Pd.mk X Y true), .int .i64 0])) : Fn Tryd.prog 19 #[.string t, sgv r s (0)] (.tuple #[.string ⟨#[]⟩, .int .i64 20]) := by
  refine Fn.intro (c := codeOf Tryd.f19) [.tmp 4, .tmp 5] 64 Tryd.func19 kr kr kr fun w => ?_
  have H0 := St.start w
  refine rS [.b, .v, .v] H0 kr fun gs1 w1 H1 => ?_
  clear H0
  refine rS [.v, .c (num_yes t hle hsz), .v, .v, .v, .a, .s 1, .v] H1 kr fun gs2 w2 H2 => ?_
  clear H1
  refine g_seq kr ?_
  refine rS [.v, .v] H2 kr fun gs3 w3 H3 => ?_
  clear H2
  refine g_cond_f kr kr ?_
  refine g_skip kr ?_
  show WP _ _ _ _ _ _
  refine g_seq kr ?_
  refine g_sreg [0, 1, 2] kr kr ?_
  refine rp [.l 0, .c (may_fn r s hr hs (0))] H3 kr fun gs4 w4 H4 => ?_
  show WPs _ _ _ _ [2] _ _
  clear H3
  refine s_now 23 (v := .bool (mayB r s (0))) (v' := .bool true) (bool_eq hm) kr ?_
  refine rp [.v] H4 kr fun gs5 w5 H5 => ?_
  show WPs _ _ _ _ [] _ _
  clear H4
  refine s_nil ?_
  refine g_cond_f kr kr ?_
  refine g_skip kr ?_
  show WP _ _ _ _ _ _
  refine rS [.v, .l 0, .v, .l 0, .v, .c hL, .v, .v, .v, .a, .s 2, .v] H5 kr fun gs6 w6 H6 => ?_
  clear H5
  refine g_keep [0, 1, 3, 4, 5, 6, 7, 8, 20, 24] fun ρ1 => ?_
  have HK1 := H6.keep
  clear H6
  refine g_seq kr ?_
  refine rS [.v, .v] HK1 kr fun gs7 w7 H7 => ?_
  clear HK1
  refine g_cond_f kr kr ?_
  refine g_skip kr ?_
  show WP _ _ _ _ _ _
  refine rS [.v, .l 0, .c (inv1_fn r hr hz), .v, .v, .v, .a, .s 3, .v] H7 kr fun gs8 w8 H8 => ?_
  clear H7
  refine dSg (fun gs9 => [.l 2, .v, .l 0, .l 3, .c (product_fn s (finv r NR) hs (fpw_lt nr_ok)), .c base_fn, .l 1, .c (sturned_fn (rs (sv (tl t)) 0 NR) (rs_lt nr_ok)), .l 3, .c (product_fn (fSub 0 (rs (sv (tl t)) 0 NR) NR) (finv r NR) (fSub_lt nr_ok) (fpw_lt nr_ok)), .c hB, .v, .v, .v, .a, .s 4, .v]) H8 kr fun gs9 w9 H9 => ?_
  clear H8
  refine g_keep [0, 1, 3, 4, 5, 6, 7, 8, 9, 11, 20, 24, 35] fun ρ2 => ?_
  have HK2 := H9.keep
  clear H9
  refine rS [.l 4, .c (of_z X Y hX hY), .v, .v, .v, .v, .v] HK2 kr fun gs10 w10 H10 => ?_
  clear HK2
  refine g_seq kr ?_
  refine rS [.v, .v] H10 kr fun gs11 w11 H11 => ?_
  clear H10
  refine g_cond_t kr kr ?_
  refine rS [.v, .v] H11 kr fun gs12 w12 H12 => ?_
  clear H11
  refine g_ret kr ?_
  show ∃ vs, Res _ _ _ _ vs ∧ _
  refine ⟨[.string (⟨#[]⟩), .int .i64 20], (.tmp (.string (⟨#[]⟩)) kr (.tmp (.int .i64 20) kr .nil)), ?_, H12.below⟩
  rfl
set_option maxRecDepth 100000 in
set_option maxHeartbeats 2000000 in
theorem rec_y0 (t : ByteArray) (hle : ByteArray.size t ≤ 9223372036854775807) (r s : Nat) (hr : r < big) (hs : s < big) (hsz : ByteArray.size t = 32) (hm : mayB r s 0 = true) (hz : rs r 0 NR ≠ 0) (P : Ec.Pt Ec.Fp) (hP : P.On Ec.seven) (X Y : Nat) (hX : X < big) (hY : Y < big) (hL : Fn Tryd.prog 20 #[uv r, .bool false] (.tuple #[pv (Ec.ofPt P), .int .i64 0])) (hB : Fn Tryd.prog 22 #[pv (Ec.ofPt P), uv (fMul s (finv r NR) NR), pv (Ec.ofPt Ec.G), uv (fMul (fSub 0 (rs (sv (tl t)) 0 NR) NR) (finv r NR) NR)] (.tuple #[pv (Ec.Pd.mk X Y false), .int .i64 0])) (h : Ec.onB (Ec.Pd.mk X Y false) = true) : FnP Tryd.prog 19 #[.string t, sgv r s (0)] (Marks) (.tuple #[.string (adrB X Y), .int .i64 0]) := by
  refine FnP.intro (c := codeOf Tryd.f19) [.tmp 4, .tmp 5] 64 Tryd.func19 kr kr kr fun w hpre => ?_
  have H0 := St.start w
  refine rS [.b, .v, .v] H0 kr fun gs1 w1 H1 => ?_
  clear H0
  refine rS [.v, .c (num_yes t hle hsz), .v, .v, .v, .a, .s 1, .v] H1 kr fun gs2 w2 H2 => ?_
  clear H1
  refine g_seq kr ?_
  refine rS [.v, .v] H2 kr fun gs3 w3 H3 => ?_
  clear H2
  refine g_cond_f kr kr ?_
  refine g_skip kr ?_
  show WP _ _ _ _ _ _
  refine g_seq kr ?_
  refine g_sreg [0, 1, 2] kr kr ?_
  refine rp [.l 0, .c (may_fn r s hr hs (0))] H3 kr fun gs4 w4 H4 => ?_
  show WPs _ _ _ _ [2] _ _
  clear H3
  refine s_now 23 (v := .bool (mayB r s (0))) (v' := .bool true) (bool_eq hm) kr ?_
  refine rp [.v] H4 kr fun gs5 w5 H5 => ?_
  show WPs _ _ _ _ [] _ _
  clear H4
  refine s_nil ?_
  refine g_cond_f kr kr ?_
  refine g_skip kr ?_
  show WP _ _ _ _ _ _
  refine rS [.v, .l 0, .v, .l 0, .v, .c hL, .v, .v, .v, .a, .s 2, .v] H5 kr fun gs6 w6 H6 => ?_
  clear H5
  refine g_keep [0, 1, 3, 4, 5, 6, 7, 8, 20, 24] fun ρ1 => ?_
  have HK1 := H6.keep
  clear H6
  refine g_seq kr ?_
  refine rS [.v, .v] HK1 kr fun gs7 w7 H7 => ?_
  clear HK1
  refine g_cond_f kr kr ?_
  refine g_skip kr ?_
  show WP _ _ _ _ _ _
  refine rS [.v, .l 0, .c (inv1_fn r hr hz), .v, .v, .v, .a, .s 3, .v] H7 kr fun gs8 w8 H8 => ?_
  clear H7
  refine dSg (fun gs9 => [.l 2, .v, .l 0, .l 3, .c (product_fn s (finv r NR) hs (fpw_lt nr_ok)), .c base_fn, .l 1, .c (sturned_fn (rs (sv (tl t)) 0 NR) (rs_lt nr_ok)), .l 3, .c (product_fn (fSub 0 (rs (sv (tl t)) 0 NR) NR) (finv r NR) (fSub_lt nr_ok) (fpw_lt nr_ok)), .c hB, .v, .v, .v, .a, .s 4, .v]) H8 kr fun gs9 w9 H9 => ?_
  clear H8
  refine g_keep [0, 1, 3, 4, 5, 6, 7, 8, 9, 11, 20, 24, 35] fun ρ2 => ?_
  have HK2 := H9.keep
  clear H9
  refine rS [.l 4, .cp (pre := Marks) (of_yes X Y hX hY h) [] (fun w hb hd => (Marks.oldB hb rfl hpre)), .v, .v, .v, .v, .v] HK2 kr fun gs10 w10 H10 => ?_
  clear HK2
  refine g_seq kr ?_
  refine rS [.v, .v] H10 kr fun gs11 w11 H11 => ?_
  clear H10
  refine g_cond_f kr kr ?_
  refine g_skip kr ?_
  show WP _ _ _ _ _ _
  refine rS [.v, .v, .v] H11 kr fun gs12 w12 H12 => ?_
  clear H11
  refine g_ret kr ?_
  show ∃ vs, Res _ _ _ _ vs ∧ _
  refine ⟨[.string (adrB X Y), .int .i64 0], (.tmp (.string (adrB X Y)) kr (.tmp (.int .i64 0) kr .nil)), ?_, H12.below⟩
  rfl
set_option maxRecDepth 100000 in
set_option maxHeartbeats 2000000 in
theorem rec_lf1 (t : ByteArray) (hle : ByteArray.size t ≤ 9223372036854775807) (r s : Nat) (hr : r < big) (hs : s < big) (hsz : ByteArray.size t = 32) (hm : mayB r s 1 = true) (hL : Fn Tryd.prog 20 #[uv r, .bool true] (.tuple #[pv (Ec.Pd.mk 0 0 false), .int .i64 6])) : Fn Tryd.prog 19 #[.string t, sgv r s (1)] (.tuple #[.string ⟨#[]⟩, .int .i64 20]) := by
  refine Fn.intro (c := codeOf Tryd.f19) [.tmp 4, .tmp 5] 64 Tryd.func19 kr kr kr fun w => ?_
  have H0 := St.start w
  refine rS [.b, .v, .v] H0 kr fun gs1 w1 H1 => ?_
  clear H0
  refine rS [.v, .c (num_yes t hle hsz), .v, .v, .v, .a, .s 1, .v] H1 kr fun gs2 w2 H2 => ?_
  clear H1
  refine g_seq kr ?_
  refine rS [.v, .v] H2 kr fun gs3 w3 H3 => ?_
  clear H2
  refine g_cond_f kr kr ?_
  refine g_skip kr ?_
  show WP _ _ _ _ _ _
  refine g_seq kr ?_
  refine g_sreg [0, 1, 2] kr kr ?_
  refine rp [.l 0, .c (may_fn r s hr hs (1))] H3 kr fun gs4 w4 H4 => ?_
  show WPs _ _ _ _ [2] _ _
  clear H3
  refine s_now 23 (v := .bool (mayB r s (1))) (v' := .bool true) (bool_eq hm) kr ?_
  refine rp [.v] H4 kr fun gs5 w5 H5 => ?_
  show WPs _ _ _ _ [] _ _
  clear H4
  refine s_nil ?_
  refine g_cond_f kr kr ?_
  refine g_skip kr ?_
  show WP _ _ _ _ _ _
  refine rS [.v, .l 0, .v, .l 0, .v, .c hL, .v, .v, .v, .a, .s 2, .v] H5 kr fun gs6 w6 H6 => ?_
  clear H5
  refine g_keep [0, 1, 3, 4, 5, 6, 7, 8, 20, 24] fun ρ1 => ?_
  have HK1 := H6.keep
  clear H6
  refine g_seq kr ?_
  refine rS [.v, .v] HK1 kr fun gs7 w7 H7 => ?_
  clear HK1
  refine g_cond_t kr kr ?_
  refine rS [.v, .v] H7 kr fun gs8 w8 H8 => ?_
  clear H7
  refine g_ret kr ?_
  show ∃ vs, Res _ _ _ _ vs ∧ _
  refine ⟨[.string (⟨#[]⟩), .int .i64 20], (.tmp (.string (⟨#[]⟩)) kr (.tmp (.int .i64 20) kr .nil)), ?_, H8.below⟩
  rfl
set_option maxRecDepth 100000 in
set_option maxHeartbeats 2000000 in
theorem rec_z1 (t : ByteArray) (hle : ByteArray.size t ≤ 9223372036854775807) (r s : Nat) (hr : r < big) (hs : s < big) (hsz : ByteArray.size t = 32) (hm : mayB r s 1 = true) (hz : rs r 0 NR ≠ 0) (P : Ec.Pt Ec.Fp) (hP : P.On Ec.seven) (X Y : Nat) (hX : X < big) (hY : Y < big) (hL : Fn Tryd.prog 20 #[uv r, .bool true] (.tuple #[pv (Ec.ofPt P), .int .i64 0])) (hB : Fn Tryd.prog 22 #[pv (Ec.ofPt P), uv (fMul s (finv r NR) NR), pv (Ec.ofPt Ec.G), uv (fMul (fSub 0 (rs (sv (tl t)) 0 NR) NR) (finv r NR) NR)] (.tuple #[pv (Ec.Pd.mk X Y true), .int .i64 0])) : Fn Tryd.prog 19 #[.string t, sgv r s (1)] (.tuple #[.string ⟨#[]⟩, .int .i64 20]) := by
  refine Fn.intro (c := codeOf Tryd.f19) [.tmp 4, .tmp 5] 64 Tryd.func19 kr kr kr fun w => ?_
  have H0 := St.start w
  refine rS [.b, .v, .v] H0 kr fun gs1 w1 H1 => ?_
  clear H0
  refine rS [.v, .c (num_yes t hle hsz), .v, .v, .v, .a, .s 1, .v] H1 kr fun gs2 w2 H2 => ?_
  clear H1
  refine g_seq kr ?_
  refine rS [.v, .v] H2 kr fun gs3 w3 H3 => ?_
  clear H2
  refine g_cond_f kr kr ?_
  refine g_skip kr ?_
  show WP _ _ _ _ _ _
  refine g_seq kr ?_
  refine g_sreg [0, 1, 2] kr kr ?_
  refine rp [.l 0, .c (may_fn r s hr hs (1))] H3 kr fun gs4 w4 H4 => ?_
  show WPs _ _ _ _ [2] _ _
  clear H3
  refine s_now 23 (v := .bool (mayB r s (1))) (v' := .bool true) (bool_eq hm) kr ?_
  refine rp [.v] H4 kr fun gs5 w5 H5 => ?_
  show WPs _ _ _ _ [] _ _
  clear H4
  refine s_nil ?_
  refine g_cond_f kr kr ?_
  refine g_skip kr ?_
  show WP _ _ _ _ _ _
  refine rS [.v, .l 0, .v, .l 0, .v, .c hL, .v, .v, .v, .a, .s 2, .v] H5 kr fun gs6 w6 H6 => ?_
  clear H5
  refine g_keep [0, 1, 3, 4, 5, 6, 7, 8, 20, 24] fun ρ1 => ?_
  have HK1 := H6.keep
  clear H6
  refine g_seq kr ?_
  refine rS [.v, .v] HK1 kr fun gs7 w7 H7 => ?_
  clear HK1
  refine g_cond_f kr kr ?_
  refine g_skip kr ?_
  show WP _ _ _ _ _ _
  refine rS [.v, .l 0, .c (inv1_fn r hr hz), .v, .v, .v, .a, .s 3, .v] H7 kr fun gs8 w8 H8 => ?_
  clear H7
  refine dSg (fun gs9 => [.l 2, .v, .l 0, .l 3, .c (product_fn s (finv r NR) hs (fpw_lt nr_ok)), .c base_fn, .l 1, .c (sturned_fn (rs (sv (tl t)) 0 NR) (rs_lt nr_ok)), .l 3, .c (product_fn (fSub 0 (rs (sv (tl t)) 0 NR) NR) (finv r NR) (fSub_lt nr_ok) (fpw_lt nr_ok)), .c hB, .v, .v, .v, .a, .s 4, .v]) H8 kr fun gs9 w9 H9 => ?_
  clear H8
  refine g_keep [0, 1, 3, 4, 5, 6, 7, 8, 9, 11, 20, 24, 35] fun ρ2 => ?_
  have HK2 := H9.keep
  clear H9
  refine rS [.l 4, .c (of_z X Y hX hY), .v, .v, .v, .v, .v] HK2 kr fun gs10 w10 H10 => ?_
  clear HK2
  refine g_seq kr ?_
  refine rS [.v, .v] H10 kr fun gs11 w11 H11 => ?_
  clear H10
  refine g_cond_t kr kr ?_
  refine rS [.v, .v] H11 kr fun gs12 w12 H12 => ?_
  clear H11
  refine g_ret kr ?_
  show ∃ vs, Res _ _ _ _ vs ∧ _
  refine ⟨[.string (⟨#[]⟩), .int .i64 20], (.tmp (.string (⟨#[]⟩)) kr (.tmp (.int .i64 20) kr .nil)), ?_, H12.below⟩
  rfl
set_option maxRecDepth 100000 in
set_option maxHeartbeats 2000000 in
theorem rec_y1 (t : ByteArray) (hle : ByteArray.size t ≤ 9223372036854775807) (r s : Nat) (hr : r < big) (hs : s < big) (hsz : ByteArray.size t = 32) (hm : mayB r s 1 = true) (hz : rs r 0 NR ≠ 0) (P : Ec.Pt Ec.Fp) (hP : P.On Ec.seven) (X Y : Nat) (hX : X < big) (hY : Y < big) (hL : Fn Tryd.prog 20 #[uv r, .bool true] (.tuple #[pv (Ec.ofPt P), .int .i64 0])) (hB : Fn Tryd.prog 22 #[pv (Ec.ofPt P), uv (fMul s (finv r NR) NR), pv (Ec.ofPt Ec.G), uv (fMul (fSub 0 (rs (sv (tl t)) 0 NR) NR) (finv r NR) NR)] (.tuple #[pv (Ec.Pd.mk X Y false), .int .i64 0])) (h : Ec.onB (Ec.Pd.mk X Y false) = true) : FnP Tryd.prog 19 #[.string t, sgv r s (1)] (Marks) (.tuple #[.string (adrB X Y), .int .i64 0]) := by
  refine FnP.intro (c := codeOf Tryd.f19) [.tmp 4, .tmp 5] 64 Tryd.func19 kr kr kr fun w hpre => ?_
  have H0 := St.start w
  refine rS [.b, .v, .v] H0 kr fun gs1 w1 H1 => ?_
  clear H0
  refine rS [.v, .c (num_yes t hle hsz), .v, .v, .v, .a, .s 1, .v] H1 kr fun gs2 w2 H2 => ?_
  clear H1
  refine g_seq kr ?_
  refine rS [.v, .v] H2 kr fun gs3 w3 H3 => ?_
  clear H2
  refine g_cond_f kr kr ?_
  refine g_skip kr ?_
  show WP _ _ _ _ _ _
  refine g_seq kr ?_
  refine g_sreg [0, 1, 2] kr kr ?_
  refine rp [.l 0, .c (may_fn r s hr hs (1))] H3 kr fun gs4 w4 H4 => ?_
  show WPs _ _ _ _ [2] _ _
  clear H3
  refine s_now 23 (v := .bool (mayB r s (1))) (v' := .bool true) (bool_eq hm) kr ?_
  refine rp [.v] H4 kr fun gs5 w5 H5 => ?_
  show WPs _ _ _ _ [] _ _
  clear H4
  refine s_nil ?_
  refine g_cond_f kr kr ?_
  refine g_skip kr ?_
  show WP _ _ _ _ _ _
  refine rS [.v, .l 0, .v, .l 0, .v, .c hL, .v, .v, .v, .a, .s 2, .v] H5 kr fun gs6 w6 H6 => ?_
  clear H5
  refine g_keep [0, 1, 3, 4, 5, 6, 7, 8, 20, 24] fun ρ1 => ?_
  have HK1 := H6.keep
  clear H6
  refine g_seq kr ?_
  refine rS [.v, .v] HK1 kr fun gs7 w7 H7 => ?_
  clear HK1
  refine g_cond_f kr kr ?_
  refine g_skip kr ?_
  show WP _ _ _ _ _ _
  refine rS [.v, .l 0, .c (inv1_fn r hr hz), .v, .v, .v, .a, .s 3, .v] H7 kr fun gs8 w8 H8 => ?_
  clear H7
  refine dSg (fun gs9 => [.l 2, .v, .l 0, .l 3, .c (product_fn s (finv r NR) hs (fpw_lt nr_ok)), .c base_fn, .l 1, .c (sturned_fn (rs (sv (tl t)) 0 NR) (rs_lt nr_ok)), .l 3, .c (product_fn (fSub 0 (rs (sv (tl t)) 0 NR) NR) (finv r NR) (fSub_lt nr_ok) (fpw_lt nr_ok)), .c hB, .v, .v, .v, .a, .s 4, .v]) H8 kr fun gs9 w9 H9 => ?_
  clear H8
  refine g_keep [0, 1, 3, 4, 5, 6, 7, 8, 9, 11, 20, 24, 35] fun ρ2 => ?_
  have HK2 := H9.keep
  clear H9
  refine rS [.l 4, .cp (pre := Marks) (of_yes X Y hX hY h) [] (fun w hb hd => (Marks.oldB hb rfl hpre)), .v, .v, .v, .v, .v] HK2 kr fun gs10 w10 H10 => ?_
  clear HK2
  refine g_seq kr ?_
  refine rS [.v, .v] H10 kr fun gs11 w11 H11 => ?_
  clear H10
  refine g_cond_f kr kr ?_
  refine g_skip kr ?_
  show WP _ _ _ _ _ _
  refine rS [.v, .v, .v] H11 kr fun gs12 w12 H12 => ?_
  clear H11
  refine g_ret kr ?_
  show ∃ vs, Res _ _ _ _ vs ∧ _
  refine ⟨[.string (adrB X Y), .int .i64 0], (.tmp (.string (adrB X Y)) kr (.tmp (.int .i64 0) kr .nil)), ?_, H12.below⟩
  rfl
end Go.Proofs.YtmmloghbnpfedaaDoor

namespace Go.Proofs.YtmmloghbnpfedaaDoor
open Go Go.RowKit
set_option linter.unusedVariables false
open Go.Proofs.Kec Ke
set_option maxRecDepth 100000 in
set_option maxHeartbeats 2000000 in
theorem sgW_lenv (t : ByteArray) (ht : ByteArray.size t ≤ 9223372036854775807) (hle : ByteArray.size (ByteArray.extract t 0 (min (ByteArray.size t) 40)) ≤ 9223372036854775807) (r s : Nat) (hr : r < big) (hs : s < big) (v : Int) (hsz : ByteArray.size (ByteArray.extract t 0 (min (ByteArray.size t) 40)) ≠ 32) : FnP Tryd.prog 5 #[.string t, sgv r s (v)] (Marks) (.bool true) := by
  refine FnP.intro (c := codeOf Tryd.f5) [.tmp 4] 118 Tryd.func5 kr kr kr fun w hpre => ?_
  have H0 := St.start w
  refine rS [.b, .v] H0 kr fun gs1 w1 H1 => ?_
  clear H0
  refine rS [.v, .v, .v, .e (v := .int .i64 (if (40 : Int) < (((ByteArray.size t : Nat) : Int) : Int) then (40 : Int) else (((ByteArray.size t : Nat) : Int) : Int))) (v' := .int .i64 ((min (ByteArray.size t) 40 : Nat) : Int)) (int_eq (minN (ByteArray.size t) 40)), .o (ins := [((.tmp 13), .string t), ((.tmp 16), .int .i64 ((min (ByteArray.size t) 40 : Nat) : Int))]) (v := .string (ByteArray.extract t 0 (min (ByteArray.size t) 40))) (fun ρ o w ho hi => scut_run (t := 9) (kd := .i64) kr (x := (.tmp 13)) (y := (.tmp 16)) t (min (ByteArray.size t) 40) ho hi.1 hi.2.1 (by omega) w), .v] H1 kr fun gs2 w2 H2 => ?_
  clear H1
  refine rS [.v, .l 0, .c (rec_lenv (ByteArray.extract t 0 (min (ByteArray.size t) 40)) hle r s hr hs v hsz), .v, .v, .v, .v, .v] H2 kr fun gs3 w3 H3 => ?_
  clear H2
  refine g_seq kr ?_
  refine rS [.v, .v, .e (v := .bool (!(((ByteArray.size (ByteArray.extract t 0 (min (ByteArray.size t) 40)) : Nat) : Int) == 32))) (v' := .bool true) (bool_eq (by rw [beq_eq_false_iff_ne.2 (by omega)]; rfl))] H3 kr fun gs4 w4 H4 => ?_
  clear H3
  refine g_keep [0, 1, 3, 4, 5, 6, 26] fun ρ1 => ?_
  have HK1 := H4.keep
  clear H4
  refine g_cond_t kr kr ?_
  refine rS [.cp (pre := Marks) alive7_fn [] (fun w hb hd => (Marks.oldB hb rfl hpre)), .v, .v, .v, .v, .v, .v, .e (v := .bool (ByteArray.toList (⟨#[]⟩) == ByteArray.toList (⟨#[]⟩))) (v' := .bool true) (bool_eq (str_self (⟨#[]⟩))), .v, .v] HK1 kr fun gs5 w5 H5 => ?_
  clear HK1
  refine g_ret kr ?_
  show ∃ vs, Res _ _ _ _ vs ∧ _
  refine ⟨[.bool true], (.tmp (.bool true) kr .nil), ?_, H5.below⟩
  rfl
set_option maxRecDepth 100000 in
set_option maxHeartbeats 2000000 in
theorem sgW_nov (t : ByteArray) (ht : ByteArray.size t ≤ 9223372036854775807) (hle : ByteArray.size (ByteArray.extract t 0 (min (ByteArray.size t) 40)) ≤ 9223372036854775807) (r s : Nat) (hr : r < big) (hs : s < big) (v : Int) (hsz : ByteArray.size (ByteArray.extract t 0 (min (ByteArray.size t) 40)) = 32) (hm : mayB r s v = false) : FnP Tryd.prog 5 #[.string t, sgv r s (v)] (Marks) (.bool true) := by
  refine FnP.intro (c := codeOf Tryd.f5) [.tmp 4] 118 Tryd.func5 kr kr kr fun w hpre => ?_
  have H0 := St.start w
  refine rS [.b, .v] H0 kr fun gs1 w1 H1 => ?_
  clear H0
  refine rS [.v, .v, .v, .e (v := .int .i64 (if (40 : Int) < (((ByteArray.size t : Nat) : Int) : Int) then (40 : Int) else (((ByteArray.size t : Nat) : Int) : Int))) (v' := .int .i64 ((min (ByteArray.size t) 40 : Nat) : Int)) (int_eq (minN (ByteArray.size t) 40)), .o (ins := [((.tmp 13), .string t), ((.tmp 16), .int .i64 ((min (ByteArray.size t) 40 : Nat) : Int))]) (v := .string (ByteArray.extract t 0 (min (ByteArray.size t) 40))) (fun ρ o w ho hi => scut_run (t := 9) (kd := .i64) kr (x := (.tmp 13)) (y := (.tmp 16)) t (min (ByteArray.size t) 40) ho hi.1 hi.2.1 (by omega) w), .v] H1 kr fun gs2 w2 H2 => ?_
  clear H1
  refine rS [.v, .l 0, .c (rec_nov (ByteArray.extract t 0 (min (ByteArray.size t) 40)) hle r s hr hs v hsz hm), .v, .v, .v, .v, .v] H2 kr fun gs3 w3 H3 => ?_
  clear H2
  refine g_seq kr ?_
  refine rS [.v, .v, .e (v := .bool (!(((ByteArray.size (ByteArray.extract t 0 (min (ByteArray.size t) 40)) : Nat) : Int) == 32))) (v' := .bool false) (bool_eq (by rw [beq_iff_eq.2 (by omega)]; rfl))] H3 kr fun gs4 w4 H4 => ?_
  clear H3
  refine g_keep [0, 1, 3, 4, 5, 6, 26] fun ρ1 => ?_
  have HK1 := H4.keep
  clear H4
  refine g_cond_f kr kr ?_
  refine g_skip kr ?_
  show WP _ _ _ _ _ _
  refine g_seq kr ?_
  refine g_sreg [0, 1, 2] kr kr ?_
  refine rp [.l 0, .c (issig_fn r s hr hs (v))] HK1 kr fun gs5 w5 H5 => ?_
  show WPs _ _ _ _ [2] _ _
  clear HK1
  refine s_now 37 (v := .bool (mayB r s (v))) (v' := .bool false) (bool_eq hm) kr ?_
  refine rp [.v] H5 kr fun gs6 w6 H6 => ?_
  show WPs _ _ _ _ [] _ _
  clear H5
  refine s_nil ?_
  refine g_cond_t kr kr ?_
  refine rS [.cp (pre := Marks) alive7_fn [] (fun w hb hd => (Marks.oldB hb rfl hpre)), .v, .v, .v, .v, .v, .v, .e (v := .bool (ByteArray.toList (⟨#[]⟩) == ByteArray.toList (⟨#[]⟩))) (v' := .bool true) (bool_eq (str_self (⟨#[]⟩))), .v, .v] H6 kr fun gs7 w7 H7 => ?_
  clear H6
  refine g_ret kr ?_
  show ∃ vs, Res _ _ _ _ vs ∧ _
  refine ⟨[.bool true], (.tmp (.bool true) kr .nil), ?_, H7.below⟩
  rfl
set_option maxRecDepth 100000 in
set_option maxHeartbeats 2000000 in
theorem sgW_lf0 (t : ByteArray) (ht : ByteArray.size t ≤ 9223372036854775807) (hle : ByteArray.size (ByteArray.extract t 0 (min (ByteArray.size t) 40)) ≤ 9223372036854775807) (r s : Nat) (hr : r < big) (hs : s < big) (hsz : ByteArray.size (ByteArray.extract t 0 (min (ByteArray.size t) 40)) = 32) (hm : mayB r s 0 = true) (hL : Fn Tryd.prog 20 #[uv r, .bool false] (.tuple #[pv (Ec.Pd.mk 0 0 false), .int .i64 6])) : FnP Tryd.prog 5 #[.string t, sgv r s (0)] (Marks) (.bool true) := by
  refine FnP.intro (c := codeOf Tryd.f5) [.tmp 4] 118 Tryd.func5 kr kr kr fun w hpre => ?_
  have H0 := St.start w
  refine rS [.b, .v] H0 kr fun gs1 w1 H1 => ?_
  clear H0
  refine rS [.v, .v, .v, .e (v := .int .i64 (if (40 : Int) < (((ByteArray.size t : Nat) : Int) : Int) then (40 : Int) else (((ByteArray.size t : Nat) : Int) : Int))) (v' := .int .i64 ((min (ByteArray.size t) 40 : Nat) : Int)) (int_eq (minN (ByteArray.size t) 40)), .o (ins := [((.tmp 13), .string t), ((.tmp 16), .int .i64 ((min (ByteArray.size t) 40 : Nat) : Int))]) (v := .string (ByteArray.extract t 0 (min (ByteArray.size t) 40))) (fun ρ o w ho hi => scut_run (t := 9) (kd := .i64) kr (x := (.tmp 13)) (y := (.tmp 16)) t (min (ByteArray.size t) 40) ho hi.1 hi.2.1 (by omega) w), .v] H1 kr fun gs2 w2 H2 => ?_
  clear H1
  refine rS [.v, .l 0, .c (rec_lf0 (ByteArray.extract t 0 (min (ByteArray.size t) 40)) hle r s hr hs hsz hm hL), .v, .v, .v, .v, .v] H2 kr fun gs3 w3 H3 => ?_
  clear H2
  refine g_seq kr ?_
  refine rS [.v, .v, .e (v := .bool (!(((ByteArray.size (ByteArray.extract t 0 (min (ByteArray.size t) 40)) : Nat) : Int) == 32))) (v' := .bool false) (bool_eq (by rw [beq_iff_eq.2 (by omega)]; rfl))] H3 kr fun gs4 w4 H4 => ?_
  clear H3
  refine g_keep [0, 1, 3, 4, 5, 6, 26] fun ρ1 => ?_
  have HK1 := H4.keep
  clear H4
  refine g_cond_f kr kr ?_
  refine g_skip kr ?_
  show WP _ _ _ _ _ _
  refine g_seq kr ?_
  refine g_sreg [0, 1, 2] kr kr ?_
  refine rp [.l 0, .c (issig_fn r s hr hs (0))] HK1 kr fun gs5 w5 H5 => ?_
  show WPs _ _ _ _ [2] _ _
  clear HK1
  refine s_now 37 (v := .bool (mayB r s (0))) (v' := .bool true) (bool_eq hm) kr ?_
  refine rp [.v] H5 kr fun gs6 w6 H6 => ?_
  show WPs _ _ _ _ [] _ _
  clear H5
  refine s_nil ?_
  refine g_cond_f kr kr ?_
  refine g_skip kr ?_
  show WP _ _ _ _ _ _
  refine rS [.v, .l 0, .v, .l 0, .v, .c hL, .v, .v, .v, .a, .s 1, .v] H6 kr fun gs7 w7 H7 => ?_
  clear H6
  refine g_seq kr ?_
  refine rS [.v, .v] H7 kr fun gs8 w8 H8 => ?_
  clear H7
  refine g_keep [0, 1, 3, 4, 5, 6, 7, 8, 26, 38, 58] fun ρ2 => ?_
  have HK2 := H8.keep
  clear H8
  refine g_cond_t kr kr ?_
  refine rS [.cp (pre := Marks) alive7_fn [] (fun w hb hd => (Marks.oldB hb rfl hpre)), .v, .v, .v, .v, .v, .v, .e (v := .bool (ByteArray.toList (⟨#[]⟩) == ByteArray.toList (⟨#[]⟩))) (v' := .bool true) (bool_eq (str_self (⟨#[]⟩))), .v, .v] HK2 kr fun gs9 w9 H9 => ?_
  clear HK2
  refine g_ret kr ?_
  show ∃ vs, Res _ _ _ _ vs ∧ _
  refine ⟨[.bool true], (.tmp (.bool true) kr .nil), ?_, H9.below⟩
  rfl
set_option maxRecDepth 100000 in
set_option maxHeartbeats 2000000 in
theorem sgW_z0 (t : ByteArray) (ht : ByteArray.size t ≤ 9223372036854775807) (hle : ByteArray.size (ByteArray.extract t 0 (min (ByteArray.size t) 40)) ≤ 9223372036854775807) (r s : Nat) (hr : r < big) (hs : s < big) (hsz : ByteArray.size (ByteArray.extract t 0 (min (ByteArray.size t) 40)) = 32) (hm : mayB r s 0 = true) (hz : rs r 0 NR ≠ 0) (P : Ec.Pt Ec.Fp) (hP : P.On Ec.seven) (X Y : Nat) (hX : X < big) (hY : Y < big) (hL : Fn Tryd.prog 20 #[uv r, .bool false] (.tuple #[pv (Ec.ofPt P), .int .i64 0])) (hB : Fn Tryd.prog 22 #[pv (Ec.ofPt P), uv (fMul s (finv r NR) NR), pv (Ec.ofPt Ec.G), uv (fMul (fSub 0 (rs (sv (tl (ByteArray.extract t 0 (min (ByteArray.size t) 40)))) 0 NR) NR) (finv r NR) NR)] (.tuple #[pv (Ec.Pd.mk X Y true), .int .i64 0])) : FnP Tryd.prog 5 #[.string t, sgv r s (0)] (Marks) (.bool true) := by
  refine FnP.intro (c := codeOf Tryd.f5) [.tmp 4] 118 Tryd.func5 kr kr kr fun w hpre => ?_
  have H0 := St.start w
  refine rS [.b, .v] H0 kr fun gs1 w1 H1 => ?_
  clear H0
  refine rS [.v, .v, .v, .e (v := .int .i64 (if (40 : Int) < (((ByteArray.size t : Nat) : Int) : Int) then (40 : Int) else (((ByteArray.size t : Nat) : Int) : Int))) (v' := .int .i64 ((min (ByteArray.size t) 40 : Nat) : Int)) (int_eq (minN (ByteArray.size t) 40)), .o (ins := [((.tmp 13), .string t), ((.tmp 16), .int .i64 ((min (ByteArray.size t) 40 : Nat) : Int))]) (v := .string (ByteArray.extract t 0 (min (ByteArray.size t) 40))) (fun ρ o w ho hi => scut_run (t := 9) (kd := .i64) kr (x := (.tmp 13)) (y := (.tmp 16)) t (min (ByteArray.size t) 40) ho hi.1 hi.2.1 (by omega) w), .v] H1 kr fun gs2 w2 H2 => ?_
  clear H1
  refine rS [.v, .l 0, .c (rec_z0 (ByteArray.extract t 0 (min (ByteArray.size t) 40)) hle r s hr hs hsz hm hz P hP X Y hX hY hL hB), .v, .v, .v, .v, .v] H2 kr fun gs3 w3 H3 => ?_
  clear H2
  refine g_seq kr ?_
  refine rS [.v, .v, .e (v := .bool (!(((ByteArray.size (ByteArray.extract t 0 (min (ByteArray.size t) 40)) : Nat) : Int) == 32))) (v' := .bool false) (bool_eq (by rw [beq_iff_eq.2 (by omega)]; rfl))] H3 kr fun gs4 w4 H4 => ?_
  clear H3
  refine g_keep [0, 1, 3, 4, 5, 6, 26] fun ρ1 => ?_
  have HK1 := H4.keep
  clear H4
  refine g_cond_f kr kr ?_
  refine g_skip kr ?_
  show WP _ _ _ _ _ _
  refine g_seq kr ?_
  refine g_sreg [0, 1, 2] kr kr ?_
  refine rp [.l 0, .c (issig_fn r s hr hs (0))] HK1 kr fun gs5 w5 H5 => ?_
  show WPs _ _ _ _ [2] _ _
  clear HK1
  refine s_now 37 (v := .bool (mayB r s (0))) (v' := .bool true) (bool_eq hm) kr ?_
  refine rp [.v] H5 kr fun gs6 w6 H6 => ?_
  show WPs _ _ _ _ [] _ _
  clear H5
  refine s_nil ?_
  refine g_cond_f kr kr ?_
  refine g_skip kr ?_
  show WP _ _ _ _ _ _
  refine rS [.v, .l 0, .v, .l 0, .v, .c hL, .v, .v, .v, .a, .s 1, .v] H6 kr fun gs7 w7 H7 => ?_
  clear H6
  refine g_seq kr ?_
  refine rS [.v, .v] H7 kr fun gs8 w8 H8 => ?_
  clear H7
  refine g_keep [0, 1, 3, 4, 5, 6, 7, 8, 26, 38, 58] fun ρ2 => ?_
  have HK2 := H8.keep
  clear H8
  refine g_cond_f kr kr ?_
  refine g_skip kr ?_
  show WP _ _ _ _ _ _
  refine rS [.v, .l 0, .c (inv1_fn r hr hz), .v, .v, .v, .a, .s 2, .v] HK2 kr fun gs9 w9 H9 => ?_
  clear HK2
  refine dSg (fun gs10 => [.l 1, .v, .l 0, .l 2, .c (rmul1_fn s (finv r NR) hs (fpw_lt nr_ok)), .c base_fn, .v, .v, .c (rnum_fn (ByteArray.extract t 0 (min (ByteArray.size t) 40)) hle hsz), .c (rsub1_fn 0 (rs (sv (tl (ByteArray.extract t 0 (min (ByteArray.size t) 40)))) 0 NR) (by unfold big; omega) (rs_lt nr_ok)), .l 2, .c (rmul1_fn (fSub 0 (rs (sv (tl (ByteArray.extract t 0 (min (ByteArray.size t) 40)))) 0 NR) NR) (finv r NR) (fSub_lt nr_ok) (fpw_lt nr_ok)), .c hB, .v, .v, .v, .a, .s 3, .v]) H9 kr fun gs10 w10 H10 => ?_
  clear H9
  refine g_keep [0, 1, 3, 4, 5, 6, 7, 8, 9, 10, 11, 12, 26, 38, 58] fun ρ3 => ?_
  have HK3 := H10.keep
  clear H10
  refine g_seq kr ?_
  refine rS [.v, .v, .v, .v, .v, .v] HK3 kr fun gs11 w11 H11 => ?_
  clear HK3
  refine g_cond_f kr kr ?_
  refine g_skip kr ?_
  show WP _ _ _ _ _ _
  refine g_seq kr ?_
  refine rS [.v, .l 3] H11 kr fun gs12 w12 H12 => ?_
  clear H11
  refine g_cond_t kr kr ?_
  refine rS [.cp (pre := Marks) alive7_fn [] (fun w hb hd => (Marks.oldB hb rfl hpre)), .v, .v, .v, .v, .v, .v, .e (v := .bool (ByteArray.toList (⟨#[]⟩) == ByteArray.toList (⟨#[]⟩))) (v' := .bool true) (bool_eq (str_self (⟨#[]⟩))), .v, .v] H12 kr fun gs13 w13 H13 => ?_
  clear H12
  refine g_ret kr ?_
  show ∃ vs, Res _ _ _ _ vs ∧ _
  refine ⟨[.bool true], (.tmp (.bool true) kr .nil), ?_, H13.below⟩
  rfl
set_option maxRecDepth 100000 in
set_option maxHeartbeats 2000000 in
theorem sgW_y0 (t : ByteArray) (ht : ByteArray.size t ≤ 9223372036854775807) (hle : ByteArray.size (ByteArray.extract t 0 (min (ByteArray.size t) 40)) ≤ 9223372036854775807) (r s : Nat) (hr : r < big) (hs : s < big) (hsz : ByteArray.size (ByteArray.extract t 0 (min (ByteArray.size t) 40)) = 32) (hm : mayB r s 0 = true) (hz : rs r 0 NR ≠ 0) (P : Ec.Pt Ec.Fp) (hP : P.On Ec.seven) (X Y : Nat) (hX : X < big) (hY : Y < big) (hL : Fn Tryd.prog 20 #[uv r, .bool false] (.tuple #[pv (Ec.ofPt P), .int .i64 0])) (hB : Fn Tryd.prog 22 #[pv (Ec.ofPt P), uv (fMul s (finv r NR) NR), pv (Ec.ofPt Ec.G), uv (fMul (fSub 0 (rs (sv (tl (ByteArray.extract t 0 (min (ByteArray.size t) 40)))) 0 NR) NR) (finv r NR) NR)] (.tuple #[pv (Ec.Pd.mk X Y false), .int .i64 0])) (h : Ec.onB (Ec.Pd.mk X Y false) = true) : FnP Tryd.prog 5 #[.string t, sgv r s (0)] (Marks) (.bool true) := by
  refine FnP.intro (c := codeOf Tryd.f5) [.tmp 4] 118 Tryd.func5 kr kr kr fun w hpre => ?_
  have H0 := St.start w
  refine rS [.b, .v] H0 kr fun gs1 w1 H1 => ?_
  clear H0
  refine rS [.v, .v, .v, .e (v := .int .i64 (if (40 : Int) < (((ByteArray.size t : Nat) : Int) : Int) then (40 : Int) else (((ByteArray.size t : Nat) : Int) : Int))) (v' := .int .i64 ((min (ByteArray.size t) 40 : Nat) : Int)) (int_eq (minN (ByteArray.size t) 40)), .o (ins := [((.tmp 13), .string t), ((.tmp 16), .int .i64 ((min (ByteArray.size t) 40 : Nat) : Int))]) (v := .string (ByteArray.extract t 0 (min (ByteArray.size t) 40))) (fun ρ o w ho hi => scut_run (t := 9) (kd := .i64) kr (x := (.tmp 13)) (y := (.tmp 16)) t (min (ByteArray.size t) 40) ho hi.1 hi.2.1 (by omega) w), .v] H1 kr fun gs2 w2 H2 => ?_
  clear H1
  refine rS [.v, .l 0, .cp (pre := Marks) (rec_y0 (ByteArray.extract t 0 (min (ByteArray.size t) 40)) hle r s hr hs hsz hm hz P hP X Y hX hY hL hB h) [] (fun w hb hd => (Marks.oldB hb rfl hpre)), .v, .v, .v, .v, .v] H2 kr fun gs3 w3 H3 => ?_
  clear H2
  refine g_seq kr ?_
  refine rS [.v, .v, .e (v := .bool (!(((ByteArray.size (ByteArray.extract t 0 (min (ByteArray.size t) 40)) : Nat) : Int) == 32))) (v' := .bool false) (bool_eq (by rw [beq_iff_eq.2 (by omega)]; rfl))] H3 kr fun gs4 w4 H4 => ?_
  clear H3
  refine g_keep [0, 1, 3, 4, 5, 6, 26] fun ρ1 => ?_
  have HK1 := H4.keep
  clear H4
  refine g_cond_f kr kr ?_
  refine g_skip kr ?_
  show WP _ _ _ _ _ _
  refine g_seq kr ?_
  refine g_sreg [0, 1, 2] kr kr ?_
  refine rp [.l 0, .c (issig_fn r s hr hs (0))] HK1 kr fun gs5 w5 H5 => ?_
  show WPs _ _ _ _ [2] _ _
  clear HK1
  refine s_now 37 (v := .bool (mayB r s (0))) (v' := .bool true) (bool_eq hm) kr ?_
  refine rp [.v] H5 kr fun gs6 w6 H6 => ?_
  show WPs _ _ _ _ [] _ _
  clear H5
  refine s_nil ?_
  refine g_cond_f kr kr ?_
  refine g_skip kr ?_
  show WP _ _ _ _ _ _
  refine rS [.v, .l 0, .v, .l 0, .v, .c hL, .v, .v, .v, .a, .s 1, .v] H6 kr fun gs7 w7 H7 => ?_
  clear H6
  refine g_seq kr ?_
  refine rS [.v, .v] H7 kr fun gs8 w8 H8 => ?_
  clear H7
  refine g_keep [0, 1, 3, 4, 5, 6, 7, 8, 26, 38, 58] fun ρ2 => ?_
  have HK2 := H8.keep
  clear H8
  refine g_cond_f kr kr ?_
  refine g_skip kr ?_
  show WP _ _ _ _ _ _
  refine rS [.v, .l 0, .c (inv1_fn r hr hz), .v, .v, .v, .a, .s 2, .v] HK2 kr fun gs9 w9 H9 => ?_
  clear HK2
  refine dSg (fun gs10 => [.l 1, .v, .l 0, .l 2, .c (rmul1_fn s (finv r NR) hs (fpw_lt nr_ok)), .c base_fn, .v, .v, .c (rnum_fn (ByteArray.extract t 0 (min (ByteArray.size t) 40)) hle hsz), .c (rsub1_fn 0 (rs (sv (tl (ByteArray.extract t 0 (min (ByteArray.size t) 40)))) 0 NR) (by unfold big; omega) (rs_lt nr_ok)), .l 2, .c (rmul1_fn (fSub 0 (rs (sv (tl (ByteArray.extract t 0 (min (ByteArray.size t) 40)))) 0 NR) NR) (finv r NR) (fSub_lt nr_ok) (fpw_lt nr_ok)), .c hB, .v, .v, .v, .a, .s 3, .v]) H9 kr fun gs10 w10 H10 => ?_
  clear H9
  refine g_keep [0, 1, 3, 4, 5, 6, 7, 8, 9, 10, 11, 12, 26, 38, 58] fun ρ3 => ?_
  have HK3 := H10.keep
  clear H10
  refine g_seq kr ?_
  refine rS [.v, .v, .v, .v, .v, .v] HK3 kr fun gs11 w11 H11 => ?_
  clear HK3
  refine g_cond_f kr kr ?_
  refine g_skip kr ?_
  show WP _ _ _ _ _ _
  refine g_seq kr ?_
  refine rS [.v, .l 3] H11 kr fun gs12 w12 H12 => ?_
  clear H11
  refine g_cond_f kr kr ?_
  refine g_skip kr ?_
  show WP _ _ _ _ _ _
  refine rS [.cp (pre := Marks) alive7_fn [] (fun w hb hd => (Marks.oldB hb rfl hpre)), .v, .v, .v, .v, .v, .v, .l 3, .c (raddr_p X Y hX hY), .e (v := .bool (ByteArray.toList (adrB X Y) == ByteArray.toList (adrB X Y))) (v' := .bool true) (bool_eq (str_self (adrB X Y))), .v, .v] H12 kr fun gs13 w13 H13 => ?_
  clear H12
  refine g_ret kr ?_
  show ∃ vs, Res _ _ _ _ vs ∧ _
  refine ⟨[.bool true], (.tmp (.bool true) kr .nil), ?_, H13.below⟩
  rfl
set_option maxRecDepth 100000 in
set_option maxHeartbeats 2000000 in
theorem sgW_lf1 (t : ByteArray) (ht : ByteArray.size t ≤ 9223372036854775807) (hle : ByteArray.size (ByteArray.extract t 0 (min (ByteArray.size t) 40)) ≤ 9223372036854775807) (r s : Nat) (hr : r < big) (hs : s < big) (hsz : ByteArray.size (ByteArray.extract t 0 (min (ByteArray.size t) 40)) = 32) (hm : mayB r s 1 = true) (hL : Fn Tryd.prog 20 #[uv r, .bool true] (.tuple #[pv (Ec.Pd.mk 0 0 false), .int .i64 6])) : FnP Tryd.prog 5 #[.string t, sgv r s (1)] (Marks) (.bool true) := by
  refine FnP.intro (c := codeOf Tryd.f5) [.tmp 4] 118 Tryd.func5 kr kr kr fun w hpre => ?_
  have H0 := St.start w
  refine rS [.b, .v] H0 kr fun gs1 w1 H1 => ?_
  clear H0
  refine rS [.v, .v, .v, .e (v := .int .i64 (if (40 : Int) < (((ByteArray.size t : Nat) : Int) : Int) then (40 : Int) else (((ByteArray.size t : Nat) : Int) : Int))) (v' := .int .i64 ((min (ByteArray.size t) 40 : Nat) : Int)) (int_eq (minN (ByteArray.size t) 40)), .o (ins := [((.tmp 13), .string t), ((.tmp 16), .int .i64 ((min (ByteArray.size t) 40 : Nat) : Int))]) (v := .string (ByteArray.extract t 0 (min (ByteArray.size t) 40))) (fun ρ o w ho hi => scut_run (t := 9) (kd := .i64) kr (x := (.tmp 13)) (y := (.tmp 16)) t (min (ByteArray.size t) 40) ho hi.1 hi.2.1 (by omega) w), .v] H1 kr fun gs2 w2 H2 => ?_
  clear H1
  refine rS [.v, .l 0, .c (rec_lf1 (ByteArray.extract t 0 (min (ByteArray.size t) 40)) hle r s hr hs hsz hm hL), .v, .v, .v, .v, .v] H2 kr fun gs3 w3 H3 => ?_
  clear H2
  refine g_seq kr ?_
  refine rS [.v, .v, .e (v := .bool (!(((ByteArray.size (ByteArray.extract t 0 (min (ByteArray.size t) 40)) : Nat) : Int) == 32))) (v' := .bool false) (bool_eq (by rw [beq_iff_eq.2 (by omega)]; rfl))] H3 kr fun gs4 w4 H4 => ?_
  clear H3
  refine g_keep [0, 1, 3, 4, 5, 6, 26] fun ρ1 => ?_
  have HK1 := H4.keep
  clear H4
  refine g_cond_f kr kr ?_
  refine g_skip kr ?_
  show WP _ _ _ _ _ _
  refine g_seq kr ?_
  refine g_sreg [0, 1, 2] kr kr ?_
  refine rp [.l 0, .c (issig_fn r s hr hs (1))] HK1 kr fun gs5 w5 H5 => ?_
  show WPs _ _ _ _ [2] _ _
  clear HK1
  refine s_now 37 (v := .bool (mayB r s (1))) (v' := .bool true) (bool_eq hm) kr ?_
  refine rp [.v] H5 kr fun gs6 w6 H6 => ?_
  show WPs _ _ _ _ [] _ _
  clear H5
  refine s_nil ?_
  refine g_cond_f kr kr ?_
  refine g_skip kr ?_
  show WP _ _ _ _ _ _
  refine rS [.v, .l 0, .v, .l 0, .v, .c hL, .v, .v, .v, .a, .s 1, .v] H6 kr fun gs7 w7 H7 => ?_
  clear H6
  refine g_seq kr ?_
  refine rS [.v, .v] H7 kr fun gs8 w8 H8 => ?_
  clear H7
  refine g_keep [0, 1, 3, 4, 5, 6, 7, 8, 26, 38, 58] fun ρ2 => ?_
  have HK2 := H8.keep
  clear H8
  refine g_cond_t kr kr ?_
  refine rS [.cp (pre := Marks) alive7_fn [] (fun w hb hd => (Marks.oldB hb rfl hpre)), .v, .v, .v, .v, .v, .v, .e (v := .bool (ByteArray.toList (⟨#[]⟩) == ByteArray.toList (⟨#[]⟩))) (v' := .bool true) (bool_eq (str_self (⟨#[]⟩))), .v, .v] HK2 kr fun gs9 w9 H9 => ?_
  clear HK2
  refine g_ret kr ?_
  show ∃ vs, Res _ _ _ _ vs ∧ _
  refine ⟨[.bool true], (.tmp (.bool true) kr .nil), ?_, H9.below⟩
  rfl
set_option maxRecDepth 100000 in
set_option maxHeartbeats 2000000 in
theorem sgW_z1 (t : ByteArray) (ht : ByteArray.size t ≤ 9223372036854775807) (hle : ByteArray.size (ByteArray.extract t 0 (min (ByteArray.size t) 40)) ≤ 9223372036854775807) (r s : Nat) (hr : r < big) (hs : s < big) (hsz : ByteArray.size (ByteArray.extract t 0 (min (ByteArray.size t) 40)) = 32) (hm : mayB r s 1 = true) (hz : rs r 0 NR ≠ 0) (P : Ec.Pt Ec.Fp) (hP : P.On Ec.seven) (X Y : Nat) (hX : X < big) (hY : Y < big) (hL : Fn Tryd.prog 20 #[uv r, .bool true] (.tuple #[pv (Ec.ofPt P), .int .i64 0])) (hB : Fn Tryd.prog 22 #[pv (Ec.ofPt P), uv (fMul s (finv r NR) NR), pv (Ec.ofPt Ec.G), uv (fMul (fSub 0 (rs (sv (tl (ByteArray.extract t 0 (min (ByteArray.size t) 40)))) 0 NR) NR) (finv r NR) NR)] (.tuple #[pv (Ec.Pd.mk X Y true), .int .i64 0])) : FnP Tryd.prog 5 #[.string t, sgv r s (1)] (Marks) (.bool true) := by
  refine FnP.intro (c := codeOf Tryd.f5) [.tmp 4] 118 Tryd.func5 kr kr kr fun w hpre => ?_
  have H0 := St.start w
  refine rS [.b, .v] H0 kr fun gs1 w1 H1 => ?_
  clear H0
  refine rS [.v, .v, .v, .e (v := .int .i64 (if (40 : Int) < (((ByteArray.size t : Nat) : Int) : Int) then (40 : Int) else (((ByteArray.size t : Nat) : Int) : Int))) (v' := .int .i64 ((min (ByteArray.size t) 40 : Nat) : Int)) (int_eq (minN (ByteArray.size t) 40)), .o (ins := [((.tmp 13), .string t), ((.tmp 16), .int .i64 ((min (ByteArray.size t) 40 : Nat) : Int))]) (v := .string (ByteArray.extract t 0 (min (ByteArray.size t) 40))) (fun ρ o w ho hi => scut_run (t := 9) (kd := .i64) kr (x := (.tmp 13)) (y := (.tmp 16)) t (min (ByteArray.size t) 40) ho hi.1 hi.2.1 (by omega) w), .v] H1 kr fun gs2 w2 H2 => ?_
  clear H1
  refine rS [.v, .l 0, .c (rec_z1 (ByteArray.extract t 0 (min (ByteArray.size t) 40)) hle r s hr hs hsz hm hz P hP X Y hX hY hL hB), .v, .v, .v, .v, .v] H2 kr fun gs3 w3 H3 => ?_
  clear H2
  refine g_seq kr ?_
  refine rS [.v, .v, .e (v := .bool (!(((ByteArray.size (ByteArray.extract t 0 (min (ByteArray.size t) 40)) : Nat) : Int) == 32))) (v' := .bool false) (bool_eq (by rw [beq_iff_eq.2 (by omega)]; rfl))] H3 kr fun gs4 w4 H4 => ?_
  clear H3
  refine g_keep [0, 1, 3, 4, 5, 6, 26] fun ρ1 => ?_
  have HK1 := H4.keep
  clear H4
  refine g_cond_f kr kr ?_
  refine g_skip kr ?_
  show WP _ _ _ _ _ _
  refine g_seq kr ?_
  refine g_sreg [0, 1, 2] kr kr ?_
  refine rp [.l 0, .c (issig_fn r s hr hs (1))] HK1 kr fun gs5 w5 H5 => ?_
  show WPs _ _ _ _ [2] _ _
  clear HK1
  refine s_now 37 (v := .bool (mayB r s (1))) (v' := .bool true) (bool_eq hm) kr ?_
  refine rp [.v] H5 kr fun gs6 w6 H6 => ?_
  show WPs _ _ _ _ [] _ _
  clear H5
  refine s_nil ?_
  refine g_cond_f kr kr ?_
  refine g_skip kr ?_
  show WP _ _ _ _ _ _
  refine rS [.v, .l 0, .v, .l 0, .v, .c hL, .v, .v, .v, .a, .s 1, .v] H6 kr fun gs7 w7 H7 => ?_
  clear H6
  refine g_seq kr ?_
  refine rS [.v, .v] H7 kr fun gs8 w8 H8 => ?_
  clear H7
  refine g_keep [0, 1, 3, 4, 5, 6, 7, 8, 26, 38, 58] fun ρ2 => ?_
  have HK2 := H8.keep
  clear H8
  refine g_cond_f kr kr ?_
  refine g_skip kr ?_
  show WP _ _ _ _ _ _
  refine rS [.v, .l 0, .c (inv1_fn r hr hz), .v, .v, .v, .a, .s 2, .v] HK2 kr fun gs9 w9 H9 => ?_
  clear HK2
  refine dSg (fun gs10 => [.l 1, .v, .l 0, .l 2, .c (rmul1_fn s (finv r NR) hs (fpw_lt nr_ok)), .c base_fn, .v, .v, .c (rnum_fn (ByteArray.extract t 0 (min (ByteArray.size t) 40)) hle hsz), .c (rsub1_fn 0 (rs (sv (tl (ByteArray.extract t 0 (min (ByteArray.size t) 40)))) 0 NR) (by unfold big; omega) (rs_lt nr_ok)), .l 2, .c (rmul1_fn (fSub 0 (rs (sv (tl (ByteArray.extract t 0 (min (ByteArray.size t) 40)))) 0 NR) NR) (finv r NR) (fSub_lt nr_ok) (fpw_lt nr_ok)), .c hB, .v, .v, .v, .a, .s 3, .v]) H9 kr fun gs10 w10 H10 => ?_
  clear H9
  refine g_keep [0, 1, 3, 4, 5, 6, 7, 8, 9, 10, 11, 12, 26, 38, 58] fun ρ3 => ?_
  have HK3 := H10.keep
  clear H10
  refine g_seq kr ?_
  refine rS [.v, .v, .v, .v, .v, .v] HK3 kr fun gs11 w11 H11 => ?_
  clear HK3
  refine g_cond_f kr kr ?_
  refine g_skip kr ?_
  show WP _ _ _ _ _ _
  refine g_seq kr ?_
  refine rS [.v, .l 3] H11 kr fun gs12 w12 H12 => ?_
  clear H11
  refine g_cond_t kr kr ?_
  refine rS [.cp (pre := Marks) alive7_fn [] (fun w hb hd => (Marks.oldB hb rfl hpre)), .v, .v, .v, .v, .v, .v, .e (v := .bool (ByteArray.toList (⟨#[]⟩) == ByteArray.toList (⟨#[]⟩))) (v' := .bool true) (bool_eq (str_self (⟨#[]⟩))), .v, .v] H12 kr fun gs13 w13 H13 => ?_
  clear H12
  refine g_ret kr ?_
  show ∃ vs, Res _ _ _ _ vs ∧ _
  refine ⟨[.bool true], (.tmp (.bool true) kr .nil), ?_, H13.below⟩
  rfl
set_option maxRecDepth 100000 in
set_option maxHeartbeats 2000000 in
theorem sgW_y1 (t : ByteArray) (ht : ByteArray.size t ≤ 9223372036854775807) (hle : ByteArray.size (ByteArray.extract t 0 (min (ByteArray.size t) 40)) ≤ 9223372036854775807) (r s : Nat) (hr : r < big) (hs : s < big) (hsz : ByteArray.size (ByteArray.extract t 0 (min (ByteArray.size t) 40)) = 32) (hm : mayB r s 1 = true) (hz : rs r 0 NR ≠ 0) (P : Ec.Pt Ec.Fp) (hP : P.On Ec.seven) (X Y : Nat) (hX : X < big) (hY : Y < big) (hL : Fn Tryd.prog 20 #[uv r, .bool true] (.tuple #[pv (Ec.ofPt P), .int .i64 0])) (hB : Fn Tryd.prog 22 #[pv (Ec.ofPt P), uv (fMul s (finv r NR) NR), pv (Ec.ofPt Ec.G), uv (fMul (fSub 0 (rs (sv (tl (ByteArray.extract t 0 (min (ByteArray.size t) 40)))) 0 NR) NR) (finv r NR) NR)] (.tuple #[pv (Ec.Pd.mk X Y false), .int .i64 0])) (h : Ec.onB (Ec.Pd.mk X Y false) = true) : FnP Tryd.prog 5 #[.string t, sgv r s (1)] (Marks) (.bool true) := by
  refine FnP.intro (c := codeOf Tryd.f5) [.tmp 4] 118 Tryd.func5 kr kr kr fun w hpre => ?_
  have H0 := St.start w
  refine rS [.b, .v] H0 kr fun gs1 w1 H1 => ?_
  clear H0
  refine rS [.v, .v, .v, .e (v := .int .i64 (if (40 : Int) < (((ByteArray.size t : Nat) : Int) : Int) then (40 : Int) else (((ByteArray.size t : Nat) : Int) : Int))) (v' := .int .i64 ((min (ByteArray.size t) 40 : Nat) : Int)) (int_eq (minN (ByteArray.size t) 40)), .o (ins := [((.tmp 13), .string t), ((.tmp 16), .int .i64 ((min (ByteArray.size t) 40 : Nat) : Int))]) (v := .string (ByteArray.extract t 0 (min (ByteArray.size t) 40))) (fun ρ o w ho hi => scut_run (t := 9) (kd := .i64) kr (x := (.tmp 13)) (y := (.tmp 16)) t (min (ByteArray.size t) 40) ho hi.1 hi.2.1 (by omega) w), .v] H1 kr fun gs2 w2 H2 => ?_
  clear H1
  refine rS [.v, .l 0, .cp (pre := Marks) (rec_y1 (ByteArray.extract t 0 (min (ByteArray.size t) 40)) hle r s hr hs hsz hm hz P hP X Y hX hY hL hB h) [] (fun w hb hd => (Marks.oldB hb rfl hpre)), .v, .v, .v, .v, .v] H2 kr fun gs3 w3 H3 => ?_
  clear H2
  refine g_seq kr ?_
  refine rS [.v, .v, .e (v := .bool (!(((ByteArray.size (ByteArray.extract t 0 (min (ByteArray.size t) 40)) : Nat) : Int) == 32))) (v' := .bool false) (bool_eq (by rw [beq_iff_eq.2 (by omega)]; rfl))] H3 kr fun gs4 w4 H4 => ?_
  clear H3
  refine g_keep [0, 1, 3, 4, 5, 6, 26] fun ρ1 => ?_
  have HK1 := H4.keep
  clear H4
  refine g_cond_f kr kr ?_
  refine g_skip kr ?_
  show WP _ _ _ _ _ _
  refine g_seq kr ?_
  refine g_sreg [0, 1, 2] kr kr ?_
  refine rp [.l 0, .c (issig_fn r s hr hs (1))] HK1 kr fun gs5 w5 H5 => ?_
  show WPs _ _ _ _ [2] _ _
  clear HK1
  refine s_now 37 (v := .bool (mayB r s (1))) (v' := .bool true) (bool_eq hm) kr ?_
  refine rp [.v] H5 kr fun gs6 w6 H6 => ?_
  show WPs _ _ _ _ [] _ _
  clear H5
  refine s_nil ?_
  refine g_cond_f kr kr ?_
  refine g_skip kr ?_
  show WP _ _ _ _ _ _
  refine rS [.v, .l 0, .v, .l 0, .v, .c hL, .v, .v, .v, .a, .s 1, .v] H6 kr fun gs7 w7 H7 => ?_
  clear H6
  refine g_seq kr ?_
  refine rS [.v, .v] H7 kr fun gs8 w8 H8 => ?_
  clear H7
  refine g_keep [0, 1, 3, 4, 5, 6, 7, 8, 26, 38, 58] fun ρ2 => ?_
  have HK2 := H8.keep
  clear H8
  refine g_cond_f kr kr ?_
  refine g_skip kr ?_
  show WP _ _ _ _ _ _
  refine rS [.v, .l 0, .c (inv1_fn r hr hz), .v, .v, .v, .a, .s 2, .v] HK2 kr fun gs9 w9 H9 => ?_
  clear HK2
  refine dSg (fun gs10 => [.l 1, .v, .l 0, .l 2, .c (rmul1_fn s (finv r NR) hs (fpw_lt nr_ok)), .c base_fn, .v, .v, .c (rnum_fn (ByteArray.extract t 0 (min (ByteArray.size t) 40)) hle hsz), .c (rsub1_fn 0 (rs (sv (tl (ByteArray.extract t 0 (min (ByteArray.size t) 40)))) 0 NR) (by unfold big; omega) (rs_lt nr_ok)), .l 2, .c (rmul1_fn (fSub 0 (rs (sv (tl (ByteArray.extract t 0 (min (ByteArray.size t) 40)))) 0 NR) NR) (finv r NR) (fSub_lt nr_ok) (fpw_lt nr_ok)), .c hB, .v, .v, .v, .a, .s 3, .v]) H9 kr fun gs10 w10 H10 => ?_
  clear H9
  refine g_keep [0, 1, 3, 4, 5, 6, 7, 8, 9, 10, 11, 12, 26, 38, 58] fun ρ3 => ?_
  have HK3 := H10.keep
  clear H10
  refine g_seq kr ?_
  refine rS [.v, .v, .v, .v, .v, .v] HK3 kr fun gs11 w11 H11 => ?_
  clear HK3
  refine g_cond_f kr kr ?_
  refine g_skip kr ?_
  show WP _ _ _ _ _ _
  refine g_seq kr ?_
  refine rS [.v, .l 3] H11 kr fun gs12 w12 H12 => ?_
  clear H11
  refine g_cond_f kr kr ?_
  refine g_skip kr ?_
  show WP _ _ _ _ _ _
  refine rS [.cp (pre := Marks) alive7_fn [] (fun w hb hd => (Marks.oldB hb rfl hpre)), .v, .v, .v, .v, .v, .v, .l 3, .c (raddr_p X Y hX hY), .e (v := .bool (ByteArray.toList (adrB X Y) == ByteArray.toList (adrB X Y))) (v' := .bool true) (bool_eq (str_self (adrB X Y))), .v, .v] H12 kr fun gs13 w13 H13 => ?_
  clear H12
  refine g_ret kr ?_
  show ∃ vs, Res _ _ _ _ vs ∧ _
  refine ⟨[.bool true], (.tmp (.bool true) kr .nil), ?_, H13.below⟩
  rfl
end Go.Proofs.YtmmloghbnpfedaaDoor

namespace Go.Proofs.YtmmloghbnpfedaaDoor
open Go Go.RowKit
set_option linter.unusedVariables false
open Go.Proofs.Kec Ke
theorem nr_pr : NR < PR := by decide +kernel
theorem lift_pt0 {r : Nat} (hr : r < big) (hx : r < PR) (hs : fMul (fpw (Ec.sqN r) QR PR) (fpw (Ec.sqN r) QR PR) PR = rs (Ec.sqN r) 0 PR) : ∃ P : Ec.Pt Ec.Fp, P.On Ec.seven ∧ Fn Tryd.prog 20 #[uv r, .bool false] (.tuple #[pv (Ec.ofPt P), .int .i64 0]) := by
  obtain ⟨P, hP, he⟩ := Ec.onB_of (even_on hx hs)
  exact ⟨P, hP, by have h := lift0_fn r hr hx hs; rw [he] at h; exact h⟩
theorem lift_pt1 {r : Nat} (hr : r < big) (hx : r < PR) (hs : fMul (fpw (Ec.sqN r) QR PR) (fpw (Ec.sqN r) QR PR) PR = rs (Ec.sqN r) 0 PR) : ∃ P : Ec.Pt Ec.Fp, P.On Ec.seven ∧ Fn Tryd.prog 20 #[uv r, .bool true] (.tuple #[pv (Ec.ofPt P), .int .i64 0]) := by
  obtain ⟨P, hP, he⟩ := Ec.onB_of (odd_on hx hs)
  exact ⟨P, hP, by have h := lift1_fn r hr hx hs; rw [he] at h; exact h⟩
theorem sgW_at (t : ByteArray) (ht : ByteArray.size t ≤ 9223372036854775807) (r s : Nat) (v : Int) (hr : r < big) (hs : s < big) : FnP Tryd.prog 5 #[.string t, sgv r s v] Marks (.bool true) := by
  have hle : ByteArray.size (ByteArray.extract t 0 (min (ByteArray.size t) 40)) ≤ 9223372036854775807 := by rw [← tl_len, tl_extract, List.length_drop, List.length_take, tl_len]; omega
  by_cases hsz : ByteArray.size (ByteArray.extract t 0 (min (ByteArray.size t) 40)) = 32
  · cases hm : mayB r s v
    · exact sgW_nov t ht hle r s hr hs v hsz hm
    · have h0 := hm
      unfold mayB inN at h0
      simp only [Bool.and_eq_true, Bool.or_eq_true, Bool.not_eq_true', decide_eq_true_iff, decide_eq_false_iff_not] at h0
      obtain ⟨⟨⟨h1, h2⟩, _⟩, hv⟩ := h0
      have hx : r < PR := Nat.lt_trans h2 nr_pr
      have hz : rs r 0 NR ≠ 0 := by rw [rs_zero, Nat.mod_eq_of_lt h2]; exact h1
      rcases hv with rfl | rfl
      · skip
        by_cases hq : fMul (fpw (Ec.sqN r) QR PR) (fpw (Ec.sqN r) QR PR) PR = rs (Ec.sqN r) 0 PR
        · obtain ⟨P, hP, hL⟩ := lift_pt0 hr hx hq
          have hB := both_pt_fn P hP (fMul s (finv r NR) NR) (fMul_lt nr_ok) Ec.G Ec.G_on (fMul (fSub 0 (rs (sv (tl (ByteArray.extract t 0 (min (ByteArray.size t) 40)))) 0 NR) NR) (finv r NR) NR) (fMul_lt nr_ok)
          have hS := Ec.add_on Ec.good.two (Ec.mulP_on Ec.good hP (fMul s (finv r NR) NR)) (Ec.mulP_on Ec.good Ec.G_on (fMul (fSub 0 (rs (sv (tl (ByteArray.extract t 0 (min (ByteArray.size t) 40)))) 0 NR) NR) (finv r NR) NR))
          generalize hR : (Ec.mulP P (fMul s (finv r NR) NR)).add (Ec.mulP Ec.G (fMul (fSub 0 (rs (sv (tl (ByteArray.extract t 0 (min (ByteArray.size t) 40)))) 0 NR) NR) (finv r NR) NR)) = R at hB hS
          cases R with
          | zero => exact sgW_z0 t ht hle r s hr hs hsz hm hz P hP 0 0 (by unfold big; omega) (by unfold big; omega) hL hB
          | pt x y => exact sgW_y0 t ht hle r s hr hs hsz hm hz P hP x.v y.v (Ec.ofPt_ok (.pt x y)).X (Ec.ofPt_ok (.pt x y)).Y hL hB (Ec.onB_pt hS)
        · exact sgW_lf0 t ht hle r s hr hs hsz hm (liftNo_fn r hr hx hq false)
      · skip
        by_cases hq : fMul (fpw (Ec.sqN r) QR PR) (fpw (Ec.sqN r) QR PR) PR = rs (Ec.sqN r) 0 PR
        · obtain ⟨P, hP, hL⟩ := lift_pt1 hr hx hq
          have hB := both_pt_fn P hP (fMul s (finv r NR) NR) (fMul_lt nr_ok) Ec.G Ec.G_on (fMul (fSub 0 (rs (sv (tl (ByteArray.extract t 0 (min (ByteArray.size t) 40)))) 0 NR) NR) (finv r NR) NR) (fMul_lt nr_ok)
          have hS := Ec.add_on Ec.good.two (Ec.mulP_on Ec.good hP (fMul s (finv r NR) NR)) (Ec.mulP_on Ec.good Ec.G_on (fMul (fSub 0 (rs (sv (tl (ByteArray.extract t 0 (min (ByteArray.size t) 40)))) 0 NR) NR) (finv r NR) NR))
          generalize hR : (Ec.mulP P (fMul s (finv r NR) NR)).add (Ec.mulP Ec.G (fMul (fSub 0 (rs (sv (tl (ByteArray.extract t 0 (min (ByteArray.size t) 40)))) 0 NR) NR) (finv r NR) NR)) = R at hB hS
          cases R with
          | zero => exact sgW_z1 t ht hle r s hr hs hsz hm hz P hP 0 0 (by unfold big; omega) (by unfold big; omega) hL hB
          | pt x y => exact sgW_y1 t ht hle r s hr hs hsz hm hz P hP x.v y.v (Ec.ofPt_ok (.pt x y)).X (Ec.ofPt_ok (.pt x y)).Y hL hB (Ec.onB_pt hS)
        · exact sgW_lf1 t ht hle r s hr hs hsz hm (liftNo_fn r hr hx hq true)
  · exact sgW_lenv t ht hle r s hr hs v hsz
end Go.Proofs.YtmmloghbnpfedaaDoor

namespace Go.Proofs.YtmmloghbnpfedaaDoor
open Go Go.ChangeShapes Go.WideShapes Go.ChangeAt Go.RowKit
set_option linter.unusedVariables false
set_option maxRecDepth 100000
theorem cells64 : Tryd.prog.cellsOf 22 = 1 := kr
theorem cellsU : Tryd.prog.cellsOf 24 = 4 := kr
theorem wd_of_wf {x : Int} (h : (Lit.int .u64 x).wf = true) : Wd x := by
  have hmin : IntKind.u64.min = 0 := rfl
  have hmax : IntKind.u64.max = 18446744073709551615 := rfl
  simp only [Lit.wf, Bool.and_eq_true, decide_eq_true_eq] at h
  unfold Wd; omega
theorem list9 {α : Type} (l : List α) (h : (⟨l⟩ : Array α).size = 9) : ∃ a b c d e f g i j, l = [a, b, c, d, e, f, g, i, j] := by
  match l, h with
  | [a, b, c, d, e, f, g, i, j], _ => exact ⟨a, b, c, d, e, f, g, i, j, rfl⟩
theorem four_words {H : Type} {enc : TypeId × Value → H} {W : World} {b0 : Nat} {sp : Nat → Bool} {held : Bool} {x : DataW H × List MemPlace} {fuel : Nat} {c0 c1 c2 c3 : Value}
    (hf : DataW.trod enc Tryd.prog W b0 sp held fuel 24 [c0, c1, c2, c3] = some x) : ∃ n : Nat, n < big ∧ c0 = .int .u64 (w0 n) ∧ c1 = .int .u64 (w1 n) ∧ c2 = .int .u64 (w2 n) ∧ c3 = .int .u64 (w3 n) := by
  obtain ⟨y0, y1, y2, y3, m, hx, hy0, hy1, hy2, hy3⟩ := trod_array4 Tryd.underlying24 cells64 hf
  obtain ⟨x0, e0, rfl, w0⟩ := DataW.trod_int Tryd.underlying22 hy0
  obtain ⟨x1, e1, rfl, w1⟩ := DataW.trod_int Tryd.underlying22 hy1
  obtain ⟨x2, e2, rfl, w2⟩ := DataW.trod_int Tryd.underlying22 hy2
  obtain ⟨x3, e3, rfl, w3⟩ := DataW.trod_int Tryd.underlying22 hy3
  simp at e0 e1 e2 e3
  subst e0 e1 e2 e3
  obtain ⟨n, hn, g0, g1, g2, g3⟩ := of_words (wd_of_wf w0) (wd_of_wf w1) (wd_of_wf w2) (wd_of_wf w3)
  exact ⟨n, hn, by rw [g0], by rw [g1], by rw [g2], by rw [g3]⟩
end Go.Proofs.YtmmloghbnpfedaaDoor

namespace Go.Proofs.YtmmloghbnpfedaaDoor
open Go Go.ChangeShapes Go.WideShapes Go.ChangeAt Go.RowKit Ke
set_option linter.unusedVariables false
set_option maxRecDepth 100000
def marksL : List Int := [1, 32898, 9223372036854808714, 9223372039002292224, 32907, 2147483649, 9223372039002292353, 9223372036854808585, 138, 136, 2147516425, 2147483658, 2147516555, 9223372036854775947, 9223372036854808713, 9223372036854808579, 9223372036854808578, 9223372036854775936, 32778, 9223372039002259466, 9223372039002292353, 9223372036854808704, 2147483649, 9223372039002292232]
theorem marksC_eq : marksC = (marksL.map (Value.int .u64)).toArray := kr
theorem gMarks : Tryd.prog.globalNamed "ecclesia/keccak.marks" = some 0 := kr
theorem marks_of_laid {W : World} (h : laidMetH Tryd.prog [("ecclesia/keccak.marks", Rows.laid_ecclesia_keccak_marks)] W) : Marks W := by
  rw [MakeChecks.laidMetH_plain _ _ _ kr] at h
  have t := Lib.tabIs_of_head (k := .u64) (zs := marksL) gMarks (show (Tryd.prog.globals[0]?).map (·.type) = some 109 by kernel_rfl) Tryd.underlying109 Tryd.underlying22 kr kr h
  unfold Lib.TabIs World.var? at t
  rw [gMarks] at t
  simp only [Option.bind_some] at t
  split at t
  · rename_i cs T fz hh
    exact ⟨T, fz, by rw [hh, marksC_eq]; exact congrArg (fun c => some (Obj.cells c T fz)) (Option.some.inj t)⟩
  · cases t
/-- A world that meets the condition: the settled one, the table laid. -/
noncomputable def laidWorld (os : Os) : World :=
  let w0 := World.holding Tryd.prog os ⟨#[], #[], []⟩
  { w0 with heap := w0.heap.modify 0 fun
      | .cells _ t frozen => .cells (marksL.map (Value.int .u64)).toArray t frozen
      | o => o }
theorem laidWorld_met (os : Os) (args : Array Value) : laidMetH Tryd.prog [("ecclesia/keccak.marks", Rows.laid_ecclesia_keccak_marks)] ((laidWorld os).forCall (fun _ _ => 0) ⟨#[], args, []⟩).memory := by
  rw [MakeChecks.laidMetH_plain _ _ _ kr]
  exact laidMet_of_run' 8 kr kr
theorem cellsSig : Tryd.prog.cellsOf 40 = 9 := kr
theorem cellsInt : Tryd.prog.cellsOf 3 = 1 := kr
theorem openSig {H : Type} {enc : TypeId × Value → H} {W : World} {base b0 : Nat} {v : Value} {sp : Nat → Bool} {held : Bool} {d : DataW H} {p : List MemPlace}
    (hv : Value.okWide Tryd.prog W .any base 40 v) (h : DataW.Trod enc Tryd.prog W b0 sp held 40 v d p) : ∃ (r s : Nat) (z : Int), r < big ∧ s < big ∧ (Lit.int .i64 z).wf = true ∧ v = sgv r s z := by
  obtain ⟨cs, rfl, hsz, _⟩ : ∃ cs, v = .agg cs ∧ cs.size = Tryd.prog.cellsOf 40 ∧ Row.okWide Tryd.prog W .any base 40 cs := by
    simpa [Value.okWide, Tryd.underlying40] using hv
  rw [cellsSig] at hsz
  obtain ⟨l⟩ := cs
  obtain ⟨c0, c1, c2, c3, c4, c5, c6, c7, c8, rfl⟩ := list9 l hsz
  obtain ⟨fuel, hf⟩ := h
  obtain ⟨y0, y1, y2, m, hx, hl, hy0, hy1, hy2⟩ := Go.Deep.trod_struct3 Tryd.underlying40 hf
  rw [cellsU] at hy0 hy1
  rw [cellsInt] at hy2
  obtain ⟨n, hn, a0, a1, a2, a3⟩ := four_words (show DataW.trod enc Tryd.prog W b0 sp held m 24 [c0, c1, c2, c3] = some y0 from hy0)
  obtain ⟨k, hk, b0', b1, b2, b3⟩ := four_words (show DataW.trod enc Tryd.prog W b0 sp held m 24 [c4, c5, c6, c7] = some y1 from hy1)
  obtain ⟨z, hz, _, hw⟩ := DataW.trod_int Tryd.underlying3 (show DataW.trod enc Tryd.prog W b0 sp held m 3 [c8] = some y2 from hy2)
  have hz : c8 = .int .i64 z := by simpa using hz
  exact ⟨n, k, z, hn, hk, hw, by rw [a0, a1, a2, a3, b0', b1, b2, b3, hz]; rfl⟩
end Go.Proofs.YtmmloghbnpfedaaDoor
