/-
  Texts of the proof, part 4.
-/
import Derived.Laws.StructEq
import Derived.ChangeKeysEq
import Derived.Laws.BitsLemmas
import Derived.Laws.BitsAllLaws
import Derived.Laws.BytesArg
import Derived.Below
import Derived.Test.YtmmloghbnpfedaaDoorProg
import Derived.Test.YtmmloghbnpfedaaDoorSW2
import Derived.Test.YtmmloghbnpfedaaDoorSW3

namespace Go.Proofs.YtmmloghbnpfedaaDoor
open Go Go.RowKit
set_option linter.unusedVariables false
set_option maxRecDepth 100000 in
set_option maxHeartbeats 2000000 in
theorem left_fn (x y : List Nat) (ba nx ca bb ny cb : Nat) (curA curB : Array Value) (hnx : nx = List.length x) (hny : ny = List.length y) (hA : Rw 1 curA ca nx (cellsD x)) (hB : Rw 1 curB cb ny (cellsD y)) (hx : Ok x) (hy : Ok y) (lx : List.length x ≤ 2000) (ly : List.length y ≤ 2000) (hM : 0 < vl y) (hy1 : 1 ≤ List.length y) : FnR Tryd.prog 88 #[.slice (some ⟨ba, 0, none⟩) nx ca, .slice (some ⟨bb, 0, none⟩) ny cb] (fun w => w.heap[ba]? = some (.cells curA 3 (0, 0)) ∧ w.heap[bb]? = some (.cells curB 3 (0, 0))) (RetS 3 1 (fun cur cap n l => (n = List.length l ∧ Rw 1 cur cap n (cellsD l) ∧ Ok l ∧ (vl l = vl x % vl y ∧ 1 ≤ List.length l ∧ List.length l ≤ List.length y)))) := by
  subst hnx hny
  refine FnR.intro (c := codeOf Tryd.f88) [.tmp 4] 58 Tryd.func88 kr kr kr fun w hpre => ?_
  have H0 := St.start w
  refine rS [.v] H0 kr fun gs1 w1 H1 => ?_
  clear H0
  refine rS [.nw (fun b => .slice (some ⟨b, 0, none⟩) 1 1) #[.int .i64 0] 3, .v] H1 kr fun gs2 w2 H2 => ?_
  clear H1
  refine g_seq kr ?_
  refine rS [.v, .v, .e (v := .int .i64 (IntKind.i64.wrap (16 * ((List.length x : Nat) : Int)))) (v' := .int .i64 ((16 * (List.length x) : Nat) : Int)) (int_eq (wrapMul_i64 (a := 16) (b := List.length x) (by omega))), .e (v := .int .i64 (IntKind.i64.wrap (((16 * (List.length x) : Nat) : Int) - 1))) (v' := .int .i64 (((16 * (List.length x) : Nat) : Int) - 1)) (int_eq (wrap_i64 (by omega) (by omega))), .v] H2 kr fun gs3 w3 H3 => ?_
  clear H2
  refine g_block 0 kr ?_
  have HL1 : St w.heap.size w w3 [((gs2 0).b, Obj.cells #[.int .i64 0] 3 (0, 0))] := H3.as kr
  clear H3
  have hv0 : vl [0] = vl x / 2 ^ (16 * List.length x) % vl y := by rw [Nat.div_eq_of_lt (by have := vl_lt hx; rw [show (65536 : Nat) = 2 ^ 16 from rfl, ← Nat.pow_mul] at this; exact this), Nat.zero_mod]; rfl
  refine g_loop kr (fun mz ρ ww => ∃ (b : Nat) (cap : Nat) (n : Nat) (cur : Array Value) (l : List Nat) (j : Nat), j = mz ∧ (n = List.length l) ∧ (Rw 1 cur cap n (cellsD l)) ∧ (Ok l) ∧ (vl l = vl x / 2 ^ j % vl y) ∧ (1 ≤ n) ∧ (n ≤ List.length y) ∧ (j ≤ 16 * List.length x) ∧ St w.heap.size w ww [(b, Obj.cells cur 3 (0, 0))] ∧ Is [(0, .slice (some ⟨ba, 0, none⟩) (List.length x) ca), (1, .slice (some ⟨bb, 0, none⟩) (List.length y) cb), (4, .slice none 0 0), (5, .slice (some ⟨b, 0, none⟩) n cap), (6, .int .i64 (((j : Nat) : Int) - 1))] ρ) (16 * List.length x) ⟨(gs2 0).b, 1, 1, #[.int .i64 0], [0], (16 * List.length x), rfl, rfl, (Rw.lit #[.int .i64 0] 1 rfl (by unfold maxLen; omega)), (by intro d hd; simp at hd; omega), hv0, (by omega), hy1, (by omega), HL1, (Is.of ⟨kr, kr, kr, kr, kr, trivial⟩)⟩ ?_
  clear HL1
  rintro _ _ w4 ⟨b, cap, n, cur, l, j, rfl, hn, hr, ho, hv, h1, h2, hj, H4, _, rfl⟩
  refine g_seq kr ?_
  refine g_sreg [0, 1] kr kr ?_
  refine rp [.v] H4 kr fun gs5 w5 H5 => ?_
  show WPs _ _ _ _ [1] _ _
  clear H4
  by_cases hc2 : (((j : Nat) : Int) - 1 : Int) ≥ 0
  · skip
    refine rp [.e (v := .bool (decide (0 ≤ ((j : Nat) : Int) - 1))) (v' := .bool true) (bool_eq (decide_eq_true (by omega)))] H5 kr fun gs6 w6 H6 => ?_
    show WPs _ _ _ _ [] _ _
    clear H5
    refine s_nil ?_
    refine g_cond_t kr kr ?_
    refine g_skip kr ?_
    show WP _ _ _ _ _ _
    refine g_seq kr ?_
    refine g_block 1 kr ?_
    refine g_now 6 (v := .int .i64 (((j : Nat) : Int) - 1)) (v' := .int .i64 ((j - 1 : Nat) : Int)) (int_eq (show (((j : Nat) : Int) - 1) = ((j - 1 : Nat) : Int) from by omega)) kr ?_
    refine g_now 12 (v := .int .i64 (((j : Nat) : Int) - 1)) (v' := .int .i64 ((j - 1 : Nat) : Int)) (int_eq (show (((j : Nat) : Int) - 1) = ((j - 1 : Nat) : Int) from by omega)) kr ?_
    have h01 : List.length [1] = 1 := rfl; have hv01 : vl [1] = 1 := rfl
    have hbit := bit_digit hx (j - 1)
    have hst := left_step (N := vl x) (M := vl y) (v := vl l) (j := j - 1) hM (by rw [show j - 1 + 1 = j by omega]; exact hv)
    have hdx := ok_getD hx ((j - 1) / 16); have hdv : List.getD x ((j - 1) / 16) 0 / 2 ^ ((j - 1) % 16) ≤ List.getD x ((j - 1) / 16) 0 := Nat.div_le_self _ _
    refine g_sreg [0, 1, 2, 3] kr kr ?_
    refine rp [.v, .v] H6 kr fun gs7 w7 H7 => ?_
    show WPs _ _ _ _ [2, 3] _ _
    clear H6
    refine s_callS H7 (some 18) 59 #[.slice (some ⟨b, 0, none⟩) n cap, .slice (some ⟨b, 0, none⟩) n cap] (fun w => w.heap[b]? = some (.cells cur 3 (0, 0)) ∧ w.heap[b]? = some (.cells cur 3 (0, 0))) 3 1 (fun curZ capZ nZ lZ => (nZ = List.length lZ ∧ Rw 1 curZ capZ nZ (cellsD lZ) ∧ Ok lZ ∧ (vl lZ = vl l + vl l ∧ List.length lZ ≤ max (List.length l) (List.length l) + 1 ∧ max (List.length l) (List.length l) ≤ List.length lZ))) (sum_fn l l b n cap b n cap cur cur hn hn hr hr ho ho (by omega) (by omega)) (⟨(H7.get 0 kr), (H7.get 0 kr)⟩) kr kr ?_
    intro b_1 cap_2 n_3 cur_4 l_5 w8 H8 hs_6; clear H7
    obtain ⟨hs_6n, hs_6r, hs_6o, hs_6s⟩ := hs_6
    refine rp [.v] H8 kr fun gs9 w9 H9 => ?_
    show WPs _ _ _ _ [] _ _
    clear H8
    refine s_nil ?_
    refine g_seq kr ?_
    refine g_sreg [0, 1, 2, 3, 4, 5, 6, 7, 8, 9, 10] kr kr ?_
    refine rp [.v, .v, .e (v := .int .i64 (IntKind.i64.wrap (((j - 1 : Nat) : Int).tdiv 16))) (v' := .int .i64 (((j - 1) / 16 : Nat) : Int)) (int_eq (quoN_i64 (a := j - 1) (b := 16) (by omega))), .o (ins := [((.tmp 19), .slice (some ⟨ba, 0, none⟩) (List.length x) ca), ((.tmp 21), .int .i64 (((j - 1) / 16 : Nat) : Int))]) (v := .pointer (some ⟨ba, 0 + ((j - 1) / 16) * 1, none⟩)) (fun ρ o w ho hi => idxS_run (kd := .i64) (t := 60) (e := 3) (size := 1) (bytes := 8) kr (x := (.tmp 19)) (y := (.tmp 21)) ba 0 (List.length x) ca ((j - 1) / 16) ho hi.1 hi.2.1 (by omega) w), .fs (off := 0 + ((j - 1) / 16) * 1) (v := .int .i64 ((List.getD x ((j - 1) / 16) 0 : Nat) : Int)) hpre.1 (lt_of_heap hpre.1) (hA.atD (by omega) rfl), .v, .e (v := .int .i64 (Int.tmod ((j - 1 : Nat) : Int) 16)) (v' := .int .i64 (((j - 1) % 16 : Nat) : Int)) (int_eq (remN (j - 1) 16)), .e (v := .int .u64 (IntKind.u64.wrap ((((j - 1) % 16 : Nat) : Int)))) (v' := .int .u64 (((j - 1) % 16 : Nat) : Int)) (int_eq (wrapN_u64 (a := (j - 1) % 16) (by omega))), .e (v := .int .i64 (Int.fdiv ((List.getD x ((j - 1) / 16) 0 : Nat) : Int) (2 ^ (min ((j - 1) % 16) 64)))) (v' := .int .i64 (((List.getD x ((j - 1) / 16) 0) / 2 ^ ((j - 1) % 16) : Nat) : Int)) (int_eq (shr_min (List.getD x ((j - 1) / 16) 0) ((j - 1) % 16) 64 (by omega))), .e (v := .int .i64 (Int.tmod (((List.getD x ((j - 1) / 16) 0) / 2 ^ ((j - 1) % 16) : Nat) : Int) 2)) (v' := .int .i64 ((((List.getD x ((j - 1) / 16) 0) / 2 ^ ((j - 1) % 16)) % 2 : Nat) : Int)) (int_eq (remN ((List.getD x ((j - 1) / 16) 0) / 2 ^ ((j - 1) % 16)) 2))] H9 kr fun gs10 w10 H10 => ?_
    show WPs _ _ _ _ [10] _ _
    clear H9
    by_cases hc3 : (((List.getD x ((j - 1) / 16) 0) / 2 ^ ((j - 1) % 16)) % 2 : Nat) = 1
    · skip
      refine rp [.e (v := .bool (((((List.getD x ((j - 1) / 16) 0) / 2 ^ ((j - 1) % 16)) % 2 : Nat) : Int) == 1)) (v' := .bool true) (bool_eq (beq_iff_eq.2 (by omega)))] H10 kr fun gs11 w11 H11 => ?_
      show WPs _ _ _ _ [] _ _
      clear H10
      refine s_nil ?_
      refine g_keep [0, 1, 4, 5, 6, 13, 29] fun ρ1 => ?_
      have HK4 := H11.keep
      clear H11
      refine g_cond_t kr kr ?_
      refine g_reg0 [0, 1, 2, 3] kr ?_
      refine rp [.v, .nw (fun b => .slice (some ⟨b, 0, none⟩) 1 1) #[.int .i64 1] 3] HK4 kr fun gs12 w12 H12 => ?_
      show WPs _ _ _ _ [2, 3] _ _
      clear HK4
      refine s_callS H12 (some 32) 59 #[.slice (some ⟨b_1, 0, none⟩) n_3 cap_2, .slice (some ⟨(gs12 1).b, 0, none⟩) 1 1] (fun w => w.heap[b_1]? = some (.cells cur_4 3 (0, 0)) ∧ w.heap[(gs12 1).b]? = some (.cells #[.int .i64 1] 3 (0, 0))) 3 1 (fun curZ capZ nZ lZ => (nZ = List.length lZ ∧ Rw 1 curZ capZ nZ (cellsD lZ) ∧ Ok lZ ∧ (vl lZ = vl l_5 + vl ([1]) ∧ List.length lZ ≤ max (List.length l_5) (List.length ([1])) + 1 ∧ max (List.length l_5) (List.length ([1])) ≤ List.length lZ))) (sum_fn l_5 ([1]) b_1 n_3 cap_2 ((gs12 1).b) 1 1 cur_4 #[.int .i64 1] hs_6n rfl hs_6r (Rw.lit #[.int .i64 1] 1 (by rfl) (by unfold maxLen; omega)) hs_6o (by intro d hd; simp at hd; omega) (by omega) (by simp)) (⟨(H12.get 0 kr), (H12.get 2 kr)⟩) kr kr ?_
      intro b_7 cap_8 n_9 cur_10 l_11 w13 H13 hs_12; clear H12
      obtain ⟨hs_12n, hs_12r, hs_12o, hs_12s⟩ := hs_12
      refine rp [.v] H13 kr fun gs14 w14 H14 => ?_
      show WPs _ _ _ _ [] _ _
      clear H13
      refine s_nil ?_
      show WP _ _ _ _ _ _
      refine g_seq kr ?_
      refine g_sreg [0, 1, 2, 3] kr kr ?_
      refine rp [.v, .v, .cp (pre := fun w => w.heap[b_7]? = some (.cells cur_10 3 (0, 0)) ∧ w.heap[bb]? = some (.cells curB 3 (0, 0))) (less_fn l_11 y b_7 n_9 cap_8 bb (List.length y) cb cur_10 curB hs_12n rfl hs_12r hB hs_12o hy (by omega) (by omega)) [(0, (b_7, Obj.cells cur_10 3 (0, 0)))] (fun w hb hd => ⟨hd.1, ((hb.block _ (lt_of_heap hpre.2)).trans hpre.2)⟩)] H14 kr fun gs15 w15 H15 => ?_
      show WPs _ _ _ _ [3] _ _
      clear H14
      rcases (Bool.eq_false_or_eq_true (ls l_11 y)).symm with hls | hls
      · skip
        refine s_now 35 (v := .bool (ls l_11 y)) (v' := .bool false) (bool_eq hls) kr ?_
        have hls2 := of_decide_eq_false hls
        refine rp [.v] H15 kr fun gs16 w16 H16 => ?_
        show WPs _ _ _ _ [] _ _
        clear H15
        refine s_nil ?_
        refine g_cond_t kr kr ?_
        refine g_reg0 [0, 1, 2, 3] kr ?_
        refine rp [.v, .v] H16 kr fun gs17 w17 H17 => ?_
        show WPs _ _ _ _ [2, 3] _ _
        clear H16
        refine s_callS H17 (some 39) 60 #[.slice (some ⟨b_7, 0, none⟩) n_9 cap_8, .slice (some ⟨bb, 0, none⟩) (List.length y) cb] (fun w => w.heap[b_7]? = some (.cells cur_10 3 (0, 0)) ∧ w.heap[bb]? = some (.cells curB 3 (0, 0))) 3 1 (fun curZ capZ nZ lZ => (nZ = List.length lZ ∧ Rw 1 curZ capZ nZ (cellsD lZ) ∧ Ok lZ ∧ (vl lZ = vl l_11 - vl y ∧ List.length lZ = List.length l_11))) (take_fn l_11 y b_7 n_9 cap_8 bb (List.length y) cb cur_10 curB hs_12n rfl hs_12r hB hs_12o hy (by omega) (by omega) (by omega)) (⟨(H17.get 0 kr), (H17.old hpre.2 (lt_of_heap hpre.2))⟩) kr kr ?_
        intro b_13 cap_14 n_15 cur_16 l_17 w18 H18 hs_18; clear H17
        obtain ⟨hs_18n, hs_18r, hs_18o, hs_18s⟩ := hs_18
        refine rp [.v] H18 kr fun gs19 w19 H19 => ?_
        show WPs _ _ _ _ [] _ _
        clear H18
        refine s_nil ?_
        show WP _ _ _ _ _ _
        refine g_block 2 kr ?_
        have HL5 : St w.heap.size w w19 [(b_13, Obj.cells cur_16 3 (0, 0)), (b_7, Obj.cells cur_10 3 (0, 0)), (b_1, Obj.cells cur_4 3 (0, 0)), (b, Obj.cells cur 3 (0, 0)), ((gs12 1).b, Obj.cells #[.int .i64 1] 3 (0, 0))] := H19.as kr
        clear H19
        have HD6 : St w.heap.size w w19 [(b_13, Obj.cells cur_16 3 (0, 0))] := HL5.sub (List.Sublist.cons_cons _ (List.Sublist.cons _ (List.Sublist.cons _ (List.Sublist.cons _ (List.Sublist.cons _ List.Sublist.slnil)))))
        refine g_loop kr (fun mz ρ ww => ∃ (b2 : Nat) (cap2 : Nat) (n2 : Nat) (cur2 : Array Value) (l2 : List Nat), n2 = mz ∧ (n2 = List.length l2) ∧ (Rw 1 cur2 cap2 n2 (cellsD l2)) ∧ (Ok l2) ∧ (vl l2 = vl x / 2 ^ (j - 1) % vl y) ∧ (1 ≤ n2) ∧ (n2 ≤ 6000) ∧ St w.heap.size w ww [(b2, Obj.cells cur2 3 (0, 0))] ∧ Is [(0, .slice (some ⟨ba, 0, none⟩) (List.length x) ca), (1, .slice (some ⟨bb, 0, none⟩) (List.length y) cb), (4, .slice none 0 0), (5, .slice (some ⟨b2, 0, none⟩) n2 cap2), (6, .int .i64 ((j - 1 : Nat) : Int)), (13, .bool true), (29, .bool true), (36, .bool true)] ρ) n_15 ⟨b_13, cap_14, n_15, cur_16, l_17, rfl, hs_18n, hs_18r, hs_18o, (by omega), (by omega), (by omega), HD6, (Is.of ⟨kr, kr, kr, kr, kr, kr, kr, kr, trivial⟩)⟩ ?_
        clear HD6
        rintro _ _ w20 ⟨b2, cap2, n2, cur2, l2, rfl, hn2, hr2, ho2, hV, h12, h22, H20, _, rfl⟩
        refine g_seq kr ?_
        refine g_sreg [0, 1, 2, 3, 4, 5, 6, 7, 8, 9, 10, 11] kr kr ?_
        refine rp [.v, .v] H20 kr fun gs21 w21 H21 => ?_
        show WPs _ _ _ _ [2, 3, 4, 5, 6, 7, 8, 9, 10, 11] _ _
        clear H20
        by_cases hc7 : (n2 : Nat) > 1
        · skip
          refine rp [.e (v := .bool (decide (1 < ((n2 : Nat) : Int)))) (v' := .bool true) (bool_eq (decide_eq_true (by omega))), .v, .v, .v, .v, .e (v := .int .i64 (IntKind.i64.wrap (((n2 : Nat) : Int) - 1))) (v' := .int .i64 ((n2 - 1 : Nat) : Int)) (int_eq (wrapSub_i64 (a := n2) (b := 1) (by omega))), .o (ins := [((.tmp 44), .slice (some ⟨b2, 0, none⟩) n2 cap2), ((.tmp 47), .int .i64 ((n2 - 1 : Nat) : Int))]) (v := .pointer (some ⟨b2, 0 + (n2 - 1) * 1, none⟩)) (fun ρ o w ho hi => idxS_run (kd := .i64) (t := 60) (e := 3) (size := 1) (bytes := 8) kr (x := (.tmp 44)) (y := (.tmp 47)) b2 0 n2 cap2 (n2 - 1) ho hi.1 hi.2.1 (by omega) w), .ls (C := cur2) (off := 0 + (n2 - 1) * 1) (v := .int .i64 ((List.getD l2 (n2 - 1) 0 : Nat) : Int)) 0 (hr2.atD (by omega) hn2)] H21 kr fun gs22 w22 H22 => ?_
          show WPs _ _ _ _ [10, 11] _ _
          clear H21
          by_cases hc8 : (List.getD l2 (n2 - 1) 0 : Nat) = 0
          · skip
            refine rp [.e (v := .bool (((List.getD l2 (n2 - 1) 0 : Nat) : Int) == 0)) (v' := .bool true) (bool_eq (beq_iff_eq.2 (by omega))), .v] H22 kr fun gs23 w23 H23 => ?_
            show WPs _ _ _ _ [] _ _
            clear H22
            refine s_nil ?_
            refine g_keep [0, 1, 4, 5, 6, 13, 29, 36, 51] fun ρ2 => ?_
            have HK9 := H23.keep
            clear H23
            refine g_cond_t kr kr ?_
            refine g_skip kr ?_
            show WP _ _ _ _ _ _
            refine g_block 3 kr ?_
            refine rL [.v, .v, .v, .e (v := .int .i64 (IntKind.i64.wrap (((n2 : Nat) : Int) - 1))) (v' := .int .i64 ((n2 - 1 : Nat) : Int)) (int_eq (wrapSub_i64 (a := n2) (b := 1) (by omega))), .o (ins := [((.tmp 52), .slice (some ⟨b2, 0, none⟩) n2 cap2), ((.tmp 55), .int .i64 ((n2 - 1 : Nat) : Int))]) (v := .slice (some ⟨b2, 0, none⟩) (n2 - 1) cap2) (fun ρ o w ho hi => cut_run (kd := .i64) (t := 60) (e := 3) (size := 1) (bytes := 8) kr (x := (.tmp 52)) (y := (.tmp 55)) b2 n2 cap2 (n2 - 1) ho hi.1 hi.2.1 (Nat.le_trans (by omega) hr2.le) w), .v] HK9 kr fun gs24 w24 H24 => ?_
            clear HK9
            have HL10 : St w.heap.size w w24 [(b2, Obj.cells cur2 3 (0, 0))] := H24.as kr
            clear H24
            show ∃ m, _ ∧ _
            exact ⟨_, (by omega), b2, cap2, (n2 - 1), cur2, (List.take (n2 - 1) l2), rfl, (by rw [List.length_take]; omega), (by have h := hr2.cut (n2 - 1) (by omega); rw [Nat.mul_one] at h; unfold cellsD at h ⊢; rw [cellsD_take] at h; exact h), (ok_take ho2 _), (by subst hn2; rw [vl_dropLast (by omega) (by omega)]; exact hV), (by omega), (by omega), HL10, (Is.of ⟨kr, kr, kr, kr, kr, kr, kr, kr, trivial⟩)⟩
          · skip
            refine rp [.e (v := .bool (((List.getD l2 (n2 - 1) 0 : Nat) : Int) == 0)) (v' := .bool false) (bool_eq (beq_eq_false_iff_ne.2 (by omega))), .v] H22 kr fun gs25 w25 H25 => ?_
            show WPs _ _ _ _ [] _ _
            clear H22
            refine s_nil ?_
            refine g_keep [0, 1, 4, 5, 6, 13, 29, 36, 51] fun ρ3 => ?_
            have HK11 := H25.keep
            clear H25
            refine g_cond_f kr kr ?_
            refine g_exit 2 kr ?_
            show WP _ _ _ _ _ _
            have hfin : n2 ≤ List.length y := by
                          rcases Nat.lt_or_ge 1 n2 with h | h
                          · subst hn2; exact vl_len hy h (by omega) (by rw [hV]; exact Nat.mod_lt _ hM)
                          · omega
            refine rL [.v, .e (v := .int .i64 (IntKind.i64.wrap (((j - 1 : Nat) : Int) - 1))) (v' := .int .i64 (((j - 1 : Nat) : Int) - 1)) (int_eq (wrap_i64 (by omega) (by omega))), .v] HK11 kr fun gs26 w26 H26 => ?_
            clear HK11
            have HL12 : St w.heap.size w w26 [(b2, Obj.cells cur2 3 (0, 0))] := H26.as kr
            clear H26
            show ∃ m, _ ∧ _
            exact ⟨_, (by omega), b2, cap2, n2, cur2, l2, (j - 1), rfl, hn2, hr2, ho2, hV, (by omega), hfin, (by omega), HL12, (Is.of ⟨kr, kr, kr, kr, kr, trivial⟩)⟩
        · skip
          refine rp [.e (v := .bool (decide (1 < ((n2 : Nat) : Int)))) (v' := .bool false) (bool_eq (decide_eq_false (by omega))), .v, .n, .n, .n, .n, .n, .n, .n, .v] H21 kr fun gs27 w27 H27 => ?_
          show WPs _ _ _ _ [] _ _
          clear H21
          refine s_nil ?_
          refine g_keep [0, 1, 4, 5, 6, 13, 29, 36, 51] fun ρ4 => ?_
          have HK13 := H27.keep
          clear H27
          refine g_cond_f kr kr ?_
          refine g_exit 2 kr ?_
          show WP _ _ _ _ _ _
          have hfin : n2 ≤ List.length y := by
                      rcases Nat.lt_or_ge 1 n2 with h | h
                      · subst hn2; exact vl_len hy h (by omega) (by rw [hV]; exact Nat.mod_lt _ hM)
                      · omega
          refine rL [.v, .e (v := .int .i64 (IntKind.i64.wrap (((j - 1 : Nat) : Int) - 1))) (v' := .int .i64 (((j - 1 : Nat) : Int) - 1)) (int_eq (wrap_i64 (by omega) (by omega))), .v] HK13 kr fun gs28 w28 H28 => ?_
          clear HK13
          have HL14 : St w.heap.size w w28 [(b2, Obj.cells cur2 3 (0, 0))] := H28.as kr
          clear H28
          show ∃ m, _ ∧ _
          exact ⟨_, (by omega), b2, cap2, n2, cur2, l2, (j - 1), rfl, hn2, hr2, ho2, hV, (by omega), hfin, (by omega), HL14, (Is.of ⟨kr, kr, kr, kr, kr, trivial⟩)⟩
      · skip
        refine s_now 35 (v := .bool (ls l_11 y)) (v' := .bool true) (bool_eq hls) kr ?_
        have hls2 := of_decide_eq_true hls
        refine rp [.v] H15 kr fun gs29 w29 H29 => ?_
        show WPs _ _ _ _ [] _ _
        clear H15
        refine s_nil ?_
        refine g_cond_f kr kr ?_
        refine g_skip kr ?_
        show WP _ _ _ _ _ _
        refine g_block 2 kr ?_
        have HL15 : St w.heap.size w w29 [(b_7, Obj.cells cur_10 3 (0, 0)), (b_1, Obj.cells cur_4 3 (0, 0)), (b, Obj.cells cur 3 (0, 0)), ((gs12 1).b, Obj.cells #[.int .i64 1] 3 (0, 0))] := H29.as kr
        clear H29
        have HD16 : St w.heap.size w w29 [(b_7, Obj.cells cur_10 3 (0, 0))] := HL15.sub (List.Sublist.cons_cons _ (List.Sublist.cons _ (List.Sublist.cons _ (List.Sublist.cons _ List.Sublist.slnil))))
        refine g_loop kr (fun mz ρ ww => ∃ (b2 : Nat) (cap2 : Nat) (n2 : Nat) (cur2 : Array Value) (l2 : List Nat), n2 = mz ∧ (n2 = List.length l2) ∧ (Rw 1 cur2 cap2 n2 (cellsD l2)) ∧ (Ok l2) ∧ (vl l2 = vl x / 2 ^ (j - 1) % vl y) ∧ (1 ≤ n2) ∧ (n2 ≤ 6000) ∧ St w.heap.size w ww [(b2, Obj.cells cur2 3 (0, 0))] ∧ Is [(0, .slice (some ⟨ba, 0, none⟩) (List.length x) ca), (1, .slice (some ⟨bb, 0, none⟩) (List.length y) cb), (4, .slice none 0 0), (5, .slice (some ⟨b2, 0, none⟩) n2 cap2), (6, .int .i64 ((j - 1 : Nat) : Int)), (13, .bool true), (29, .bool true), (36, .bool false)] ρ) n_9 ⟨b_7, cap_8, n_9, cur_10, l_11, rfl, hs_12n, hs_12r, hs_12o, (by omega), (by omega), (by omega), HD16, (Is.of ⟨kr, kr, kr, kr, kr, kr, kr, kr, trivial⟩)⟩ ?_
        clear HD16
        rintro _ _ w30 ⟨b2, cap2, n2, cur2, l2, rfl, hn2, hr2, ho2, hV, h12, h22, H30, _, rfl⟩
        refine g_seq kr ?_
        refine g_sreg [0, 1, 2, 3, 4, 5, 6, 7, 8, 9, 10, 11] kr kr ?_
        refine rp [.v, .v] H30 kr fun gs31 w31 H31 => ?_
        show WPs _ _ _ _ [2, 3, 4, 5, 6, 7, 8, 9, 10, 11] _ _
        clear H30
        by_cases hc17 : (n2 : Nat) > 1
        · skip
          refine rp [.e (v := .bool (decide (1 < ((n2 : Nat) : Int)))) (v' := .bool true) (bool_eq (decide_eq_true (by omega))), .v, .v, .v, .v, .e (v := .int .i64 (IntKind.i64.wrap (((n2 : Nat) : Int) - 1))) (v' := .int .i64 ((n2 - 1 : Nat) : Int)) (int_eq (wrapSub_i64 (a := n2) (b := 1) (by omega))), .o (ins := [((.tmp 44), .slice (some ⟨b2, 0, none⟩) n2 cap2), ((.tmp 47), .int .i64 ((n2 - 1 : Nat) : Int))]) (v := .pointer (some ⟨b2, 0 + (n2 - 1) * 1, none⟩)) (fun ρ o w ho hi => idxS_run (kd := .i64) (t := 60) (e := 3) (size := 1) (bytes := 8) kr (x := (.tmp 44)) (y := (.tmp 47)) b2 0 n2 cap2 (n2 - 1) ho hi.1 hi.2.1 (by omega) w), .ls (C := cur2) (off := 0 + (n2 - 1) * 1) (v := .int .i64 ((List.getD l2 (n2 - 1) 0 : Nat) : Int)) 0 (hr2.atD (by omega) hn2)] H31 kr fun gs32 w32 H32 => ?_
          show WPs _ _ _ _ [10, 11] _ _
          clear H31
          by_cases hc18 : (List.getD l2 (n2 - 1) 0 : Nat) = 0
          · skip
            refine rp [.e (v := .bool (((List.getD l2 (n2 - 1) 0 : Nat) : Int) == 0)) (v' := .bool true) (bool_eq (beq_iff_eq.2 (by omega))), .v] H32 kr fun gs33 w33 H33 => ?_
            show WPs _ _ _ _ [] _ _
            clear H32
            refine s_nil ?_
            refine g_keep [0, 1, 4, 5, 6, 13, 29, 36, 51] fun ρ5 => ?_
            have HK19 := H33.keep
            clear H33
            refine g_cond_t kr kr ?_
            refine g_skip kr ?_
            show WP _ _ _ _ _ _
            refine g_block 3 kr ?_
            refine rL [.v, .v, .v, .e (v := .int .i64 (IntKind.i64.wrap (((n2 : Nat) : Int) - 1))) (v' := .int .i64 ((n2 - 1 : Nat) : Int)) (int_eq (wrapSub_i64 (a := n2) (b := 1) (by omega))), .o (ins := [((.tmp 52), .slice (some ⟨b2, 0, none⟩) n2 cap2), ((.tmp 55), .int .i64 ((n2 - 1 : Nat) : Int))]) (v := .slice (some ⟨b2, 0, none⟩) (n2 - 1) cap2) (fun ρ o w ho hi => cut_run (kd := .i64) (t := 60) (e := 3) (size := 1) (bytes := 8) kr (x := (.tmp 52)) (y := (.tmp 55)) b2 n2 cap2 (n2 - 1) ho hi.1 hi.2.1 (Nat.le_trans (by omega) hr2.le) w), .v] HK19 kr fun gs34 w34 H34 => ?_
            clear HK19
            have HL20 : St w.heap.size w w34 [(b2, Obj.cells cur2 3 (0, 0))] := H34.as kr
            clear H34
            show ∃ m, _ ∧ _
            exact ⟨_, (by omega), b2, cap2, (n2 - 1), cur2, (List.take (n2 - 1) l2), rfl, (by rw [List.length_take]; omega), (by have h := hr2.cut (n2 - 1) (by omega); rw [Nat.mul_one] at h; unfold cellsD at h ⊢; rw [cellsD_take] at h; exact h), (ok_take ho2 _), (by subst hn2; rw [vl_dropLast (by omega) (by omega)]; exact hV), (by omega), (by omega), HL20, (Is.of ⟨kr, kr, kr, kr, kr, kr, kr, kr, trivial⟩)⟩
          · skip
            refine rp [.e (v := .bool (((List.getD l2 (n2 - 1) 0 : Nat) : Int) == 0)) (v' := .bool false) (bool_eq (beq_eq_false_iff_ne.2 (by omega))), .v] H32 kr fun gs35 w35 H35 => ?_
            show WPs _ _ _ _ [] _ _
            clear H32
            refine s_nil ?_
            refine g_keep [0, 1, 4, 5, 6, 13, 29, 36, 51] fun ρ6 => ?_
            have HK21 := H35.keep
            clear H35
            refine g_cond_f kr kr ?_
            refine g_exit 2 kr ?_
            show WP _ _ _ _ _ _
            have hfin : n2 ≤ List.length y := by
                          rcases Nat.lt_or_ge 1 n2 with h | h
                          · subst hn2; exact vl_len hy h (by omega) (by rw [hV]; exact Nat.mod_lt _ hM)
                          · omega
            refine rL [.v, .e (v := .int .i64 (IntKind.i64.wrap (((j - 1 : Nat) : Int) - 1))) (v' := .int .i64 (((j - 1 : Nat) : Int) - 1)) (int_eq (wrap_i64 (by omega) (by omega))), .v] HK21 kr fun gs36 w36 H36 => ?_
            clear HK21
            have HL22 : St w.heap.size w w36 [(b2, Obj.cells cur2 3 (0, 0))] := H36.as kr
            clear H36
            show ∃ m, _ ∧ _
            exact ⟨_, (by omega), b2, cap2, n2, cur2, l2, (j - 1), rfl, hn2, hr2, ho2, hV, (by omega), hfin, (by omega), HL22, (Is.of ⟨kr, kr, kr, kr, kr, trivial⟩)⟩
        · skip
          refine rp [.e (v := .bool (decide (1 < ((n2 : Nat) : Int)))) (v' := .bool false) (bool_eq (decide_eq_false (by omega))), .v, .n, .n, .n, .n, .n, .n, .n, .v] H31 kr fun gs37 w37 H37 => ?_
          show WPs _ _ _ _ [] _ _
          clear H31
          refine s_nil ?_
          refine g_keep [0, 1, 4, 5, 6, 13, 29, 36, 51] fun ρ7 => ?_
          have HK23 := H37.keep
          clear H37
          refine g_cond_f kr kr ?_
          refine g_exit 2 kr ?_
          show WP _ _ _ _ _ _
          have hfin : n2 ≤ List.length y := by
                      rcases Nat.lt_or_ge 1 n2 with h | h
                      · subst hn2; exact vl_len hy h (by omega) (by rw [hV]; exact Nat.mod_lt _ hM)
                      · omega
          refine rL [.v, .e (v := .int .i64 (IntKind.i64.wrap (((j - 1 : Nat) : Int) - 1))) (v' := .int .i64 (((j - 1 : Nat) : Int) - 1)) (int_eq (wrap_i64 (by omega) (by omega))), .v] HK23 kr fun gs38 w38 H38 => ?_
          clear HK23
          have HL24 : St w.heap.size w w38 [(b2, Obj.cells cur2 3 (0, 0))] := H38.as kr
          clear H38
          show ∃ m, _ ∧ _
          exact ⟨_, (by omega), b2, cap2, n2, cur2, l2, (j - 1), rfl, hn2, hr2, ho2, hV, (by omega), hfin, (by omega), HL24, (Is.of ⟨kr, kr, kr, kr, kr, trivial⟩)⟩
    · skip
      refine rp [.e (v := .bool (((((List.getD x ((j - 1) / 16) 0) / 2 ^ ((j - 1) % 16)) % 2 : Nat) : Int) == 1)) (v' := .bool false) (bool_eq (beq_eq_false_iff_ne.2 (by omega)))] H10 kr fun gs39 w39 H39 => ?_
      show WPs _ _ _ _ [] _ _
      clear H10
      refine s_nil ?_
      refine g_keep [0, 1, 4, 5, 6, 13, 29] fun ρ8 => ?_
      have HK25 := H39.keep
      clear H39
      refine g_cond_f kr kr ?_
      refine g_skip kr ?_
      show WP _ _ _ _ _ _
      refine g_seq kr ?_
      refine g_sreg [0, 1, 2, 3] kr kr ?_
      refine rp [.v, .v, .cp (pre := fun w => w.heap[b_1]? = some (.cells cur_4 3 (0, 0)) ∧ w.heap[bb]? = some (.cells curB 3 (0, 0))) (less_fn l_5 y b_1 n_3 cap_2 bb (List.length y) cb cur_4 curB hs_6n rfl hs_6r hB hs_6o hy (by omega) (by omega)) [(0, (b_1, Obj.cells cur_4 3 (0, 0)))] (fun w hb hd => ⟨hd.1, ((hb.block _ (lt_of_heap hpre.2)).trans hpre.2)⟩)] HK25 kr fun gs40 w40 H40 => ?_
      show WPs _ _ _ _ [3] _ _
      clear HK25
      rcases (Bool.eq_false_or_eq_true (ls l_5 y)).symm with hls | hls
      · skip
        refine s_now 35 (v := .bool (ls l_5 y)) (v' := .bool false) (bool_eq hls) kr ?_
        have hls2 := of_decide_eq_false hls
        refine rp [.v] H40 kr fun gs41 w41 H41 => ?_
        show WPs _ _ _ _ [] _ _
        clear H40
        refine s_nil ?_
        refine g_cond_t kr kr ?_
        refine g_reg0 [0, 1, 2, 3] kr ?_
        refine rp [.v, .v] H41 kr fun gs42 w42 H42 => ?_
        show WPs _ _ _ _ [2, 3] _ _
        clear H41
        refine s_callS H42 (some 39) 60 #[.slice (some ⟨b_1, 0, none⟩) n_3 cap_2, .slice (some ⟨bb, 0, none⟩) (List.length y) cb] (fun w => w.heap[b_1]? = some (.cells cur_4 3 (0, 0)) ∧ w.heap[bb]? = some (.cells curB 3 (0, 0))) 3 1 (fun curZ capZ nZ lZ => (nZ = List.length lZ ∧ Rw 1 curZ capZ nZ (cellsD lZ) ∧ Ok lZ ∧ (vl lZ = vl l_5 - vl y ∧ List.length lZ = List.length l_5))) (take_fn l_5 y b_1 n_3 cap_2 bb (List.length y) cb cur_4 curB hs_6n rfl hs_6r hB hs_6o hy (by omega) (by omega) (by omega)) (⟨(H42.get 0 kr), (H42.old hpre.2 (lt_of_heap hpre.2))⟩) kr kr ?_
        intro b_19 cap_20 n_21 cur_22 l_23 w43 H43 hs_24; clear H42
        obtain ⟨hs_24n, hs_24r, hs_24o, hs_24s⟩ := hs_24
        refine rp [.v] H43 kr fun gs44 w44 H44 => ?_
        show WPs _ _ _ _ [] _ _
        clear H43
        refine s_nil ?_
        show WP _ _ _ _ _ _
        refine g_block 2 kr ?_
        have HL26 : St w.heap.size w w44 [(b_19, Obj.cells cur_22 3 (0, 0)), (b_1, Obj.cells cur_4 3 (0, 0)), (b, Obj.cells cur 3 (0, 0))] := H44.as kr
        clear H44
        have HD27 : St w.heap.size w w44 [(b_19, Obj.cells cur_22 3 (0, 0))] := HL26.sub (List.Sublist.cons_cons _ (List.Sublist.cons _ (List.Sublist.cons _ List.Sublist.slnil)))
        refine g_loop kr (fun mz ρ ww => ∃ (b2 : Nat) (cap2 : Nat) (n2 : Nat) (cur2 : Array Value) (l2 : List Nat), n2 = mz ∧ (n2 = List.length l2) ∧ (Rw 1 cur2 cap2 n2 (cellsD l2)) ∧ (Ok l2) ∧ (vl l2 = vl x / 2 ^ (j - 1) % vl y) ∧ (1 ≤ n2) ∧ (n2 ≤ 6000) ∧ St w.heap.size w ww [(b2, Obj.cells cur2 3 (0, 0))] ∧ Is [(0, .slice (some ⟨ba, 0, none⟩) (List.length x) ca), (1, .slice (some ⟨bb, 0, none⟩) (List.length y) cb), (4, .slice none 0 0), (5, .slice (some ⟨b2, 0, none⟩) n2 cap2), (6, .int .i64 ((j - 1 : Nat) : Int)), (13, .bool true), (29, .bool false), (36, .bool true)] ρ) n_21 ⟨b_19, cap_20, n_21, cur_22, l_23, rfl, hs_24n, hs_24r, hs_24o, (by omega), (by omega), (by omega), HD27, (Is.of ⟨kr, kr, kr, kr, kr, kr, kr, kr, trivial⟩)⟩ ?_
        clear HD27
        rintro _ _ w45 ⟨b2, cap2, n2, cur2, l2, rfl, hn2, hr2, ho2, hV, h12, h22, H45, _, rfl⟩
        refine g_seq kr ?_
        refine g_sreg [0, 1, 2, 3, 4, 5, 6, 7, 8, 9, 10, 11] kr kr ?_
        refine rp [.v, .v] H45 kr fun gs46 w46 H46 => ?_
        show WPs _ _ _ _ [2, 3, 4, 5, 6, 7, 8, 9, 10, 11] _ _
        clear H45
        by_cases hc28 : (n2 : Nat) > 1
        · skip
          refine rp [.e (v := .bool (decide (1 < ((n2 : Nat) : Int)))) (v' := .bool true) (bool_eq (decide_eq_true (by omega))), .v, .v, .v, .v, .e (v := .int .i64 (IntKind.i64.wrap (((n2 : Nat) : Int) - 1))) (v' := .int .i64 ((n2 - 1 : Nat) : Int)) (int_eq (wrapSub_i64 (a := n2) (b := 1) (by omega))), .o (ins := [((.tmp 44), .slice (some ⟨b2, 0, none⟩) n2 cap2), ((.tmp 47), .int .i64 ((n2 - 1 : Nat) : Int))]) (v := .pointer (some ⟨b2, 0 + (n2 - 1) * 1, none⟩)) (fun ρ o w ho hi => idxS_run (kd := .i64) (t := 60) (e := 3) (size := 1) (bytes := 8) kr (x := (.tmp 44)) (y := (.tmp 47)) b2 0 n2 cap2 (n2 - 1) ho hi.1 hi.2.1 (by omega) w), .ls (C := cur2) (off := 0 + (n2 - 1) * 1) (v := .int .i64 ((List.getD l2 (n2 - 1) 0 : Nat) : Int)) 0 (hr2.atD (by omega) hn2)] H46 kr fun gs47 w47 H47 => ?_
          show WPs _ _ _ _ [10, 11] _ _
          clear H46
          by_cases hc29 : (List.getD l2 (n2 - 1) 0 : Nat) = 0
          · skip
            refine rp [.e (v := .bool (((List.getD l2 (n2 - 1) 0 : Nat) : Int) == 0)) (v' := .bool true) (bool_eq (beq_iff_eq.2 (by omega))), .v] H47 kr fun gs48 w48 H48 => ?_
            show WPs _ _ _ _ [] _ _
            clear H47
            refine s_nil ?_
            refine g_keep [0, 1, 4, 5, 6, 13, 29, 36, 51] fun ρ9 => ?_
            have HK30 := H48.keep
            clear H48
            refine g_cond_t kr kr ?_
            refine g_skip kr ?_
            show WP _ _ _ _ _ _
            refine g_block 3 kr ?_
            refine rL [.v, .v, .v, .e (v := .int .i64 (IntKind.i64.wrap (((n2 : Nat) : Int) - 1))) (v' := .int .i64 ((n2 - 1 : Nat) : Int)) (int_eq (wrapSub_i64 (a := n2) (b := 1) (by omega))), .o (ins := [((.tmp 52), .slice (some ⟨b2, 0, none⟩) n2 cap2), ((.tmp 55), .int .i64 ((n2 - 1 : Nat) : Int))]) (v := .slice (some ⟨b2, 0, none⟩) (n2 - 1) cap2) (fun ρ o w ho hi => cut_run (kd := .i64) (t := 60) (e := 3) (size := 1) (bytes := 8) kr (x := (.tmp 52)) (y := (.tmp 55)) b2 n2 cap2 (n2 - 1) ho hi.1 hi.2.1 (Nat.le_trans (by omega) hr2.le) w), .v] HK30 kr fun gs49 w49 H49 => ?_
            clear HK30
            have HL31 : St w.heap.size w w49 [(b2, Obj.cells cur2 3 (0, 0))] := H49.as kr
            clear H49
            show ∃ m, _ ∧ _
            exact ⟨_, (by omega), b2, cap2, (n2 - 1), cur2, (List.take (n2 - 1) l2), rfl, (by rw [List.length_take]; omega), (by have h := hr2.cut (n2 - 1) (by omega); rw [Nat.mul_one] at h; unfold cellsD at h ⊢; rw [cellsD_take] at h; exact h), (ok_take ho2 _), (by subst hn2; rw [vl_dropLast (by omega) (by omega)]; exact hV), (by omega), (by omega), HL31, (Is.of ⟨kr, kr, kr, kr, kr, kr, kr, kr, trivial⟩)⟩
          · skip
            refine rp [.e (v := .bool (((List.getD l2 (n2 - 1) 0 : Nat) : Int) == 0)) (v' := .bool false) (bool_eq (beq_eq_false_iff_ne.2 (by omega))), .v] H47 kr fun gs50 w50 H50 => ?_
            show WPs _ _ _ _ [] _ _
            clear H47
            refine s_nil ?_
            refine g_keep [0, 1, 4, 5, 6, 13, 29, 36, 51] fun ρ10 => ?_
            have HK32 := H50.keep
            clear H50
            refine g_cond_f kr kr ?_
            refine g_exit 2 kr ?_
            show WP _ _ _ _ _ _
            have hfin : n2 ≤ List.length y := by
                          rcases Nat.lt_or_ge 1 n2 with h | h
                          · subst hn2; exact vl_len hy h (by omega) (by rw [hV]; exact Nat.mod_lt _ hM)
                          · omega
            refine rL [.v, .e (v := .int .i64 (IntKind.i64.wrap (((j - 1 : Nat) : Int) - 1))) (v' := .int .i64 (((j - 1 : Nat) : Int) - 1)) (int_eq (wrap_i64 (by omega) (by omega))), .v] HK32 kr fun gs51 w51 H51 => ?_
            clear HK32
            have HL33 : St w.heap.size w w51 [(b2, Obj.cells cur2 3 (0, 0))] := H51.as kr
            clear H51
            show ∃ m, _ ∧ _
            exact ⟨_, (by omega), b2, cap2, n2, cur2, l2, (j - 1), rfl, hn2, hr2, ho2, hV, (by omega), hfin, (by omega), HL33, (Is.of ⟨kr, kr, kr, kr, kr, trivial⟩)⟩
        · skip
          refine rp [.e (v := .bool (decide (1 < ((n2 : Nat) : Int)))) (v' := .bool false) (bool_eq (decide_eq_false (by omega))), .v, .n, .n, .n, .n, .n, .n, .n, .v] H46 kr fun gs52 w52 H52 => ?_
          show WPs _ _ _ _ [] _ _
          clear H46
          refine s_nil ?_
          refine g_keep [0, 1, 4, 5, 6, 13, 29, 36, 51] fun ρ11 => ?_
          have HK34 := H52.keep
          clear H52
          refine g_cond_f kr kr ?_
          refine g_exit 2 kr ?_
          show WP _ _ _ _ _ _
          have hfin : n2 ≤ List.length y := by
                      rcases Nat.lt_or_ge 1 n2 with h | h
                      · subst hn2; exact vl_len hy h (by omega) (by rw [hV]; exact Nat.mod_lt _ hM)
                      · omega
          refine rL [.v, .e (v := .int .i64 (IntKind.i64.wrap (((j - 1 : Nat) : Int) - 1))) (v' := .int .i64 (((j - 1 : Nat) : Int) - 1)) (int_eq (wrap_i64 (by omega) (by omega))), .v] HK34 kr fun gs53 w53 H53 => ?_
          clear HK34
          have HL35 : St w.heap.size w w53 [(b2, Obj.cells cur2 3 (0, 0))] := H53.as kr
          clear H53
          show ∃ m, _ ∧ _
          exact ⟨_, (by omega), b2, cap2, n2, cur2, l2, (j - 1), rfl, hn2, hr2, ho2, hV, (by omega), hfin, (by omega), HL35, (Is.of ⟨kr, kr, kr, kr, kr, trivial⟩)⟩
      · skip
        refine s_now 35 (v := .bool (ls l_5 y)) (v' := .bool true) (bool_eq hls) kr ?_
        have hls2 := of_decide_eq_true hls
        refine rp [.v] H40 kr fun gs54 w54 H54 => ?_
        show WPs _ _ _ _ [] _ _
        clear H40
        refine s_nil ?_
        refine g_cond_f kr kr ?_
        refine g_skip kr ?_
        show WP _ _ _ _ _ _
        refine g_block 2 kr ?_
        have HL36 : St w.heap.size w w54 [(b_1, Obj.cells cur_4 3 (0, 0)), (b, Obj.cells cur 3 (0, 0))] := H54.as kr
        clear H54
        have HD37 : St w.heap.size w w54 [(b_1, Obj.cells cur_4 3 (0, 0))] := HL36.sub (List.Sublist.cons_cons _ (List.Sublist.cons _ List.Sublist.slnil))
        refine g_loop kr (fun mz ρ ww => ∃ (b2 : Nat) (cap2 : Nat) (n2 : Nat) (cur2 : Array Value) (l2 : List Nat), n2 = mz ∧ (n2 = List.length l2) ∧ (Rw 1 cur2 cap2 n2 (cellsD l2)) ∧ (Ok l2) ∧ (vl l2 = vl x / 2 ^ (j - 1) % vl y) ∧ (1 ≤ n2) ∧ (n2 ≤ 6000) ∧ St w.heap.size w ww [(b2, Obj.cells cur2 3 (0, 0))] ∧ Is [(0, .slice (some ⟨ba, 0, none⟩) (List.length x) ca), (1, .slice (some ⟨bb, 0, none⟩) (List.length y) cb), (4, .slice none 0 0), (5, .slice (some ⟨b2, 0, none⟩) n2 cap2), (6, .int .i64 ((j - 1 : Nat) : Int)), (13, .bool true), (29, .bool false), (36, .bool false)] ρ) n_3 ⟨b_1, cap_2, n_3, cur_4, l_5, rfl, hs_6n, hs_6r, hs_6o, (by omega), (by omega), (by omega), HD37, (Is.of ⟨kr, kr, kr, kr, kr, kr, kr, kr, trivial⟩)⟩ ?_
        clear HD37
        rintro _ _ w55 ⟨b2, cap2, n2, cur2, l2, rfl, hn2, hr2, ho2, hV, h12, h22, H55, _, rfl⟩
        refine g_seq kr ?_
        refine g_sreg [0, 1, 2, 3, 4, 5, 6, 7, 8, 9, 10, 11] kr kr ?_
        refine rp [.v, .v] H55 kr fun gs56 w56 H56 => ?_
        show WPs _ _ _ _ [2, 3, 4, 5, 6, 7, 8, 9, 10, 11] _ _
        clear H55
        by_cases hc38 : (n2 : Nat) > 1
        · skip
          refine rp [.e (v := .bool (decide (1 < ((n2 : Nat) : Int)))) (v' := .bool true) (bool_eq (decide_eq_true (by omega))), .v, .v, .v, .v, .e (v := .int .i64 (IntKind.i64.wrap (((n2 : Nat) : Int) - 1))) (v' := .int .i64 ((n2 - 1 : Nat) : Int)) (int_eq (wrapSub_i64 (a := n2) (b := 1) (by omega))), .o (ins := [((.tmp 44), .slice (some ⟨b2, 0, none⟩) n2 cap2), ((.tmp 47), .int .i64 ((n2 - 1 : Nat) : Int))]) (v := .pointer (some ⟨b2, 0 + (n2 - 1) * 1, none⟩)) (fun ρ o w ho hi => idxS_run (kd := .i64) (t := 60) (e := 3) (size := 1) (bytes := 8) kr (x := (.tmp 44)) (y := (.tmp 47)) b2 0 n2 cap2 (n2 - 1) ho hi.1 hi.2.1 (by omega) w), .ls (C := cur2) (off := 0 + (n2 - 1) * 1) (v := .int .i64 ((List.getD l2 (n2 - 1) 0 : Nat) : Int)) 0 (hr2.atD (by omega) hn2)] H56 kr fun gs57 w57 H57 => ?_
          show WPs _ _ _ _ [10, 11] _ _
          clear H56
          by_cases hc39 : (List.getD l2 (n2 - 1) 0 : Nat) = 0
          · skip
            refine rp [.e (v := .bool (((List.getD l2 (n2 - 1) 0 : Nat) : Int) == 0)) (v' := .bool true) (bool_eq (beq_iff_eq.2 (by omega))), .v] H57 kr fun gs58 w58 H58 => ?_
            show WPs _ _ _ _ [] _ _
            clear H57
            refine s_nil ?_
            refine g_cond_t kr kr ?_
            refine g_skip kr ?_
            show WP _ _ _ _ _ _
            refine g_block 3 kr ?_
            refine rL [.v, .v, .v, .e (v := .int .i64 (IntKind.i64.wrap (((n2 : Nat) : Int) - 1))) (v' := .int .i64 ((n2 - 1 : Nat) : Int)) (int_eq (wrapSub_i64 (a := n2) (b := 1) (by omega))), .o (ins := [((.tmp 52), .slice (some ⟨b2, 0, none⟩) n2 cap2), ((.tmp 55), .int .i64 ((n2 - 1 : Nat) : Int))]) (v := .slice (some ⟨b2, 0, none⟩) (n2 - 1) cap2) (fun ρ o w ho hi => cut_run (kd := .i64) (t := 60) (e := 3) (size := 1) (bytes := 8) kr (x := (.tmp 52)) (y := (.tmp 55)) b2 n2 cap2 (n2 - 1) ho hi.1 hi.2.1 (Nat.le_trans (by omega) hr2.le) w), .v] H58 kr fun gs59 w59 H59 => ?_
            clear H58
            have HL40 : St w.heap.size w w59 [(b2, Obj.cells cur2 3 (0, 0))] := H59.as kr
            clear H59
            show ∃ m, _ ∧ _
            exact ⟨_, (by omega), b2, cap2, (n2 - 1), cur2, (List.take (n2 - 1) l2), rfl, (by rw [List.length_take]; omega), (by have h := hr2.cut (n2 - 1) (by omega); rw [Nat.mul_one] at h; unfold cellsD at h ⊢; rw [cellsD_take] at h; exact h), (ok_take ho2 _), (by subst hn2; rw [vl_dropLast (by omega) (by omega)]; exact hV), (by omega), (by omega), HL40, (Is.of ⟨kr, kr, kr, kr, kr, kr, kr, kr, trivial⟩)⟩
          · skip
            refine rp [.e (v := .bool (((List.getD l2 (n2 - 1) 0 : Nat) : Int) == 0)) (v' := .bool false) (bool_eq (beq_eq_false_iff_ne.2 (by omega))), .v] H57 kr fun gs60 w60 H60 => ?_
            show WPs _ _ _ _ [] _ _
            clear H57
            refine s_nil ?_
            refine g_cond_f kr kr ?_
            refine g_exit 2 kr ?_
            show WP _ _ _ _ _ _
            have hfin : n2 ≤ List.length y := by
                          rcases Nat.lt_or_ge 1 n2 with h | h
                          · subst hn2; exact vl_len hy h (by omega) (by rw [hV]; exact Nat.mod_lt _ hM)
                          · omega
            refine rL [.v, .e (v := .int .i64 (IntKind.i64.wrap (((j - 1 : Nat) : Int) - 1))) (v' := .int .i64 (((j - 1 : Nat) : Int) - 1)) (int_eq (wrap_i64 (by omega) (by omega))), .v] H60 kr fun gs61 w61 H61 => ?_
            clear H60
            have HL41 : St w.heap.size w w61 [(b2, Obj.cells cur2 3 (0, 0))] := H61.as kr
            clear H61
            show ∃ m, _ ∧ _
            exact ⟨_, (by omega), b2, cap2, n2, cur2, l2, (j - 1), rfl, hn2, hr2, ho2, hV, (by omega), hfin, (by omega), HL41, (Is.of ⟨kr, kr, kr, kr, kr, trivial⟩)⟩
        · skip
          refine rp [.e (v := .bool (decide (1 < ((n2 : Nat) : Int)))) (v' := .bool false) (bool_eq (decide_eq_false (by omega))), .v, .n, .n, .n, .n, .n, .n, .n, .v] H56 kr fun gs62 w62 H62 => ?_
          show WPs _ _ _ _ [] _ _
          clear H56
          refine s_nil ?_
          refine g_cond_f kr kr ?_
          refine g_exit 2 kr ?_
          show WP _ _ _ _ _ _
          have hfin : n2 ≤ List.length y := by
                      rcases Nat.lt_or_ge 1 n2 with h | h
                      · subst hn2; exact vl_len hy h (by omega) (by rw [hV]; exact Nat.mod_lt _ hM)
                      · omega
          refine rL [.v, .e (v := .int .i64 (IntKind.i64.wrap (((j - 1 : Nat) : Int) - 1))) (v' := .int .i64 (((j - 1 : Nat) : Int) - 1)) (int_eq (wrap_i64 (by omega) (by omega))), .v] H62 kr fun gs63 w63 H63 => ?_
          clear H62
          have HL42 : St w.heap.size w w63 [(b2, Obj.cells cur2 3 (0, 0))] := H63.as kr
          clear H63
          show ∃ m, _ ∧ _
          exact ⟨_, (by omega), b2, cap2, n2, cur2, l2, (j - 1), rfl, hn2, hr2, ho2, hV, (by omega), hfin, (by omega), HL42, (Is.of ⟨kr, kr, kr, kr, kr, trivial⟩)⟩
  · skip
    refine rp [.e (v := .bool (decide (0 ≤ ((j : Nat) : Int) - 1))) (v' := .bool false) (bool_eq (decide_eq_false (by omega)))] H5 kr fun gs64 w64 H64 => ?_
    show WPs _ _ _ _ [] _ _
    clear H5
    refine s_nil ?_
    refine g_cond_f kr kr ?_
    refine g_exit 0 kr ?_
    show WP _ _ _ _ _ _
    refine rS [.v, .v] H64 kr fun gs65 w65 H65 => ?_
    clear H64
    refine g_ret kr ?_
    show ∃ vs, Res _ _ _ _ vs ∧ _
    refine ⟨[.slice (some ⟨b, 0, none⟩) n cap], (.tmp (.slice (some ⟨b, 0, none⟩) n cap) kr .nil), H65.below, ?_⟩
    exact ⟨b, cap, _, _, l, rfl, H65.ge 0 (o := .cells cur 3 (0, 0)) kr, H65.get 0 kr, hn, hr, ho, by rw [hv, show j = 0 by omega, Nat.pow_zero, Nat.div_one], by omega, by omega⟩
end Go.Proofs.YtmmloghbnpfedaaDoor

namespace Go.Proofs.YtmmloghbnpfedaaDoor
open Go Go.RowKit
set_option linter.unusedVariables false
theorem fSub_ref {A B M : Nat} (hM : 0 < M) (h : B ≤ A + (M + M)) : (A + (M + M) - B) % M = fSub A B M := by
  unfold fSub
  · have h1 := Nat.mod_lt B hM
    have h2 := Nat.div_add_mod B M
    have h3 : A + (M + M) - B + M * (B / M) = A + (M - B % M) + M := by omega
    have h4 : (A + (M + M) - B) % M = (A + (M + M) - B + M * (B / M)) % M := by rw [Nat.add_mul_mod_self_left]
    rw [h4, h3, Nat.add_mod_right]; exact (Nat.mod_add_mod A M _).symm
set_option maxRecDepth 100000 in
set_option maxHeartbeats 2000000 in
theorem modulus1_fn  : Fn Tryd.prog 36 #[.int .i64 1] (uv NR) := by
  refine Fn.intro (c := codeOf Tryd.f36) [.cell 2 24] 7 Tryd.func36 kr kr kr fun w => ?_
  have H0 := St.start w
  refine rS [.a] H0 kr fun gs1 w1 H1 => ?_
  clear H0
  refine g_seq kr ?_
  refine rS [.v, .v] H1 kr fun gs2 w2 H2 => ?_
  clear H1
  refine g_cond_f kr kr ?_
  refine g_skip kr ?_
  show WP _ _ _ _ _ _
  refine rS [.v, .s 0] H2 kr fun gs3 w3 H3 => ?_
  clear H2
  refine g_ret kr ?_
  show ∃ vs, Res _ _ _ _ vs ∧ _
  refine ⟨[.agg #[.int .u64 13822214165235122497, .int .u64 13451932020343611451, .int .u64 18446744073709551614, .int .u64 18446744073709551615]], (.agg (b := (gs1 0).b) #[.int .u64 13822214165235122497, .int .u64 13451932020343611451, .int .u64 18446744073709551614, .int .u64 18446744073709551615] 24 (0, 0) kr (H3.get 0 kr) kr .nil), ?_, H3.below⟩
  kernel_rfl
set_option maxRecDepth 100000 in
set_option maxHeartbeats 2000000 in
theorem left021_fn (x : List Nat) (ba nx ca : Nat) (curA : Array Value) (hnx : nx = List.length x) (hA : Rw 1 curA ca nx (cellsD x)) (lx : List.length x ≤ 2000) (hx : Ok x) : FnP Tryd.prog 57 #[.slice (some ⟨ba, 0, none⟩) nx ca, .int .i64 1] (fun w => w.heap[ba]? = some (.cells curA 3 (0, 0))) (uv (vl x % NR)) := by
  subst hnx
  have hp : PR < big ∧ big < 2 * PR := pr_ok
  have hq : NR < big ∧ big < 2 * NR := nr_ok
  have hbig : 2 < big := by unfold big; omega
  refine FnP.intro (c := codeOf Tryd.f57) [.cell 4 24] 11 Tryd.func57 kr kr kr fun w hpre => ?_
  have H0 := St.start w
  refine rS [.a] H0 kr fun gs1 w1 H1 => ?_
  clear H0
  refine g_sreg [0, 1, 2, 3, 4, 5, 6] kr kr ?_
  refine rp [.v, .v, .c modulus1_fn] H1 kr fun gs2 w2 H2 => ?_
  show WPs _ _ _ _ [3, 4, 5, 6] _ _
  clear H1
  refine s_callS H2 (some 8) 35 #[uv NR] (fun _ => True) 3 1 (fun curZ capZ nZ lZ => (nZ = List.length lZ ∧ Rw 1 curZ capZ nZ (cellsD lZ) ∧ Ok lZ ∧ (lZ = dgs NR 16 ∧ vl lZ = NR ∧ List.length lZ = 16))) (of_fn NR nr_ok.1) trivial kr kr ?_
  intro b_1 cap_2 n_3 cur_4 l_5 w3 H3 hs_6; clear H2
  obtain ⟨hs_6n, hs_6r, hs_6o, hs_6s⟩ := hs_6
  obtain ⟨hs_6a, hs_6b, hs_6c⟩ := hs_6s
  refine s_callS H3 (some 9) 88 #[.slice (some ⟨ba, 0, none⟩) (List.length x) ca, .slice (some ⟨b_1, 0, none⟩) n_3 cap_2] (fun w => w.heap[ba]? = some (.cells curA 3 (0, 0)) ∧ w.heap[b_1]? = some (.cells cur_4 3 (0, 0))) 3 1 (fun curZ capZ nZ lZ => (nZ = List.length lZ ∧ Rw 1 curZ capZ nZ (cellsD lZ) ∧ Ok lZ ∧ (vl lZ = vl x % vl l_5 ∧ 1 ≤ List.length lZ ∧ List.length lZ ≤ List.length l_5))) (left_fn x l_5 ba (List.length x) ca b_1 n_3 cap_2 curA cur_4 rfl hs_6n hA hs_6r hx hs_6o (by omega) (by omega) (by omega) (by omega)) (⟨(H3.old hpre (lt_of_heap hpre)), (H3.get 0 kr)⟩) kr kr ?_
  intro b_7 cap_8 n_9 cur_10 l_11 w4 H4 hs_12; clear H3
  obtain ⟨hs_12n, hs_12r, hs_12o, hs_12s⟩ := hs_12
  refine s_callP H4 (some 10) 77 #[.slice (some ⟨b_7, 0, none⟩) n_9 cap_8] (fun w => w.heap[b_7]? = some (.cells cur_10 3 (0, 0))) (uv (vl x % NR)) (by have hnum := to_fn l_11 b_7 n_9 cap_8 cur_10 hs_12n hs_12r (by omega) hs_12o; have heq : (vl l_11 % big) = (vl x % NR) := (by have hlt := Nat.mod_lt (vl x) (show 0 < NR by omega); rw [show vl l_11 = vl x % NR by rw [← hs_6b]; exact hs_12s.1]; exact Nat.mod_eq_of_lt (by omega)); rw [heq] at hnum; exact hnum) (H4.get 0 kr) (fun w => by kernel_rfl) kr ?_
  intro w5 H5; clear H4
  refine rp [.s 2] H5 kr fun gs6 w6 H6 => ?_
  show WPs _ _ _ _ [] _ _
  clear H5
  refine s_nil ?_
  refine g_ret kr ?_
  show ∃ vs, Res _ _ _ _ vs ∧ _
  refine ⟨[uv (vl x % NR)], (.agg (b := (gs1 0).b) (Value.cells (uv (vl x % NR))) 24 (0, 0) kr (H6.get 2 kr) kr .nil), ?_, H6.below⟩
  rfl
set_option maxRecDepth 100000 in
set_option maxHeartbeats 2000000 in
theorem rsub1_fn (A B : Nat) (hA : A < big) (hB : B < big) : Fn Tryd.prog 24 #[uv A, uv B, .int .i64 1] (uv (fSub A B NR)) := by
  have hp : PR < big ∧ big < 2 * PR := pr_ok
  have hq : NR < big ∧ big < 2 * NR := nr_ok
  have hbig : 2 < big := by unfold big; omega
  refine Fn.intro (c := codeOf Tryd.f24) [.cell 6 24] 24 Tryd.func24 kr kr kr fun w => ?_
  have H0 := St.start w
  refine rS [.b, .b, .a] H0 kr fun gs1 w1 H1 => ?_
  clear H0
  refine g_sreg [0, 1, 2, 3] kr kr ?_
  refine rp [.v, .c modulus1_fn] H1 kr fun gs2 w2 H2 => ?_
  show WPs _ _ _ _ [2, 3] _ _
  clear H1
  refine s_callS H2 (some 11) 35 #[uv NR] (fun _ => True) 3 1 (fun curZ capZ nZ lZ => (nZ = List.length lZ ∧ Rw 1 curZ capZ nZ (cellsD lZ) ∧ Ok lZ ∧ (lZ = dgs NR 16 ∧ vl lZ = NR ∧ List.length lZ = 16))) (of_fn NR nr_ok.1) trivial kr kr ?_
  intro b_1 cap_2 n_3 cur_4 l_5 w3 H3 hs_6; clear H2
  obtain ⟨hs_6n, hs_6r, hs_6o, hs_6s⟩ := hs_6
  obtain ⟨hs_6a, hs_6b, hs_6c⟩ := hs_6s
  refine rp [.v] H3 kr fun gs4 w4 H4 => ?_
  show WPs _ _ _ _ [] _ _
  clear H3
  refine s_nil ?_
  refine g_sreg [0, 1, 2, 3, 4, 5, 6] kr kr ?_
  refine rp [.l 1] H4 kr fun gs5 w5 H5 => ?_
  show WPs _ _ _ _ [1, 2, 3, 4, 5, 6] _ _
  clear H4
  refine s_callS H5 (some 13) 35 #[uv A] (fun _ => True) 3 1 (fun curZ capZ nZ lZ => (nZ = List.length lZ ∧ Rw 1 curZ capZ nZ (cellsD lZ) ∧ Ok lZ ∧ (lZ = dgs A 16 ∧ vl lZ = A ∧ List.length lZ = 16))) (of_fn A hA) trivial kr kr ?_
  intro b_7 cap_8 n_9 cur_10 l_11 w6 H6 hs_12; clear H5
  obtain ⟨hs_12n, hs_12r, hs_12o, hs_12s⟩ := hs_12
  obtain ⟨hs_12a, hs_12b, hs_12c⟩ := hs_12s
  refine rp [.v, .v] H6 kr fun gs7 w7 H7 => ?_
  show WPs _ _ _ _ [4, 5, 6] _ _
  clear H6
  refine s_callS H7 (some 16) 59 #[.slice (some ⟨b_1, 0, none⟩) n_3 cap_2, .slice (some ⟨b_1, 0, none⟩) n_3 cap_2] (fun w => w.heap[b_1]? = some (.cells cur_4 3 (0, 0)) ∧ w.heap[b_1]? = some (.cells cur_4 3 (0, 0))) 3 1 (fun curZ capZ nZ lZ => (nZ = List.length lZ ∧ Rw 1 curZ capZ nZ (cellsD lZ) ∧ Ok lZ ∧ (vl lZ = vl l_5 + vl l_5 ∧ List.length lZ ≤ max (List.length l_5) (List.length l_5) + 1 ∧ max (List.length l_5) (List.length l_5) ≤ List.length lZ))) (sum_fn l_5 l_5 b_1 n_3 cap_2 b_1 n_3 cap_2 cur_4 cur_4 hs_6n hs_6n hs_6r hs_6r hs_6o hs_6o (by omega) (by omega)) (⟨(H7.get 1 kr), (H7.get 1 kr)⟩) kr kr ?_
  intro b_13 cap_14 n_15 cur_16 l_17 w8 H8 hs_18; clear H7
  obtain ⟨hs_18n, hs_18r, hs_18o, hs_18s⟩ := hs_18
  refine s_callS H8 (some 17) 59 #[.slice (some ⟨b_7, 0, none⟩) n_9 cap_8, .slice (some ⟨b_13, 0, none⟩) n_15 cap_14] (fun w => w.heap[b_7]? = some (.cells cur_10 3 (0, 0)) ∧ w.heap[b_13]? = some (.cells cur_16 3 (0, 0))) 3 1 (fun curZ capZ nZ lZ => (nZ = List.length lZ ∧ Rw 1 curZ capZ nZ (cellsD lZ) ∧ Ok lZ ∧ (vl lZ = vl l_11 + vl l_17 ∧ List.length lZ ≤ max (List.length l_11) (List.length l_17) + 1 ∧ max (List.length l_11) (List.length l_17) ≤ List.length lZ))) (sum_fn l_11 l_17 b_7 n_9 cap_8 b_13 n_15 cap_14 cur_10 cur_16 hs_12n hs_18n hs_12r hs_18r hs_12o hs_18o (by omega) (by omega)) (⟨(H8.get 1 kr), (H8.get 0 kr)⟩) kr kr ?_
  intro b_19 cap_20 n_21 cur_22 l_23 w9 H9 hs_24; clear H8
  obtain ⟨hs_24n, hs_24r, hs_24o, hs_24s⟩ := hs_24
  refine rp [.v] H9 kr fun gs10 w10 H10 => ?_
  show WPs _ _ _ _ [] _ _
  clear H9
  refine s_nil ?_
  refine g_sreg [0, 1, 2, 3, 4, 5, 6] kr kr ?_
  refine rp [.v, .l 5] H10 kr fun gs11 w11 H11 => ?_
  show WPs _ _ _ _ [2, 3, 4, 5, 6] _ _
  clear H10
  refine s_callS H11 (some 20) 35 #[uv B] (fun _ => True) 3 1 (fun curZ capZ nZ lZ => (nZ = List.length lZ ∧ Rw 1 curZ capZ nZ (cellsD lZ) ∧ Ok lZ ∧ (lZ = dgs B 16 ∧ vl lZ = B ∧ List.length lZ = 16))) (of_fn B hB) trivial kr kr ?_
  intro b_25 cap_26 n_27 cur_28 l_29 w12 H12 hs_30; clear H11
  obtain ⟨hs_30n, hs_30r, hs_30o, hs_30s⟩ := hs_30
  obtain ⟨hs_30a, hs_30b, hs_30c⟩ := hs_30s
  refine s_callS H12 (some 21) 60 #[.slice (some ⟨b_19, 0, none⟩) n_21 cap_20, .slice (some ⟨b_25, 0, none⟩) n_27 cap_26] (fun w => w.heap[b_19]? = some (.cells cur_22 3 (0, 0)) ∧ w.heap[b_25]? = some (.cells cur_28 3 (0, 0))) 3 1 (fun curZ capZ nZ lZ => (nZ = List.length lZ ∧ Rw 1 curZ capZ nZ (cellsD lZ) ∧ Ok lZ ∧ (vl lZ = vl l_23 - vl l_29 ∧ List.length lZ = List.length l_23))) (take_fn l_23 l_29 b_19 n_21 cap_20 b_25 n_27 cap_26 cur_22 cur_28 hs_24n hs_30n hs_24r hs_30r hs_24o hs_30o (by omega) (by omega) (by omega)) (⟨(H12.get 1 kr), (H12.get 0 kr)⟩) kr kr ?_
  intro b_31 cap_32 n_33 cur_34 l_35 w13 H13 hs_36; clear H12
  obtain ⟨hs_36n, hs_36r, hs_36o, hs_36s⟩ := hs_36
  refine rp [.v] H13 kr fun gs14 w14 H14 => ?_
  show WPs _ _ _ _ [5, 6] _ _
  clear H13
  refine s_callP H14 (some 23) 57 #[.slice (some ⟨b_31, 0, none⟩) n_33 cap_32, .int .i64 1] (fun w => w.heap[b_31]? = some (.cells cur_34 3 (0, 0))) (uv (fSub A B NR)) (by have hnum := left021_fn l_35 b_31 n_33 cap_32 cur_34 hs_36n hs_36r (by omega) hs_36o; have heq : (vl l_35 % NR) = (fSub A B NR) := (by rw [show vl l_35 = A + (NR + NR) - B by omega]; exact fSub_ref (by omega) (by omega)); rw [heq] at hnum; exact hnum) (H14.get 0 kr) (fun w => by kernel_rfl) kr ?_
  intro w15 H15; clear H14
  refine rp [.s 8] H15 kr fun gs16 w16 H16 => ?_
  show WPs _ _ _ _ [] _ _
  clear H15
  refine s_nil ?_
  refine g_ret kr ?_
  show ∃ vs, Res _ _ _ _ vs ∧ _
  refine ⟨[uv (fSub A B NR)], (.agg (b := (gs1 2).b) (Value.cells (uv (fSub A B NR))) 24 (0, 0) kr (H16.get 8 kr) kr .nil), ?_, H16.below⟩
  rfl
set_option maxRecDepth 100000 in
set_option maxHeartbeats 2000000 in
theorem rmul1_fn (A B : Nat) (hA : A < big) (hB : B < big) : Fn Tryd.prog 23 #[uv A, uv B, .int .i64 1] (uv (fMul A B NR)) := by
  have hp : PR < big ∧ big < 2 * PR := pr_ok
  have hq : NR < big ∧ big < 2 * NR := nr_ok
  have hbig : 2 < big := by unfold big; omega
  refine Fn.intro (c := codeOf Tryd.f23) [.cell 6 24] 14 Tryd.func23 kr kr kr fun w => ?_
  have H0 := St.start w
  refine rS [.b, .b, .a] H0 kr fun gs1 w1 H1 => ?_
  clear H0
  have HL1 : St w.heap.size w w1 [((gs1 0).b, Obj.cells (Value.cells (uv A)) 24 (0, 0)), ((gs1 1).b, Obj.cells (Value.cells (uv B)) 24 (0, 0)), ((gs1 2).b, Obj.cells #[.int .u64 0, .int .u64 0, .int .u64 0, .int .u64 0] 24 (0, 0))] := H1.as kr
  clear H1
  refine D2.g_sdraw [0, 1, 2, 3, 4, 5, 6, 7] [((some 7), fun _ => uv A), ((some 8), fun x => .slice (some ⟨x.b, 0, none⟩) x.n x.cap), ((some 9), fun _ => uv B), ((some 10), fun x => .slice (some ⟨x.b, 0, none⟩) x.n x.cap), ((some 11), fun x => .slice (some ⟨x.b, 0, none⟩) x.n x.cap), ((some 12), fun _ => .int .i64 1), ((some 13), fun _ => uv (fMul A B NR)), (none, fun _ => undef)] (D2.Pre w.heap.size w (fun L g => [(true, ((gs1 0).b, Obj.cells (Value.cells (uv A)) 24 (0, 0))), (true, ((gs1 1).b, Obj.cells (Value.cells (uv B)) 24 (0, 0))), (true, (bif L 7 then ((gs1 2).b, Obj.cells (Value.cells (uv (fMul A B NR))) 24 (0, 0)) else ((gs1 2).b, Obj.cells #[.int .u64 0, .int .u64 0, .int .u64 0, .int .u64 0] 24 (0, 0)))), (L 1, ((g 1).b, Obj.cells ((g 1).cur) 3 (0, 0))), (L 3, ((g 3).b, Obj.cells ((g 3).cur) 3 (0, 0))), (L 4, ((g 4).b, Obj.cells ((g 4).cur) 3 (0, 0)))]) (fun L g => (L 1 = true → ((g 1).n = List.length ((g 1).l) ∧ Rw 1 (g 1).cur (g 1).cap (g 1).n (cellsD ((g 1).l)) ∧ Ok ((g 1).l) ∧ ((g 1).l = dgs A 16 ∧ vl ((g 1).l) = A ∧ List.length ((g 1).l) = 16))) ∧ (L 3 = true → ((g 3).n = List.length ((g 3).l) ∧ Rw 1 (g 3).cur (g 3).cap (g 3).n (cellsD ((g 3).l)) ∧ Ok ((g 3).l) ∧ ((g 3).l = dgs B 16 ∧ vl ((g 3).l) = B ∧ List.length ((g 3).l) = 16))) ∧ (L 4 = true → ((g 4).n = List.length ((g 4).l) ∧ Rw 1 (g 4).cur (g 4).cap (g 4).n (cellsD ((g 4).l)) ∧ Ok ((g 4).l) ∧ (vl ((g 4).l) = vl ((g 1).l) * vl ((g 3).l) ∧ List.length ((g 4).l) = List.length ((g 1).l) + List.length ((g 3).l) + 1))) ∧ True)) kr kr kr kr ⟨D2.StE.of HL1.drew _ kr, ⟨(fun h => nomatch h), (fun h => nomatch h), (fun h => nomatch h), trivial⟩⟩ ⟨?_, ?_, ?_, ?_, ?_, ?_, ?_, ?_, trivial⟩ ?_
  · exact D2.gv_load 24 (.tmp 3) 0 (fun g => (gs1 0).b) (Value.cells (uv A)) 24 (0, 0) (fun _ _ _ h => h) (fun g => by kernel_rfl) (fun g => by kernel_rfl) (fun L g hN => kr) kr
  · exact D2.gv_callS 35 (fun g => #[uv A]) (fun g => fun _ => True) 3 1 (fun g curZ capZ nZ lZ => (nZ = List.length lZ ∧ Rw 1 curZ capZ nZ (cellsD lZ) ∧ Ok lZ ∧ (lZ = dgs A 16 ∧ vl lZ = A ∧ List.length lZ = 16))) 3 (fun L g hN hF => by exact of_fn A hA) (fun L g w hN hE hF => by exact trivial) (fun g w => by kernel_rfl) (fun L g x hN => kr) (fun L g x hN hF hS => ⟨fun _ => hS, hF.2.1, (fun hx => nomatch (Eq.trans (Eq.symm (show L 4 = true from hx)) (hN.post 4 kr))), trivial⟩)
  · exact D2.gv_load 24 (.tmp 4) 1 (fun g => (gs1 1).b) (Value.cells (uv B)) 24 (0, 0) (fun _ _ _ h => h) (fun g => by kernel_rfl) (fun g => by kernel_rfl) (fun L g hN => kr) kr
  · exact D2.gv_callS 35 (fun g => #[uv B]) (fun g => fun _ => True) 3 1 (fun g curZ capZ nZ lZ => (nZ = List.length lZ ∧ Rw 1 curZ capZ nZ (cellsD lZ) ∧ Ok lZ ∧ (lZ = dgs B 16 ∧ vl lZ = B ∧ List.length lZ = 16))) 4 (fun L g hN hF => by exact of_fn B hB) (fun L g w hN hE hF => by exact trivial) (fun g w => by kernel_rfl) (fun L g x hN => kr) (fun L g x hN hF hS => ⟨hF.1, fun _ => hS, (fun hx => nomatch (Eq.trans (Eq.symm (show L 4 = true from hx)) (hN.post 4 kr))), trivial⟩)
  · exact D2.gv_callS 58 (fun g => #[.slice (some ⟨(g 1).b, 0, none⟩) ((g 1).n) ((g 1).cap), .slice (some ⟨(g 3).b, 0, none⟩) ((g 3).n) ((g 3).cap)]) (fun g => fun w => w.heap[(g 1).b]? = some (.cells (g 1).cur 3 (0, 0)) ∧ w.heap[(g 3).b]? = some (.cells (g 3).cur 3 (0, 0))) 3 1 (fun g curZ capZ nZ lZ => (nZ = List.length lZ ∧ Rw 1 curZ capZ nZ (cellsD lZ) ∧ Ok lZ ∧ (vl lZ = vl ((g 1).l) * vl ((g 3).l) ∧ List.length lZ = List.length ((g 1).l) + List.length ((g 3).l) + 1))) 5 (fun L g hN hF => by have hf1 := (hF.1 (hN.bef 1 kr)); have hf3 := (hF.2.1 (hN.bef 3 kr)); exact times_fn ((g 1).l) ((g 3).l) ((g 1).b) ((g 1).n) ((g 1).cap) ((g 3).b) ((g 3).n) ((g 3).cap) ((g 1).cur) ((g 3).cur) hf1.1 hf3.1 hf1.2.1 hf3.2.1 hf1.2.2.1 hf3.2.2.1 (by have := hf1.2.2.2; omega) (by have := hf3.2.2.2; omega)) (fun L g w hN hE hF => by have hf1 := (hF.1 (hN.bef 1 kr)); have hf3 := (hF.2.1 (hN.bef 3 kr)); exact ⟨(hE.get 3 (by have hL1 : L 1 = true := (hN.bef 1 kr); exact D2.ent_get' (p := L 1) (e := ((g 1).b, Obj.cells ((g 1).cur) 3 (0, 0))) kr (by exact hL1) (by simp only [] <;> rfl))), (hE.get 4 (by have hL3 : L 3 = true := (hN.bef 3 kr); exact D2.ent_get' (p := L 3) (e := ((g 3).b, Obj.cells ((g 3).cur) 3 (0, 0))) kr (by exact hL3) (by simp only [] <;> rfl)))⟩) (fun g w => by kernel_rfl) (fun L g x hN => kr) (fun L g x hN hF hS => ⟨hF.1, hF.2.1, fun _ => hS, trivial⟩)
  · exact D2.gv_val (fun _ _ _ h => h) (fun g w => by kernel_rfl)
  · exact D2.gv_callP 57 (fun g => #[.slice (some ⟨(g 4).b, 0, none⟩) ((g 4).n) ((g 4).cap), .int .i64 1]) (fun g => fun w => w.heap[(g 4).b]? = some (.cells (g 4).cur 3 (0, 0))) (fun _ _ _ h => h) (fun L g hN hF => by have hf4 := (hF.2.2.1 (hN.bef 4 kr)); have hf1 := (hF.1 (hN.2.2.yes 1 4 kr (hN.bef 4 kr))); have hf3 := (hF.2.1 (hN.2.2.yes 3 4 kr (hN.bef 4 kr))); exact (by have hnum := left021_fn ((g 4).l) ((g 4).b) ((g 4).n) ((g 4).cap) ((g 4).cur) hf4.1 hf4.2.1 (by have := hf4.2.2.2; omega) hf4.2.2.1; have heq : (vl ((g 4).l) % NR) = (fMul A B NR) := (by have e1 := hf1.2.2.2; have e3 := hf3.2.2.2; have e4 := hf4.2.2.2; unfold fMul; rw [e4.1, e1.2.1, e3.2.1]); rw [heq] at hnum; exact hnum)) (fun L g w hN hE hF => by have hf4 := (hF.2.2.1 (hN.bef 4 kr)); have hf1 := (hF.1 (hN.2.2.yes 1 4 kr (hN.bef 4 kr))); have hf3 := (hF.2.1 (hN.2.2.yes 3 4 kr (hN.bef 4 kr))); exact (hE.get 5 (by have hL4 : L 4 = true := (hN.bef 4 kr); exact D2.ent_get' (p := L 4) (e := ((g 4).b, Obj.cells ((g 4).cur) 3 (0, 0))) kr (by exact hL4) (by simp only [hL4, cond_true, cond_false] <;> rfl)))) (fun g w => by kernel_rfl)
  · exact D2.gv_store 2 24 (.tmp 6) (.tmp 13) (fun g => (gs1 2).b) (fun g => 0) #[.int .u64 0, .int .u64 0, .int .u64 0, .int .u64 0] (Value.cells (uv (fMul A B NR))) 24 (uv (fMul A B NR)) (fun g => by kernel_rfl) (fun g => by kernel_rfl) (fun g => by kernel_rfl) kr kr (fun g => (of_decide_eq_true kr)) (fun g => kr) (fun L g hN => ⟨(by have hL7 : L 7 = false := hN.1; exact D2.ent_get' (p := true) (e := (bif L 7 then ((gs1 2).b, Obj.cells (Value.cells (uv (fMul A B NR))) 24 (0, 0)) else ((gs1 2).b, Obj.cells #[.int .u64 0, .int .u64 0, .int .u64 0, .int .u64 0] 24 (0, 0)))) kr (by rfl) (by simp only [hL7, cond_true, cond_false] <;> rfl)), kr⟩) (fun L g hN hF => hF)
  intro L0 G2 w2 hall HL; clear HL1
  have H2 : St w.heap.size w w2 [((gs1 0).b, Obj.cells (Value.cells (uv A)) 24 (0, 0)), ((gs1 1).b, Obj.cells (Value.cells (uv B)) 24 (0, 0)), ((gs1 2).b, Obj.cells (Value.cells (uv (fMul A B NR))) 24 (0, 0)), ((G2 1).b, Obj.cells ((G2 1).cur) 3 (0, 0)), ((G2 3).b, Obj.cells ((G2 3).cur) 3 (0, 0)), ((G2 4).b, Obj.cells ((G2 4).cur) 3 (0, 0))] := by have e1 := hall 1 (Nat.le_of_ble_eq_true kr); have e3 := hall 3 (Nat.le_of_ble_eq_true kr); have e4 := hall 4 (Nat.le_of_ble_eq_true kr); have e7 := hall 7 (Nat.le_of_ble_eq_true kr); have hS := D2.StE.st HL.1; simp only [e1, e3, e4, e7, cond_true, D2.pres] at hS; exact hS
  have hf1_2 : ((G2 1).n = List.length ((G2 1).l) ∧ Rw 1 (G2 1).cur (G2 1).cap (G2 1).n (cellsD ((G2 1).l)) ∧ Ok ((G2 1).l) ∧ ((G2 1).l = dgs A 16 ∧ vl ((G2 1).l) = A ∧ List.length ((G2 1).l) = 16)) := HL.2.1 (hall 1 (Nat.le_of_ble_eq_true kr))
  have hf3_2 : ((G2 3).n = List.length ((G2 3).l) ∧ Rw 1 (G2 3).cur (G2 3).cap (G2 3).n (cellsD ((G2 3).l)) ∧ Ok ((G2 3).l) ∧ ((G2 3).l = dgs B 16 ∧ vl ((G2 3).l) = B ∧ List.length ((G2 3).l) = 16)) := HL.2.2.1 (hall 3 (Nat.le_of_ble_eq_true kr))
  have hf4_2 : ((G2 4).n = List.length ((G2 4).l) ∧ Rw 1 (G2 4).cur (G2 4).cap (G2 4).n (cellsD ((G2 4).l)) ∧ Ok ((G2 4).l) ∧ (vl ((G2 4).l) = vl ((G2 1).l) * vl ((G2 3).l) ∧ List.length ((G2 4).l) = List.length ((G2 1).l) + List.length ((G2 3).l) + 1)) := HL.2.2.2.1 (hall 4 (Nat.le_of_ble_eq_true kr))
  clear HL hall
  refine g_ret kr ?_
  show ∃ vs, Res _ _ _ _ vs ∧ _
  refine ⟨[uv (fMul A B NR)], (.agg (b := (gs1 2).b) (Value.cells (uv (fMul A B NR))) 24 (0, 0) kr (H2.get 2 kr) kr .nil), ?_, H2.below⟩
  rfl
end Go.Proofs.YtmmloghbnpfedaaDoor

namespace Go.Proofs.YtmmloghbnpfedaaDoor
open Go Go.RowKit
set_option linter.unusedVariables false
@[reducible] def wu0 (n : Nat) : Int := w0 n
@[reducible] def wu1 (n : Nat) : Int := w1 n
@[reducible] def wu2 (n : Nat) : Int := w2 n
@[reducible] def wu3 (n : Nat) : Int := w3 n
def pv (p : Ec.Pd) : Value := .agg #[.int .u64 (w0 p.X), .int .u64 (w1 p.X), .int .u64 (w2 p.X), .int .u64 (w3 p.X), .int .u64 (w0 p.Y), .int .u64 (w1 p.Y), .int .u64 (w2 p.Y), .int .u64 (w3 p.Y), .bool p.b]
def wv (p : Ec.Wp) : Value := .agg #[.int .u64 (w0 p.X), .int .u64 (w1 p.X), .int .u64 (w2 p.X), .int .u64 (w3 p.X), .int .u64 (w0 p.Y), .int .u64 (w1 p.Y), .int .u64 (w2 p.Y), .int .u64 (w3 p.Y), .bool p.b, .int .u64 (w0 p.Z), .int .u64 (w1 p.Z), .int .u64 (w2 p.Z), .int .u64 (w3 p.Z)]
theorem pd_eq {p q : Ec.Pd} : (decide (p.X = q.X) && (decide (p.Y = q.Y) && (p.b == q.b))) = decide (p = q) := by
  obtain ⟨X, Y, b⟩ := p
  obtain ⟨X', Y', b'⟩ := q
  rw [Bool.eq_iff_iff]
  simp only [Bool.and_eq_true, decide_eq_true_iff, beq_iff_eq]
  exact ⟨fun ⟨a, b, c⟩ => by subst a b c; rfl, fun h => by injection h with a b c; exact ⟨a, b, c⟩⟩
theorem eqP (p q : Ec.Pd) (hp : p.Ok) (hq : q.Ok) (w : World) : (Op.equalIn 10000 26 (.agg (Value.cells (pv p))) (.agg (Value.cells (pv q)))).run Tryd.prog w = .ok (decide (p = q)) w := by
  rw [run_equalIn_struct w 9999 26 _ _ kr kr,
    show (Tryd.prog.fieldsOf 26).toList = [{ name := "X", type := 24, offset := 0, embedded := false, tag := "", pkgPath := "", byteOffset := 0 }, { name := "Y", type := 24, offset := 4, embedded := false, tag := "", pkgPath := "", byteOffset := 32 }, { name := "Zero", type := 4, offset := 8, embedded := false, tag := "", pkgPath := "", byteOffset := 64 }] by kernel_rfl]
  have px : ∀ p, (part 24 (Value.cells (pv p)) 0).run Tryd.prog w = .ok (uv p.X) w := fun p => by kernel_rfl
  have py : ∀ p, (part 24 (Value.cells (pv p)) 4).run Tryd.prog w = .ok (uv p.Y) w := fun p => by kernel_rfl
  have pb : ∀ p, (part 4 (Value.cells (pv p)) 8).run Tryd.prog w = .ok (.bool p.b) w := fun p => by kernel_rfl
  have ex : (Op.equalIn 9999 24 (uv p.X) (uv q.X)).run Tryd.prog w = .ok (decide (p.X = q.X)) w := by
    rw [← uv_words hp.X hq.X]; exact eqU_any 9997 _ _ _ _ _ _ _ _ w
  have ey : (Op.equalIn 9999 24 (uv p.Y) (uv q.Y)).run Tryd.prog w = .ok (decide (p.Y = q.Y)) w := by
    rw [← uv_words hp.Y hq.Y]; exact eqU_any 9997 _ _ _ _ _ _ _ _ w
  have eb : (Op.equalIn 9999 4 (.bool p.b) (.bool q.b)).run Tryd.prog w = .ok (p.b == q.b) w := run_equalIn_bool w 9998 4 _ _ Tryd.underlying4
  have n1 : ("X" : String) ≠ "_" := by decide
  have n2 : ("Y" : String) ≠ "_" := by decide
  have n3 : ("Zero" : String) ≠ "_" := by decide
  rw [← pd_eq]
  simp only [Op.eqFields, if_pos n1, if_pos n2, if_pos n3, Sem.run_bind, px, Result.andThen_ok, ex]
  cases decide (p.X = q.X)
  · simp
  · simp only [py, Bool.not_true, Bool.false_eq_true, if_false, Result.andThen_ok, ey, Sem.run_ite, Sem.run_bind, Bool.true_and]
    cases decide (p.Y = q.Y)
    · simp
    · simp only [pb, Bool.not_true, Bool.false_eq_true, if_false, Result.andThen_ok, eb, Bool.true_and]
      cases (p.b == q.b) <;> simp
theorem eqP_run {ρ : Env} (p q : Ec.Pd) (hp : p.Ok) (hq : q.Ok) {x y : Operand} {o : Oper} (w : World) (ho : o.op = .binOp .eql 26 x y 26) (hx : ev ρ x = .agg (Value.cells (pv p))) (hy : ev ρ y = .agg (Value.cells (pv q))) :
    (execOp (ev ρ) o).run Tryd.prog w = .ok (.value (.bool (decide (p = q)))) w := by
  have h := eqP p q hp hq w
  generalize Value.cells (pv p) = X at h hx
  generalize Value.cells (pv q) = Y at h hy
  unfold execOp
  simp only [ho, hx, hy, Sem.run_bind, Sem.run_pure, Result.andThen_ok, run_eqGuard_agg w _ _ _ _ _ _ (show Tryd.prog.eqGuardType Tryd.prog.depth 26 = false by kernel_rfl), run_eql_struct, h]
section
variable {P : Program} {N : Nat} {ops : Array Oper} {i : Nat} {r : List Nat} {K : Env → World → Prop} {ρ : Env} {w : World} {B : Nat} {w0 : World} {l : List (Nat × Obj)}
/-- A call that hands over the address of a block of its own. -/
def RetP (T : TypeId) (C : Array Value) : Nat → Value → World → Prop := fun B v w' => ∃ b, v = .pointer (some ⟨b, 0, none⟩) ∧ B ≤ b ∧ w'.heap[b]? = some (.cells C T (0, 0))
theorem s_callN (HS : St B w0 w l) (d : Option Nat) (f : Nat) (args : Array Value) (pre : World → Prop) (T : TypeId) (C : Array Value) (hc : FnR P f args pre (RetP T C)) (hp : pre w)
    (h : opv P ops i ρ w = some (d, true, .ok (.enter f args) w)) (hd : dOK d N = true)
    (kk : ∀ b w', St B w0 w' ((b, .cells C T (0, 0)) :: l) → WPs P N ops K r (updO ρ d (.pointer (some ⟨b, 0, none⟩))) w') : WPs P N ops K (i :: r) ρ w := by
  obtain ⟨o, ho, rfl, hw, hr⟩ := opv_some h
  refine WPo.run ho hw fun a ha => ?_
  rw [hr, Oper.upon_enter]
  refine (hc w hp).mono ?_
  rintro e w' ⟨v, rfl, hb, b, rfl, hle, hh⟩
  exact ⟨_, ha.put _ (dOK_lt hd) _, kk b w' (HS.add hb hle hh)⟩
end
namespace D2
section
variable {P : Program} {ops : Array Oper} {R : (Nat → Gh) → Env} {i : Nat} {d : Option Nat}
variable {E : (Nat → Bool) → (Nat → Gh) → List Ent} {F : (Nat → Bool) → (Nat → Gh) → Prop} {B : Nat} {w0 : World}
theorem gv_callN (f : Nat) (args : (Nat → Gh) → Array Value) (pr : (Nat → Gh) → World → Prop) (T : TypeId) (C : Array Value) (k : Nat)
    (hc : ∀ L g, Now ops i L → F L g → FnR P f (args g) (pr g) (RetP T C)) (hpr : ∀ L g w, Now ops i L → StE B w0 w (E L g) → F L g → pr g w) (h : ∀ g w, opv P ops i (R g) w = some (d, true, .ok (.enter f (args g)) w))
    (hl : ∀ L g b, Now ops i L → (E L g).set k (true, (b, .cells C T (0, 0))) = E (put1 L i) (setN g i { b := b })) (hF : ∀ L g b, Now ops i L → F L g → F (put1 L i) (setN g i b)) :
    Gives P ops R (Pre B w0 E F) i d (fun x => .pointer (some ⟨x.b, 0, none⟩)) :=
  gv_callR f args pr (fun g => RetP T C) hc hpr h fun L g w v w' hN hE hFF hb ⟨b, hv, hle, hh⟩ => by
    have H2 := hE.add hb k hle hh
    rw [hl L g b hN] at H2
    exact ⟨{ b := b }, hv, H2, hF L g _ hN hFF⟩
/-- A new block whose cells hang on what others made. -/
theorem gv_newC (V : Nat → Value) (C : (Nat → Gh) → Array Value) (T : TypeId) (k : Nat) (h : ∀ g w, opv P ops i (R g) w = some (d, true, .ok (.value (V w.heap.size)) (w.alloc (.cells (C g) T (0, 0)))))
    (hl : ∀ L g (x : Gh), Now ops i L → (E L g).set k (true, (x.b, .cells x.cur T (0, 0))) = E (put1 L i) (setN g i x)) (hF : ∀ L g b, Now ops i L → F L g → F (put1 L i) (setN g i { b := b, cur := C g })) :
    Gives P ops R (Pre B w0 E F) i d (fun b => V b.b) := gives_of fun L g w hp hN => by
  obtain ⟨o, ho, hd, hw, hr⟩ := opv_some (h g w)
  have H2 := hp.1.add (w' := w.alloc (.cells (C g) T (0, 0))) ((Below.refl _ _).alloc (Nat.le_refl _) _) k (Nat.le_refl _) (heap_alloc_new w _)
  rw [hl L g { b := w.heap.size, cur := C g } hN] at H2
  exact ⟨o, ho, hd, .inr ⟨hw, by rw [hr]; exact ⟨{ b := w.heap.size, cur := C g }, rfl, H2, hF L g _ hN hp.2⟩⟩⟩
end
end D2
end Go.Proofs.YtmmloghbnpfedaaDoor

namespace Go.Proofs.YtmmloghbnpfedaaDoor
open Go Go.RowKit
set_option linter.unusedVariables false
theorem cm_lt {A B : Nat} (h : A < B) : cm A B < 0 := by unfold cm; split <;> (try split) <;> omega
theorem cm_nlt {A B : Nat} (h : ¬ A < B) : ¬ cm A B < 0 := by unfold cm; split <;> (try split) <;> omega
set_option maxRecDepth 100000 in
set_option maxHeartbeats 2000000 in
theorem pmul_fn (A B : Nat) (hA : A < big) (hB : B < big) : Fn Tryd.prog 63 #[uv A, uv B] (uv (fMul A B PR)) := by
  refine Fn.intro (c := codeOf Tryd.f63) [.cell 4 24] 14 Tryd.func63 kr kr kr fun w => ?_
  have H0 := St.start w
  refine rS [.b, .b, .a] H0 kr fun gs1 w1 H1 => ?_
  clear H0
  refine rS [.l 0, .l 1, .c (fmul0_fn A B hA hB), .v, .v, .v, .a, .s 3, .v] H1 kr fun gs2 w2 H2 => ?_
  clear H1
  refine rS [.l 3, .s 2] H2 kr fun gs3 w3 H3 => ?_
  clear H2
  refine g_ret kr ?_
  show ∃ vs, Res _ _ _ _ vs ∧ _
  refine ⟨[uv (fMul A B PR)], (.agg (b := (gs1 2).b) (Value.cells (uv (fMul A B PR))) 24 (0, 0) kr (H3.get 2 kr) kr .nil), ?_, H3.below⟩
  rfl
set_option maxRecDepth 100000 in
set_option maxHeartbeats 2000000 in
theorem psum_fn (A B : Nat) (hA : A < big) (hB : B < big) : Fn Tryd.prog 82 #[uv A, uv B] (uv (fAdd A B PR)) := by
  refine Fn.intro (c := codeOf Tryd.f82) [.cell 4 24] 14 Tryd.func82 kr kr kr fun w => ?_
  have H0 := St.start w
  refine rS [.b, .b, .a] H0 kr fun gs1 w1 H1 => ?_
  clear H0
  refine rS [.l 0, .l 1, .c (fadd0_fn A B hA hB), .v, .v, .v, .a, .s 3, .v] H1 kr fun gs2 w2 H2 => ?_
  clear H1
  refine rS [.l 3, .s 2] H2 kr fun gs3 w3 H3 => ?_
  clear H2
  refine g_ret kr ?_
  show ∃ vs, Res _ _ _ _ vs ∧ _
  refine ⟨[uv (fAdd A B PR)], (.agg (b := (gs1 2).b) (Value.cells (uv (fAdd A B PR))) 24 (0, 0) kr (H3.get 2 kr) kr .nil), ?_, H3.below⟩
  rfl
set_option maxRecDepth 100000 in
set_option maxHeartbeats 2000000 in
theorem pless_fn (A B : Nat) (hA : A < big) (hB : B < big) : Fn Tryd.prog 51 #[uv A, uv B] (uv (fSub A B PR)) := by
  refine Fn.intro (c := codeOf Tryd.f51) [.cell 4 24] 14 Tryd.func51 kr kr kr fun w => ?_
  have H0 := St.start w
  refine rS [.b, .b, .a] H0 kr fun gs1 w1 H1 => ?_
  clear H0
  refine rS [.l 0, .l 1, .c (fsub0_fn A B hA hB), .v, .v, .v, .a, .s 3, .v] H1 kr fun gs2 w2 H2 => ?_
  clear H1
  refine rS [.l 3, .s 2] H2 kr fun gs3 w3 H3 => ?_
  clear H2
  refine g_ret kr ?_
  show ∃ vs, Res _ _ _ _ vs ∧ _
  refine ⟨[uv (fSub A B PR)], (.agg (b := (gs1 2).b) (Value.cells (uv (fSub A B PR))) 24 (0, 0) kr (H3.get 2 kr) kr .nil), ?_, H3.below⟩
  rfl
set_option maxRecDepth 100000 in
set_option maxHeartbeats 2000000 in
theorem red_yes (A : Nat) (hA : A < big) (h : A < PR) : Fn Tryd.prog 48 #[uv A] (.bool true) := by
  refine Fn.intro (c := codeOf Tryd.f48) [.tmp 2] 13 Tryd.func48 kr kr kr fun w => ?_
  have H0 := St.start w
  refine rS [.b, .v] H0 kr fun gs1 w1 H1 => ?_
  clear H0
  refine rS [.c prime0_fn, .v, .v, .v, .a, .s 1, .v] H1 kr fun gs2 w2 H2 => ?_
  clear H1
  refine rS [.l 0, .l 1, .c (cmp_fn A PR hA pr_ok.1), .e (v := .bool (decide (cm A PR < 0))) (v' := .bool true) (bool_eq (decide_eq_true (cm_lt h))), .v] H2 kr fun gs3 w3 H3 => ?_
  clear H2
  refine g_ret kr ?_
  show ∃ vs, Res _ _ _ _ vs ∧ _
  refine ⟨[.bool true], (.tmp (.bool true) kr .nil), ?_, H3.below⟩
  rfl
set_option maxRecDepth 100000 in
set_option maxHeartbeats 2000000 in
theorem red_no (A : Nat) (hA : A < big) (h : ¬ A < PR) : Fn Tryd.prog 48 #[uv A] (.bool false) := by
  refine Fn.intro (c := codeOf Tryd.f48) [.tmp 2] 13 Tryd.func48 kr kr kr fun w => ?_
  have H0 := St.start w
  refine rS [.b, .v] H0 kr fun gs1 w1 H1 => ?_
  clear H0
  refine rS [.c prime0_fn, .v, .v, .v, .a, .s 1, .v] H1 kr fun gs2 w2 H2 => ?_
  clear H1
  refine rS [.l 0, .l 1, .c (cmp_fn A PR hA pr_ok.1), .e (v := .bool (decide (cm A PR < 0))) (v' := .bool false) (bool_eq (decide_eq_false (cm_nlt h))), .v] H2 kr fun gs3 w3 H3 => ?_
  clear H2
  refine g_ret kr ?_
  show ∃ vs, Res _ _ _ _ vs ∧ _
  refine ⟨[.bool false], (.tmp (.bool false) kr .nil), ?_, H3.below⟩
  rfl
set_option maxRecDepth 100000 in
set_option maxHeartbeats 2000000 in
theorem square_fn (A : Nat) (hA : A < big) : Fn Tryd.prog 50 #[uv A] (uv (Ec.sqN A)) := by
  refine Fn.intro (c := codeOf Tryd.f50) [.cell 2 24] 10 Tryd.func50 kr kr kr fun w => ?_
  have H0 := St.start w
  refine rS [.b, .a] H0 kr fun gs1 w1 H1 => ?_
  clear H0
  refine dS [.l 0, .l 0, .c (pmul_fn A A hA hA), .l 0, .c (pmul_fn (fMul A A PR) A (fMul_lt pr_ok) hA), .c (small_fn 7 (by omega)), .c (psum_fn (fMul (fMul A A PR) A PR) 7 (fMul_lt pr_ok) (by unfold big; omega)), .s 1] H1 kr fun w2 H2 => ?_
  clear H1
  refine g_ret kr ?_
  show ∃ vs, Res _ _ _ _ vs ∧ _
  refine ⟨[uv (fAdd (fMul (fMul A A PR) A PR) 7 PR)], (.agg (b := (gs1 1).b) (Value.cells (uv (fAdd (fMul (fMul A A PR) A PR) 7 PR))) 24 (0, 0) kr (H2.get 1 kr) kr .nil), ?_, H2.below⟩
  rfl
set_option maxRecDepth 100000 in
set_option maxHeartbeats 2000000 in
theorem pzero_fn  : Fn Tryd.prog 62 #[] (wv Ec.zeroW) := by
  refine Fn.intro (c := codeOf Tryd.f62) [.cell 0 65] 3 Tryd.func62 kr kr kr fun w => ?_
  have H0 := St.start w
  refine rS [.a] H0 kr fun gs1 w1 H1 => ?_
  clear H0
  refine rS [.v, .v, .s 0] H1 kr fun gs2 w2 H2 => ?_
  clear H1
  refine g_ret kr ?_
  show ∃ vs, Res _ _ _ _ vs ∧ _
  refine ⟨[wv (Ec.Wp.mk 0 0 true 0)], (.agg (b := (gs1 0).b) (Value.cells (wv (Ec.Wp.mk 0 0 true 0))) 65 (0, 0) kr (H2.get 0 kr) kr .nil), ?_, H2.below⟩
  rfl
set_option maxRecDepth 100000 in
set_option maxHeartbeats 2000000 in
theorem widen_fn (p : Ec.Pd) (hp : p.Ok) : Fn Tryd.prog 75 #[pv p] (wv (Ec.widenW p)) := by
  refine Fn.intro (c := codeOf Tryd.f75) [.cell 2 65] 6 Tryd.func75 kr kr kr fun w => ?_
  have H0 := St.start w
  refine rS [.b, .a] H0 kr fun gs1 w1 H1 => ?_
  clear H0
  refine dS [.l 0, .c (small_fn 1 (by omega)), .v, .s 1] H1 kr fun w2 H2 => ?_
  clear H1
  refine g_ret kr ?_
  show ∃ vs, Res _ _ _ _ vs ∧ _
  refine ⟨[wv (Ec.Wp.mk (Ec.Pd.X p) (Ec.Pd.Y p) (Ec.Pd.b p) 1)], (.agg (b := (gs1 1).b) (Value.cells (wv (Ec.Wp.mk (Ec.Pd.X p) (Ec.Pd.Y p) (Ec.Pd.b p) 1))) 65 (0, 0) kr (H2.get 1 kr) kr .nil), ?_, H2.below⟩
  rfl
set_option maxRecDepth 100000 in
set_option maxHeartbeats 2000000 in
theorem third_fn (r x o y z : Nat) (hr : r < big) (hx : x < big) (ho : o < big) (hy : y < big) (hz : z < big) : Fn Tryd.prog 92 #[uv r, uv x, uv o, uv y, uv z] (wv (Ec.thirdW r x o y z)) := by
  refine Fn.intro (c := codeOf Tryd.f92) [.cell 10 65] 30 Tryd.func92 kr kr kr fun w => ?_
  have H0 := St.start w
  refine rS [.b, .b, .b, .b, .b, .a] H0 kr fun gs1 w1 H1 => ?_
  clear H0
  refine dSg (fun gs2 => [.l 0, .l 0, .c (pmul_fn r r hr hr), .l 1, .c (pless_fn (fMul r r PR) x (fMul_lt pr_ok) hx), .l 2, .c (pless_fn (fSub (fMul r r PR) x PR) o (fSub_lt pr_ok) ho), .a, .s 6]) H1 kr fun gs2 w2 H2 => ?_
  clear H1
  refine dS [.l 6, .l 0, .l 1, .l 6, .c (pless_fn x (fSub (fSub (fMul r r PR) x PR) o PR) hx (fSub_lt pr_ok)), .c (pmul_fn r (fSub x (fSub (fSub (fMul r r PR) x PR) o PR) PR) hr (fSub_lt pr_ok)), .l 3, .c (pless_fn (fMul r (fSub x (fSub (fSub (fMul r r PR) x PR) o PR) PR) PR) y (fMul_lt pr_ok) hy), .v, .l 4, .v, .s 5] H2 kr fun w3 H3 => ?_
  clear H2
  refine g_ret kr ?_
  show ∃ vs, Res _ _ _ _ vs ∧ _
  refine ⟨[wv (Ec.Wp.mk (fSub (fSub (fMul r r PR) x PR) o PR) (fSub (fMul r (fSub x (fSub (fSub (fMul r r PR) x PR) o PR) PR) PR) y PR) false z)], (.agg (b := (gs1 5).b) (Value.cells (wv (Ec.Wp.mk (fSub (fSub (fMul r r PR) x PR) o PR) (fSub (fMul r (fSub x (fSub (fSub (fMul r r PR) x PR) o PR) PR) PR) y PR) false z))) 65 (0, 0) kr (H3.get 5 kr) kr .nil), ?_, H3.below⟩
  rfl
set_option maxRecDepth 100000 in
set_option maxHeartbeats 2000000 in
theorem dbl_fn (p : Ec.Wp) (hp : p.Ok) : Fn Tryd.prog 72 #[wv p] (wv (Ec.dblW p)) := by
  refine Fn.intro (c := codeOf Tryd.f72) [.cell 2 65] 57 Tryd.func72 kr kr kr fun w => ?_
  have H0 := St.start w
  refine rS [.b, .a] H0 kr fun gs1 w1 H1 => ?_
  clear H0
  refine g_seq kr ?_
  refine rS [.v, .v, .l 0] H1 kr fun gs2 w2 H2 => ?_
  clear H1
  rcases (Bool.eq_false_or_eq_true (Ec.Wp.b p)).symm with hb1 | hb1
  · skip
    refine g_now 11 (v := .bool (Ec.Wp.b p)) (v' := .bool false) (bool_eq hb1) kr ?_
    refine g_cond_f kr kr ?_
    refine g_skip kr ?_
    show WP _ _ _ _ _ _
    refine rS [.v, .v, .l 0, .v, .v, .l 0, .c (psum_fn (Ec.Wp.Y p) (Ec.Wp.Y p) hp.Y hp.Y), .a, .s 2] H2 kr fun gs3 w3 H3 => ?_
    clear H2
    refine rS [.l 2, .v, .v, .l 0, .c (pmul_fn (fAdd (Ec.Wp.Y p) (Ec.Wp.Y p) PR) (Ec.Wp.Y p) (fAdd_lt pr_ok) hp.Y), .a, .s 3] H3 kr fun gs4 w4 H4 => ?_
    clear H3
    refine g_keep [0, 1, 2, 3, 4, 11] fun ρ1 => ?_
    have HK1 := H4.keep
    clear H4
    refine rS [.l 3, .l 3, .c (psum_fn (fMul (fAdd (Ec.Wp.Y p) (Ec.Wp.Y p) PR) (Ec.Wp.Y p) PR) (fMul (fAdd (Ec.Wp.Y p) (Ec.Wp.Y p) PR) (Ec.Wp.Y p) PR) (fMul_lt pr_ok) (fMul_lt pr_ok)), .a, .s 4] HK1 kr fun gs5 w5 H5 => ?_
    clear HK1
    refine rS [.v, .v, .l 0, .v, .v, .l 0, .c (pmul_fn (Ec.Wp.X p) (Ec.Wp.X p) hp.X hp.X), .a, .s 5] H5 kr fun gs6 w6 H6 => ?_
    clear H5
    refine dS [.l 5, .l 5, .c (psum_fn (fMul (Ec.Wp.X p) (Ec.Wp.X p) PR) (fMul (Ec.Wp.X p) (Ec.Wp.X p) PR) (fMul_lt pr_ok) (fMul_lt pr_ok)), .l 5, .c (psum_fn (fAdd (fMul (Ec.Wp.X p) (Ec.Wp.X p) PR) (fMul (Ec.Wp.X p) (Ec.Wp.X p) PR) PR) (fMul (Ec.Wp.X p) (Ec.Wp.X p) PR) (fAdd_lt pr_ok) (fMul_lt pr_ok)), .s 5] H6 kr fun w7 H7 => ?_
    clear H6
    refine g_keep [0, 1, 2, 3, 4, 5, 6, 11] fun ρ2 => ?_
    have HK2 := H7.keep
    clear H7
    refine dSg (fun gs8 => [.v, .v, .l 0, .l 4, .c (pmul_fn (Ec.Wp.X p) (fAdd (fMul (fAdd (Ec.Wp.Y p) (Ec.Wp.Y p) PR) (Ec.Wp.Y p) PR) (fMul (fAdd (Ec.Wp.Y p) (Ec.Wp.Y p) PR) (Ec.Wp.Y p) PR) PR) hp.X (fAdd_lt pr_ok)), .l 4, .l 3, .c (pmul_fn (fAdd (fMul (fAdd (Ec.Wp.Y p) (Ec.Wp.Y p) PR) (Ec.Wp.Y p) PR) (fMul (fAdd (Ec.Wp.Y p) (Ec.Wp.Y p) PR) (Ec.Wp.Y p) PR) PR) (fMul (fAdd (Ec.Wp.Y p) (Ec.Wp.Y p) PR) (Ec.Wp.Y p) PR) (fAdd_lt pr_ok) (fMul_lt pr_ok)), .a, .a, .s 6, .s 7]) HK2 kr fun gs8 w8 H8 => ?_
    clear HK2
    refine dS [.l 5, .l 6, .l 6, .l 7, .l 2, .v, .l 0, .c (pmul_fn (fAdd (Ec.Wp.Y p) (Ec.Wp.Y p) PR) (Ec.Wp.Z p) (fAdd_lt pr_ok) hp.Z), .c (third_fn (fAdd (fAdd (fMul (Ec.Wp.X p) (Ec.Wp.X p) PR) (fMul (Ec.Wp.X p) (Ec.Wp.X p) PR) PR) (fMul (Ec.Wp.X p) (Ec.Wp.X p) PR) PR) (fMul (Ec.Wp.X p) (fAdd (fMul (fAdd (Ec.Wp.Y p) (Ec.Wp.Y p) PR) (Ec.Wp.Y p) PR) (fMul (fAdd (Ec.Wp.Y p) (Ec.Wp.Y p) PR) (Ec.Wp.Y p) PR) PR) PR) (fMul (Ec.Wp.X p) (fAdd (fMul (fAdd (Ec.Wp.Y p) (Ec.Wp.Y p) PR) (Ec.Wp.Y p) PR) (fMul (fAdd (Ec.Wp.Y p) (Ec.Wp.Y p) PR) (Ec.Wp.Y p) PR) PR) PR) (fMul (fAdd (fMul (fAdd (Ec.Wp.Y p) (Ec.Wp.Y p) PR) (Ec.Wp.Y p) PR) (fMul (fAdd (Ec.Wp.Y p) (Ec.Wp.Y p) PR) (Ec.Wp.Y p) PR) PR) (fMul (fAdd (Ec.Wp.Y p) (Ec.Wp.Y p) PR) (Ec.Wp.Y p) PR) PR) (fMul (fAdd (Ec.Wp.Y p) (Ec.Wp.Y p) PR) (Ec.Wp.Z p) PR) (fAdd_lt pr_ok) (fMul_lt pr_ok) (fMul_lt pr_ok) (fMul_lt pr_ok) (fMul_lt pr_ok)), .s 1] H8 kr fun w9 H9 => ?_
    clear H8
    refine g_ret kr ?_
    show ∃ vs, Res _ _ _ _ vs ∧ _
    refine ⟨[wv (Ec.thirdW (fAdd (fAdd (fMul (Ec.Wp.X p) (Ec.Wp.X p) PR) (fMul (Ec.Wp.X p) (Ec.Wp.X p) PR) PR) (fMul (Ec.Wp.X p) (Ec.Wp.X p) PR) PR) (fMul (Ec.Wp.X p) (fAdd (fMul (fAdd (Ec.Wp.Y p) (Ec.Wp.Y p) PR) (Ec.Wp.Y p) PR) (fMul (fAdd (Ec.Wp.Y p) (Ec.Wp.Y p) PR) (Ec.Wp.Y p) PR) PR) PR) (fMul (Ec.Wp.X p) (fAdd (fMul (fAdd (Ec.Wp.Y p) (Ec.Wp.Y p) PR) (Ec.Wp.Y p) PR) (fMul (fAdd (Ec.Wp.Y p) (Ec.Wp.Y p) PR) (Ec.Wp.Y p) PR) PR) PR) (fMul (fAdd (fMul (fAdd (Ec.Wp.Y p) (Ec.Wp.Y p) PR) (Ec.Wp.Y p) PR) (fMul (fAdd (Ec.Wp.Y p) (Ec.Wp.Y p) PR) (Ec.Wp.Y p) PR) PR) (fMul (fAdd (Ec.Wp.Y p) (Ec.Wp.Y p) PR) (Ec.Wp.Y p) PR) PR) (fMul (fAdd (Ec.Wp.Y p) (Ec.Wp.Y p) PR) (Ec.Wp.Z p) PR))], (.agg (b := (gs1 1).b) (Value.cells (wv (Ec.thirdW (fAdd (fAdd (fMul (Ec.Wp.X p) (Ec.Wp.X p) PR) (fMul (Ec.Wp.X p) (Ec.Wp.X p) PR) PR) (fMul (Ec.Wp.X p) (Ec.Wp.X p) PR) PR) (fMul (Ec.Wp.X p) (fAdd (fMul (fAdd (Ec.Wp.Y p) (Ec.Wp.Y p) PR) (Ec.Wp.Y p) PR) (fMul (fAdd (Ec.Wp.Y p) (Ec.Wp.Y p) PR) (Ec.Wp.Y p) PR) PR) PR) (fMul (Ec.Wp.X p) (fAdd (fMul (fAdd (Ec.Wp.Y p) (Ec.Wp.Y p) PR) (Ec.Wp.Y p) PR) (fMul (fAdd (Ec.Wp.Y p) (Ec.Wp.Y p) PR) (Ec.Wp.Y p) PR) PR) PR) (fMul (fAdd (fMul (fAdd (Ec.Wp.Y p) (Ec.Wp.Y p) PR) (Ec.Wp.Y p) PR) (fMul (fAdd (Ec.Wp.Y p) (Ec.Wp.Y p) PR) (Ec.Wp.Y p) PR) PR) (fMul (fAdd (Ec.Wp.Y p) (Ec.Wp.Y p) PR) (Ec.Wp.Y p) PR) PR) (fMul (fAdd (Ec.Wp.Y p) (Ec.Wp.Y p) PR) (Ec.Wp.Z p) PR)))) 65 (0, 0) kr (H9.get 1 kr) kr .nil), ?_, H9.below⟩
    exact congrArg wv (Ec.dblW_2 hb1).symm
  · skip
    refine g_now 11 (v := .bool (Ec.Wp.b p)) (v' := .bool true) (bool_eq hb1) kr ?_
    refine g_cond_t kr kr ?_
    refine rS [.l 0, .s 1] H2 kr fun gs10 w10 H10 => ?_
    clear H2
    refine g_ret kr ?_
    show ∃ vs, Res _ _ _ _ vs ∧ _
    refine ⟨[wv p], (.agg (b := (gs1 1).b) (Value.cells (wv p)) 65 (0, 0) kr (H10.get 1 kr) kr .nil), ?_, H10.below⟩
    exact congrArg wv (Ec.dblW_1 hb1).symm
set_option maxRecDepth 100000 in
set_option maxHeartbeats 2000000 in
theorem plus_fn (p q : Ec.Wp) (hp : p.Ok) (hq : q.Ok) : Fn Tryd.prog 73 #[wv p, wv q] (wv (Ec.plusW p q)) := by
  refine Fn.intro (c := codeOf Tryd.f73) [.cell 4 65] 99 Tryd.func73 kr kr kr fun w => ?_
  have H0 := St.start w
  refine rS [.b, .b, .a] H0 kr fun gs1 w1 H1 => ?_
  clear H0
  refine g_seq kr ?_
  refine rS [.v, .v, .l 0] H1 kr fun gs2 w2 H2 => ?_
  clear H1
  rcases (Bool.eq_false_or_eq_true (Ec.Wp.b p)).symm with hb1 | hb1
  · skip
    refine g_now 17 (v := .bool (Ec.Wp.b p)) (v' := .bool false) (bool_eq hb1) kr ?_
    refine g_cond_f kr kr ?_
    refine g_skip kr ?_
    show WP _ _ _ _ _ _
    refine g_seq kr ?_
    refine rS [.v, .v, .l 1] H2 kr fun gs3 w3 H3 => ?_
    clear H2
    rcases (Bool.eq_false_or_eq_true (Ec.Wp.b q)).symm with hb2 | hb2
    · skip
      refine g_now 21 (v := .bool (Ec.Wp.b q)) (v' := .bool false) (bool_eq hb2) kr ?_
      refine g_cond_f kr kr ?_
      refine g_skip kr ?_
      show WP _ _ _ _ _ _
      refine dSg (fun gs4 => [.v, .l 0, .v, .l 0, .c (pmul_fn (Ec.Wp.Z p) (Ec.Wp.Z p) hp.Z hp.Z), .v, .l 1, .v, .l 1, .c (pmul_fn (Ec.Wp.Z q) (Ec.Wp.Z q) hq.Z hq.Z), .a, .a, .s 3, .s 4]) H3 kr fun gs4 w4 H4 => ?_
      clear H3
      refine g_keep [0, 1, 2, 3, 4, 5, 6, 17, 21] fun ρ1 => ?_
      have HK1 := H4.keep
      clear H4
      refine dSg (fun gs5 => [.v, .v, .l 0, .l 4, .c (pmul_fn (Ec.Wp.X p) (fMul (Ec.Wp.Z q) (Ec.Wp.Z q) PR) hp.X (fMul_lt pr_ok)), .v, .v, .l 1, .l 3, .c (pmul_fn (Ec.Wp.X q) (fMul (Ec.Wp.Z p) (Ec.Wp.Z p) PR) hq.X (fMul_lt pr_ok)), .a, .a, .s 5, .s 6]) HK1 kr fun gs5 w5 H5 => ?_
      clear HK1
      refine dSg (fun gs6 => [.v, .v, .l 0, .l 4, .v, .l 1, .c (pmul_fn (fMul (Ec.Wp.Z q) (Ec.Wp.Z q) PR) (Ec.Wp.Z q) (fMul_lt pr_ok) hq.Z), .c (pmul_fn (Ec.Wp.Y p) (fMul (fMul (Ec.Wp.Z q) (Ec.Wp.Z q) PR) (Ec.Wp.Z q) PR) hp.Y (fMul_lt pr_ok)), .v, .v, .l 1, .l 3, .v, .l 0, .c (pmul_fn (fMul (Ec.Wp.Z p) (Ec.Wp.Z p) PR) (Ec.Wp.Z p) (fMul_lt pr_ok) hp.Z), .c (pmul_fn (Ec.Wp.Y q) (fMul (fMul (Ec.Wp.Z p) (Ec.Wp.Z p) PR) (Ec.Wp.Z p) PR) hq.Y (fMul_lt pr_ok)), .a, .a, .s 7, .s 8]) H5 kr fun gs6 w6 H6 => ?_
      clear H5
      refine g_keep [0, 1, 2, 3, 4, 5, 6, 7, 8, 9, 10, 17, 21] fun ρ2 => ?_
      have HK2 := H6.keep
      clear H6
      refine dSg (fun gs7 => [.l 6, .l 5, .c (pless_fn (fMul (Ec.Wp.X q) (fMul (Ec.Wp.Z p) (Ec.Wp.Z p) PR) PR) (fMul (Ec.Wp.X p) (fMul (Ec.Wp.Z q) (Ec.Wp.Z q) PR) PR) (fMul_lt pr_ok) (fMul_lt pr_ok)), .l 8, .l 7, .c (pless_fn (fMul (Ec.Wp.Y q) (fMul (fMul (Ec.Wp.Z p) (Ec.Wp.Z p) PR) (Ec.Wp.Z p) PR) PR) (fMul (Ec.Wp.Y p) (fMul (fMul (Ec.Wp.Z q) (Ec.Wp.Z q) PR) (Ec.Wp.Z q) PR) PR) (fMul_lt pr_ok) (fMul_lt pr_ok)), .a, .a, .s 9, .s 10]) HK2 kr fun gs7 w7 H7 => ?_
      clear HK2
      refine g_seq kr ?_
      refine g_sreg [0, 1, 2] kr kr ?_
      refine rp [.l 9, .v] H7 kr fun gs8 w8 H8 => ?_
      show WPs _ _ _ _ [2] _ _
      clear H7
      by_cases he3 : ((fSub (fMul (Ec.Wp.X q) (fMul (Ec.Wp.Z p) (Ec.Wp.Z p) PR) PR) (fMul (Ec.Wp.X p) (fMul (Ec.Wp.Z q) (Ec.Wp.Z q) PR) PR) PR) : Nat) = 0
      · skip
        refine rp [.oe (ins := [((.tmp 65), uv (fSub (fMul (Ec.Wp.X q) (fMul (Ec.Wp.Z p) (Ec.Wp.Z p) PR) PR) (fMul (Ec.Wp.X p) (fMul (Ec.Wp.Z q) (Ec.Wp.Z q) PR) PR) PR)), ((.tmp 66), .agg #[.int .u64 0, .int .u64 0, .int .u64 0, .int .u64 0])]) (v := .bool (!decide ((fSub (fMul (Ec.Wp.X q) (fMul (Ec.Wp.Z p) (Ec.Wp.Z p) PR) PR) (fMul (Ec.Wp.X p) (fMul (Ec.Wp.Z q) (Ec.Wp.Z q) PR) PR) PR) = 0))) (v' := .bool false) (fun ρ o w ho hi => neU_run (x := (.tmp 65)) (y := (.tmp 66)) (fSub (fMul (Ec.Wp.X q) (fMul (Ec.Wp.Z p) (Ec.Wp.Z p) PR) PR) (fMul (Ec.Wp.X p) (fMul (Ec.Wp.Z q) (Ec.Wp.Z q) PR) PR) PR) 0 (fSub_lt pr_ok) (by unfold big; omega) w ho hi.1 hi.2.1) (by rw [decide_eq_true he3] <;> rfl)] H8 kr fun gs9 w9 H9 => ?_
        show WPs _ _ _ _ [] _ _
        clear H8
        refine s_nil ?_
        refine g_cond_f kr kr ?_
        refine g_skip kr ?_
        show WP _ _ _ _ _ _
        refine g_seq kr ?_
        refine g_sreg [0, 1, 2] kr kr ?_
        refine rp [.l 10, .v] H9 kr fun gs10 w10 H10 => ?_
        show WPs _ _ _ _ [2] _ _
        clear H9
        by_cases he4 : ((fSub (fMul (Ec.Wp.Y q) (fMul (fMul (Ec.Wp.Z p) (Ec.Wp.Z p) PR) (Ec.Wp.Z p) PR) PR) (fMul (Ec.Wp.Y p) (fMul (fMul (Ec.Wp.Z q) (Ec.Wp.Z q) PR) (Ec.Wp.Z q) PR) PR) PR) : Nat) = 0
        · skip
          refine rp [.oe (ins := [((.tmp 93), uv (fSub (fMul (Ec.Wp.Y q) (fMul (fMul (Ec.Wp.Z p) (Ec.Wp.Z p) PR) (Ec.Wp.Z p) PR) PR) (fMul (Ec.Wp.Y p) (fMul (fMul (Ec.Wp.Z q) (Ec.Wp.Z q) PR) (Ec.Wp.Z q) PR) PR) PR)), ((.tmp 94), .agg #[.int .u64 0, .int .u64 0, .int .u64 0, .int .u64 0])]) (v := .bool (!decide ((fSub (fMul (Ec.Wp.Y q) (fMul (fMul (Ec.Wp.Z p) (Ec.Wp.Z p) PR) (Ec.Wp.Z p) PR) PR) (fMul (Ec.Wp.Y p) (fMul (fMul (Ec.Wp.Z q) (Ec.Wp.Z q) PR) (Ec.Wp.Z q) PR) PR) PR) = 0))) (v' := .bool false) (fun ρ o w ho hi => neU_run (x := (.tmp 93)) (y := (.tmp 94)) (fSub (fMul (Ec.Wp.Y q) (fMul (fMul (Ec.Wp.Z p) (Ec.Wp.Z p) PR) (Ec.Wp.Z p) PR) PR) (fMul (Ec.Wp.Y p) (fMul (fMul (Ec.Wp.Z q) (Ec.Wp.Z q) PR) (Ec.Wp.Z q) PR) PR) PR) 0 (fSub_lt pr_ok) (by unfold big; omega) w ho hi.1 hi.2.1) (by rw [decide_eq_true he4] <;> rfl)] H10 kr fun gs11 w11 H11 => ?_
          show WPs _ _ _ _ [] _ _
          clear H10
          refine s_nil ?_
          refine g_cond_f kr kr ?_
          refine g_skip kr ?_
          show WP _ _ _ _ _ _
          refine rS [.l 0, .c (dbl_fn p hp), .s 2] H11 kr fun gs12 w12 H12 => ?_
          clear H11
          refine g_ret kr ?_
          show ∃ vs, Res _ _ _ _ vs ∧ _
          refine ⟨[wv (Ec.dblW p)], (.agg (b := (gs1 2).b) (Value.cells (wv (Ec.dblW p))) 65 (0, 0) kr (H12.get 2 kr) kr .nil), ?_, H12.below⟩
          exact congrArg wv (Ec.plusW_5 hb1 hb2 he3 he4).symm
        · skip
          refine rp [.oe (ins := [((.tmp 93), uv (fSub (fMul (Ec.Wp.Y q) (fMul (fMul (Ec.Wp.Z p) (Ec.Wp.Z p) PR) (Ec.Wp.Z p) PR) PR) (fMul (Ec.Wp.Y p) (fMul (fMul (Ec.Wp.Z q) (Ec.Wp.Z q) PR) (Ec.Wp.Z q) PR) PR) PR)), ((.tmp 94), .agg #[.int .u64 0, .int .u64 0, .int .u64 0, .int .u64 0])]) (v := .bool (!decide ((fSub (fMul (Ec.Wp.Y q) (fMul (fMul (Ec.Wp.Z p) (Ec.Wp.Z p) PR) (Ec.Wp.Z p) PR) PR) (fMul (Ec.Wp.Y p) (fMul (fMul (Ec.Wp.Z q) (Ec.Wp.Z q) PR) (Ec.Wp.Z q) PR) PR) PR) = 0))) (v' := .bool true) (fun ρ o w ho hi => neU_run (x := (.tmp 93)) (y := (.tmp 94)) (fSub (fMul (Ec.Wp.Y q) (fMul (fMul (Ec.Wp.Z p) (Ec.Wp.Z p) PR) (Ec.Wp.Z p) PR) PR) (fMul (Ec.Wp.Y p) (fMul (fMul (Ec.Wp.Z q) (Ec.Wp.Z q) PR) (Ec.Wp.Z q) PR) PR) PR) 0 (fSub_lt pr_ok) (by unfold big; omega) w ho hi.1 hi.2.1) (by rw [decide_eq_false he4] <;> rfl)] H10 kr fun gs13 w13 H13 => ?_
          show WPs _ _ _ _ [] _ _
          clear H10
          refine s_nil ?_
          refine g_cond_t kr kr ?_
          refine rS [.c pzero_fn, .s 2] H13 kr fun gs14 w14 H14 => ?_
          clear H13
          refine g_ret kr ?_
          show ∃ vs, Res _ _ _ _ vs ∧ _
          refine ⟨[wv Ec.zeroW], (.agg (b := (gs1 2).b) (Value.cells (wv Ec.zeroW)) 65 (0, 0) kr (H14.get 2 kr) kr .nil), ?_, H14.below⟩
          exact congrArg wv (Ec.plusW_4 hb1 hb2 he3 he4).symm
      · skip
        refine rp [.oe (ins := [((.tmp 65), uv (fSub (fMul (Ec.Wp.X q) (fMul (Ec.Wp.Z p) (Ec.Wp.Z p) PR) PR) (fMul (Ec.Wp.X p) (fMul (Ec.Wp.Z q) (Ec.Wp.Z q) PR) PR) PR)), ((.tmp 66), .agg #[.int .u64 0, .int .u64 0, .int .u64 0, .int .u64 0])]) (v := .bool (!decide ((fSub (fMul (Ec.Wp.X q) (fMul (Ec.Wp.Z p) (Ec.Wp.Z p) PR) PR) (fMul (Ec.Wp.X p) (fMul (Ec.Wp.Z q) (Ec.Wp.Z q) PR) PR) PR) = 0))) (v' := .bool true) (fun ρ o w ho hi => neU_run (x := (.tmp 65)) (y := (.tmp 66)) (fSub (fMul (Ec.Wp.X q) (fMul (Ec.Wp.Z p) (Ec.Wp.Z p) PR) PR) (fMul (Ec.Wp.X p) (fMul (Ec.Wp.Z q) (Ec.Wp.Z q) PR) PR) PR) 0 (fSub_lt pr_ok) (by unfold big; omega) w ho hi.1 hi.2.1) (by rw [decide_eq_false he3] <;> rfl)] H8 kr fun gs15 w15 H15 => ?_
        show WPs _ _ _ _ [] _ _
        clear H8
        refine s_nil ?_
        refine g_cond_t kr kr ?_
        refine rS [.l 9, .l 9, .c (pmul_fn (fSub (fMul (Ec.Wp.X q) (fMul (Ec.Wp.Z p) (Ec.Wp.Z p) PR) PR) (fMul (Ec.Wp.X p) (fMul (Ec.Wp.Z q) (Ec.Wp.Z q) PR) PR) PR) (fSub (fMul (Ec.Wp.X q) (fMul (Ec.Wp.Z p) (Ec.Wp.Z p) PR) PR) (fMul (Ec.Wp.X p) (fMul (Ec.Wp.Z q) (Ec.Wp.Z q) PR) PR) PR) (fSub_lt pr_ok) (fSub_lt pr_ok)), .a, .s 11] H15 kr fun gs16 w16 H16 => ?_
        clear H15
        refine g_keep [0, 1, 2, 3, 4, 5, 6, 7, 8, 9, 10, 11, 12, 13, 17, 21, 67] fun ρ3 => ?_
        have HK5 := H16.keep
        clear H16
        refine rS [.l 11, .l 9, .c (pmul_fn (fMul (fSub (fMul (Ec.Wp.X q) (fMul (Ec.Wp.Z p) (Ec.Wp.Z p) PR) PR) (fMul (Ec.Wp.X p) (fMul (Ec.Wp.Z q) (Ec.Wp.Z q) PR) PR) PR) (fSub (fMul (Ec.Wp.X q) (fMul (Ec.Wp.Z p) (Ec.Wp.Z p) PR) PR) (fMul (Ec.Wp.X p) (fMul (Ec.Wp.Z q) (Ec.Wp.Z q) PR) PR) PR) PR) (fSub (fMul (Ec.Wp.X q) (fMul (Ec.Wp.Z p) (Ec.Wp.Z p) PR) PR) (fMul (Ec.Wp.X p) (fMul (Ec.Wp.Z q) (Ec.Wp.Z q) PR) PR) PR) (fMul_lt pr_ok) (fSub_lt pr_ok)), .a, .s 12] HK5 kr fun gs17 w17 H17 => ?_
        clear HK5
        refine rS [.l 5, .l 11, .c (pmul_fn (fMul (Ec.Wp.X p) (fMul (Ec.Wp.Z q) (Ec.Wp.Z q) PR) PR) (fMul (fSub (fMul (Ec.Wp.X q) (fMul (Ec.Wp.Z p) (Ec.Wp.Z p) PR) PR) (fMul (Ec.Wp.X p) (fMul (Ec.Wp.Z q) (Ec.Wp.Z q) PR) PR) PR) (fSub (fMul (Ec.Wp.X q) (fMul (Ec.Wp.Z p) (Ec.Wp.Z p) PR) PR) (fMul (Ec.Wp.X p) (fMul (Ec.Wp.Z q) (Ec.Wp.Z q) PR) PR) PR) PR) (fMul_lt pr_ok) (fMul_lt pr_ok)), .s 5] H17 kr fun gs18 w18 H18 => ?_
        clear H17
        refine dS [.l 10, .l 5, .l 5, .l 12, .c (psum_fn (fMul (fMul (Ec.Wp.X p) (fMul (Ec.Wp.Z q) (Ec.Wp.Z q) PR) PR) (fMul (fSub (fMul (Ec.Wp.X q) (fMul (Ec.Wp.Z p) (Ec.Wp.Z p) PR) PR) (fMul (Ec.Wp.X p) (fMul (Ec.Wp.Z q) (Ec.Wp.Z q) PR) PR) PR) (fSub (fMul (Ec.Wp.X q) (fMul (Ec.Wp.Z p) (Ec.Wp.Z p) PR) PR) (fMul (Ec.Wp.X p) (fMul (Ec.Wp.Z q) (Ec.Wp.Z q) PR) PR) PR) PR) PR) (fMul (fMul (fSub (fMul (Ec.Wp.X q) (fMul (Ec.Wp.Z p) (Ec.Wp.Z p) PR) PR) (fMul (Ec.Wp.X p) (fMul (Ec.Wp.Z q) (Ec.Wp.Z q) PR) PR) PR) (fSub (fMul (Ec.Wp.X q) (fMul (Ec.Wp.Z p) (Ec.Wp.Z p) PR) PR) (fMul (Ec.Wp.X p) (fMul (Ec.Wp.Z q) (Ec.Wp.Z q) PR) PR) PR) PR) (fSub (fMul (Ec.Wp.X q) (fMul (Ec.Wp.Z p) (Ec.Wp.Z p) PR) PR) (fMul (Ec.Wp.X p) (fMul (Ec.Wp.Z q) (Ec.Wp.Z q) PR) PR) PR) PR) (fMul_lt pr_ok) (fMul_lt pr_ok)), .l 7, .l 12, .c (pmul_fn (fMul (Ec.Wp.Y p) (fMul (fMul (Ec.Wp.Z q) (Ec.Wp.Z q) PR) (Ec.Wp.Z q) PR) PR) (fMul (fMul (fSub (fMul (Ec.Wp.X q) (fMul (Ec.Wp.Z p) (Ec.Wp.Z p) PR) PR) (fMul (Ec.Wp.X p) (fMul (Ec.Wp.Z q) (Ec.Wp.Z q) PR) PR) PR) (fSub (fMul (Ec.Wp.X q) (fMul (Ec.Wp.Z p) (Ec.Wp.Z p) PR) PR) (fMul (Ec.Wp.X p) (fMul (Ec.Wp.Z q) (Ec.Wp.Z q) PR) PR) PR) PR) (fSub (fMul (Ec.Wp.X q) (fMul (Ec.Wp.Z p) (Ec.Wp.Z p) PR) PR) (fMul (Ec.Wp.X p) (fMul (Ec.Wp.Z q) (Ec.Wp.Z q) PR) PR) PR) PR) (fMul_lt pr_ok) (fMul_lt pr_ok)), .v, .l 0, .v, .l 1, .c (pmul_fn (Ec.Wp.Z p) (Ec.Wp.Z q) hp.Z hq.Z), .l 9, .c (pmul_fn (fMul (Ec.Wp.Z p) (Ec.Wp.Z q) PR) (fSub (fMul (Ec.Wp.X q) (fMul (Ec.Wp.Z p) (Ec.Wp.Z p) PR) PR) (fMul (Ec.Wp.X p) (fMul (Ec.Wp.Z q) (Ec.Wp.Z q) PR) PR) PR) (fMul_lt pr_ok) (fSub_lt pr_ok)), .c (third_fn (fSub (fMul (Ec.Wp.Y q) (fMul (fMul (Ec.Wp.Z p) (Ec.Wp.Z p) PR) (Ec.Wp.Z p) PR) PR) (fMul (Ec.Wp.Y p) (fMul (fMul (Ec.Wp.Z q) (Ec.Wp.Z q) PR) (Ec.Wp.Z q) PR) PR) PR) (fMul (fMul (Ec.Wp.X p) (fMul (Ec.Wp.Z q) (Ec.Wp.Z q) PR) PR) (fMul (fSub (fMul (Ec.Wp.X q) (fMul (Ec.Wp.Z p) (Ec.Wp.Z p) PR) PR) (fMul (Ec.Wp.X p) (fMul (Ec.Wp.Z q) (Ec.Wp.Z q) PR) PR) PR) (fSub (fMul (Ec.Wp.X q) (fMul (Ec.Wp.Z p) (Ec.Wp.Z p) PR) PR) (fMul (Ec.Wp.X p) (fMul (Ec.Wp.Z q) (Ec.Wp.Z q) PR) PR) PR) PR) PR) (fAdd (fMul (fMul (Ec.Wp.X p) (fMul (Ec.Wp.Z q) (Ec.Wp.Z q) PR) PR) (fMul (fSub (fMul (Ec.Wp.X q) (fMul (Ec.Wp.Z p) (Ec.Wp.Z p) PR) PR) (fMul (Ec.Wp.X p) (fMul (Ec.Wp.Z q) (Ec.Wp.Z q) PR) PR) PR) (fSub (fMul (Ec.Wp.X q) (fMul (Ec.Wp.Z p) (Ec.Wp.Z p) PR) PR) (fMul (Ec.Wp.X p) (fMul (Ec.Wp.Z q) (Ec.Wp.Z q) PR) PR) PR) PR) PR) (fMul (fMul (fSub (fMul (Ec.Wp.X q) (fMul (Ec.Wp.Z p) (Ec.Wp.Z p) PR) PR) (fMul (Ec.Wp.X p) (fMul (Ec.Wp.Z q) (Ec.Wp.Z q) PR) PR) PR) (fSub (fMul (Ec.Wp.X q) (fMul (Ec.Wp.Z p) (Ec.Wp.Z p) PR) PR) (fMul (Ec.Wp.X p) (fMul (Ec.Wp.Z q) (Ec.Wp.Z q) PR) PR) PR) PR) (fSub (fMul (Ec.Wp.X q) (fMul (Ec.Wp.Z p) (Ec.Wp.Z p) PR) PR) (fMul (Ec.Wp.X p) (fMul (Ec.Wp.Z q) (Ec.Wp.Z q) PR) PR) PR) PR) PR) (fMul (fMul (Ec.Wp.Y p) (fMul (fMul (Ec.Wp.Z q) (Ec.Wp.Z q) PR) (Ec.Wp.Z q) PR) PR) (fMul (fMul (fSub (fMul (Ec.Wp.X q) (fMul (Ec.Wp.Z p) (Ec.Wp.Z p) PR) PR) (fMul (Ec.Wp.X p) (fMul (Ec.Wp.Z q) (Ec.Wp.Z q) PR) PR) PR) (fSub (fMul (Ec.Wp.X q) (fMul (Ec.Wp.Z p) (Ec.Wp.Z p) PR) PR) (fMul (Ec.Wp.X p) (fMul (Ec.Wp.Z q) (Ec.Wp.Z q) PR) PR) PR) PR) (fSub (fMul (Ec.Wp.X q) (fMul (Ec.Wp.Z p) (Ec.Wp.Z p) PR) PR) (fMul (Ec.Wp.X p) (fMul (Ec.Wp.Z q) (Ec.Wp.Z q) PR) PR) PR) PR) PR) (fMul (fMul (Ec.Wp.Z p) (Ec.Wp.Z q) PR) (fSub (fMul (Ec.Wp.X q) (fMul (Ec.Wp.Z p) (Ec.Wp.Z p) PR) PR) (fMul (Ec.Wp.X p) (fMul (Ec.Wp.Z q) (Ec.Wp.Z q) PR) PR) PR) PR) (fSub_lt pr_ok) (fMul_lt pr_ok) (fAdd_lt pr_ok) (fMul_lt pr_ok) (fMul_lt pr_ok)), .s 2] H18 kr fun w19 H19 => ?_
        clear H18
        refine g_ret kr ?_
        show ∃ vs, Res _ _ _ _ vs ∧ _
        refine ⟨[wv (Ec.thirdW (fSub (fMul (Ec.Wp.Y q) (fMul (fMul (Ec.Wp.Z p) (Ec.Wp.Z p) PR) (Ec.Wp.Z p) PR) PR) (fMul (Ec.Wp.Y p) (fMul (fMul (Ec.Wp.Z q) (Ec.Wp.Z q) PR) (Ec.Wp.Z q) PR) PR) PR) (fMul (fMul (Ec.Wp.X p) (fMul (Ec.Wp.Z q) (Ec.Wp.Z q) PR) PR) (fMul (fSub (fMul (Ec.Wp.X q) (fMul (Ec.Wp.Z p) (Ec.Wp.Z p) PR) PR) (fMul (Ec.Wp.X p) (fMul (Ec.Wp.Z q) (Ec.Wp.Z q) PR) PR) PR) (fSub (fMul (Ec.Wp.X q) (fMul (Ec.Wp.Z p) (Ec.Wp.Z p) PR) PR) (fMul (Ec.Wp.X p) (fMul (Ec.Wp.Z q) (Ec.Wp.Z q) PR) PR) PR) PR) PR) (fAdd (fMul (fMul (Ec.Wp.X p) (fMul (Ec.Wp.Z q) (Ec.Wp.Z q) PR) PR) (fMul (fSub (fMul (Ec.Wp.X q) (fMul (Ec.Wp.Z p) (Ec.Wp.Z p) PR) PR) (fMul (Ec.Wp.X p) (fMul (Ec.Wp.Z q) (Ec.Wp.Z q) PR) PR) PR) (fSub (fMul (Ec.Wp.X q) (fMul (Ec.Wp.Z p) (Ec.Wp.Z p) PR) PR) (fMul (Ec.Wp.X p) (fMul (Ec.Wp.Z q) (Ec.Wp.Z q) PR) PR) PR) PR) PR) (fMul (fMul (fSub (fMul (Ec.Wp.X q) (fMul (Ec.Wp.Z p) (Ec.Wp.Z p) PR) PR) (fMul (Ec.Wp.X p) (fMul (Ec.Wp.Z q) (Ec.Wp.Z q) PR) PR) PR) (fSub (fMul (Ec.Wp.X q) (fMul (Ec.Wp.Z p) (Ec.Wp.Z p) PR) PR) (fMul (Ec.Wp.X p) (fMul (Ec.Wp.Z q) (Ec.Wp.Z q) PR) PR) PR) PR) (fSub (fMul (Ec.Wp.X q) (fMul (Ec.Wp.Z p) (Ec.Wp.Z p) PR) PR) (fMul (Ec.Wp.X p) (fMul (Ec.Wp.Z q) (Ec.Wp.Z q) PR) PR) PR) PR) PR) (fMul (fMul (Ec.Wp.Y p) (fMul (fMul (Ec.Wp.Z q) (Ec.Wp.Z q) PR) (Ec.Wp.Z q) PR) PR) (fMul (fMul (fSub (fMul (Ec.Wp.X q) (fMul (Ec.Wp.Z p) (Ec.Wp.Z p) PR) PR) (fMul (Ec.Wp.X p) (fMul (Ec.Wp.Z q) (Ec.Wp.Z q) PR) PR) PR) (fSub (fMul (Ec.Wp.X q) (fMul (Ec.Wp.Z p) (Ec.Wp.Z p) PR) PR) (fMul (Ec.Wp.X p) (fMul (Ec.Wp.Z q) (Ec.Wp.Z q) PR) PR) PR) PR) (fSub (fMul (Ec.Wp.X q) (fMul (Ec.Wp.Z p) (Ec.Wp.Z p) PR) PR) (fMul (Ec.Wp.X p) (fMul (Ec.Wp.Z q) (Ec.Wp.Z q) PR) PR) PR) PR) PR) (fMul (fMul (Ec.Wp.Z p) (Ec.Wp.Z q) PR) (fSub (fMul (Ec.Wp.X q) (fMul (Ec.Wp.Z p) (Ec.Wp.Z p) PR) PR) (fMul (Ec.Wp.X p) (fMul (Ec.Wp.Z q) (Ec.Wp.Z q) PR) PR) PR) PR))], (.agg (b := (gs1 2).b) (Value.cells (wv (Ec.thirdW (fSub (fMul (Ec.Wp.Y q) (fMul (fMul (Ec.Wp.Z p) (Ec.Wp.Z p) PR) (Ec.Wp.Z p) PR) PR) (fMul (Ec.Wp.Y p) (fMul (fMul (Ec.Wp.Z q) (Ec.Wp.Z q) PR) (Ec.Wp.Z q) PR) PR) PR) (fMul (fMul (Ec.Wp.X p) (fMul (Ec.Wp.Z q) (Ec.Wp.Z q) PR) PR) (fMul (fSub (fMul (Ec.Wp.X q) (fMul (Ec.Wp.Z p) (Ec.Wp.Z p) PR) PR) (fMul (Ec.Wp.X p) (fMul (Ec.Wp.Z q) (Ec.Wp.Z q) PR) PR) PR) (fSub (fMul (Ec.Wp.X q) (fMul (Ec.Wp.Z p) (Ec.Wp.Z p) PR) PR) (fMul (Ec.Wp.X p) (fMul (Ec.Wp.Z q) (Ec.Wp.Z q) PR) PR) PR) PR) PR) (fAdd (fMul (fMul (Ec.Wp.X p) (fMul (Ec.Wp.Z q) (Ec.Wp.Z q) PR) PR) (fMul (fSub (fMul (Ec.Wp.X q) (fMul (Ec.Wp.Z p) (Ec.Wp.Z p) PR) PR) (fMul (Ec.Wp.X p) (fMul (Ec.Wp.Z q) (Ec.Wp.Z q) PR) PR) PR) (fSub (fMul (Ec.Wp.X q) (fMul (Ec.Wp.Z p) (Ec.Wp.Z p) PR) PR) (fMul (Ec.Wp.X p) (fMul (Ec.Wp.Z q) (Ec.Wp.Z q) PR) PR) PR) PR) PR) (fMul (fMul (fSub (fMul (Ec.Wp.X q) (fMul (Ec.Wp.Z p) (Ec.Wp.Z p) PR) PR) (fMul (Ec.Wp.X p) (fMul (Ec.Wp.Z q) (Ec.Wp.Z q) PR) PR) PR) (fSub (fMul (Ec.Wp.X q) (fMul (Ec.Wp.Z p) (Ec.Wp.Z p) PR) PR) (fMul (Ec.Wp.X p) (fMul (Ec.Wp.Z q) (Ec.Wp.Z q) PR) PR) PR) PR) (fSub (fMul (Ec.Wp.X q) (fMul (Ec.Wp.Z p) (Ec.Wp.Z p) PR) PR) (fMul (Ec.Wp.X p) (fMul (Ec.Wp.Z q) (Ec.Wp.Z q) PR) PR) PR) PR) PR) (fMul (fMul (Ec.Wp.Y p) (fMul (fMul (Ec.Wp.Z q) (Ec.Wp.Z q) PR) (Ec.Wp.Z q) PR) PR) (fMul (fMul (fSub (fMul (Ec.Wp.X q) (fMul (Ec.Wp.Z p) (Ec.Wp.Z p) PR) PR) (fMul (Ec.Wp.X p) (fMul (Ec.Wp.Z q) (Ec.Wp.Z q) PR) PR) PR) (fSub (fMul (Ec.Wp.X q) (fMul (Ec.Wp.Z p) (Ec.Wp.Z p) PR) PR) (fMul (Ec.Wp.X p) (fMul (Ec.Wp.Z q) (Ec.Wp.Z q) PR) PR) PR) PR) (fSub (fMul (Ec.Wp.X q) (fMul (Ec.Wp.Z p) (Ec.Wp.Z p) PR) PR) (fMul (Ec.Wp.X p) (fMul (Ec.Wp.Z q) (Ec.Wp.Z q) PR) PR) PR) PR) PR) (fMul (fMul (Ec.Wp.Z p) (Ec.Wp.Z q) PR) (fSub (fMul (Ec.Wp.X q) (fMul (Ec.Wp.Z p) (Ec.Wp.Z p) PR) PR) (fMul (Ec.Wp.X p) (fMul (Ec.Wp.Z q) (Ec.Wp.Z q) PR) PR) PR) PR)))) 65 (0, 0) kr (H19.get 2 kr) kr .nil), ?_, H19.below⟩
        exact congrArg wv (Ec.plusW_3 hb1 hb2 he3).symm
    · skip
      refine g_now 21 (v := .bool (Ec.Wp.b q)) (v' := .bool true) (bool_eq hb2) kr ?_
      refine g_cond_t kr kr ?_
      refine rS [.l 0, .s 2] H3 kr fun gs20 w20 H20 => ?_
      clear H3
      refine g_ret kr ?_
      show ∃ vs, Res _ _ _ _ vs ∧ _
      refine ⟨[wv p], (.agg (b := (gs1 2).b) (Value.cells (wv p)) 65 (0, 0) kr (H20.get 2 kr) kr .nil), ?_, H20.below⟩
      exact congrArg wv (Ec.plusW_2 hb1 hb2).symm
  · skip
    refine g_now 17 (v := .bool (Ec.Wp.b p)) (v' := .bool true) (bool_eq hb1) kr ?_
    refine g_cond_t kr kr ?_
    refine rS [.l 1, .s 2] H2 kr fun gs21 w21 H21 => ?_
    clear H2
    refine g_ret kr ?_
    show ∃ vs, Res _ _ _ _ vs ∧ _
    refine ⟨[wv q], (.agg (b := (gs1 2).b) (Value.cells (wv q)) 65 (0, 0) kr (H21.get 2 kr) kr .nil), ?_, H21.below⟩
    exact congrArg wv (Ec.plusW_1 hb1).symm
theorem plusM_fn (p : Ec.Wp) (hp : p.Ok) (k : Nat) : Fn Tryd.prog 73 #[wv (Ec.mults p k), wv p] (wv (Ec.mults p (k + 1))) := plus_fn (Ec.mults p k) p (Ec.mults_ok hp k) hp
set_option maxRecDepth 100000 in
set_option maxHeartbeats 2000000 in
theorem narrow_fn (p : Ec.Wp) (hp : p.Ok) (P : Ec.Pt Ec.Fp) (hs : Ec.Stands p P) : Fn Tryd.prog 40 #[wv p] (pv (Ec.ofPt P)) := by
  refine Fn.intro (c := codeOf Tryd.f40) [.cell 2 26] 33 Tryd.func40 kr kr kr fun w => ?_
  have H0 := St.start w
  refine rS [.b, .a] H0 kr fun gs1 w1 H1 => ?_
  clear H0
  refine g_seq kr ?_
  refine rS [.v, .v, .l 0] H1 kr fun gs2 w2 H2 => ?_
  clear H1
  rcases (Bool.eq_false_or_eq_true (Ec.Wp.b p)).symm with hb1 | hb1
  · skip
    refine g_now 8 (v := .bool (Ec.Wp.b p)) (v' := .bool false) (bool_eq hb1) kr ?_
    refine g_cond_f kr kr ?_
    refine g_skip kr ?_
    show WP _ _ _ _ _ _
    refine rS [.v, .l 0, .c (inv0_fn (Ec.Wp.Z p) hp.Z (Ec.stands_nz hs hb1)), .v, .v, .v, .a, .s 2, .v] H2 kr fun gs3 w3 H3 => ?_
    clear H2
    refine rS [.l 2, .l 2, .c (pmul_fn (finv (Ec.Wp.Z p) PR) (finv (Ec.Wp.Z p) PR) (fpw_lt pr_ok) (fpw_lt pr_ok)), .a, .s 3] H3 kr fun gs4 w4 H4 => ?_
    clear H3
    refine g_keep [0, 1, 2, 3, 5, 8] fun ρ1 => ?_
    have HK1 := H4.keep
    clear H4
    refine dS [.v, .v, .l 0, .l 3, .c (pmul_fn (Ec.Wp.X p) (fMul (finv (Ec.Wp.Z p) PR) (finv (Ec.Wp.Z p) PR) PR) hp.X (fMul_lt pr_ok)), .v, .v, .l 0, .l 3, .l 2, .c (pmul_fn (fMul (finv (Ec.Wp.Z p) PR) (finv (Ec.Wp.Z p) PR) PR) (finv (Ec.Wp.Z p) PR) (fMul_lt pr_ok) (fpw_lt pr_ok)), .c (pmul_fn (Ec.Wp.Y p) (fMul (fMul (finv (Ec.Wp.Z p) PR) (finv (Ec.Wp.Z p) PR) PR) (finv (Ec.Wp.Z p) PR) PR) hp.Y (fMul_lt pr_ok)), .v, .s 1] HK1 kr fun w5 H5 => ?_
    clear HK1
    refine g_ret kr ?_
    show ∃ vs, Res _ _ _ _ vs ∧ _
    refine ⟨[pv (Ec.Pd.mk (fMul (Ec.Wp.X p) (fMul (finv (Ec.Wp.Z p) PR) (finv (Ec.Wp.Z p) PR) PR) PR) (fMul (Ec.Wp.Y p) (fMul (fMul (finv (Ec.Wp.Z p) PR) (finv (Ec.Wp.Z p) PR) PR) (finv (Ec.Wp.Z p) PR) PR) PR) false)], (.agg (b := (gs1 1).b) (Value.cells (pv (Ec.Pd.mk (fMul (Ec.Wp.X p) (fMul (finv (Ec.Wp.Z p) PR) (finv (Ec.Wp.Z p) PR) PR) PR) (fMul (Ec.Wp.Y p) (fMul (fMul (finv (Ec.Wp.Z p) PR) (finv (Ec.Wp.Z p) PR) PR) (finv (Ec.Wp.Z p) PR) PR) PR) false))) 26 (0, 0) kr (H5.get 1 kr) kr .nil), ?_, H5.below⟩
    have e : Ec.narrowW p = Ec.narrowF p := by unfold Ec.narrowW; rw [hb1]; rfl
    rw [← Ec.narrow_rep hs, e]; rfl
  · skip
    refine g_now 8 (v := .bool (Ec.Wp.b p)) (v' := .bool true) (bool_eq hb1) kr ?_
    refine g_cond_t kr kr ?_
    refine rS [.v, .l 0, .s 1] H2 kr fun gs6 w6 H6 => ?_
    clear H2
    refine g_ret kr ?_
    show ∃ vs, Res _ _ _ _ vs ∧ _
    refine ⟨[pv (Ec.Pd.mk (Ec.Wp.X p) (Ec.Wp.Y p) (Ec.Wp.b p))], (.agg (b := (gs1 1).b) (Value.cells (pv (Ec.Pd.mk (Ec.Wp.X p) (Ec.Wp.Y p) (Ec.Wp.b p)))) 26 (0, 0) kr (H6.get 1 kr) kr .nil), ?_, H6.below⟩
    have e : Ec.narrowW p = Ec.Pd.mk p.X p.Y p.b := by unfold Ec.narrowW; rw [hb1]; rfl
    rw [← Ec.narrow_rep hs, e]; rfl
end Go.Proofs.YtmmloghbnpfedaaDoor

namespace Go.Proofs.YtmmloghbnpfedaaDoor
open Go Go.RowKit
set_option linter.unusedVariables false
theorem rs_zero (A M : Nat) : rs A 0 M = A % M := by unfold rs; rw [Nat.mul_zero, Nat.add_zero]
end Go.Proofs.YtmmloghbnpfedaaDoor

namespace Go.Proofs.YtmmloghbnpfedaaDoor
set_option linter.unusedVariables false
/-! ### Roots: of any prime that leaves 3, divided by 4 -/
section
variable {p H Q : Nat}
theorem g_sq {a b : Nat} (hab : a + b = p) : a * a % p = b * b % p := by
  have e : a * a + b * p = b * b + a * p := by rw [← hab, Nat.mul_add, Nat.mul_add, Nat.mul_comm b a]; omega
  have := congrArg (· % p) e
  simpa only [Nat.add_mul_mod_self_right] using this
end
theorem pr_pos : 2 < PR := by decide +kernel
/-- Half of what is below the prime. -/
def HR : Nat := 57896044618658097711785492504343953926634992332820282019728792003954417335831
/-- Is A a square? 1 or -1. -/
def sgn (A : Nat) : Nat := veil A (A ^ HR % PR)
theorem turned_eq (A : Nat) : fSub 0 A PR = (PR - A % PR) % PR := by unfold fSub; rw [Nat.zero_mod, Nat.zero_add]
theorem modlt (A : Nat) : A % PR < PR := Nat.mod_lt _ (Nat.lt_trans (by decide) pr_pos)
theorem fpw_ltM (A n : Nat) : fpw A n PR < PR := by rw [fpw_eq]; exact modlt _
theorem rt_square {A : Nat} (hs : fMul (fpw A QR PR) (fpw A QR PR) PR = rs A 0 PR) : fMul (rt A) (rt A) PR = rs A 0 PR := by
  unfold rt
  split
  · rw [← hs]
    have hr := fpw_ltM A QR
    generalize fpw A QR PR = r at *
    rw [turned_eq]
    unfold fMul
    rw [← Nat.mul_mod, Nat.mod_eq_of_lt hr]
    exact (g_sq (Nat.add_sub_cancel' (Nat.le_of_lt hr))).symm
  · exact hs
end Go.Proofs.YtmmloghbnpfedaaDoor

namespace Go.Proofs.YtmmloghbnpfedaaDoor
open Go Go.RowKit Go.Proofs.Zm
set_option linter.unusedVariables false
/-! ### Shares -/
def zeroC : List Value := [.int .u64 0, .int .u64 0, .int .u64 0, .int .u64 0, .int .u64 0, .int .u64 0, .int .u64 0, .int .u64 0, .bool false, .int .u64 0, .int .u64 0, .int .u64 0, .int .u64 0]
def slotC (p : Ec.Wp) (k i : Nat) : List Value := bif Nat.ble i k then (Value.cells (wv (Ec.mults p i))).toList else zeroC
/-- A share with its first k + 1 multiples. -/
def shv (n : Nat) (p : Ec.Wp) (k : Nat) : Value := .agg ([Value.int .u64 (w0 n), .int .u64 (w1 n), .int .u64 (w2 n), .int .u64 (w3 n)] ++ (slotC p k 0 ++ (slotC p k 1 ++ (slotC p k 2 ++ (slotC p k 3 ++ (slotC p k 4 ++ (slotC p k 5 ++ (slotC p k 6 ++ (slotC p k 7 ++ (slotC p k 8 ++ (slotC p k 9 ++ (slotC p k 10 ++ (slotC p k 11 ++ (slotC p k 12 ++ (slotC p k 13 ++ (slotC p k 14 ++ slotC p k 15)))))))))))))))).toArray
def shw (n q : Nat) : Nat := n / 2 ^ (64 * q) % 18446744073709551616
theorem shw_at (n : Nat) (p : Ec.Wp) {q off : Nat} (ho : off = 0 + q * 1) (hq : q < 4) : (Value.cells (shv n p 15))[off]? = some (.int .u64 ((shw n q : Nat) : Int)) := by
  subst ho
  unfold shw
  have h : q = 0 ∨ q = 1 ∨ q = 2 ∨ q = 3 := by omega
  rcases h with rfl | rfl | rfl | rfl
  · show some (Value.int .u64 (w0 n)) = _; unfold w0; rw [show 2 ^ (64 * 0) = 1 from rfl, Nat.div_one]
  · show some (Value.int .u64 (w1 n)) = _; unfold w1; rfl
  · show some (Value.int .u64 (w2 n)) = _; unfold w2; rfl
  · show some (Value.int .u64 (w3 n)) = _; unfold w3; rfl
theorem shm_at (n : Nat) (p : Ec.Wp) {q off : Nat} (ho : off = 4 + q * 13) (hq : q < 16) : (Value.cells (shv n p 15)).extract off (off + 13) = Value.cells (wv (Ec.mults p q)) := by
  subst ho
  have h : q = 0 ∨ q = 1 ∨ q = 2 ∨ q = 3 ∨ q = 4 ∨ q = 5 ∨ q = 6 ∨ q = 7 ∨ q = 8 ∨ q = 9 ∨ q = 10 ∨ q = 11 ∨ q = 12 ∨ q = 13 ∨ q = 14 ∨ q = 15 := by omega
  rcases h with rfl | rfl | rfl | rfl | rfl | rfl | rfl | rfl | rfl | rfl | rfl | rfl | rfl | rfl | rfl | rfl <;> (show _ = _; kernel_rfl)
theorem sh_size (n : Nat) (p : Ec.Wp) : (Value.cells (shv n p 15)).size = 212 := kr
theorem dig_bits (n d : Nat) : shw n (d * 4 / 64) / 2 ^ (d * 4 % 64) % 16 = n / 16 ^ d % 16 := by
  unfold shw
  have h16 : (16 : Nat) ^ d = 2 ^ (64 * (d * 4 / 64)) * 2 ^ (d * 4 % 64) := by
    rw [← Nat.pow_add, show (16 : Nat) = 2 ^ 4 from rfl, ← Nat.pow_mul]; congr 1; omega
  rw [h16, ← Nat.div_div_eq_div_mul]
  generalize n / 2 ^ (64 * (d * 4 / 64)) = X
  have hm : d * 4 % 64 ≤ 60 := by omega
  generalize d * 4 % 64 = m at hm
  have e : 18446744073709551616 = 2 ^ m * 2 ^ (64 - m) := by rw [← Nat.pow_add, show m + (64 - m) = 64 by omega]
  rw [e, Nat.mod_mul_right_div_self, Nat.mod_mod_of_dvd]
  exact ⟨2 ^ (60 - m), by rw [show (16 : Nat) = 2 ^ 4 from rfl, ← Nat.pow_add]; congr 1; omega⟩
theorem tog_next {n : Nat} {p : Ec.Wp} {j : Nat} (h1 : 1 ≤ j) (h2 : j ≤ 64) : Ec.plusW (Ec.dblW (Ec.dblW (Ec.dblW (Ec.dblW (Ec.tog n p (64 - j)))))) (Ec.mults p (n / 16 ^ (j - 1) % 16)) = Ec.tog n p (64 - (j - 1)) := by
  rw [show 64 - (j - 1) = (64 - j) + 1 by omega]
  show _ = Ec.plusW (Ec.quad _) (Ec.mults p (n / 16 ^ (63 - (64 - j)) % 16))
  rw [show 63 - (64 - j) = j - 1 by omega]; rfl
theorem tog2_next {n m : Nat} {p q : Ec.Wp} {j : Nat} (h1 : 1 ≤ j) (h2 : j ≤ 64) : Ec.plusW (Ec.plusW (Ec.dblW (Ec.dblW (Ec.dblW (Ec.dblW (Ec.tog2 n p m q (64 - j)))))) (Ec.mults p (n / 16 ^ (j - 1) % 16))) (Ec.mults q (m / 16 ^ (j - 1) % 16)) = Ec.tog2 n p m q (64 - (j - 1)) := by
  rw [show 64 - (j - 1) = (64 - j) + 1 by omega]
  show _ = Ec.plusW (Ec.plusW (Ec.quad _) (Ec.mults p (n / 16 ^ (63 - (64 - j)) % 16))) (Ec.mults q (m / 16 ^ (63 - (64 - j)) % 16))
  rw [show 63 - (64 - j) = j - 1 by omega]; rfl
/-! ### Roots -/
theorem rt_ltP (A : Nat) : rt A < PR := by
  unfold rt; split
  · exact Ec.suP _ _
  · exact fpw_ltM _ _
theorem rs_P {A : Nat} (h : A < PR) : rs A 0 PR = A := by unfold rs; rw [Nat.mul_zero, Nat.add_zero, Nat.mod_eq_of_lt h]
theorem even_on {x : Nat} (hx : x < PR) (hs : fMul (fpw (Ec.sqN x) QR PR) (fpw (Ec.sqN x) QR PR) PR = rs (Ec.sqN x) 0 PR) : Ec.onB (Ec.Pd.mk x (rt (Ec.sqN x)) false) = true := by
  rw [Ec.onB_e rfl hx (rt_ltP _), decide_eq_true_iff]
  show fMul (rt (Ec.sqN x)) (rt (Ec.sqN x)) PR = Ec.sqN x
  rw [rt_square hs, rs_P (Ec.sqN_lt _)]
theorem odd_on {x : Nat} (hx : x < PR) (hs : fMul (fpw (Ec.sqN x) QR PR) (fpw (Ec.sqN x) QR PR) PR = rs (Ec.sqN x) 0 PR) : Ec.onB (Ec.Pd.mk x (fSub 0 (rt (Ec.sqN x)) PR) false) = true := by
  rw [Ec.onB_e rfl hx (Ec.suP _ _), decide_eq_true_iff]
  show fMul (fSub 0 (rt (Ec.sqN x)) PR) (fSub 0 (rt (Ec.sqN x)) PR) PR = Ec.sqN x
  have h := rt_square hs
  rw [rs_P (Ec.sqN_lt _)] at h
  refine (Ec.mk_inj (Ec.mlP _ _) (Ec.sqN_lt _)).1 ?_
  rw [← h, Ec.mk_ml, Ec.mk_ml, Ec.mk_su]
  show ((0 : Ec.Fp) - _) * ((0 : Ec.Fp) - _) = _
  grind
/-! ### Sums, told by multiplying back -/
theorem tog2_end {n m : Nat} {P Q : Ec.Pt Ec.Fp} (hn : n < big) (hm : m < big) (hP : P.On Ec.seven) (hQ : Q.On Ec.seven) : Ec.Stands (Ec.tog2 n (Ec.widenW (Ec.ofPt P)) m (Ec.widenW (Ec.ofPt Q)) 64) ((Ec.mulP P n).add (Ec.mulP Q m)) := by
  have := Ec.tog2_rep hn hm (Ec.widen_rep P) (Ec.widen_rep Q) hP hQ 64 (Nat.le_refl _)
  rwa [Nat.sub_self, Nat.pow_zero, Nat.div_one, Nat.div_one] at this
end Go.Proofs.YtmmloghbnpfedaaDoor

namespace Go.Proofs.YtmmloghbnpfedaaDoor
open Go Go.RowKit
set_option linter.unusedVariables false
set_option maxRecDepth 100000 in
set_option maxHeartbeats 2000000 in
theorem on_fn (p : Ec.Pd) (hp : p.Ok) : Fn Tryd.prog 27 #[pv p] (.bool (Ec.onB p)) := by
  refine Fn.intro (c := codeOf Tryd.f27) [.tmp 2] 28 Tryd.func27 kr kr kr fun w => ?_
  have H0 := St.start w
  refine rS [.b, .v] H0 kr fun gs1 w1 H1 => ?_
  clear H0
  refine g_seq kr ?_
  refine rS [.v, .l 0] H1 kr fun gs2 w2 H2 => ?_
  clear H1
  rcases (Bool.eq_false_or_eq_true (Ec.Pd.b p)).symm with hb1 | hb1
  · skip
    refine g_now 4 (v := .bool (Ec.Pd.b p)) (v' := .bool false) (bool_eq hb1) kr ?_
    refine g_cond_f kr kr ?_
    refine g_skip kr ?_
    show WP _ _ _ _ _ _
    by_cases hx1 : (Ec.Pd.X p) < PR
    · skip
      by_cases hx2 : (Ec.Pd.Y p) < PR
      · skip
        refine dS [.v, .l 0, .c (red_yes (Ec.Pd.X p) hp.X (by omega)), .v, .v, .l 0, .c (red_yes (Ec.Pd.Y p) hp.Y (by omega)), .v, .v, .v, .l 0, .v, .l 0, .c (pmul_fn (Ec.Pd.Y p) (Ec.Pd.Y p) hp.Y hp.Y), .v, .l 0, .c (square_fn (Ec.Pd.X p) hp.X), .o (ins := [((.tmp 22), uv (fMul (Ec.Pd.Y p) (Ec.Pd.Y p) PR)), ((.tmp 25), uv (Ec.sqN (Ec.Pd.X p)))]) (v := .bool (decide ((fMul (Ec.Pd.Y p) (Ec.Pd.Y p) PR) = (Ec.sqN (Ec.Pd.X p))))) (fun ρ o w ho hi => eqU_run (x := (.tmp 22)) (y := (.tmp 25)) (fMul (Ec.Pd.Y p) (Ec.Pd.Y p) PR) (Ec.sqN (Ec.Pd.X p)) (fMul_lt pr_ok) (Ec.P_big (Ec.sqN_lt _)) w ho hi.1 hi.2.1), .v, .v] H2 kr fun w3 H3 => ?_
        clear H2
        refine g_ret kr ?_
        show ∃ vs, Res _ _ _ _ vs ∧ _
        refine ⟨[.bool (decide ((fMul (Ec.Pd.Y p) (Ec.Pd.Y p) PR) = (Ec.sqN (Ec.Pd.X p))))], (.tmp (.bool (decide ((fMul (Ec.Pd.Y p) (Ec.Pd.Y p) PR) = (Ec.sqN (Ec.Pd.X p))))) kr .nil), ?_, H3.below⟩
        exact congrArg Value.bool (Ec.onB_e hb1 (by omega) (by omega)).symm
      · skip
        refine dS [.v, .l 0, .c (red_yes (Ec.Pd.X p) hp.X (by omega)), .v, .v, .l 0, .c (red_no (Ec.Pd.Y p) hp.Y (by omega)), .v, .v, .n, .n, .n, .n, .n, .n, .n, .n, .n, .v, .v] H2 kr fun w4 H4 => ?_
        clear H2
        refine g_ret kr ?_
        show ∃ vs, Res _ _ _ _ vs ∧ _
        refine ⟨[.bool false], (.tmp (.bool false) kr .nil), ?_, H4.below⟩
        exact congrArg Value.bool (Ec.onB_y hb1 (by omega) (by omega)).symm
    · skip
      by_cases hx3 : (Ec.Pd.Y p) < PR
      · skip
        refine dS [.v, .l 0, .c (red_no (Ec.Pd.X p) hp.X (by omega)), .v, .n, .n, .n, .v, .v, .n, .n, .n, .n, .n, .n, .n, .n, .n, .v, .v] H2 kr fun w5 H5 => ?_
        clear H2
        refine g_ret kr ?_
        show ∃ vs, Res _ _ _ _ vs ∧ _
        refine ⟨[.bool false], (.tmp (.bool false) kr .nil), ?_, H5.below⟩
        exact congrArg Value.bool (Ec.onB_x hb1 (by omega)).symm
      · skip
        refine dS [.v, .l 0, .c (red_no (Ec.Pd.X p) hp.X (by omega)), .v, .n, .n, .n, .v, .v, .n, .n, .n, .n, .n, .n, .n, .n, .n, .v, .v] H2 kr fun w6 H6 => ?_
        clear H2
        refine g_ret kr ?_
        show ∃ vs, Res _ _ _ _ vs ∧ _
        refine ⟨[.bool false], (.tmp (.bool false) kr .nil), ?_, H6.below⟩
        exact congrArg Value.bool (Ec.onB_x hb1 (by omega)).symm
  · skip
    refine g_now 4 (v := .bool (Ec.Pd.b p)) (v' := .bool true) (bool_eq hb1) kr ?_
    refine g_cond_t kr kr ?_
    refine dS [.l 0, .c pzero_fn, .v, .o (ins := [((.tmp 5), pv p), ((.tmp 7), pv (Ec.Pd.mk 0 0 true))]) (v := .bool (decide (p = (Ec.Pd.mk 0 0 true)))) (fun ρ o w ho hi => eqP_run (x := (.tmp 5)) (y := (.tmp 7)) p (Ec.Pd.mk 0 0 true) hp (Ec.Pd.Ok.mk (p := Ec.Pd.mk 0 0 true) Ec.big_0 Ec.big_0) w ho hi.1 hi.2.1), .v] H2 kr fun w7 H7 => ?_
    clear H2
    refine g_ret kr ?_
    show ∃ vs, Res _ _ _ _ vs ∧ _
    refine ⟨[.bool (decide (p = (Ec.Pd.mk 0 0 true)))], (.tmp (.bool (decide (p = (Ec.Pd.mk 0 0 true)))) kr .nil), ?_, H7.below⟩
    exact congrArg Value.bool (Ec.onB_1 hb1).symm
theorem on_yes (p : Ec.Pd) (hp : p.Ok) (h : Ec.onB p = true) : Fn Tryd.prog 27 #[pv p] (.bool true) := by have := on_fn p hp; rwa [h] at this
set_option maxRecDepth 100000 in
set_option maxHeartbeats 2000000 in
theorem base_fn  : Fn Tryd.prog 13 #[] (pv (Ec.ofPt Ec.G)) := by
  refine Fn.intro (c := codeOf Tryd.f13) [.cell 0 26] 4 Tryd.func13 kr kr kr fun w => ?_
  have H0 := St.start w
  refine rS [.a] H0 kr fun gs1 w1 H1 => ?_
  clear H0
  refine rS [.v, .v, .v, .s 0] H1 kr fun gs2 w2 H2 => ?_
  clear H1
  refine g_ret kr ?_
  show ∃ vs, Res _ _ _ _ vs ∧ _
  refine ⟨[pv (Ec.Pd.mk 55066263022277343669578718895168534326250603453777594175500187360389116729240 32670510020758816978083085130507043184471273380659243275938904335757337482424 false)], (.agg (b := (gs1 0).b) (Value.cells (pv (Ec.Pd.mk 55066263022277343669578718895168534326250603453777594175500187360389116729240 32670510020758816978083085130507043184471273380659243275938904335757337482424 false))) 26 (0, 0) kr (H2.get 0 kr) kr .nil), ?_, H2.below⟩
  kernel_rfl
set_option maxRecDepth 100000 in
set_option maxHeartbeats 2000000 in
theorem often_fn (p : Ec.Pd) (hp : p.Ok) (n : Nat) (hn : n < big) : FnR Tryd.prog 39 #[pv p, uv n] (fun _ => True) (RetP 99 (Value.cells (shv n (Ec.widenW p) 15))) := by
  refine FnR.intro (c := codeOf Tryd.f39) [.tmp 4] 35 Tryd.func39 kr kr kr fun w hpre => ?_
  have H0 := St.start w
  refine rS [.b, .b, .v] H0 kr fun gs1 w1 H1 => ?_
  clear H0
  refine rS [.l 1, .v, .b, .v] H1 kr fun gs2 w2 H2 => ?_
  clear H1
  refine dS [.v, .c pzero_fn, .v, .v, .v, .s 2] H2 kr fun w3 H3 => ?_
  clear H2
  refine g_seq kr ?_
  refine rS [.v] H3 kr fun gs4 w4 H4 => ?_
  clear H3
  refine g_block 0 kr ?_
  have HL1 : St w.heap.size w w4 [((gs1 0).b, Obj.cells (Value.cells (pv p)) 26 (0, 0)), ((gs1 1).b, Obj.cells (Value.cells (uv n)) 24 (0, 0)), ((gs2 2).b, Obj.cells (Value.cells (shv n (Ec.widenW p) 0)) 99 (0, 0))] := H4.as kr
  clear H4
  refine g_first kr ?_
  refine g_seq kr ?_
  refine rS [.v, .v] HL1 kr fun gs5 w5 H5 => ?_
  clear HL1
  refine g_cond_t kr kr ?_
  refine g_skip kr ?_
  show WP _ _ _ _ _ _
  refine g_seq kr ?_
  refine g_block 1 kr ?_
  refine dL [.v, .v, .v, .v, .v, .v, .v, .v, .l 2, .l 0, .c (widen_fn p hp), .c (plusM_fn (Ec.widenW p) (Ec.widenW_ok hp) 0), .v, .v, .v, .s 2] H5 kr fun w6 H6 => ?_
  clear H5
  show WP _ _ _ _ _ _
  refine g_keep [0, 1, 2, 3, 4, 5, 6, 16] fun ρ1 => ?_
  have HK2 := H6.keep
  clear H6
  refine rL [.v, .v, .v] HK2 kr fun gs7 w7 H7 => ?_
  clear HK2
  show WPL _ _ _ _ _ _
  refine g_next ?_
  refine g_seq kr ?_
  refine rS [.v, .v] H7 kr fun gs8 w8 H8 => ?_
  clear H7
  refine g_cond_t kr kr ?_
  refine g_skip kr ?_
  show WP _ _ _ _ _ _
  refine g_seq kr ?_
  refine g_block 1 kr ?_
  refine dL [.v, .v, .v, .v, .v, .v, .v, .v, .l 2, .l 0, .c (widen_fn p hp), .c (plusM_fn (Ec.widenW p) (Ec.widenW_ok hp) 1), .v, .v, .v, .s 2] H8 kr fun w9 H9 => ?_
  clear H8
  show WP _ _ _ _ _ _
  refine g_keep [0, 1, 2, 3, 4, 5, 6, 16] fun ρ2 => ?_
  have HK3 := H9.keep
  clear H9
  refine rL [.v, .v, .v] HK3 kr fun gs10 w10 H10 => ?_
  clear HK3
  show WPL _ _ _ _ _ _
  refine g_next ?_
  refine g_seq kr ?_
  refine rS [.v, .v] H10 kr fun gs11 w11 H11 => ?_
  clear H10
  refine g_cond_t kr kr ?_
  refine g_skip kr ?_
  show WP _ _ _ _ _ _
  refine g_seq kr ?_
  refine g_block 1 kr ?_
  refine dL [.v, .v, .v, .v, .v, .v, .v, .v, .l 2, .l 0, .c (widen_fn p hp), .c (plusM_fn (Ec.widenW p) (Ec.widenW_ok hp) 2), .v, .v, .v, .s 2] H11 kr fun w12 H12 => ?_
  clear H11
  show WP _ _ _ _ _ _
  refine g_keep [0, 1, 2, 3, 4, 5, 6, 16] fun ρ3 => ?_
  have HK4 := H12.keep
  clear H12
  refine rL [.v, .v, .v] HK4 kr fun gs13 w13 H13 => ?_
  clear HK4
  show WPL _ _ _ _ _ _
  refine g_next ?_
  refine g_seq kr ?_
  refine rS [.v, .v] H13 kr fun gs14 w14 H14 => ?_
  clear H13
  refine g_cond_t kr kr ?_
  refine g_skip kr ?_
  show WP _ _ _ _ _ _
  refine g_seq kr ?_
  refine g_block 1 kr ?_
  refine dL [.v, .v, .v, .v, .v, .v, .v, .v, .l 2, .l 0, .c (widen_fn p hp), .c (plusM_fn (Ec.widenW p) (Ec.widenW_ok hp) 3), .v, .v, .v, .s 2] H14 kr fun w15 H15 => ?_
  clear H14
  show WP _ _ _ _ _ _
  refine g_keep [0, 1, 2, 3, 4, 5, 6, 16] fun ρ4 => ?_
  have HK5 := H15.keep
  clear H15
  refine rL [.v, .v, .v] HK5 kr fun gs16 w16 H16 => ?_
  clear HK5
  show WPL _ _ _ _ _ _
  refine g_next ?_
  refine g_seq kr ?_
  refine rS [.v, .v] H16 kr fun gs17 w17 H17 => ?_
  clear H16
  refine g_cond_t kr kr ?_
  refine g_skip kr ?_
  show WP _ _ _ _ _ _
  refine g_seq kr ?_
  refine g_block 1 kr ?_
  refine dL [.v, .v, .v, .v, .v, .v, .v, .v, .l 2, .l 0, .c (widen_fn p hp), .c (plusM_fn (Ec.widenW p) (Ec.widenW_ok hp) 4), .v, .v, .v, .s 2] H17 kr fun w18 H18 => ?_
  clear H17
  show WP _ _ _ _ _ _
  refine g_keep [0, 1, 2, 3, 4, 5, 6, 16] fun ρ5 => ?_
  have HK6 := H18.keep
  clear H18
  refine rL [.v, .v, .v] HK6 kr fun gs19 w19 H19 => ?_
  clear HK6
  show WPL _ _ _ _ _ _
  refine g_next ?_
  refine g_seq kr ?_
  refine rS [.v, .v] H19 kr fun gs20 w20 H20 => ?_
  clear H19
  refine g_cond_t kr kr ?_
  refine g_skip kr ?_
  show WP _ _ _ _ _ _
  refine g_seq kr ?_
  refine g_block 1 kr ?_
  refine dL [.v, .v, .v, .v, .v, .v, .v, .v, .l 2, .l 0, .c (widen_fn p hp), .c (plusM_fn (Ec.widenW p) (Ec.widenW_ok hp) 5), .v, .v, .v, .s 2] H20 kr fun w21 H21 => ?_
  clear H20
  show WP _ _ _ _ _ _
  refine g_keep [0, 1, 2, 3, 4, 5, 6, 16] fun ρ6 => ?_
  have HK7 := H21.keep
  clear H21
  refine rL [.v, .v, .v] HK7 kr fun gs22 w22 H22 => ?_
  clear HK7
  show WPL _ _ _ _ _ _
  refine g_next ?_
  refine g_seq kr ?_
  refine rS [.v, .v] H22 kr fun gs23 w23 H23 => ?_
  clear H22
  refine g_cond_t kr kr ?_
  refine g_skip kr ?_
  show WP _ _ _ _ _ _
  refine g_seq kr ?_
  refine g_block 1 kr ?_
  refine dL [.v, .v, .v, .v, .v, .v, .v, .v, .l 2, .l 0, .c (widen_fn p hp), .c (plusM_fn (Ec.widenW p) (Ec.widenW_ok hp) 6), .v, .v, .v, .s 2] H23 kr fun w24 H24 => ?_
  clear H23
  show WP _ _ _ _ _ _
  refine g_keep [0, 1, 2, 3, 4, 5, 6, 16] fun ρ7 => ?_
  have HK8 := H24.keep
  clear H24
  refine rL [.v, .v, .v] HK8 kr fun gs25 w25 H25 => ?_
  clear HK8
  show WPL _ _ _ _ _ _
  refine g_next ?_
  refine g_seq kr ?_
  refine rS [.v, .v] H25 kr fun gs26 w26 H26 => ?_
  clear H25
  refine g_cond_t kr kr ?_
  refine g_skip kr ?_
  show WP _ _ _ _ _ _
  refine g_seq kr ?_
  refine g_block 1 kr ?_
  refine dL [.v, .v, .v, .v, .v, .v, .v, .v, .l 2, .l 0, .c (widen_fn p hp), .c (plusM_fn (Ec.widenW p) (Ec.widenW_ok hp) 7), .v, .v, .v, .s 2] H26 kr fun w27 H27 => ?_
  clear H26
  show WP _ _ _ _ _ _
  refine g_keep [0, 1, 2, 3, 4, 5, 6, 16] fun ρ8 => ?_
  have HK9 := H27.keep
  clear H27
  refine rL [.v, .v, .v] HK9 kr fun gs28 w28 H28 => ?_
  clear HK9
  show WPL _ _ _ _ _ _
  refine g_next ?_
  refine g_seq kr ?_
  refine rS [.v, .v] H28 kr fun gs29 w29 H29 => ?_
  clear H28
  refine g_cond_t kr kr ?_
  refine g_skip kr ?_
  show WP _ _ _ _ _ _
  refine g_seq kr ?_
  refine g_block 1 kr ?_
  refine dL [.v, .v, .v, .v, .v, .v, .v, .v, .l 2, .l 0, .c (widen_fn p hp), .c (plusM_fn (Ec.widenW p) (Ec.widenW_ok hp) 8), .v, .v, .v, .s 2] H29 kr fun w30 H30 => ?_
  clear H29
  show WP _ _ _ _ _ _
  refine g_keep [0, 1, 2, 3, 4, 5, 6, 16] fun ρ9 => ?_
  have HK10 := H30.keep
  clear H30
  refine rL [.v, .v, .v] HK10 kr fun gs31 w31 H31 => ?_
  clear HK10
  show WPL _ _ _ _ _ _
  refine g_next ?_
  refine g_seq kr ?_
  refine rS [.v, .v] H31 kr fun gs32 w32 H32 => ?_
  clear H31
  refine g_cond_t kr kr ?_
  refine g_skip kr ?_
  show WP _ _ _ _ _ _
  refine g_seq kr ?_
  refine g_block 1 kr ?_
  refine dL [.v, .v, .v, .v, .v, .v, .v, .v, .l 2, .l 0, .c (widen_fn p hp), .c (plusM_fn (Ec.widenW p) (Ec.widenW_ok hp) 9), .v, .v, .v, .s 2] H32 kr fun w33 H33 => ?_
  clear H32
  show WP _ _ _ _ _ _
  refine g_keep [0, 1, 2, 3, 4, 5, 6, 16] fun ρ10 => ?_
  have HK11 := H33.keep
  clear H33
  refine rL [.v, .v, .v] HK11 kr fun gs34 w34 H34 => ?_
  clear HK11
  show WPL _ _ _ _ _ _
  refine g_next ?_
  refine g_seq kr ?_
  refine rS [.v, .v] H34 kr fun gs35 w35 H35 => ?_
  clear H34
  refine g_cond_t kr kr ?_
  refine g_skip kr ?_
  show WP _ _ _ _ _ _
  refine g_seq kr ?_
  refine g_block 1 kr ?_
  refine dL [.v, .v, .v, .v, .v, .v, .v, .v, .l 2, .l 0, .c (widen_fn p hp), .c (plusM_fn (Ec.widenW p) (Ec.widenW_ok hp) 10), .v, .v, .v, .s 2] H35 kr fun w36 H36 => ?_
  clear H35
  show WP _ _ _ _ _ _
  refine g_keep [0, 1, 2, 3, 4, 5, 6, 16] fun ρ11 => ?_
  have HK12 := H36.keep
  clear H36
  refine rL [.v, .v, .v] HK12 kr fun gs37 w37 H37 => ?_
  clear HK12
  show WPL _ _ _ _ _ _
  refine g_next ?_
  refine g_seq kr ?_
  refine rS [.v, .v] H37 kr fun gs38 w38 H38 => ?_
  clear H37
  refine g_cond_t kr kr ?_
  refine g_skip kr ?_
  show WP _ _ _ _ _ _
  refine g_seq kr ?_
  refine g_block 1 kr ?_
  refine dL [.v, .v, .v, .v, .v, .v, .v, .v, .l 2, .l 0, .c (widen_fn p hp), .c (plusM_fn (Ec.widenW p) (Ec.widenW_ok hp) 11), .v, .v, .v, .s 2] H38 kr fun w39 H39 => ?_
  clear H38
  show WP _ _ _ _ _ _
  refine g_keep [0, 1, 2, 3, 4, 5, 6, 16] fun ρ12 => ?_
  have HK13 := H39.keep
  clear H39
  refine rL [.v, .v, .v] HK13 kr fun gs40 w40 H40 => ?_
  clear HK13
  show WPL _ _ _ _ _ _
  refine g_next ?_
  refine g_seq kr ?_
  refine rS [.v, .v] H40 kr fun gs41 w41 H41 => ?_
  clear H40
  refine g_cond_t kr kr ?_
  refine g_skip kr ?_
  show WP _ _ _ _ _ _
  refine g_seq kr ?_
  refine g_block 1 kr ?_
  refine dL [.v, .v, .v, .v, .v, .v, .v, .v, .l 2, .l 0, .c (widen_fn p hp), .c (plusM_fn (Ec.widenW p) (Ec.widenW_ok hp) 12), .v, .v, .v, .s 2] H41 kr fun w42 H42 => ?_
  clear H41
  show WP _ _ _ _ _ _
  refine g_keep [0, 1, 2, 3, 4, 5, 6, 16] fun ρ13 => ?_
  have HK14 := H42.keep
  clear H42
  refine rL [.v, .v, .v] HK14 kr fun gs43 w43 H43 => ?_
  clear HK14
  show WPL _ _ _ _ _ _
  refine g_next ?_
  refine g_seq kr ?_
  refine rS [.v, .v] H43 kr fun gs44 w44 H44 => ?_
  clear H43
  refine g_cond_t kr kr ?_
  refine g_skip kr ?_
  show WP _ _ _ _ _ _
  refine g_seq kr ?_
  refine g_block 1 kr ?_
  refine dL [.v, .v, .v, .v, .v, .v, .v, .v, .l 2, .l 0, .c (widen_fn p hp), .c (plusM_fn (Ec.widenW p) (Ec.widenW_ok hp) 13), .v, .v, .v, .s 2] H44 kr fun w45 H45 => ?_
  clear H44
  show WP _ _ _ _ _ _
  refine g_keep [0, 1, 2, 3, 4, 5, 6, 16] fun ρ14 => ?_
  have HK15 := H45.keep
  clear H45
  refine rL [.v, .v, .v] HK15 kr fun gs46 w46 H46 => ?_
  clear HK15
  show WPL _ _ _ _ _ _
  refine g_next ?_
  refine g_seq kr ?_
  refine rS [.v, .v] H46 kr fun gs47 w47 H47 => ?_
  clear H46
  refine g_cond_t kr kr ?_
  refine g_skip kr ?_
  show WP _ _ _ _ _ _
  refine g_seq kr ?_
  refine g_block 1 kr ?_
  refine dL [.v, .v, .v, .v, .v, .v, .v, .v, .l 2, .l 0, .c (widen_fn p hp), .c (plusM_fn (Ec.widenW p) (Ec.widenW_ok hp) 14), .v, .v, .v, .s 2] H47 kr fun w48 H48 => ?_
  clear H47
  show WP _ _ _ _ _ _
  refine g_keep [0, 1, 2, 3, 4, 5, 6, 16] fun ρ15 => ?_
  have HK16 := H48.keep
  clear H48
  refine rL [.v, .v, .v] HK16 kr fun gs49 w49 H49 => ?_
  clear HK16
  show WPL _ _ _ _ _ _
  refine g_next ?_
  refine g_seq kr ?_
  refine rS [.v, .v] H49 kr fun gs50 w50 H50 => ?_
  clear H49
  refine g_cond_f kr kr ?_
  refine g_exit 0 kr ?_
  show WP _ _ _ _ _ _
  refine rS [.v, .v] H50 kr fun gs51 w51 H51 => ?_
  clear H50
  refine g_ret kr ?_
  show ∃ vs, Res _ _ _ _ vs ∧ _
  refine ⟨[.pointer (some ⟨(gs2 2).b, 0, none⟩)], (.tmp (.pointer (some ⟨(gs2 2).b, 0, none⟩)) kr .nil), H51.below, ?_⟩
  exact ⟨(gs2 2).b, rfl, H51.ge 2 (o := .cells (Value.cells (shv n (Ec.widenW p) 15)) 99 (0, 0)) kr, H51.get 2 kr⟩
end Go.Proofs.YtmmloghbnpfedaaDoor

namespace Go.Proofs.YtmmloghbnpfedaaDoor
open Go Go.RowKit
set_option linter.unusedVariables false
set_option maxRecDepth 100000 in
set_option maxHeartbeats 2000000 in
theorem liftNo_fn (x : Nat) (hx : x < big) (h : x < PR) (hs : (fMul (fpw (Ec.sqN x) QR PR) (fpw (Ec.sqN x) QR PR) PR) ≠ (rs (Ec.sqN x) 0 PR)) (b : Bool) : Fn Tryd.prog 20 #[uv x, .bool b] (.tuple #[pv (Ec.Pd.mk 0 0 false), .int .i64 6]) := by
  refine Fn.intro (c := codeOf Tryd.f20) [.cell 4 26, .tmp 5] 28 Tryd.func20 kr kr kr fun w => ?_
  have H0 := St.start w
  refine rS [.b, .a, .v] H0 kr fun gs1 w1 H1 => ?_
  clear H0
  refine g_seq kr ?_
  refine rS [.l 0, .c (red_yes x hx h), .v] H1 kr fun gs2 w2 H2 => ?_
  clear H1
  refine g_cond_f kr kr ?_
  refine g_skip kr ?_
  show WP _ _ _ _ _ _
  refine rS [.l 0, .c (square_fn x hx), .c (rootNo_fn (Ec.sqN x) (Ec.P_big (Ec.sqN_lt _)) hs), .v, .v, .v, .a, .s 2, .v] H2 kr fun gs3 w3 H3 => ?_
  clear H2
  refine g_seq kr ?_
  refine rS [.v, .v] H3 kr fun gs4 w4 H4 => ?_
  clear H3
  refine g_keep [0, 1, 2, 4, 5, 6, 7, 10, 19] fun ρ1 => ?_
  have HK1 := H4.keep
  clear H4
  refine g_cond_t kr kr ?_
  refine rS [.v, .s 1, .v] HK1 kr fun gs5 w5 H5 => ?_
  clear HK1
  refine g_ret kr ?_
  show ∃ vs, Res _ _ _ _ vs ∧ _
  refine ⟨[pv (Ec.Pd.mk 0 0 false), .int .i64 6], (.agg (b := (gs1 1).b) (Value.cells (pv (Ec.Pd.mk 0 0 false))) 26 (0, 0) kr (H5.get 1 kr) kr (.tmp (.int .i64 6) kr .nil)), ?_, H5.below⟩
  kernel_rfl
set_option maxRecDepth 100000 in
set_option maxHeartbeats 2000000 in
theorem lift1_fn (x : Nat) (hx : x < big) (h : x < PR) (hs : (fMul (fpw (Ec.sqN x) QR PR) (fpw (Ec.sqN x) QR PR) PR) = (rs (Ec.sqN x) 0 PR)) : Fn Tryd.prog 20 #[uv x, .bool true] (.tuple #[pv (Ec.Pd.mk x (fSub 0 (rt (Ec.sqN x)) PR) false), .int .i64 0]) := by
  refine Fn.intro (c := codeOf Tryd.f20) [.cell 4 26, .tmp 5] 28 Tryd.func20 kr kr kr fun w => ?_
  have H0 := St.start w
  refine rS [.b, .a, .v] H0 kr fun gs1 w1 H1 => ?_
  clear H0
  refine g_seq kr ?_
  refine rS [.l 0, .c (red_yes x hx h), .v] H1 kr fun gs2 w2 H2 => ?_
  clear H1
  refine g_cond_f kr kr ?_
  refine g_skip kr ?_
  show WP _ _ _ _ _ _
  refine rS [.l 0, .c (square_fn x hx), .c (root_fn (Ec.sqN x) (Ec.P_big (Ec.sqN_lt _)) hs), .v, .v, .v, .a, .s 2, .v] H2 kr fun gs3 w3 H3 => ?_
  clear H2
  refine g_seq kr ?_
  refine rS [.v, .v] H3 kr fun gs4 w4 H4 => ?_
  clear H3
  refine g_keep [0, 1, 2, 4, 5, 6, 7, 10, 19] fun ρ1 => ?_
  have HK1 := H4.keep
  clear H4
  refine g_cond_f kr kr ?_
  refine g_skip kr ?_
  show WP _ _ _ _ _ _
  refine g_seq kr ?_
  refine rS [.v] HK1 kr fun gs5 w5 H5 => ?_
  clear HK1
  refine g_cond_t kr kr ?_
  refine rL [.v, .l 2, .c (pless_fn 0 (rt (Ec.sqN x)) (by unfold big; omega) (rt_lt _)), .s 2] H5 kr fun gs6 w6 H6 => ?_
  clear H5
  show WP _ _ _ _ _ _
  refine rS [.l 0, .l 2, .v, .s 1, .v] H6 kr fun gs7 w7 H7 => ?_
  clear H6
  refine g_ret kr ?_
  show ∃ vs, Res _ _ _ _ vs ∧ _
  refine ⟨[pv (Ec.Pd.mk x (fSub 0 (rt (Ec.sqN x)) PR) false), .int .i64 0], (.agg (b := (gs1 1).b) (Value.cells (pv (Ec.Pd.mk x (fSub 0 (rt (Ec.sqN x)) PR) false))) 26 (0, 0) kr (H7.get 1 kr) kr (.tmp (.int .i64 0) kr .nil)), ?_, H7.below⟩
  rfl
set_option maxRecDepth 100000 in
set_option maxHeartbeats 2000000 in
theorem lift0_fn (x : Nat) (hx : x < big) (h : x < PR) (hs : (fMul (fpw (Ec.sqN x) QR PR) (fpw (Ec.sqN x) QR PR) PR) = (rs (Ec.sqN x) 0 PR)) : Fn Tryd.prog 20 #[uv x, .bool false] (.tuple #[pv (Ec.Pd.mk x (rt (Ec.sqN x)) false), .int .i64 0]) := by
  refine Fn.intro (c := codeOf Tryd.f20) [.cell 4 26, .tmp 5] 28 Tryd.func20 kr kr kr fun w => ?_
  have H0 := St.start w
  refine rS [.b, .a, .v] H0 kr fun gs1 w1 H1 => ?_
  clear H0
  refine g_seq kr ?_
  refine rS [.l 0, .c (red_yes x hx h), .v] H1 kr fun gs2 w2 H2 => ?_
  clear H1
  refine g_cond_f kr kr ?_
  refine g_skip kr ?_
  show WP _ _ _ _ _ _
  refine rS [.l 0, .c (square_fn x hx), .c (root_fn (Ec.sqN x) (Ec.P_big (Ec.sqN_lt _)) hs), .v, .v, .v, .a, .s 2, .v] H2 kr fun gs3 w3 H3 => ?_
  clear H2
  refine g_seq kr ?_
  refine rS [.v, .v] H3 kr fun gs4 w4 H4 => ?_
  clear H3
  refine g_keep [0, 1, 2, 4, 5, 6, 7, 10, 19] fun ρ1 => ?_
  have HK1 := H4.keep
  clear H4
  refine g_cond_f kr kr ?_
  refine g_skip kr ?_
  show WP _ _ _ _ _ _
  refine g_seq kr ?_
  refine rS [.v] HK1 kr fun gs5 w5 H5 => ?_
  clear HK1
  refine g_cond_f kr kr ?_
  refine g_skip kr ?_
  show WP _ _ _ _ _ _
  refine rS [.l 0, .l 2, .v, .s 1, .v] H5 kr fun gs6 w6 H6 => ?_
  clear H5
  refine g_ret kr ?_
  show ∃ vs, Res _ _ _ _ vs ∧ _
  refine ⟨[pv (Ec.Pd.mk x (rt (Ec.sqN x)) false), .int .i64 0], (.agg (b := (gs1 1).b) (Value.cells (pv (Ec.Pd.mk x (rt (Ec.sqN x)) false))) 26 (0, 0) kr (H6.get 1 kr) kr (.tmp (.int .i64 0) kr .nil)), ?_, H6.below⟩
  rfl
end Go.Proofs.YtmmloghbnpfedaaDoor

namespace Go.Proofs.YtmmloghbnpfedaaDoor
open Go Go.RowKit
set_option linter.unusedVariables false
set_option maxRecDepth 100000 in
set_option maxHeartbeats 2000000 in
theorem at_fn (n : Nat) (p : Ec.Wp) (hp : p.Ok) (hn : n < big) (bs d : Nat) (hd : d < 64) : FnP Tryd.prog 74 #[.pointer (some ⟨bs, 0, none⟩), .int .i64 ((d : Nat) : Int)] (fun w => w.heap[bs]? = some (.cells (Value.cells (shv n p 15)) 99 (0, 0))) (wv (Ec.mults p (n / 16 ^ d % 16))) := by
  have hl : shw n (d * 4 / 64) < 18446744073709551616 := Nat.mod_lt _ (by decide)
  refine FnP.intro (c := codeOf Tryd.f74) [.cell 4 65] 26 Tryd.func74 kr kr kr fun w hpre => ?_
  have H0 := St.start w
  refine rS [.a] H0 kr fun gs1 w1 H1 => ?_
  clear H0
  refine rS [.v, .e (v := .int .i64 (IntKind.i64.wrap (((d : Nat) : Int) * 4))) (v' := .int .i64 ((d * 4 : Nat) : Int)) (int_eq (wrapMul_i64 (a := d) (b := 4) (by omega))), .v] H1 kr fun gs2 w2 H2 => ?_
  clear H1
  refine rS [.v, .v, .e (v := .int .i64 (IntKind.i64.wrap (((d * 4 : Nat) : Int).tdiv 64))) (v' := .int .i64 (((d * 4) / 64 : Nat) : Int)) (int_eq (quoN_i64 (a := d * 4) (b := 64) (by omega))), .v, .v, .o (ins := [((.tmp 13), .pointer (some ⟨bs, 0, none⟩)), ((.tmp 11), .int .i64 (((d * 4) / 64 : Nat) : Int))]) (v := .pointer (some ⟨bs, 0 + ((d * 4) / 64) * 1, none⟩)) (fun ρ o w ho hi => idxA_run (kd := .i64) (t := 24) (n := 4) (size := 1) kr (x := (.tmp 13)) (y := (.tmp 11)) bs 0 ((d * 4) / 64) ho hi.1 hi.2.1 (by omega) w), .fs (off := 0 + ((d * 4) / 64) * 1) (v := .int .u64 ((shw n ((d * 4) / 64) : Nat) : Int)) hpre (lt_of_heap hpre) (shw_at n p (q := ((d * 4) / 64)) (by omega) (by omega)), .v, .e (v := .int .i64 (Int.tmod ((d * 4 : Nat) : Int) 64)) (v' := .int .i64 (((d * 4) % 64 : Nat) : Int)) (int_eq (remN (d * 4) 64)), .e (v := .int .u64 (Int.fdiv ((shw n ((d * 4) / 64) : Nat) : Int) (2 ^ (min ((d * 4) % 64) 64)))) (v' := .int .u64 (((shw n ((d * 4) / 64)) / 2 ^ ((d * 4) % 64) : Nat) : Int)) (int_eq (shr_min (shw n ((d * 4) / 64)) ((d * 4) % 64) 64 (by omega))), .v] H2 kr fun gs3 w3 H3 => ?_
  clear H2
  refine g_sreg [0, 1, 2, 3, 4, 5, 6, 7] kr kr ?_
  refine rp [.v, .v, .e (v := .int .u64 (Int.tmod (((shw n ((d * 4) / 64)) / 2 ^ ((d * 4) % 64) : Nat) : Int) 16)) (v' := .int .u64 ((((shw n ((d * 4) / 64)) / 2 ^ ((d * 4) % 64)) % 16 : Nat) : Int)) (int_eq (remN ((shw n ((d * 4) / 64)) / 2 ^ ((d * 4) % 64)) 16)), .v, .v, .o (ins := [((.tmp 23), .pointer (some ⟨bs, 4, none⟩)), ((.tmp 21), .int .u64 ((((shw n ((d * 4) / 64)) / 2 ^ ((d * 4) % 64)) % 16 : Nat) : Int))]) (v := .pointer (some ⟨bs, 4 + (((shw n ((d * 4) / 64)) / 2 ^ ((d * 4) % 64)) % 16) * 13, none⟩)) (fun ρ o w ho hi => idxA_run (kd := .u64) (t := 97) (n := 16) (size := 13) kr (x := (.tmp 23)) (y := (.tmp 21)) bs 4 (((shw n ((d * 4) / 64)) / 2 ^ ((d * 4) % 64)) % 16) ho hi.1 hi.2.1 (by omega) w)] H3 kr fun gs4 w4 H4 => ?_
  show WPs _ _ _ _ [6, 7] _ _
  clear H3
  refine s_loadpF H4 (some 25) 65 (.tmp 24) bs (4 + (((shw n ((d * 4) / 64)) / 2 ^ ((d * 4) % 64)) % 16) * 13) 13 (Value.cells (shv n p 15)) (Value.cells (wv (Ec.mults p (n / 16 ^ d % 16)))) 99 (0, 0) kr kr kr hpre (lt_of_heap hpre) kr (by rw [sh_size]; omega) ((shm_at n p (q := shw n (d * 4 / 64) / 2 ^ (d * 4 % 64) % 16) rfl (Nat.mod_lt _ (by decide))).trans (by rw [dig_bits])) ?_
  refine rp [.s 0] H4 kr fun gs5 w5 H5 => ?_
  show WPs _ _ _ _ [] _ _
  clear H4
  refine s_nil ?_
  refine g_ret kr ?_
  show ∃ vs, Res _ _ _ _ vs ∧ _
  refine ⟨[wv (Ec.mults p (n / 16 ^ d % 16))], (.agg (b := (gs1 0).b) (Value.cells (wv (Ec.mults p (n / 16 ^ d % 16)))) 65 (0, 0) kr (H5.get 0 kr) kr .nil), ?_, H5.below⟩
  rfl
set_option maxRecDepth 100000 in
set_option maxHeartbeats 2000000 in
theorem together1_fn (n : Nat) (p : Ec.Wp) (hp : p.Ok) (hn : n < big) (ba sa : Nat) : FnP Tryd.prog 38 #[.slice (some ⟨ba, 0, none⟩) 1 1] (fun w => w.heap[ba]? = some (.cells #[Value.pointer (some ⟨sa, 0, none⟩)] 67 (0, 0)) ∧ w.heap[sa]? = some (.cells (Value.cells (shv n p 15)) 99 (0, 0))) (wv (Ec.tog n p 64)) := by
  refine FnP.intro (c := codeOf Tryd.f38) [.cell 2 65] 30 Tryd.func38 kr kr kr fun w hpre => ?_
  have H0 := St.start w
  refine rS [.a] H0 kr fun gs1 w1 H1 => ?_
  clear H0
  refine rS [.c pzero_fn, .a, .s 1] H1 kr fun gs2 w2 H2 => ?_
  clear H1
  refine g_seq kr ?_
  refine rS [.v] H2 kr fun gs3 w3 H3 => ?_
  clear H2
  refine g_block 0 kr ?_
  have HL1 : St w.heap.size w w3 [((gs1 0).b, Obj.cells #[.int .u64 0, .int .u64 0, .int .u64 0, .int .u64 0, .int .u64 0, .int .u64 0, .int .u64 0, .int .u64 0, .bool false, .int .u64 0, .int .u64 0, .int .u64 0, .int .u64 0] 65 (0, 0)), ((gs2 1).b, Obj.cells (Value.cells (wv Ec.zeroW)) 65 (0, 0))] := H3.as kr
  clear H3
  rw [show Ec.zeroW = Ec.tog n p (64 - 64) from rfl] at HL1
  have HF2 : St w.heap.size w w3 [((gs1 0).b, Obj.cells #[.int .u64 0, .int .u64 0, .int .u64 0, .int .u64 0, .int .u64 0, .int .u64 0, .int .u64 0, .int .u64 0, .bool false, .int .u64 0, .int .u64 0, .int .u64 0, .int .u64 0] 65 (0, 0)), ((gs2 1).b, Obj.cells (Value.cells (wv (Ec.tog n p (64 - 64)))) 65 (0, 0))] := HL1.front 0 kr kr
  have HF3 : St w.heap.size w w3 [((gs2 1).b, Obj.cells (Value.cells (wv (Ec.tog n p (64 - 64)))) 65 (0, 0)), ((gs1 0).b, Obj.cells #[.int .u64 0, .int .u64 0, .int .u64 0, .int .u64 0, .int .u64 0, .int .u64 0, .int .u64 0, .int .u64 0, .bool false, .int .u64 0, .int .u64 0, .int .u64 0, .int .u64 0] 65 (0, 0))] := HF2.front 1 kr kr
  refine g_loop kr (fun mz ρ ww => ∃ (j : Nat), j = mz ∧ (j ≤ 64) ∧ St w.heap.size w ww [((gs2 1).b, Obj.cells (Value.cells (wv (Ec.tog n p (64 - j)))) 65 (0, 0)), ((gs1 0).b, Obj.cells #[.int .u64 0, .int .u64 0, .int .u64 0, .int .u64 0, .int .u64 0, .int .u64 0, .int .u64 0, .int .u64 0, .bool false, .int .u64 0, .int .u64 0, .int .u64 0, .int .u64 0] 65 (0, 0))] ∧ Is [(0, .slice (some ⟨ba, 0, none⟩) 1 1), (2, .pointer (some ⟨(gs1 0).b, 0, none⟩)), (3, .pointer (some ⟨(gs2 1).b, 0, none⟩)), (4, .int .i64 (((j : Nat) : Int) - 1))] ρ) 64 ⟨64, rfl, (by omega), HF3, (Is.of ⟨kr, kr, kr, kr, trivial⟩)⟩ ?_
  clear HF3
  rintro _ _ w4 ⟨j, rfl, hj, H4, _, rfl⟩
  refine g_seq kr ?_
  refine g_sreg [0, 1] kr kr ?_
  refine rp [.v] H4 kr fun gs5 w5 H5 => ?_
  show WPs _ _ _ _ [1] _ _
  clear H4
  by_cases hc4 : (((j : Nat) : Int) - 1 : Int) ≥ 0
  · skip
    refine rp [.e (v := .bool (decide (0 ≤ ((j : Nat) : Int) - 1))) (v' := .bool true) (bool_eq (decide_eq_true (by omega)))] H5 kr fun gs6 w6 H6 => ?_
    show WPs _ _ _ _ [] _ _
    clear H5
    refine s_nil ?_
    refine g_cond_t kr kr ?_
    refine g_skip kr ?_
    show WP _ _ _ _ _ _
    refine g_seq kr ?_
    refine g_block 1 kr ?_
    refine g_seq kr ?_
    refine g_now 4 (v := .int .i64 (((j : Nat) : Int) - 1)) (v' := .int .i64 ((j - 1 : Nat) : Int)) (int_eq (show (((j : Nat) : Int) - 1) = ((j - 1 : Nat) : Int) from by omega)) kr ?_
    refine g_now 8 (v := .int .i64 (((j : Nat) : Int) - 1)) (v' := .int .i64 ((j - 1 : Nat) : Int)) (int_eq (show (((j : Nat) : Int) - 1) = ((j - 1 : Nat) : Int) from by omega)) kr ?_
    refine rS [.v] H6 kr fun gs7 w7 H7 => ?_
    clear H6
    refine g_block 2 kr ?_
    have HL5 : St w.heap.size w w7 [((gs2 1).b, Obj.cells (Value.cells (wv (Ec.tog n p (64 - j)))) 65 (0, 0)), ((gs1 0).b, Obj.cells #[.int .u64 0, .int .u64 0, .int .u64 0, .int .u64 0, .int .u64 0, .int .u64 0, .int .u64 0, .int .u64 0, .bool false, .int .u64 0, .int .u64 0, .int .u64 0, .int .u64 0] 65 (0, 0))] := H7.as kr
    clear H7
    refine g_first kr ?_
    refine rS [.v] HL5 kr fun gs8 w8 H8 => ?_
    clear HL5
    refine g_seq kr ?_
    refine g_cond_t kr kr ?_
    refine g_skip kr ?_
    show WP _ _ _ _ _ _
    refine g_seq kr ?_
    refine g_block 3 kr ?_
    refine rL [.l 0, .c (dbl_fn (Ec.tog n p (64 - j)) (Ec.tog_ok hp _)), .s 0] H8 kr fun gs9 w9 H9 => ?_
    clear H8
    show WP _ _ _ _ _ _
    refine rL [.v, .v] H9 kr fun gs10 w10 H10 => ?_
    clear H9
    show WPL _ _ _ _ _ _
    refine g_next ?_
    refine rS [.v] H10 kr fun gs11 w11 H11 => ?_
    clear H10
    refine g_seq kr ?_
    refine g_cond_t kr kr ?_
    refine g_skip kr ?_
    show WP _ _ _ _ _ _
    refine g_seq kr ?_
    refine g_block 3 kr ?_
    refine rL [.l 0, .c (dbl_fn (Ec.dblW (Ec.tog n p (64 - j))) (Ec.dblW_ok (Ec.tog_ok hp _))), .s 0] H11 kr fun gs12 w12 H12 => ?_
    clear H11
    show WP _ _ _ _ _ _
    refine g_keep [0, 2, 3, 4, 9, 12, 13] fun ρ1 => ?_
    have HK6 := H12.keep
    clear H12
    refine rL [.v, .v] HK6 kr fun gs13 w13 H13 => ?_
    clear HK6
    show WPL _ _ _ _ _ _
    refine g_next ?_
    refine rS [.v] H13 kr fun gs14 w14 H14 => ?_
    clear H13
    refine g_seq kr ?_
    refine g_cond_t kr kr ?_
    refine g_skip kr ?_
    show WP _ _ _ _ _ _
    refine g_seq kr ?_
    refine g_block 3 kr ?_
    refine rL [.l 0, .c (dbl_fn (Ec.dblW (Ec.dblW (Ec.tog n p (64 - j)))) (Ec.dblW_ok (Ec.dblW_ok (Ec.tog_ok hp _)))), .s 0] H14 kr fun gs15 w15 H15 => ?_
    clear H14
    show WP _ _ _ _ _ _
    refine rL [.v, .v] H15 kr fun gs16 w16 H16 => ?_
    clear H15
    show WPL _ _ _ _ _ _
    refine g_next ?_
    refine rS [.v] H16 kr fun gs17 w17 H17 => ?_
    clear H16
    refine g_seq kr ?_
    refine g_cond_t kr kr ?_
    refine g_skip kr ?_
    show WP _ _ _ _ _ _
    refine g_seq kr ?_
    refine g_block 3 kr ?_
    refine rL [.l 0, .c (dbl_fn (Ec.dblW (Ec.dblW (Ec.dblW (Ec.tog n p (64 - j))))) (Ec.dblW_ok (Ec.dblW_ok (Ec.dblW_ok (Ec.tog_ok hp _))))), .s 0] H17 kr fun gs18 w18 H18 => ?_
    clear H17
    show WP _ _ _ _ _ _
    refine rL [.v, .v] H18 kr fun gs19 w19 H19 => ?_
    clear H18
    show WPL _ _ _ _ _ _
    refine g_next ?_
    refine rS [.v] H19 kr fun gs20 w20 H20 => ?_
    clear H19
    refine g_seq kr ?_
    refine g_cond_f kr kr ?_
    refine g_exit 2 kr ?_
    show WP _ _ _ _ _ _
    refine rS [.v, .v, .v] H20 kr fun gs21 w21 H21 => ?_
    clear H20
    refine g_keep [0, 2, 3, 4, 9, 12, 13, 17, 18, 19] fun ρ2 => ?_
    have HK7 := H21.keep
    clear H21
    refine g_block 4 kr ?_
    have HL8 : St w.heap.size w w21 [((gs2 1).b, Obj.cells (Value.cells (wv (Ec.dblW (Ec.dblW (Ec.dblW (Ec.dblW (Ec.tog n p (64 - j)))))))) 65 (0, 0)), ((gs1 0).b, Obj.cells #[.int .u64 0, .int .u64 0, .int .u64 0, .int .u64 0, .int .u64 0, .int .u64 0, .int .u64 0, .int .u64 0, .bool false, .int .u64 0, .int .u64 0, .int .u64 0, .int .u64 0] 65 (0, 0))] := HK7.as kr
    clear HK7
    refine g_first kr ?_
    refine rS [.v] HL8 kr fun gs22 w22 H22 => ?_
    clear HL8
    refine g_seq kr ?_
    refine g_cond_t kr kr ?_
    refine g_skip kr ?_
    show WP _ _ _ _ _ _
    refine g_seq kr ?_
    refine g_block 5 kr ?_
    refine rS [.o (ins := [((.tmp 17), .slice (some ⟨ba, 0, none⟩) 1 1), ((.tmp 19), .int .i64 0)]) (v := .pointer (some ⟨ba, 0 + 0 * 1, none⟩)) (fun ρ o w ho hi => idxS_run (kd := .i64) (t := 94) (e := 67) (size := 1) (bytes := 8) kr (x := (.tmp 17)) (y := (.tmp 19)) ba 0 1 1 0 ho hi.1 hi.2.1 (by omega) w), .fs (off := 0 + 0 * 1) (v := .pointer (some ⟨sa, 0, none⟩)) hpre.1 (lt_of_heap hpre.1) kr, .v] H22 kr fun gs23 w23 H23 => ?_
    clear H22
    refine dL [.l 0, .v, .v, .cp (pre := fun w => w.heap[sa]? = some (.cells (Value.cells (shv n p 15)) 99 (0, 0))) (at_fn n p hp hn sa (j - 1) (by omega)) [] (fun w hb hd => ((hb.block _ (lt_of_heap hpre.2)).trans hpre.2)), .c (plus_fn (Ec.dblW (Ec.dblW (Ec.dblW (Ec.dblW (Ec.tog n p (64 - j)))))) (Ec.mults p (n / 16 ^ (j - 1) % 16)) (Ec.dblW_ok (Ec.dblW_ok (Ec.dblW_ok (Ec.dblW_ok (Ec.tog_ok hp _))))) (Ec.mults_ok hp _)), .s 0] H23 kr fun w24 H24 => ?_
    clear H23
    show WP _ _ _ _ _ _
    refine rL [.v, .v] H24 kr fun gs25 w25 H25 => ?_
    clear H24
    show WPL _ _ _ _ _ _
    refine g_next ?_
    refine rS [.v] H25 kr fun gs26 w26 H26 => ?_
    clear H25
    refine g_seq kr ?_
    refine g_cond_f kr kr ?_
    refine g_exit 4 kr ?_
    show WP _ _ _ _ _ _
    refine rL [.v, .e (v := .int .i64 (IntKind.i64.wrap (((j - 1 : Nat) : Int) - 1))) (v' := .int .i64 (((j - 1 : Nat) : Int) - 1)) (int_eq (wrap_i64 (by omega) (by omega))), .v] H26 kr fun gs27 w27 H27 => ?_
    clear H26
    have HL9 : St w.heap.size w w27 [((gs2 1).b, Obj.cells (Value.cells (wv (Ec.plusW (Ec.dblW (Ec.dblW (Ec.dblW (Ec.dblW (Ec.tog n p (64 - j)))))) (Ec.mults p (n / 16 ^ (j - 1) % 16))))) 65 (0, 0)), ((gs1 0).b, Obj.cells #[.int .u64 0, .int .u64 0, .int .u64 0, .int .u64 0, .int .u64 0, .int .u64 0, .int .u64 0, .int .u64 0, .bool false, .int .u64 0, .int .u64 0, .int .u64 0, .int .u64 0] 65 (0, 0))] := H27.as kr
    clear H27
    rw [show (Ec.plusW (Ec.dblW (Ec.dblW (Ec.dblW (Ec.dblW (Ec.tog n p (64 - j)))))) (Ec.mults p (n / 16 ^ (j - 1) % 16))) = Ec.tog n p (64 - (j - 1)) from tog_next (by omega) hj] at HL9
    show ∃ m, _ ∧ _
    exact ⟨_, (by omega), (j - 1), rfl, (by omega), HL9, (Is.of ⟨kr, kr, kr, kr, trivial⟩)⟩
  · skip
    refine rp [.e (v := .bool (decide (0 ≤ ((j : Nat) : Int) - 1))) (v' := .bool false) (bool_eq (decide_eq_false (by omega)))] H5 kr fun gs28 w28 H28 => ?_
    show WPs _ _ _ _ [] _ _
    clear H5
    refine s_nil ?_
    refine g_cond_f kr kr ?_
    refine g_exit 0 kr ?_
    show WP _ _ _ _ _ _
    refine rS [.l 0, .s 1] H28 kr fun gs29 w29 H29 => ?_
    clear H28
    refine g_ret kr ?_
    show ∃ vs, Res _ _ _ _ vs ∧ _
    refine ⟨[wv (Ec.tog n p (64 - j))], (.agg (b := (gs1 0).b) (Value.cells (wv (Ec.tog n p (64 - j)))) 65 (0, 0) kr (H29.get 1 kr) kr .nil), ?_, H29.below⟩
    obtain rfl : j = 0 := by omega
    rfl
set_option maxRecDepth 100000 in
set_option maxHeartbeats 2000000 in
theorem together2_fn (n : Nat) (p : Ec.Wp) (hp : p.Ok) (hn : n < big) (m : Nat) (q : Ec.Wp) (hq : q.Ok) (hm : m < big) (ba sa sb : Nat) : FnP Tryd.prog 38 #[.slice (some ⟨ba, 0, none⟩) 2 2] (fun w => w.heap[ba]? = some (.cells #[Value.pointer (some ⟨sa, 0, none⟩), Value.pointer (some ⟨sb, 0, none⟩)] 67 (0, 0)) ∧ w.heap[sa]? = some (.cells (Value.cells (shv n p 15)) 99 (0, 0)) ∧ w.heap[sb]? = some (.cells (Value.cells (shv m q 15)) 99 (0, 0))) (wv (Ec.tog2 n p m q 64)) := by
  refine FnP.intro (c := codeOf Tryd.f38) [.cell 2 65] 30 Tryd.func38 kr kr kr fun w hpre => ?_
  have H0 := St.start w
  refine rS [.a] H0 kr fun gs1 w1 H1 => ?_
  clear H0
  refine rS [.c pzero_fn, .a, .s 1] H1 kr fun gs2 w2 H2 => ?_
  clear H1
  refine g_seq kr ?_
  refine rS [.v] H2 kr fun gs3 w3 H3 => ?_
  clear H2
  refine g_block 0 kr ?_
  have HL1 : St w.heap.size w w3 [((gs1 0).b, Obj.cells #[.int .u64 0, .int .u64 0, .int .u64 0, .int .u64 0, .int .u64 0, .int .u64 0, .int .u64 0, .int .u64 0, .bool false, .int .u64 0, .int .u64 0, .int .u64 0, .int .u64 0] 65 (0, 0)), ((gs2 1).b, Obj.cells (Value.cells (wv Ec.zeroW)) 65 (0, 0))] := H3.as kr
  clear H3
  rw [show Ec.zeroW = Ec.tog2 n p m q (64 - 64) from rfl] at HL1
  have HF2 : St w.heap.size w w3 [((gs1 0).b, Obj.cells #[.int .u64 0, .int .u64 0, .int .u64 0, .int .u64 0, .int .u64 0, .int .u64 0, .int .u64 0, .int .u64 0, .bool false, .int .u64 0, .int .u64 0, .int .u64 0, .int .u64 0] 65 (0, 0)), ((gs2 1).b, Obj.cells (Value.cells (wv (Ec.tog2 n p m q (64 - 64)))) 65 (0, 0))] := HL1.front 0 kr kr
  have HF3 : St w.heap.size w w3 [((gs2 1).b, Obj.cells (Value.cells (wv (Ec.tog2 n p m q (64 - 64)))) 65 (0, 0)), ((gs1 0).b, Obj.cells #[.int .u64 0, .int .u64 0, .int .u64 0, .int .u64 0, .int .u64 0, .int .u64 0, .int .u64 0, .int .u64 0, .bool false, .int .u64 0, .int .u64 0, .int .u64 0, .int .u64 0] 65 (0, 0))] := HF2.front 1 kr kr
  refine g_loop kr (fun mz ρ ww => ∃ (j : Nat), j = mz ∧ (j ≤ 64) ∧ St w.heap.size w ww [((gs2 1).b, Obj.cells (Value.cells (wv (Ec.tog2 n p m q (64 - j)))) 65 (0, 0)), ((gs1 0).b, Obj.cells #[.int .u64 0, .int .u64 0, .int .u64 0, .int .u64 0, .int .u64 0, .int .u64 0, .int .u64 0, .int .u64 0, .bool false, .int .u64 0, .int .u64 0, .int .u64 0, .int .u64 0] 65 (0, 0))] ∧ Is [(0, .slice (some ⟨ba, 0, none⟩) 2 2), (2, .pointer (some ⟨(gs1 0).b, 0, none⟩)), (3, .pointer (some ⟨(gs2 1).b, 0, none⟩)), (4, .int .i64 (((j : Nat) : Int) - 1))] ρ) 64 ⟨64, rfl, (by omega), HF3, (Is.of ⟨kr, kr, kr, kr, trivial⟩)⟩ ?_
  clear HF3
  rintro _ _ w4 ⟨j, rfl, hj, H4, _, rfl⟩
  refine g_seq kr ?_
  refine g_sreg [0, 1] kr kr ?_
  refine rp [.v] H4 kr fun gs5 w5 H5 => ?_
  show WPs _ _ _ _ [1] _ _
  clear H4
  by_cases hc4 : (((j : Nat) : Int) - 1 : Int) ≥ 0
  · skip
    refine rp [.e (v := .bool (decide (0 ≤ ((j : Nat) : Int) - 1))) (v' := .bool true) (bool_eq (decide_eq_true (by omega)))] H5 kr fun gs6 w6 H6 => ?_
    show WPs _ _ _ _ [] _ _
    clear H5
    refine s_nil ?_
    refine g_cond_t kr kr ?_
    refine g_skip kr ?_
    show WP _ _ _ _ _ _
    refine g_seq kr ?_
    refine g_block 1 kr ?_
    refine g_seq kr ?_
    refine g_now 4 (v := .int .i64 (((j : Nat) : Int) - 1)) (v' := .int .i64 ((j - 1 : Nat) : Int)) (int_eq (show (((j : Nat) : Int) - 1) = ((j - 1 : Nat) : Int) from by omega)) kr ?_
    refine g_now 8 (v := .int .i64 (((j : Nat) : Int) - 1)) (v' := .int .i64 ((j - 1 : Nat) : Int)) (int_eq (show (((j : Nat) : Int) - 1) = ((j - 1 : Nat) : Int) from by omega)) kr ?_
    refine rS [.v] H6 kr fun gs7 w7 H7 => ?_
    clear H6
    refine g_block 2 kr ?_
    have HL5 : St w.heap.size w w7 [((gs2 1).b, Obj.cells (Value.cells (wv (Ec.tog2 n p m q (64 - j)))) 65 (0, 0)), ((gs1 0).b, Obj.cells #[.int .u64 0, .int .u64 0, .int .u64 0, .int .u64 0, .int .u64 0, .int .u64 0, .int .u64 0, .int .u64 0, .bool false, .int .u64 0, .int .u64 0, .int .u64 0, .int .u64 0] 65 (0, 0))] := H7.as kr
    clear H7
    refine g_first kr ?_
    refine rS [.v] HL5 kr fun gs8 w8 H8 => ?_
    clear HL5
    refine g_seq kr ?_
    refine g_cond_t kr kr ?_
    refine g_skip kr ?_
    show WP _ _ _ _ _ _
    refine g_seq kr ?_
    refine g_block 3 kr ?_
    refine rL [.l 0, .c (dbl_fn (Ec.tog2 n p m q (64 - j)) (Ec.tog2_ok hp hq _)), .s 0] H8 kr fun gs9 w9 H9 => ?_
    clear H8
    show WP _ _ _ _ _ _
    refine rL [.v, .v] H9 kr fun gs10 w10 H10 => ?_
    clear H9
    show WPL _ _ _ _ _ _
    refine g_next ?_
    refine rS [.v] H10 kr fun gs11 w11 H11 => ?_
    clear H10
    refine g_seq kr ?_
    refine g_cond_t kr kr ?_
    refine g_skip kr ?_
    show WP _ _ _ _ _ _
    refine g_seq kr ?_
    refine g_block 3 kr ?_
    refine rL [.l 0, .c (dbl_fn (Ec.dblW (Ec.tog2 n p m q (64 - j))) (Ec.dblW_ok (Ec.tog2_ok hp hq _))), .s 0] H11 kr fun gs12 w12 H12 => ?_
    clear H11
    show WP _ _ _ _ _ _
    refine g_keep [0, 2, 3, 4, 9, 12, 13] fun ρ1 => ?_
    have HK6 := H12.keep
    clear H12
    refine rL [.v, .v] HK6 kr fun gs13 w13 H13 => ?_
    clear HK6
    show WPL _ _ _ _ _ _
    refine g_next ?_
    refine rS [.v] H13 kr fun gs14 w14 H14 => ?_
    clear H13
    refine g_seq kr ?_
    refine g_cond_t kr kr ?_
    refine g_skip kr ?_
    show WP _ _ _ _ _ _
    refine g_seq kr ?_
    refine g_block 3 kr ?_
    refine rL [.l 0, .c (dbl_fn (Ec.dblW (Ec.dblW (Ec.tog2 n p m q (64 - j)))) (Ec.dblW_ok (Ec.dblW_ok (Ec.tog2_ok hp hq _)))), .s 0] H14 kr fun gs15 w15 H15 => ?_
    clear H14
    show WP _ _ _ _ _ _
    refine rL [.v, .v] H15 kr fun gs16 w16 H16 => ?_
    clear H15
    show WPL _ _ _ _ _ _
    refine g_next ?_
    refine rS [.v] H16 kr fun gs17 w17 H17 => ?_
    clear H16
    refine g_seq kr ?_
    refine g_cond_t kr kr ?_
    refine g_skip kr ?_
    show WP _ _ _ _ _ _
    refine g_seq kr ?_
    refine g_block 3 kr ?_
    refine rL [.l 0, .c (dbl_fn (Ec.dblW (Ec.dblW (Ec.dblW (Ec.tog2 n p m q (64 - j))))) (Ec.dblW_ok (Ec.dblW_ok (Ec.dblW_ok (Ec.tog2_ok hp hq _))))), .s 0] H17 kr fun gs18 w18 H18 => ?_
    clear H17
    show WP _ _ _ _ _ _
    refine rL [.v, .v] H18 kr fun gs19 w19 H19 => ?_
    clear H18
    show WPL _ _ _ _ _ _
    refine g_next ?_
    refine rS [.v] H19 kr fun gs20 w20 H20 => ?_
    clear H19
    refine g_seq kr ?_
    refine g_cond_f kr kr ?_
    refine g_exit 2 kr ?_
    show WP _ _ _ _ _ _
    refine rS [.v, .v, .v] H20 kr fun gs21 w21 H21 => ?_
    clear H20
    refine g_keep [0, 2, 3, 4, 9, 12, 13, 17, 18, 19] fun ρ2 => ?_
    have HK7 := H21.keep
    clear H21
    refine g_block 4 kr ?_
    have HL8 : St w.heap.size w w21 [((gs2 1).b, Obj.cells (Value.cells (wv (Ec.dblW (Ec.dblW (Ec.dblW (Ec.dblW (Ec.tog2 n p m q (64 - j)))))))) 65 (0, 0)), ((gs1 0).b, Obj.cells #[.int .u64 0, .int .u64 0, .int .u64 0, .int .u64 0, .int .u64 0, .int .u64 0, .int .u64 0, .int .u64 0, .bool false, .int .u64 0, .int .u64 0, .int .u64 0, .int .u64 0] 65 (0, 0))] := HK7.as kr
    clear HK7
    refine g_first kr ?_
    refine rS [.v] HL8 kr fun gs22 w22 H22 => ?_
    clear HL8
    refine g_seq kr ?_
    refine g_cond_t kr kr ?_
    refine g_skip kr ?_
    show WP _ _ _ _ _ _
    refine g_seq kr ?_
    refine g_block 5 kr ?_
    refine rS [.o (ins := [((.tmp 17), .slice (some ⟨ba, 0, none⟩) 2 2), ((.tmp 19), .int .i64 0)]) (v := .pointer (some ⟨ba, 0 + 0 * 1, none⟩)) (fun ρ o w ho hi => idxS_run (kd := .i64) (t := 94) (e := 67) (size := 1) (bytes := 8) kr (x := (.tmp 17)) (y := (.tmp 19)) ba 0 2 2 0 ho hi.1 hi.2.1 (by omega) w), .fs (off := 0 + 0 * 1) (v := .pointer (some ⟨sa, 0, none⟩)) hpre.1 (lt_of_heap hpre.1) kr, .v] H22 kr fun gs23 w23 H23 => ?_
    clear H22
    refine dL [.l 0, .v, .v, .cp (pre := fun w => w.heap[sa]? = some (.cells (Value.cells (shv n p 15)) 99 (0, 0))) (at_fn n p hp hn sa (j - 1) (by omega)) [] (fun w hb hd => ((hb.block _ (lt_of_heap hpre.2.1)).trans hpre.2.1)), .c (plus_fn (Ec.dblW (Ec.dblW (Ec.dblW (Ec.dblW (Ec.tog2 n p m q (64 - j)))))) (Ec.mults p (n / 16 ^ (j - 1) % 16)) (Ec.dblW_ok (Ec.dblW_ok (Ec.dblW_ok (Ec.dblW_ok (Ec.tog2_ok hp hq _))))) (Ec.mults_ok hp _)), .s 0] H23 kr fun w24 H24 => ?_
    clear H23
    show WP _ _ _ _ _ _
    refine rL [.v, .v] H24 kr fun gs25 w25 H25 => ?_
    clear H24
    show WPL _ _ _ _ _ _
    refine g_next ?_
    refine rS [.v] H25 kr fun gs26 w26 H26 => ?_
    clear H25
    refine g_seq kr ?_
    refine g_cond_t kr kr ?_
    refine g_skip kr ?_
    show WP _ _ _ _ _ _
    refine g_seq kr ?_
    refine g_block 5 kr ?_
    refine rS [.o (ins := [((.tmp 17), .slice (some ⟨ba, 0, none⟩) 2 2), ((.tmp 19), .int .i64 1)]) (v := .pointer (some ⟨ba, 0 + 1 * 1, none⟩)) (fun ρ o w ho hi => idxS_run (kd := .i64) (t := 94) (e := 67) (size := 1) (bytes := 8) kr (x := (.tmp 17)) (y := (.tmp 19)) ba 0 2 2 1 ho hi.1 hi.2.1 (by omega) w), .fs (off := 0 + 1 * 1) (v := .pointer (some ⟨sb, 0, none⟩)) hpre.1 (lt_of_heap hpre.1) kr, .v] H26 kr fun gs27 w27 H27 => ?_
    clear H26
    refine dL [.l 0, .v, .v, .cp (pre := fun w => w.heap[sb]? = some (.cells (Value.cells (shv m q 15)) 99 (0, 0))) (at_fn m q hq hm sb (j - 1) (by omega)) [] (fun w hb hd => ((hb.block _ (lt_of_heap hpre.2.2)).trans hpre.2.2)), .c (plus_fn (Ec.plusW (Ec.dblW (Ec.dblW (Ec.dblW (Ec.dblW (Ec.tog2 n p m q (64 - j)))))) (Ec.mults p (n / 16 ^ (j - 1) % 16))) (Ec.mults q (m / 16 ^ (j - 1) % 16)) (Ec.plusW_ok (Ec.dblW_ok (Ec.dblW_ok (Ec.dblW_ok (Ec.dblW_ok (Ec.tog2_ok hp hq _))))) (Ec.mults_ok hp _)) (Ec.mults_ok hq _)), .s 0] H27 kr fun w28 H28 => ?_
    clear H27
    show WP _ _ _ _ _ _
    refine g_keep [0, 2, 3, 4, 6, 9, 12, 13, 17, 18, 19, 20] fun ρ3 => ?_
    have HK9 := H28.keep
    clear H28
    refine rL [.v, .v] HK9 kr fun gs29 w29 H29 => ?_
    clear HK9
    show WPL _ _ _ _ _ _
    refine g_next ?_
    refine rS [.v] H29 kr fun gs30 w30 H30 => ?_
    clear H29
    refine g_seq kr ?_
    refine g_cond_f kr kr ?_
    refine g_exit 4 kr ?_
    show WP _ _ _ _ _ _
    refine rL [.v, .e (v := .int .i64 (IntKind.i64.wrap (((j - 1 : Nat) : Int) - 1))) (v' := .int .i64 (((j - 1 : Nat) : Int) - 1)) (int_eq (wrap_i64 (by omega) (by omega))), .v] H30 kr fun gs31 w31 H31 => ?_
    clear H30
    have HL10 : St w.heap.size w w31 [((gs2 1).b, Obj.cells (Value.cells (wv (Ec.plusW (Ec.plusW (Ec.dblW (Ec.dblW (Ec.dblW (Ec.dblW (Ec.tog2 n p m q (64 - j)))))) (Ec.mults p (n / 16 ^ (j - 1) % 16))) (Ec.mults q (m / 16 ^ (j - 1) % 16))))) 65 (0, 0)), ((gs1 0).b, Obj.cells #[.int .u64 0, .int .u64 0, .int .u64 0, .int .u64 0, .int .u64 0, .int .u64 0, .int .u64 0, .int .u64 0, .bool false, .int .u64 0, .int .u64 0, .int .u64 0, .int .u64 0] 65 (0, 0))] := H31.as kr
    clear H31
    rw [show (Ec.plusW (Ec.plusW (Ec.dblW (Ec.dblW (Ec.dblW (Ec.dblW (Ec.tog2 n p m q (64 - j)))))) (Ec.mults p (n / 16 ^ (j - 1) % 16))) (Ec.mults q (m / 16 ^ (j - 1) % 16))) = Ec.tog2 n p m q (64 - (j - 1)) from tog2_next (by omega) hj] at HL10
    show ∃ m, _ ∧ _
    exact ⟨_, (by omega), (j - 1), rfl, (by omega), HL10, (Is.of ⟨kr, kr, kr, kr, trivial⟩)⟩
  · skip
    refine rp [.e (v := .bool (decide (0 ≤ ((j : Nat) : Int) - 1))) (v' := .bool false) (bool_eq (decide_eq_false (by omega)))] H5 kr fun gs32 w32 H32 => ?_
    show WPs _ _ _ _ [] _ _
    clear H5
    refine s_nil ?_
    refine g_cond_f kr kr ?_
    refine g_exit 0 kr ?_
    show WP _ _ _ _ _ _
    refine rS [.l 0, .s 1] H32 kr fun gs33 w33 H33 => ?_
    clear H32
    refine g_ret kr ?_
    show ∃ vs, Res _ _ _ _ vs ∧ _
    refine ⟨[wv (Ec.tog2 n p m q (64 - j))], (.agg (b := (gs1 0).b) (Value.cells (wv (Ec.tog2 n p m q (64 - j)))) 65 (0, 0) kr (H33.get 1 kr) kr .nil), ?_, H33.below⟩
    obtain rfl : j = 0 := by omega
    rfl
end Go.Proofs.YtmmloghbnpfedaaDoor

namespace Go.Proofs.YtmmloghbnpfedaaDoor
open Go Go.RowKit
set_option linter.unusedVariables false
set_option maxRecDepth 100000 in
set_option maxHeartbeats 2000000 in
theorem times_pt_fn (P : Ec.Pt Ec.Fp) (hP : P.On Ec.seven) (n : Nat) (hn : n < big) : Fn Tryd.prog 12 #[pv (Ec.ofPt P), uv n] (.tuple #[pv (Ec.ofPt (Ec.mulP P n)), .int .i64 0]) := by
  refine Fn.intro (c := codeOf Tryd.f12) [.cell 4 26, .tmp 5] 16 Tryd.func12 kr kr kr fun w => ?_
  have H0 := St.start w
  refine rS [.b, .b, .a, .v] H0 kr fun gs1 w1 H1 => ?_
  clear H0
  refine g_seq kr ?_
  refine rS [.l 0, .c (on_yes (Ec.ofPt P) (Ec.ofPt_ok _) (Ec.onB_pt hP)), .v] H1 kr fun gs2 w2 H2 => ?_
  clear H1
  refine g_cond_f kr kr ?_
  refine g_skip kr ?_
  show WP _ _ _ _ _ _
  refine g_sreg [0, 1, 2, 3, 4, 5, 6, 7] kr kr ?_
  refine rp [.l 0, .l 1] H2 kr fun gs3 w3 H3 => ?_
  show WPs _ _ _ _ [2, 3, 4, 5, 6, 7] _ _
  clear H2
  refine s_callN H3 (some 12) 39 #[pv (Ec.ofPt P), uv n] (fun _ => True) 99 (Value.cells (shv n (Ec.widenW (Ec.ofPt P)) 15)) (often_fn (Ec.ofPt P) (Ec.ofPt_ok _) n hn) trivial kr kr ?_
  intro b_1 w4 H4; clear H3
  refine rp [.nw (fun b => .slice (some ⟨b, 0, none⟩) 1 1) #[.pointer (some ⟨b_1, 0, none⟩)] 67, .w fun nn => .cp (pre := fun w => w.heap[(nn 4)]? = some (.cells #[Value.pointer (some ⟨b_1, 0, none⟩)] 67 (0, 0)) ∧ w.heap[b_1]? = some (.cells (Value.cells (shv n (Ec.widenW (Ec.ofPt P)) 15)) 99 (0, 0))) (together1_fn n (Ec.widenW (Ec.ofPt P)) (Ec.widenW_ok (Ec.ofPt_ok _)) hn ((nn 4)) b_1) [(4, ((nn 4), Obj.cells #[.pointer (some ⟨b_1, 0, none⟩)] 67 (0, 0))), (0, (b_1, Obj.cells (Value.cells (shv n (Ec.widenW (Ec.ofPt P)) 15)) 99 (0, 0)))] (fun w hb hd => ⟨hd.1, hd.2.1⟩), .c (narrow_fn (Ec.tog n (Ec.widenW (Ec.ofPt P)) 64) (Ec.tog_ok (Ec.widenW_ok (Ec.ofPt_ok _)) 64) (Ec.mulP P n) (Ec.tog_end hn hP)), .s 3, .v] H4 kr fun gs5 w5 H5 => ?_
  show WPs _ _ _ _ [] _ _
  clear H4
  refine s_nil ?_
  refine g_ret kr ?_
  show ∃ vs, Res _ _ _ _ vs ∧ _
  refine ⟨[pv (Ec.ofPt (Ec.mulP P n)), .int .i64 0], (.agg (b := (gs1 2).b) (Value.cells (pv (Ec.ofPt (Ec.mulP P n)))) 26 (0, 0) kr (H5.get 3 kr) kr (.tmp (.int .i64 0) kr .nil)), ?_, H5.below⟩
  rfl
set_option maxRecDepth 100000 in
set_option maxHeartbeats 2000000 in
theorem both_pt_fn (P : Ec.Pt Ec.Fp) (hP : P.On Ec.seven) (n : Nat) (hn : n < big) (Q : Ec.Pt Ec.Fp) (hQ : Q.On Ec.seven) (m : Nat) (hm : m < big) : Fn Tryd.prog 22 #[pv (Ec.ofPt P), uv n, pv (Ec.ofPt Q), uv m] (.tuple #[pv (Ec.ofPt ((Ec.mulP P n).add (Ec.mulP Q m))), .int .i64 0]) := by
  refine Fn.intro (c := codeOf Tryd.f22) [.cell 8 26, .tmp 9] 28 Tryd.func22 kr kr kr fun w => ?_
  have H0 := St.start w
  refine rS [.b, .b, .b, .b, .a, .v] H0 kr fun gs1 w1 H1 => ?_
  clear H0
  refine g_seq kr ?_
  refine rS [.l 0, .c (on_yes (Ec.ofPt P) (Ec.ofPt_ok _) (Ec.onB_pt hP)), .v, .v, .l 2, .c (on_yes (Ec.ofPt Q) (Ec.ofPt_ok _) (Ec.onB_pt hQ)), .v, .v] H1 kr fun gs2 w2 H2 => ?_
  clear H1
  refine g_cond_f kr kr ?_
  refine g_skip kr ?_
  show WP _ _ _ _ _ _
  have HL1 : St w.heap.size w w2 [((gs1 0).b, Obj.cells (Value.cells (pv (Ec.ofPt P))) 26 (0, 0)), ((gs1 1).b, Obj.cells (Value.cells (uv n)) 24 (0, 0)), ((gs1 2).b, Obj.cells (Value.cells (pv (Ec.ofPt Q))) 26 (0, 0)), ((gs1 3).b, Obj.cells (Value.cells (uv m)) 24 (0, 0)), ((gs1 4).b, Obj.cells #[.int .u64 0, .int .u64 0, .int .u64 0, .int .u64 0, .int .u64 0, .int .u64 0, .int .u64 0, .int .u64 0, .bool false] 26 (0, 0))] := H2.as kr
  clear H2
  refine D2.g_sdraw [0, 1, 2, 3, 4, 5, 6, 7, 8, 9, 10] [((some 19), fun _ => pv (Ec.ofPt P)), ((some 20), fun _ => uv n), ((some 21), fun b => .pointer (some ⟨b.b, 0, none⟩)), ((some 22), fun _ => pv (Ec.ofPt Q)), ((some 23), fun _ => uv m), ((some 24), fun b => .pointer (some ⟨b.b, 0, none⟩)), ((some 25), fun b => .slice (some ⟨b.b, 0, none⟩) 2 2), ((some 26), fun _ => wv (Ec.tog2 n (Ec.widenW (Ec.ofPt P)) m (Ec.widenW (Ec.ofPt Q)) 64)), ((some 27), fun _ => pv (Ec.ofPt (Ec.Pt.add (Ec.mulP P n) (Ec.mulP Q m)))), (none, fun _ => undef), ((some 9), fun _ => .int .i64 0)] (D2.Pre w.heap.size w (fun L g => [(true, ((gs1 0).b, Obj.cells (Value.cells (pv (Ec.ofPt P))) 26 (0, 0))), (true, ((gs1 1).b, Obj.cells (Value.cells (uv n)) 24 (0, 0))), (true, ((gs1 2).b, Obj.cells (Value.cells (pv (Ec.ofPt Q))) 26 (0, 0))), (true, ((gs1 3).b, Obj.cells (Value.cells (uv m)) 24 (0, 0))), (true, (bif L 9 then ((gs1 4).b, Obj.cells (Value.cells (pv (Ec.ofPt (Ec.Pt.add (Ec.mulP P n) (Ec.mulP Q m))))) 26 (0, 0)) else ((gs1 4).b, Obj.cells #[.int .u64 0, .int .u64 0, .int .u64 0, .int .u64 0, .int .u64 0, .int .u64 0, .int .u64 0, .int .u64 0, .bool false] 26 (0, 0)))), (L 2, ((g 2).b, Obj.cells (Value.cells (shv n (Ec.widenW (Ec.ofPt P)) 15)) 99 (0, 0))), (L 5, ((g 5).b, Obj.cells (Value.cells (shv m (Ec.widenW (Ec.ofPt Q)) 15)) 99 (0, 0))), (L 6, ((g 6).b, Obj.cells ((g 6).cur) 67 (0, 0)))]) (fun L g => (L 6 = true → ((g 6).cur = #[Value.pointer (some ⟨(g 2).b, 0, none⟩), Value.pointer (some ⟨(g 5).b, 0, none⟩)])) ∧ True)) kr kr kr kr ⟨D2.StE.of HL1.drew _ kr, ⟨(fun h => nomatch h), trivial⟩⟩ ⟨?_, ?_, ?_, ?_, ?_, ?_, ?_, ?_, ?_, ?_, ?_, trivial⟩ ?_
  · exact D2.gv_load 26 (.tmp 4) 0 (fun g => (gs1 0).b) (Value.cells (pv (Ec.ofPt P))) 26 (0, 0) (fun _ _ _ h => h) (fun g => by kernel_rfl) (fun g => by kernel_rfl) (fun L g hN => kr) kr
  · exact D2.gv_load 24 (.tmp 5) 1 (fun g => (gs1 1).b) (Value.cells (uv n)) 24 (0, 0) (fun _ _ _ h => h) (fun g => by kernel_rfl) (fun g => by kernel_rfl) (fun L g hN => kr) kr
  · exact D2.gv_callN 39 (fun g => #[pv (Ec.ofPt P), uv n]) (fun g => fun _ => True) 99 (Value.cells (shv n (Ec.widenW (Ec.ofPt P)) 15)) 5 (fun L g hN hF => often_fn (Ec.ofPt P) (Ec.ofPt_ok _) n hn) (fun L g w hN hE hF => trivial) (fun g w => by kernel_rfl) (fun L g b hN => kr) (fun L g b hN hF => ⟨(fun hx => nomatch (Eq.trans (Eq.symm (show L 6 = true from hx)) (hN.post 6 kr))), trivial⟩)
  · exact D2.gv_load 26 (.tmp 6) 2 (fun g => (gs1 2).b) (Value.cells (pv (Ec.ofPt Q))) 26 (0, 0) (fun _ _ _ h => h) (fun g => by kernel_rfl) (fun g => by kernel_rfl) (fun L g hN => kr) kr
  · exact D2.gv_load 24 (.tmp 7) 3 (fun g => (gs1 3).b) (Value.cells (uv m)) 24 (0, 0) (fun _ _ _ h => h) (fun g => by kernel_rfl) (fun g => by kernel_rfl) (fun L g hN => kr) kr
  · exact D2.gv_callN 39 (fun g => #[pv (Ec.ofPt Q), uv m]) (fun g => fun _ => True) 99 (Value.cells (shv m (Ec.widenW (Ec.ofPt Q)) 15)) 6 (fun L g hN hF => often_fn (Ec.ofPt Q) (Ec.ofPt_ok _) m hm) (fun L g w hN hE hF => trivial) (fun g w => by kernel_rfl) (fun L g b hN => kr) (fun L g b hN hF => ⟨(fun hx => nomatch (Eq.trans (Eq.symm (show L 6 = true from hx)) (hN.post 6 kr))), trivial⟩)
  · exact D2.gv_newC (fun b => .slice (some ⟨b, 0, none⟩) 2 2) (fun g => #[.pointer (some ⟨(g 2).b, 0, none⟩), .pointer (some ⟨(g 5).b, 0, none⟩)]) 67 7 (fun g w => by kernel_rfl) (fun L g x hN => kr) (fun L g b hN hF => ⟨fun _ => rfl, trivial⟩)
  · exact D2.gv_callP 38 (fun g => #[.slice (some ⟨(g 6).b, 0, none⟩) 2 2]) (fun g => fun w => w.heap[(g 6).b]? = some (.cells #[Value.pointer (some ⟨(g 2).b, 0, none⟩), Value.pointer (some ⟨(g 5).b, 0, none⟩)] 67 (0, 0)) ∧ w.heap[(g 2).b]? = some (.cells (Value.cells (shv n (Ec.widenW (Ec.ofPt P)) 15)) 99 (0, 0)) ∧ w.heap[(g 5).b]? = some (.cells (Value.cells (shv m (Ec.widenW (Ec.ofPt Q)) 15)) 99 (0, 0))) (fun _ _ _ h => h) (fun L g hN hF => by have hf6 := (hF.1 (hN.bef 6 kr)); exact together2_fn n (Ec.widenW (Ec.ofPt P)) (Ec.widenW_ok (Ec.ofPt_ok _)) hn m (Ec.widenW (Ec.ofPt Q)) (Ec.widenW_ok (Ec.ofPt_ok _)) hm ((g 6).b) ((g 2).b) ((g 5).b)) (fun L g w hN hE hF => by have hf6 := (hF.1 (hN.bef 6 kr)); exact ⟨(by have h9 : w.heap[(g 6).b]? = some (.cells (g 6).cur 67 (0, 0)) := (hE.get 7 (by have hL6 : L 6 = true := (hN.bef 6 kr); exact D2.ent_get' (p := L 6) (e := ((g 6).b, Obj.cells ((g 6).cur) 67 (0, 0))) kr (by exact hL6) (by simp only [hL6, cond_true, cond_false] <;> rfl))); rw [hf6] at h9; exact h9), (hE.get 5 (by have hL2 : L 2 = true := (hN.2.2.yes 2 6 kr (hN.bef 6 kr)); exact D2.ent_get' (p := L 2) (e := ((g 2).b, Obj.cells (Value.cells (shv n (Ec.widenW (Ec.ofPt P)) 15)) 99 (0, 0))) kr (by exact hL2) (by simp only [hL2, cond_true, cond_false] <;> rfl))), (hE.get 6 (by have hL5 : L 5 = true := (hN.bef 5 kr); exact D2.ent_get' (p := L 5) (e := ((g 5).b, Obj.cells (Value.cells (shv m (Ec.widenW (Ec.ofPt Q)) 15)) 99 (0, 0))) kr (by exact hL5) (by simp only [hL5, cond_true, cond_false] <;> rfl)))⟩) (fun g w => by kernel_rfl)
  · exact D2.gv_call 40 #[wv (Ec.tog2 n (Ec.widenW (Ec.ofPt P)) m (Ec.widenW (Ec.ofPt Q)) 64)] (fun _ _ _ h => h) (narrow_fn (Ec.tog2 n (Ec.widenW (Ec.ofPt P)) m (Ec.widenW (Ec.ofPt Q)) 64) (Ec.tog2_ok (Ec.widenW_ok (Ec.ofPt_ok _)) (Ec.widenW_ok (Ec.ofPt_ok _)) 64) (Ec.Pt.add (Ec.mulP P n) (Ec.mulP Q m)) (tog2_end hn hm hP hQ)) (fun g w => by kernel_rfl)
  · exact D2.gv_store 4 26 (.tmp 8) (.tmp 27) (fun g => (gs1 4).b) (fun g => 0) #[.int .u64 0, .int .u64 0, .int .u64 0, .int .u64 0, .int .u64 0, .int .u64 0, .int .u64 0, .int .u64 0, .bool false] (Value.cells (pv (Ec.ofPt (Ec.Pt.add (Ec.mulP P n) (Ec.mulP Q m))))) 26 (pv (Ec.ofPt (Ec.Pt.add (Ec.mulP P n) (Ec.mulP Q m)))) (fun g => by kernel_rfl) (fun g => by kernel_rfl) (fun g => by kernel_rfl) kr kr (fun g => (of_decide_eq_true kr)) (fun g => kr) (fun L g hN => ⟨(by have hL9 : L 9 = false := hN.1; exact D2.ent_get' (p := true) (e := (bif L 9 then ((gs1 4).b, Obj.cells (Value.cells (pv (Ec.ofPt (Ec.Pt.add (Ec.mulP P n) (Ec.mulP Q m))))) 26 (0, 0)) else ((gs1 4).b, Obj.cells #[.int .u64 0, .int .u64 0, .int .u64 0, .int .u64 0, .int .u64 0, .int .u64 0, .int .u64 0, .int .u64 0, .bool false] 26 (0, 0)))) kr (by rfl) (by simp only [hL9, cond_true, cond_false] <;> rfl)), kr⟩) (fun L g hN hF => hF)
  · exact D2.gv_val (fun _ _ _ h => h) (fun g w => by kernel_rfl)
  intro L0 G3 w3 hall HL; clear HL1
  have H3 : St w.heap.size w w3 [((gs1 0).b, Obj.cells (Value.cells (pv (Ec.ofPt P))) 26 (0, 0)), ((gs1 1).b, Obj.cells (Value.cells (uv n)) 24 (0, 0)), ((gs1 2).b, Obj.cells (Value.cells (pv (Ec.ofPt Q))) 26 (0, 0)), ((gs1 3).b, Obj.cells (Value.cells (uv m)) 24 (0, 0)), ((gs1 4).b, Obj.cells (Value.cells (pv (Ec.ofPt (Ec.Pt.add (Ec.mulP P n) (Ec.mulP Q m))))) 26 (0, 0)), ((G3 2).b, Obj.cells (Value.cells (shv n (Ec.widenW (Ec.ofPt P)) 15)) 99 (0, 0)), ((G3 5).b, Obj.cells (Value.cells (shv m (Ec.widenW (Ec.ofPt Q)) 15)) 99 (0, 0)), ((G3 6).b, Obj.cells ((G3 6).cur) 67 (0, 0))] := by have e2 := hall 2 (Nat.le_of_ble_eq_true kr); have e5 := hall 5 (Nat.le_of_ble_eq_true kr); have e6 := hall 6 (Nat.le_of_ble_eq_true kr); have e9 := hall 9 (Nat.le_of_ble_eq_true kr); have hS := D2.StE.st HL.1; simp only [e2, e5, e6, e9, cond_true, D2.pres] at hS; exact hS
  have hf6_3 : ((G3 6).cur = #[Value.pointer (some ⟨(G3 2).b, 0, none⟩), Value.pointer (some ⟨(G3 5).b, 0, none⟩)]) := HL.2.1 (hall 6 (Nat.le_of_ble_eq_true kr))
  clear HL hall
  refine g_ret kr ?_
  show ∃ vs, Res _ _ _ _ vs ∧ _
  refine ⟨[pv (Ec.ofPt (Ec.Pt.add (Ec.mulP P n) (Ec.mulP Q m))), .int .i64 0], (.agg (b := (gs1 4).b) (Value.cells (pv (Ec.ofPt (Ec.Pt.add (Ec.mulP P n) (Ec.mulP Q m))))) 26 (0, 0) kr (H3.get 4 kr) kr (.tmp (.int .i64 0) kr .nil)), ?_, H3.below⟩
  rfl
end Go.Proofs.YtmmloghbnpfedaaDoor

namespace Go.Proofs.YtmmloghbnpfedaaDoor
open Go.ChangeShapes Go.WideShapes Go.ChangeAt Go.RowKit
set_option linter.unusedVariables false
/-- A number's 32 bytes, the highest first. -/
def bn (A : Nat) : List Int := [w3 A / 72057594037927936 % 256, w3 A / 281474976710656 % 256, w3 A / 1099511627776 % 256, w3 A / 4294967296 % 256, w3 A / 16777216 % 256, w3 A / 65536 % 256, w3 A / 256 % 256, w3 A % 256, w2 A / 72057594037927936 % 256, w2 A / 281474976710656 % 256, w2 A / 1099511627776 % 256, w2 A / 4294967296 % 256, w2 A / 16777216 % 256, w2 A / 65536 % 256, w2 A / 256 % 256, w2 A % 256, w1 A / 72057594037927936 % 256, w1 A / 281474976710656 % 256, w1 A / 1099511627776 % 256, w1 A / 4294967296 % 256, w1 A / 16777216 % 256, w1 A / 65536 % 256, w1 A / 256 % 256, w1 A % 256, w0 A / 72057594037927936 % 256, w0 A / 281474976710656 % 256, w0 A / 1099511627776 % 256, w0 A / 4294967296 % 256, w0 A / 16777216 % 256, w0 A / 65536 % 256, w0 A / 256 % 256, w0 A % 256]
def bs (A : Nat) : ByteArray := strOfNums (bn A)
theorem conv_row (w : World) (O : Obj) (xs : List Int) (n : Nat) (hn : xs.length = n) (C : Array Value) (hC : C = (xs.map (Value.int .u8)).toArray) :
    (convert 69 9 (.slice (some ⟨w.heap.size + 1, 0, none⟩) n n)).run Tryd.prog ((w.alloc O).alloc (.cells C 90)) = .ok (.string (strOfNums xs)) ((w.alloc O).alloc (.cells C 90)) := by
  subst hC
  refine run_convert_bytes_arg _ 69 5 Tryd.underlying69 Tryd.underlying5 _ 0 n n xs hn ?_ 9 Tryd.underlying9
  intro i hi
  have h := heap_alloc2_new w O (.cells (xs.map (Value.int .u8)).toArray 90)
  rw [cell_of_row _ _ _ _ _ _ h]
  have hi' : i < xs.length := by omega
  simp [hi']
set_option maxHeartbeats 4000000 in
set_option maxRecDepth 100000 in
theorem bytes_any (A : Nat) (hA : A < big) (w : World) : Calls Tryd.prog 29 #[uv A] w fun e w' => e = .returned (.string (bs A)) ∧ Below w.heap.size w w' := by
  have hc := fun (O : Obj) => conv_row w O (bn A) 32 rfl _ rfl
  simp only [bn, List.map_cons, List.map_nil] at hc
  unfold uv
  go_enter Tryd.func29, Tryd.ntmps29
  go_wp2
  go_rounds 33
  go_ret
  exact ⟨rfl, by go_grown⟩
theorem bs_size (A : Nat) : (bs A).size = 32 := rfl
end Go.Proofs.YtmmloghbnpfedaaDoor

namespace Go.Proofs.YtmmloghbnpfedaaDoor
open Go Go.RowKit
set_option linter.unusedVariables false
/-- 1 to n - 1. -/
def inN (a : Nat) : Bool := !decide (a = 0) && decide (a < NR)
def highB (a : Nat) : Bool := decide (NR < a + a)
def lowB (a : Nat) : Bool := decide (a < fSub 0 a NR)
theorem inN_n {a : Nat} (h : ¬ a = 0) : inN a = decide (a < NR) := by unfold inN; rw [decide_eq_false h]; rfl
theorem nr_odd2 : NR % 2 = 1 := by decide +kernel
theorem low_eq (a : Nat) (ha : a < big) : lowB a = (inN a && !highB a) := by
  have hpos : 0 < NR := by decide +kernel
  have hodd := nr_odd2
  unfold lowB inN highB fSub
  rw [Nat.zero_mod, Nat.zero_add]
  generalize NR = M at *
  have hm := Nat.mod_lt a hpos
  by_cases h0 : a = 0
  · subst h0; rw [Nat.zero_mod, Nat.sub_zero, Nat.mod_self]; rfl
  · by_cases h1 : a < M
    · rw [Nat.mod_eq_of_lt h1, Nat.mod_eq_of_lt (by omega), decide_eq_false h0, decide_eq_true h1]
      rw [Bool.eq_iff_iff]
      simp only [decide_eq_true_eq, Bool.not_false, Bool.true_and, Bool.not_eq_true', decide_eq_false_iff_not]
      omega
    · have h2 := Nat.mod_lt (M - a % M) hpos
      rw [decide_eq_false h1, decide_eq_false h0, decide_eq_false (by omega)]; rfl
def mayB (r s : Nat) (v : Int) : Bool := inN r && lowB s && (decide (v = 0) || decide (v = 1))
def sgv (r s : Nat) (v : Int) : Value := .agg #[.int .u64 (w0 r), .int .u64 (w1 r), .int .u64 (w2 r), .int .u64 (w3 r), .int .u64 (w0 s), .int .u64 (w1 s), .int .u64 (w2 s), .int .u64 (w3 s), .int .i64 v]
def sbs (r s : Nat) (v : Int) : ByteArray := (bs r ++ bs s) ++ strOfNums [IntKind.u8.wrap v]
theorem sizes_add (a b : ByteArray) : (a ++ b).size = a.size + b.size := ByteArray.size_append
end Go.Proofs.YtmmloghbnpfedaaDoor

namespace Go.Proofs.YtmmloghbnpfedaaDoor
open Go Go.RowKit
set_option linter.unusedVariables false
set_option maxRecDepth 100000 in
set_option maxHeartbeats 2000000 in
theorem within_z (a : Nat) (ha : a < big) (h : a = 0) : Fn Tryd.prog 26 #[uv a] (.bool false) := by
  refine Fn.intro (c := codeOf Tryd.f26) [.tmp 2] 18 Tryd.func26 kr kr kr fun w => ?_
  have H0 := St.start w
  refine rS [.b, .v] H0 kr fun gs1 w1 H1 => ?_
  clear H0
  refine rS [.c prime1_fn, .v, .v, .v, .a, .s 1, .v] H1 kr fun gs2 w2 H2 => ?_
  clear H1
  refine rS [.l 0, .v, .oe (ins := [((.tmp 9), uv a), ((.tmp 10), .agg #[.int .u64 0, .int .u64 0, .int .u64 0, .int .u64 0])]) (v := .bool (!decide (a = 0))) (v' := .bool false) (fun ρ o w ho hi => neU_run (x := (.tmp 9)) (y := (.tmp 10)) a 0 ha (by unfold big; omega) w ho hi.1 hi.2.1) (by rw [decide_eq_true h] <;> rfl), .v, .n, .n, .n, .n, .v, .v] H2 kr fun gs3 w3 H3 => ?_
  clear H2
  refine g_ret kr ?_
  show ∃ vs, Res _ _ _ _ vs ∧ _
  refine ⟨[.bool false], (.tmp (.bool false) kr .nil), ?_, H3.below⟩
  rfl
set_option maxRecDepth 100000 in
set_option maxHeartbeats 2000000 in
theorem within_n (a : Nat) (ha : a < big) (h : ¬ a = 0) (h2 : ¬ a < NR) : Fn Tryd.prog 26 #[uv a] (.bool false) := by
  refine Fn.intro (c := codeOf Tryd.f26) [.tmp 2] 18 Tryd.func26 kr kr kr fun w => ?_
  have H0 := St.start w
  refine rS [.b, .v] H0 kr fun gs1 w1 H1 => ?_
  clear H0
  refine rS [.c prime1_fn, .v, .v, .v, .a, .s 1, .v] H1 kr fun gs2 w2 H2 => ?_
  clear H1
  refine rS [.l 0, .v, .oe (ins := [((.tmp 9), uv a), ((.tmp 10), .agg #[.int .u64 0, .int .u64 0, .int .u64 0, .int .u64 0])]) (v := .bool (!decide (a = 0))) (v' := .bool true) (fun ρ o w ho hi => neU_run (x := (.tmp 9)) (y := (.tmp 10)) a 0 ha (by unfold big; omega) w ho hi.1 hi.2.1) (by rw [decide_eq_false h] <;> rfl), .v, .l 0, .l 1, .c (cmp_fn a NR ha nr_ok.1), .e (v := .bool (decide (cm a NR < 0))) (v' := .bool false) (bool_eq (decide_eq_false (cm_nlt h2))), .v, .v] H2 kr fun gs3 w3 H3 => ?_
  clear H2
  refine g_ret kr ?_
  show ∃ vs, Res _ _ _ _ vs ∧ _
  refine ⟨[.bool false], (.tmp (.bool false) kr .nil), ?_, H3.below⟩
  rfl
set_option maxRecDepth 100000 in
set_option maxHeartbeats 2000000 in
theorem within_y (a : Nat) (ha : a < big) (h : ¬ a = 0) (h2 : a < NR) : Fn Tryd.prog 26 #[uv a] (.bool true) := by
  refine Fn.intro (c := codeOf Tryd.f26) [.tmp 2] 18 Tryd.func26 kr kr kr fun w => ?_
  have H0 := St.start w
  refine rS [.b, .v] H0 kr fun gs1 w1 H1 => ?_
  clear H0
  refine rS [.c prime1_fn, .v, .v, .v, .a, .s 1, .v] H1 kr fun gs2 w2 H2 => ?_
  clear H1
  refine rS [.l 0, .v, .oe (ins := [((.tmp 9), uv a), ((.tmp 10), .agg #[.int .u64 0, .int .u64 0, .int .u64 0, .int .u64 0])]) (v := .bool (!decide (a = 0))) (v' := .bool true) (fun ρ o w ho hi => neU_run (x := (.tmp 9)) (y := (.tmp 10)) a 0 ha (by unfold big; omega) w ho hi.1 hi.2.1) (by rw [decide_eq_false h] <;> rfl), .v, .l 0, .l 1, .c (cmp_fn a NR ha nr_ok.1), .e (v := .bool (decide (cm a NR < 0))) (v' := .bool true) (bool_eq (decide_eq_true (cm_lt h2))), .v, .v] H2 kr fun gs3 w3 H3 => ?_
  clear H2
  refine g_ret kr ?_
  show ∃ vs, Res _ _ _ _ vs ∧ _
  refine ⟨[.bool true], (.tmp (.bool true) kr .nil), ?_, H3.below⟩
  rfl
theorem within_fn (a : Nat) (ha : a < big) : Fn Tryd.prog 26 #[uv a] (.bool (inN a)) := by
  by_cases h : a = 0
  · have := within_z a ha h; subst h; exact this
  · rw [inN_n h]
    by_cases h2 : a < NR
    · rw [decide_eq_true h2]; exact within_y a ha h h2
    · rw [decide_eq_false h2]; exact within_n a ha h h2
set_option maxRecDepth 100000 in
set_option maxHeartbeats 2000000 in
theorem sturned_fn (a : Nat) (ha : a < big) : Fn Tryd.prog 47 #[uv a] (uv (fSub 0 a NR)) := by
  refine Fn.intro (c := codeOf Tryd.f47) [.cell 2 24] 12 Tryd.func47 kr kr kr fun w => ?_
  have H0 := St.start w
  refine rS [.b, .a] H0 kr fun gs1 w1 H1 => ?_
  clear H0
  refine rS [.v, .l 0, .c (fsub1_fn 0 a (by unfold big; omega) ha), .v, .v, .v, .a, .s 2, .v] H1 kr fun gs2 w2 H2 => ?_
  clear H1
  refine rS [.l 2, .s 1] H2 kr fun gs3 w3 H3 => ?_
  clear H2
  refine g_ret kr ?_
  show ∃ vs, Res _ _ _ _ vs ∧ _
  refine ⟨[uv (fSub 0 a NR)], (.agg (b := (gs1 1).b) (Value.cells (uv (fSub 0 a NR))) 24 (0, 0) kr (H3.get 1 kr) kr .nil), ?_, H3.below⟩
  rfl
set_option maxRecDepth 100000 in
set_option maxHeartbeats 2000000 in
theorem low_y (a : Nat) (ha : a < big) (h : a < fSub 0 a NR) : Fn Tryd.prog 76 #[uv a] (.bool true) := by
  refine Fn.intro (c := codeOf Tryd.f76) [.tmp 2] 8 Tryd.func76 kr kr kr fun w => ?_
  have H0 := St.start w
  refine rS [.b, .v] H0 kr fun gs1 w1 H1 => ?_
  clear H0
  refine dS [.l 0, .l 0, .c (sturned_fn a ha), .c (cmp_fn a (fSub 0 a NR) ha (fSub_lt nr_ok)), .e (v := .bool (decide (cm a (fSub 0 a NR) < 0))) (v' := .bool true) (bool_eq (decide_eq_true (cm_lt h))), .v] H1 kr fun w2 H2 => ?_
  clear H1
  refine g_ret kr ?_
  show ∃ vs, Res _ _ _ _ vs ∧ _
  refine ⟨[.bool true], (.tmp (.bool true) kr .nil), ?_, H2.below⟩
  rfl
set_option maxRecDepth 100000 in
set_option maxHeartbeats 2000000 in
theorem low_n (a : Nat) (ha : a < big) (h : ¬ a < fSub 0 a NR) : Fn Tryd.prog 76 #[uv a] (.bool false) := by
  refine Fn.intro (c := codeOf Tryd.f76) [.tmp 2] 8 Tryd.func76 kr kr kr fun w => ?_
  have H0 := St.start w
  refine rS [.b, .v] H0 kr fun gs1 w1 H1 => ?_
  clear H0
  refine dS [.l 0, .l 0, .c (sturned_fn a ha), .c (cmp_fn a (fSub 0 a NR) ha (fSub_lt nr_ok)), .e (v := .bool (decide (cm a (fSub 0 a NR) < 0))) (v' := .bool false) (bool_eq (decide_eq_false (cm_nlt h))), .v] H1 kr fun w2 H2 => ?_
  clear H1
  refine g_ret kr ?_
  show ∃ vs, Res _ _ _ _ vs ∧ _
  refine ⟨[.bool false], (.tmp (.bool false) kr .nil), ?_, H2.below⟩
  rfl
theorem low_fn (a : Nat) (ha : a < big) : Fn Tryd.prog 76 #[uv a] (.bool (lowB a)) := by
  unfold lowB
  by_cases h : a < fSub 0 a NR
  · rw [decide_eq_true h]; exact low_y a ha h
  · rw [decide_eq_false h]; exact low_n a ha h
set_option maxRecDepth 100000 in
set_option maxHeartbeats 2000000 in
theorem may_fn (r s : Nat) (hr : r < big) (hs : s < big) (v : Int) : Fn Tryd.prog 41 #[sgv r s (v)] (.bool (mayB r s v)) := by
  refine Fn.intro (c := codeOf Tryd.f41) [.tmp 2] 21 Tryd.func41 kr kr kr fun w => ?_
  have H0 := St.start w
  refine rS [.b, .v] H0 kr fun gs1 w1 H1 => ?_
  clear H0
  refine g_sreg [0, 1, 2, 3, 4, 5, 6, 7, 8, 9, 10, 11, 12, 13, 14, 15, 16, 17, 18] kr kr ?_
  refine rp [.v, .l 0, .c (within_fn r hr)] H1 kr fun gs2 w2 H2 => ?_
  show WPs _ _ _ _ [3, 4, 5, 6, 7, 8, 9, 10, 11, 12, 13, 14, 15, 16, 17, 18] _ _
  clear H1
  rcases (Bool.eq_false_or_eq_true (inN r)).symm with hb1 | hb1
  · skip
    refine s_now 5 (v := .bool (inN r)) (v' := .bool false) (bool_eq hb1) kr ?_
    refine rp [.v, .n, .n, .n, .v, .v, .n, .n, .n, .n] H2 kr fun gs3 w3 H3 => ?_
    show WPs _ _ _ _ [13, 14, 15, 16, 17, 18] _ _
    clear H2
    refine s_not (some 16) kr kr ?_
    refine s_not (some 17) kr kr ?_
    refine s_not (some 18) kr kr ?_
    refine rp [.n, .v, .v] H3 kr fun gs4 w4 H4 => ?_
    show WPs _ _ _ _ [] _ _
    clear H3
    refine s_nil ?_
    refine g_ret kr ?_
    show ∃ vs, Res _ _ _ _ vs ∧ _
    refine ⟨[.bool false], (.tmp (.bool false) kr .nil), ?_, H4.below⟩
    exact congrArg Value.bool (by unfold mayB; simp [hb1] <;> omega)
  · skip
    refine s_now 5 (v := .bool (inN r)) (v' := .bool true) (bool_eq hb1) kr ?_
    refine rp [.v, .v, .l 0, .c (low_fn s hs)] H2 kr fun gs5 w5 H5 => ?_
    show WPs _ _ _ _ [7, 8, 9, 10, 11, 12, 13, 14, 15, 16, 17, 18] _ _
    clear H2
    rcases (Bool.eq_false_or_eq_true (lowB s)).symm with hb2 | hb2
    · skip
      refine s_now 9 (v := .bool (lowB s)) (v' := .bool false) (bool_eq hb2) kr ?_
      refine rp [.v, .v, .n, .n, .n, .n] H5 kr fun gs6 w6 H6 => ?_
      show WPs _ _ _ _ [13, 14, 15, 16, 17, 18] _ _
      clear H5
      refine s_not (some 16) kr kr ?_
      refine s_not (some 17) kr kr ?_
      refine s_not (some 18) kr kr ?_
      refine rp [.n, .v, .v] H6 kr fun gs7 w7 H7 => ?_
      show WPs _ _ _ _ [] _ _
      clear H6
      refine s_nil ?_
      refine g_ret kr ?_
      show ∃ vs, Res _ _ _ _ vs ∧ _
      refine ⟨[.bool false], (.tmp (.bool false) kr .nil), ?_, H7.below⟩
      exact congrArg Value.bool (by unfold mayB; simp [hb1, hb2] <;> omega)
    · skip
      refine s_now 9 (v := .bool (lowB s)) (v' := .bool true) (bool_eq hb2) kr ?_
      refine rp [.v, .v, .v, .l 0] H5 kr fun gs8 w8 H8 => ?_
      show WPs _ _ _ _ [11, 12, 13, 14, 15, 16, 17, 18] _ _
      clear H5
      by_cases hc1 : (v : Int) = 0
      · skip
        refine rp [.e (v := .bool (v == 0)) (v' := .bool true) (bool_eq (beq_iff_eq.2 (by omega))), .v, .n, .n, .n, .v, .v, .v] H8 kr fun gs9 w9 H9 => ?_
        show WPs _ _ _ _ [] _ _
        clear H8
        refine s_nil ?_
        refine g_ret kr ?_
        show ∃ vs, Res _ _ _ _ vs ∧ _
        refine ⟨[.bool true], (.tmp (.bool true) kr .nil), ?_, H9.below⟩
        exact congrArg Value.bool (by unfold mayB; simp [hb1, hb2] <;> omega)
      · skip
        refine rp [.e (v := .bool (v == 0)) (v' := .bool false) (bool_eq (beq_eq_false_iff_ne.2 (by omega))), .v, .v, .l 0] H8 kr fun gs10 w10 H10 => ?_
        show WPs _ _ _ _ [15, 16, 17, 18] _ _
        clear H8
        by_cases hc2 : (v : Int) = 1
        · skip
          refine rp [.e (v := .bool (v == 1)) (v' := .bool true) (bool_eq (beq_iff_eq.2 (by omega))), .v, .v, .v] H10 kr fun gs11 w11 H11 => ?_
          show WPs _ _ _ _ [] _ _
          clear H10
          refine s_nil ?_
          refine g_ret kr ?_
          show ∃ vs, Res _ _ _ _ vs ∧ _
          refine ⟨[.bool true], (.tmp (.bool true) kr .nil), ?_, H11.below⟩
          exact congrArg Value.bool (by unfold mayB; simp [hb1, hb2] <;> omega)
        · skip
          refine rp [.e (v := .bool (v == 1)) (v' := .bool false) (bool_eq (beq_eq_false_iff_ne.2 (by omega))), .v, .v, .v] H10 kr fun gs12 w12 H12 => ?_
          show WPs _ _ _ _ [] _ _
          clear H10
          refine s_nil ?_
          refine g_ret kr ?_
          show ∃ vs, Res _ _ _ _ vs ∧ _
          refine ⟨[.bool false], (.tmp (.bool false) kr .nil), ?_, H12.below⟩
          exact congrArg Value.bool (by unfold mayB; simp [hb1, hb2] <;> omega)
set_option maxRecDepth 100000 in
set_option maxHeartbeats 2000000 in
theorem issec_fn (a : Nat) (ha : a < big) : Fn Tryd.prog 10 #[uv a] (.bool (inN a)) := by
  refine Fn.intro (c := codeOf Tryd.f10) [.tmp 2] 15 Tryd.func10 kr kr kr fun w => ?_
  have H0 := St.start w
  refine rS [.b, .v] H0 kr fun gs1 w1 H1 => ?_
  clear H0
  refine g_sreg [0, 1, 2] kr kr ?_
  refine rp [.c modulus1_fn] H1 kr fun gs2 w2 H2 => ?_
  show WPs _ _ _ _ [1, 2] _ _
  clear H1
  refine s_callS H2 (some 5) 35 #[uv NR] (fun _ => True) 3 1 (fun curZ capZ nZ lZ => (nZ = List.length lZ ∧ Rw 1 curZ capZ nZ (cellsD lZ) ∧ Ok lZ ∧ (lZ = dgs NR 16 ∧ vl lZ = NR ∧ List.length lZ = 16))) (of_fn NR nr_ok.1) trivial kr kr ?_
  intro b_1 cap_2 n_3 cur_4 l_5 w3 H3 hs_6; clear H2
  obtain ⟨hs_6n, hs_6r, hs_6o, hs_6s⟩ := hs_6
  obtain ⟨hs_6a, hs_6b, hs_6c⟩ := hs_6s
  refine rp [.v] H3 kr fun gs4 w4 H4 => ?_
  show WPs _ _ _ _ [] _ _
  clear H3
  refine s_nil ?_
  refine g_sreg [0, 1, 2, 3, 4, 5, 6, 7, 8, 9] kr kr ?_
  refine rp [.l 1, .v] H4 kr fun gs5 w5 H5 => ?_
  show WPs _ _ _ _ [2, 3, 4, 5, 6, 7, 8, 9] _ _
  clear H4
  by_cases he1 : (a : Nat) = 0
  · skip
    refine rp [.oe (ins := [((.tmp 6), uv a), ((.tmp 7), .agg #[.int .u64 0, .int .u64 0, .int .u64 0, .int .u64 0])]) (v := .bool (!decide (a = 0))) (v' := .bool false) (fun ρ o w ho hi => neU_run (x := (.tmp 6)) (y := (.tmp 7)) a 0 ha (by unfold big; omega) w ho hi.1 hi.2.1) (by rw [decide_eq_true he1] <;> rfl), .v, .n, .n, .n, .n, .v, .v] H5 kr fun gs6 w6 H6 => ?_
    show WPs _ _ _ _ [] _ _
    clear H5
    refine s_nil ?_
    refine g_ret kr ?_
    show ∃ vs, Res _ _ _ _ vs ∧ _
    refine ⟨[.bool false], (.tmp (.bool false) kr .nil), ?_, H6.below⟩
    exact congrArg Value.bool (show false = inN a by rw [he1]; rfl)
  · skip
    refine rp [.oe (ins := [((.tmp 6), uv a), ((.tmp 7), .agg #[.int .u64 0, .int .u64 0, .int .u64 0, .int .u64 0])]) (v := .bool (!decide (a = 0))) (v' := .bool true) (fun ρ o w ho hi => neU_run (x := (.tmp 6)) (y := (.tmp 7)) a 0 ha (by unfold big; omega) w ho hi.1 hi.2.1) (by rw [decide_eq_false he1] <;> rfl), .v, .l 1] H5 kr fun gs7 w7 H7 => ?_
    show WPs _ _ _ _ [5, 6, 7, 8, 9] _ _
    clear H5
    refine s_callS H7 (some 11) 35 #[uv a] (fun _ => True) 3 1 (fun curZ capZ nZ lZ => (nZ = List.length lZ ∧ Rw 1 curZ capZ nZ (cellsD lZ) ∧ Ok lZ ∧ (lZ = dgs a 16 ∧ vl lZ = a ∧ List.length lZ = 16))) (of_fn a ha) trivial kr kr ?_
    intro b_7 cap_8 n_9 cur_10 l_11 w8 H8 hs_12; clear H7
    obtain ⟨hs_12n, hs_12r, hs_12o, hs_12s⟩ := hs_12
    obtain ⟨hs_12a, hs_12b, hs_12c⟩ := hs_12s
    refine rp [.v, .cp (pre := fun w => w.heap[b_7]? = some (.cells cur_10 3 (0, 0)) ∧ w.heap[b_1]? = some (.cells cur_4 3 (0, 0))) (less_fn l_11 l_5 b_7 n_9 cap_8 b_1 n_3 cap_2 cur_10 cur_4 hs_12n hs_6n hs_12r hs_6r hs_12o hs_6o (by omega) (by omega)) [(0, (b_7, Obj.cells cur_10 3 (0, 0))), (1, (b_1, Obj.cells cur_4 3 (0, 0)))] (fun w hb hd => ⟨hd.1, hd.2.1⟩), .v, .v] H8 kr fun gs9 w9 H9 => ?_
    show WPs _ _ _ _ [] _ _
    clear H8
    refine s_nil ?_
    refine g_ret kr ?_
    show ∃ vs, Res _ _ _ _ vs ∧ _
    refine ⟨[.bool (ls l_11 l_5)], (.tmp (.bool (ls l_11 l_5)) kr .nil), ?_, H9.below⟩
    exact congrArg Value.bool (show ls l_11 l_5 = inN a by rw [inN_n he1]; unfold ls; rw [hs_12b, hs_6b])
set_option maxRecDepth 100000 in
set_option maxHeartbeats 2000000 in
theorem high_fn (a : Nat) (ha : a < big) : Fn Tryd.prog 44 #[uv a] (.bool (highB a)) := by
  refine Fn.intro (c := codeOf Tryd.f44) [.tmp 2] 12 Tryd.func44 kr kr kr fun w => ?_
  have H0 := St.start w
  refine rS [.b, .v] H0 kr fun gs1 w1 H1 => ?_
  clear H0
  refine g_sreg [0, 1, 2] kr kr ?_
  refine rp [.l 0] H1 kr fun gs2 w2 H2 => ?_
  show WPs _ _ _ _ [1, 2] _ _
  clear H1
  refine s_callS H2 (some 5) 35 #[uv a] (fun _ => True) 3 1 (fun curZ capZ nZ lZ => (nZ = List.length lZ ∧ Rw 1 curZ capZ nZ (cellsD lZ) ∧ Ok lZ ∧ (lZ = dgs a 16 ∧ vl lZ = a ∧ List.length lZ = 16))) (of_fn a ha) trivial kr kr ?_
  intro b_1 cap_2 n_3 cur_4 l_5 w3 H3 hs_6; clear H2
  obtain ⟨hs_6n, hs_6r, hs_6o, hs_6s⟩ := hs_6
  obtain ⟨hs_6a, hs_6b, hs_6c⟩ := hs_6s
  refine rp [.v] H3 kr fun gs4 w4 H4 => ?_
  show WPs _ _ _ _ [] _ _
  clear H3
  refine s_nil ?_
  refine g_sreg [0, 1, 2, 3, 4, 5, 6] kr kr ?_
  refine rp [.c modulus1_fn] H4 kr fun gs5 w5 H5 => ?_
  show WPs _ _ _ _ [1, 2, 3, 4, 5, 6] _ _
  clear H4
  refine s_callS H5 (some 7) 35 #[uv NR] (fun _ => True) 3 1 (fun curZ capZ nZ lZ => (nZ = List.length lZ ∧ Rw 1 curZ capZ nZ (cellsD lZ) ∧ Ok lZ ∧ (lZ = dgs NR 16 ∧ vl lZ = NR ∧ List.length lZ = 16))) (of_fn NR nr_ok.1) trivial kr kr ?_
  intro b_7 cap_8 n_9 cur_10 l_11 w6 H6 hs_12; clear H5
  obtain ⟨hs_12n, hs_12r, hs_12o, hs_12s⟩ := hs_12
  obtain ⟨hs_12a, hs_12b, hs_12c⟩ := hs_12s
  refine rp [.v, .v] H6 kr fun gs7 w7 H7 => ?_
  show WPs _ _ _ _ [4, 5, 6] _ _
  clear H6
  refine s_callS H7 (some 10) 59 #[.slice (some ⟨b_1, 0, none⟩) n_3 cap_2, .slice (some ⟨b_1, 0, none⟩) n_3 cap_2] (fun w => w.heap[b_1]? = some (.cells cur_4 3 (0, 0)) ∧ w.heap[b_1]? = some (.cells cur_4 3 (0, 0))) 3 1 (fun curZ capZ nZ lZ => (nZ = List.length lZ ∧ Rw 1 curZ capZ nZ (cellsD lZ) ∧ Ok lZ ∧ (vl lZ = vl l_5 + vl l_5 ∧ List.length lZ ≤ max (List.length l_5) (List.length l_5) + 1 ∧ max (List.length l_5) (List.length l_5) ≤ List.length lZ))) (sum_fn l_5 l_5 b_1 n_3 cap_2 b_1 n_3 cap_2 cur_4 cur_4 hs_6n hs_6n hs_6r hs_6r hs_6o hs_6o (by omega) (by omega)) (⟨(H7.get 1 kr), (H7.get 1 kr)⟩) kr kr ?_
  intro b_13 cap_14 n_15 cur_16 l_17 w8 H8 hs_18; clear H7
  obtain ⟨hs_18n, hs_18r, hs_18o, hs_18s⟩ := hs_18
  refine rp [.cp (pre := fun w => w.heap[b_7]? = some (.cells cur_10 3 (0, 0)) ∧ w.heap[b_13]? = some (.cells cur_16 3 (0, 0))) (less_fn l_11 l_17 b_7 n_9 cap_8 b_13 n_15 cap_14 cur_10 cur_16 hs_12n hs_18n hs_12r hs_18r hs_12o hs_18o (by omega) (by omega)) [(1, (b_7, Obj.cells cur_10 3 (0, 0))), (0, (b_13, Obj.cells cur_16 3 (0, 0)))] (fun w hb hd => ⟨hd.1, hd.2.1⟩), .v] H8 kr fun gs9 w9 H9 => ?_
  show WPs _ _ _ _ [] _ _
  clear H8
  refine s_nil ?_
  refine g_ret kr ?_
  show ∃ vs, Res _ _ _ _ vs ∧ _
  refine ⟨[.bool (ls l_11 l_17)], (.tmp (.bool (ls l_11 l_17)) kr .nil), ?_, H9.below⟩
  exact congrArg Value.bool (show ls l_11 l_17 = highB a by unfold ls highB; rw [hs_12b, hs_18s.1, hs_6b])
set_option maxRecDepth 100000 in
set_option maxHeartbeats 2000000 in
theorem issig_fn (r s : Nat) (hr : r < big) (hs : s < big) (v : Int) : Fn Tryd.prog 17 #[sgv r s (v)] (.bool (mayB r s v)) := by
  refine Fn.intro (c := codeOf Tryd.f17) [.tmp 2] 27 Tryd.func17 kr kr kr fun w => ?_
  have H0 := St.start w
  refine rS [.b, .v] H0 kr fun gs1 w1 H1 => ?_
  clear H0
  refine g_sreg [0, 1, 2, 3, 4, 5, 6, 7, 8, 9, 10, 11, 12, 13, 14, 15, 16, 17, 18, 19, 20, 21, 22, 23, 24] kr kr ?_
  refine rp [.v, .l 0, .c (issec_fn r hr)] H1 kr fun gs2 w2 H2 => ?_
  show WPs _ _ _ _ [3, 4, 5, 6, 7, 8, 9, 10, 11, 12, 13, 14, 15, 16, 17, 18, 19, 20, 21, 22, 23, 24] _ _
  clear H1
  rcases (Bool.eq_false_or_eq_true (inN r)).symm with hb1 | hb1
  · skip
    refine s_now 5 (v := .bool (inN r)) (v' := .bool false) (bool_eq hb1) kr ?_
    refine rp [.v, .n, .n, .n, .v, .v, .n, .n, .n, .n, .v, .v, .n, .n, .n, .v, .v, .n, .n, .n, .v, .v] H2 kr fun gs3 w3 H3 => ?_
    show WPs _ _ _ _ [] _ _
    clear H2
    refine s_nil ?_
    refine g_ret kr ?_
    show ∃ vs, Res _ _ _ _ vs ∧ _
    refine ⟨[.bool false], (.tmp (.bool false) kr .nil), ?_, H3.below⟩
    exact congrArg Value.bool (by unfold mayB; rw [low_eq s hs]; simp [hb1] <;> omega)
  · skip
    refine s_now 5 (v := .bool (inN r)) (v' := .bool true) (bool_eq hb1) kr ?_
    refine rp [.v, .v, .l 0, .c (issec_fn s hs)] H2 kr fun gs4 w4 H4 => ?_
    show WPs _ _ _ _ [7, 8, 9, 10, 11, 12, 13, 14, 15, 16, 17, 18, 19, 20, 21, 22, 23, 24] _ _
    clear H2
    rcases (Bool.eq_false_or_eq_true (inN s)).symm with hb2 | hb2
    · skip
      refine s_now 9 (v := .bool (inN s)) (v' := .bool false) (bool_eq hb2) kr ?_
      refine rp [.v, .v, .n, .n, .n, .n, .v, .v, .n, .n, .n, .v, .v, .n, .n, .n, .v, .v] H4 kr fun gs5 w5 H5 => ?_
      show WPs _ _ _ _ [] _ _
      clear H4
      refine s_nil ?_
      refine g_ret kr ?_
      show ∃ vs, Res _ _ _ _ vs ∧ _
      refine ⟨[.bool false], (.tmp (.bool false) kr .nil), ?_, H5.below⟩
      exact congrArg Value.bool (by unfold mayB; rw [low_eq s hs]; simp [hb1, hb2] <;> omega)
    · skip
      refine s_now 9 (v := .bool (inN s)) (v' := .bool true) (bool_eq hb2) kr ?_
      refine rp [.v, .v, .v, .l 0, .c (high_fn s hs)] H4 kr fun gs6 w6 H6 => ?_
      show WPs _ _ _ _ [12, 13, 14, 15, 16, 17, 18, 19, 20, 21, 22, 23, 24] _ _
      clear H4
      rcases (Bool.eq_false_or_eq_true (highB s)).symm with hb3 | hb3
      · skip
        refine s_now 14 (v := .bool (highB s)) (v' := .bool false) (bool_eq hb3) kr ?_
        refine rp [.v, .v, .v, .v, .l 0] H6 kr fun gs7 w7 H7 => ?_
        show WPs _ _ _ _ [17, 18, 19, 20, 21, 22, 23, 24] _ _
        clear H6
        by_cases hc1 : (v : Int) ≥ 0
        · skip
          refine rp [.e (v := .bool (decide (0 ≤ v))) (v' := .bool true) (bool_eq (decide_eq_true (by omega))), .v, .v, .v, .l 0] H7 kr fun gs8 w8 H8 => ?_
          show WPs _ _ _ _ [22, 23, 24] _ _
          clear H7
          by_cases hc2 : (v : Int) ≤ 1
          · skip
            refine rp [.e (v := .bool (decide (v ≤ 1))) (v' := .bool true) (bool_eq (decide_eq_true (by omega))), .v, .v] H8 kr fun gs9 w9 H9 => ?_
            show WPs _ _ _ _ [] _ _
            clear H8
            refine s_nil ?_
            refine g_ret kr ?_
            show ∃ vs, Res _ _ _ _ vs ∧ _
            refine ⟨[.bool true], (.tmp (.bool true) kr .nil), ?_, H9.below⟩
            exact congrArg Value.bool (by unfold mayB; rw [low_eq s hs]; simp [hb1, hb2, hb3] <;> omega)
          · skip
            refine rp [.e (v := .bool (decide (v ≤ 1))) (v' := .bool false) (bool_eq (decide_eq_false (by omega))), .v, .v] H8 kr fun gs10 w10 H10 => ?_
            show WPs _ _ _ _ [] _ _
            clear H8
            refine s_nil ?_
            refine g_ret kr ?_
            show ∃ vs, Res _ _ _ _ vs ∧ _
            refine ⟨[.bool false], (.tmp (.bool false) kr .nil), ?_, H10.below⟩
            exact congrArg Value.bool (by unfold mayB; rw [low_eq s hs]; simp [hb1, hb2, hb3] <;> omega)
        · skip
          refine rp [.e (v := .bool (decide (0 ≤ v))) (v' := .bool false) (bool_eq (decide_eq_false (by omega))), .v, .v, .n, .n, .n, .v, .v] H7 kr fun gs11 w11 H11 => ?_
          show WPs _ _ _ _ [] _ _
          clear H7
          refine s_nil ?_
          refine g_ret kr ?_
          show ∃ vs, Res _ _ _ _ vs ∧ _
          refine ⟨[.bool false], (.tmp (.bool false) kr .nil), ?_, H11.below⟩
          exact congrArg Value.bool (by unfold mayB; rw [low_eq s hs]; simp [hb1, hb2, hb3] <;> omega)
      · skip
        refine s_now 14 (v := .bool (highB s)) (v' := .bool true) (bool_eq hb3) kr ?_
        refine rp [.v, .v, .v, .n, .n, .n, .v, .v, .n, .n, .n, .v, .v] H6 kr fun gs12 w12 H12 => ?_
        show WPs _ _ _ _ [] _ _
        clear H6
        refine s_nil ?_
        refine g_ret kr ?_
        show ∃ vs, Res _ _ _ _ vs ∧ _
        refine ⟨[.bool false], (.tmp (.bool false) kr .nil), ?_, H12.below⟩
        exact congrArg Value.bool (by unfold mayB; rw [low_eq s hs]; simp [hb1, hb2, hb3] <;> omega)
end Go.Proofs.YtmmloghbnpfedaaDoor

namespace Go.Proofs.Kec
set_option linter.unusedVariables false
set_option maxRecDepth 10000
abbrev B64 := BitVec 64
def nth (s : List B64) (k : Nat) : B64 := s.getD k 0
def rl (x : B64) (n : Nat) : B64 := x.rotateLeft n
def rowX (v w x : B64) : B64 := v ^^^ (x &&& ~~~ w)
def cC (s : List B64) (x : Nat) : B64 := nth s x ^^^ nth s (x + 5) ^^^ nth s (x + 10) ^^^ nth s (x + 15) ^^^ nth s (x + 20)
def dD (c : Nat → B64) (x : Nat) : B64 := c ((x + 4) % 5) ^^^ rl (c ((x + 1) % 5)) 1
def srcT : List Nat := [0,6,12,18,24, 3,9,10,16,22, 1,7,13,19,20, 4,5,11,17,23, 2,8,14,15,21]
def rotT : List Nat := [0,44,43,21,14, 28,20,3,45,61, 1,6,25,8,18, 27,36,10,15,56, 62,55,39,41,2]
def th (s : List B64) (i : Nat) : B64 := nth s i ^^^ dD (cC s) (i % 5)
def pI (s : List B64) (k : Nat) : B64 := rl (th s (srcT.getD k 0)) (rotT.getD k 0)
def xI (b : Nat → B64) (k : Nat) : B64 := rowX (b k) (b (k / 5 * 5 + (k % 5 + 1) % 5)) (b (k / 5 * 5 + (k % 5 + 2) % 5))
def rnd (s : List B64) : List B64 := (List.range 25).map (xI (pI s))
/-! ### turning -/
theorem rl_bit (a : B64) (n i : Nat) (hi : i < 64) : (rl a n).getLsbD i = a.getLsbD ((i + 64 - n % 64) % 64) := by
  unfold rl
  rw [BitVec.getLsbD_rotateLeft]
  by_cases h : i < n % 64
  · rw [decide_eq_true h, cond_true]; congr 1; omega
  · rw [decide_eq_false h, cond_false, decide_eq_true hi, Bool.true_and]; congr 1; omega
theorem rl_xor (a b : B64) (n : Nat) : rl (a ^^^ b) n = rl a n ^^^ rl b n := by
  apply BitVec.eq_of_getLsbD_eq
  intro i hi
  rw [BitVec.getLsbD_xor, rl_bit _ _ _ hi, rl_bit _ _ _ hi, rl_bit _ _ _ hi, BitVec.getLsbD_xor]
theorem rl_rl (a : B64) (m n : Nat) : rl (rl a m) n = rl a (m + n) := by
  apply BitVec.eq_of_getLsbD_eq
  intro i hi
  rw [rl_bit _ _ _ hi, rl_bit _ _ _ (by omega), rl_bit _ _ _ hi]
  congr 1; omega
theorem rl_64 (a : B64) : rl a 64 = a := by
  apply BitVec.eq_of_getLsbD_eq
  intro i hi
  rw [rl_bit _ _ _ hi]
  congr 1; omega
theorem rl_inj {a b : B64} {n : Nat} (h : rl a n = rl b n) : a = b := by
  have h2 : rl (rl a n) (64 - n % 64) = rl (rl b n) (64 - n % 64) := by rw [h]
  have k : ∀ c : B64, rl (rl c n) (64 - n % 64) = c := fun c => by
    rw [rl_rl]
    apply BitVec.eq_of_getLsbD_eq
    intro i hi
    rw [rl_bit _ _ _ hi]
    congr 1; omega
  rwa [k, k] at h2
/-! ### bits that cancel -/
theorem x9 (a b c d e f : B64) : (a ^^^ b ^^^ c) ^^^ (b ^^^ d ^^^ e) ^^^ (c ^^^ e ^^^ f) = a ^^^ d ^^^ f := by
  apply BitVec.eq_of_getLsbD_eq
  intro i hi
  simp only [BitVec.getLsbD_xor]
  generalize a.getLsbD i = a, b.getLsbD i = b, c.getLsbD i = c, d.getLsbD i = d, e.getLsbD i = e, f.getLsbD i = f
  revert a b c d e f; decide
def L (j : Nat) (c : Nat → B64) (x : Nat) : B64 := c x ^^^ c ((x + 4 * j) % 5) ^^^ rl (c ((x + j) % 5)) j
theorem L_double (j : Nat) (c : Nat → B64) (x : Nat) (hx : x < 5) : L (2 * j) c x = L j c x ^^^ L j c ((x + 4 * j) % 5) ^^^ rl (L j c ((x + j) % 5)) j := by
  unfold L
  rw [rl_xor, rl_xor, rl_rl]
  rw [show ((x + 4 * j) % 5 + j) % 5 = x by omega, show ((x + j) % 5 + 4 * j) % 5 = x by omega, show ((x + 4 * j) % 5 + 4 * j) % 5 = (x + 4 * (2 * j)) % 5 by omega,
    show ((x + j) % 5 + j) % 5 = (x + 2 * j) % 5 by omega, show j + j = 2 * j by omega, x9]
theorem L_step {j : Nat} {c c' : Nat → B64} (h : ∀ x, x < 5 → L j c x = L j c' x) : ∀ x, x < 5 → L (2 * j) c x = L (2 * j) c' x := fun x hx => by
  rw [L_double _ _ _ hx, L_double _ _ _ hx, h x hx, h _ (Nat.mod_lt _ (by decide)), h _ (Nat.mod_lt _ (by decide))]
theorem x27 (a b c d e : B64) :
    ((a ^^^ b ^^^ e) ^^^ (b ^^^ c ^^^ a) ^^^ (e ^^^ a ^^^ d)) ^^^ ((b ^^^ c ^^^ a) ^^^ (c ^^^ d ^^^ b) ^^^ (a ^^^ b ^^^ e)) ^^^ ((e ^^^ a ^^^ d) ^^^ (a ^^^ b ^^^ e) ^^^ (d ^^^ e ^^^ c)) = a := by
  apply BitVec.eq_of_getLsbD_eq
  intro i hi
  simp only [BitVec.getLsbD_xor]
  generalize a.getLsbD i = a, b.getLsbD i = b, c.getLsbD i = c, d.getLsbD i = d, e.getLsbD i = e
  revert a b c d e; decide
def M (c : Nat → B64) (x : Nat) : B64 := c x ^^^ c ((x + 1) % 5) ^^^ c ((x + 4) % 5)
theorem M3 (c : Nat → B64) (x : Nat) (hx : x < 5) : M (M (M c)) x = c x := by
  unfold M
  have e : x = 0 ∨ x = 1 ∨ x = 2 ∨ x = 3 ∨ x = 4 := by omega
  rcases e with rfl | rfl | rfl | rfl | rfl <;> exact x27 _ _ _ _ _
theorem L64 (c : Nat → B64) (x : Nat) (hx : x < 5) : L 64 c x = M c x := by
  unfold L M
  rw [rl_64]
  have e : x = 0 ∨ x = 1 ∨ x = 2 ∨ x = 3 ∨ x = 4 := by omega
  rcases e with rfl | rfl | rfl | rfl | rfl <;> rfl
theorem M_cong {c c' : Nat → B64} (h : ∀ x, x < 5 → c x = c' x) : ∀ x, x < 5 → M c x = M c' x := fun x hx => by
  unfold M
  rw [h x hx, h _ (Nat.mod_lt _ (by decide)), h _ (Nat.mod_lt _ (by decide))]
theorem L_inj {c c' : Nat → B64} (h : ∀ x, x < 5 → L 1 c x = L 1 c' x) : ∀ x, x < 5 → c x = c' x := by
  have h64 : ∀ x, x < 5 → L 64 c x = L 64 c' x := L_step (j := 32) (L_step (j := 16) (L_step (j := 8) (L_step (j := 4) (L_step (j := 2) (L_step (j := 1) h)))))
  have hm : ∀ x, x < 5 → M c x = M c' x := fun x hx => by rw [← L64 c x hx, ← L64 c' x hx, h64 x hx]
  intro x hx
  rw [← M3 c x hx, ← M3 c' x hx]
  exact M_cong (M_cong hm) x hx
/-! ### a row -/
theorem row_bits : ∀ a b c d e a' b' c' d' e' : Bool, (a ^^ (c && !b)) = (a' ^^ (c' && !b')) → (b ^^ (d && !c)) = (b' ^^ (d' && !c')) → (c ^^ (e && !d)) = (c' ^^ (e' && !d')) → (d ^^ (a && !e)) = (d' ^^ (a' && !e')) → (e ^^ (b && !a)) = (e' ^^ (b' && !a')) →
    a = a' ∧ b = b' ∧ c = c' ∧ d = d' ∧ e = e' := by
  intro a b c d e a' b' c' d' e'
  cases a <;> cases b <;> cases c <;> cases d <;> cases e <;> revert a' b' c' d' e' <;> decide
theorem rowX_bit (v w x : B64) (i : Nat) (hi : i < 64) : (rowX v w x).getLsbD i = (v.getLsbD i ^^ (x.getLsbD i && !w.getLsbD i)) := by
  unfold rowX; simp [hi]
theorem row_inj {a b c d e a' b' c' d' e' : B64} (h0 : rowX a b c = rowX a' b' c') (h1 : rowX b c d = rowX b' c' d') (h2 : rowX c d e = rowX c' d' e') (h3 : rowX d e a = rowX d' e' a') (h4 : rowX e a b = rowX e' a' b') :
    a = a' ∧ b = b' ∧ c = c' ∧ d = d' ∧ e = e' := by
  have key : ∀ i, i < 64 → a.getLsbD i = a'.getLsbD i ∧ b.getLsbD i = b'.getLsbD i ∧ c.getLsbD i = c'.getLsbD i ∧ d.getLsbD i = d'.getLsbD i ∧ e.getLsbD i = e'.getLsbD i := fun i hi => by
    have g : ∀ {x y : B64}, x = y → x.getLsbD i = y.getLsbD i := fun h => by rw [h]
    have k0 := g h0; have k1 := g h1; have k2 := g h2; have k3 := g h3; have k4 := g h4
    rw [rowX_bit _ _ _ _ hi, rowX_bit _ _ _ _ hi] at k0 k1 k2 k3 k4
    exact row_bits _ _ _ _ _ _ _ _ _ _ k0 k1 k2 k3 k4
  exact ⟨BitVec.eq_of_getLsbD_eq fun i hi => (key i hi).1, BitVec.eq_of_getLsbD_eq fun i hi => (key i hi).2.1, BitVec.eq_of_getLsbD_eq fun i hi => (key i hi).2.2.1,
    BitVec.eq_of_getLsbD_eq fun i hi => (key i hi).2.2.2.1, BitVec.eq_of_getLsbD_eq fun i hi => (key i hi).2.2.2.2⟩
theorem xI_inj {b b' : Nat → B64} (h : ∀ k, k < 25 → xI b k = xI b' k) : ∀ k, k < 25 → b k = b' k := by
  have row : ∀ y, y < 5 → b (y * 5) = b' (y * 5) ∧ b (y * 5 + 1) = b' (y * 5 + 1) ∧ b (y * 5 + 2) = b' (y * 5 + 2) ∧ b (y * 5 + 3) = b' (y * 5 + 3) ∧ b (y * 5 + 4) = b' (y * 5 + 4) := fun y hy => by
    have e : ∀ (c : Nat → B64) x, x < 5 → xI c (y * 5 + x) = rowX (c (y * 5 + x)) (c (y * 5 + (x + 1) % 5)) (c (y * 5 + (x + 2) % 5)) := fun c x hx => by
      unfold xI; rw [show (y * 5 + x) / 5 * 5 = y * 5 by omega, show (y * 5 + x) % 5 = x by omega]
    have k : ∀ x, x < 5 → rowX (b (y * 5 + x)) (b (y * 5 + (x + 1) % 5)) (b (y * 5 + (x + 2) % 5)) = rowX (b' (y * 5 + x)) (b' (y * 5 + (x + 1) % 5)) (b' (y * 5 + (x + 2) % 5)) := fun x hx => by
      rw [← e b x hx, ← e b' x hx]; exact h _ (by omega)
    exact row_inj (k 0 (by decide)) (k 1 (by decide)) (k 2 (by decide)) (k 3 (by decide)) (k 4 (by decide))
  intro k hk
  have r := row (k / 5) (by omega)
  have e : k % 5 = 0 ∨ k % 5 = 1 ∨ k % 5 = 2 ∨ k % 5 = 3 ∨ k % 5 = 4 := by omega
  rcases e with e | e | e | e | e
  · rw [show k = k / 5 * 5 by omega]; exact r.1
  · rw [show k = k / 5 * 5 + 1 by omega]; exact r.2.1
  · rw [show k = k / 5 * 5 + 2 by omega]; exact r.2.2.1
  · rw [show k = k / 5 * 5 + 3 by omega]; exact r.2.2.2.1
  · rw [show k = k / 5 * 5 + 4 by omega]; exact r.2.2.2.2
/-! ### a round -/
theorem x_col (a b c d e f : B64) : (a ^^^ f) ^^^ (b ^^^ f) ^^^ (c ^^^ f) ^^^ (d ^^^ f) ^^^ (e ^^^ f) = (a ^^^ b ^^^ c ^^^ d ^^^ e) ^^^ f := by
  apply BitVec.eq_of_getLsbD_eq
  intro i hi
  simp only [BitVec.getLsbD_xor]
  generalize a.getLsbD i = a, b.getLsbD i = b, c.getLsbD i = c, d.getLsbD i = d, e.getLsbD i = e, f.getLsbD i = f
  revert a b c d e f; decide
theorem th_col (s : List B64) (x : Nat) (hx : x < 5) : th s x ^^^ th s (x + 5) ^^^ th s (x + 10) ^^^ th s (x + 15) ^^^ th s (x + 20) = L 1 (cC s) x := by
  unfold th
  rw [show (x + 5) % 5 = x % 5 by omega, show (x + 10) % 5 = x % 5 by omega, show (x + 15) % 5 = x % 5 by omega, show (x + 20) % 5 = x % 5 by omega, x_col, show x % 5 = x by omega]
  show cC s x ^^^ dD (cC s) x = _
  unfold dD L
  rw [BitVec.xor_assoc]
theorem src_all : ∀ j, j < 25 → ∃ k, k < 25 ∧ srcT.getD k 0 = j := by
  have : ∀ j : Fin 25, ∃ k : Fin 25, srcT.getD k 0 = j := by decide
  intro j hj
  obtain ⟨k, hk⟩ := this ⟨j, hj⟩
  exact ⟨k, k.2, hk⟩
theorem xor_right_inj {a b c : B64} (h : a ^^^ c = b ^^^ c) : a = b := by
  have : (a ^^^ c) ^^^ c = (b ^^^ c) ^^^ c := by rw [h]
  rwa [BitVec.xor_assoc, BitVec.xor_assoc, BitVec.xor_self, BitVec.xor_zero, BitVec.xor_zero] at this
theorem rnd_get (s : List B64) (k : Nat) (hk : k < 25) : (rnd s)[k]? = some (xI (pI s) k) := by
  unfold rnd; simp [hk]
theorem rnd_len (s : List B64) : (rnd s).length = 25 := by unfold rnd; simp
theorem rnd_inj {s t : List B64} (hs : s.length = 25) (ht : t.length = 25) (h : rnd s = rnd t) : s = t := by
  have hx : ∀ k, k < 25 → xI (pI s) k = xI (pI t) k := fun k hk => by
    have e1 := rnd_get s k hk
    rw [h, rnd_get t k hk] at e1
    exact (Option.some.inj e1).symm
  have hp := xI_inj hx
  have hth : ∀ j, j < 25 → th s j = th t j := fun j hj => by
    obtain ⟨k, hk, rfl⟩ := src_all j hj
    exact rl_inj (hp k hk)
  have hc : ∀ x, x < 5 → cC s x = cC t x := L_inj fun x hx => by
    rw [← th_col s x hx, ← th_col t x hx, hth x (by omega), hth (x + 5) (by omega), hth (x + 10) (by omega), hth (x + 15) (by omega), hth (x + 20) (by omega)]
  have hd : ∀ x, x < 5 → dD (cC s) x = dD (cC t) x := fun x hx => by
    unfold dD; rw [hc _ (Nat.mod_lt _ (by decide)), hc _ (Nat.mod_lt _ (by decide))]
  apply List.ext_getElem (by rw [hs, ht])
  intro j h1 h2
  have e := hth j (by omega)
  unfold th at e
  rw [hd _ (Nat.mod_lt _ (by decide))] at e
  have := xor_right_inj e
  simpa [nth, h1, h2] using this
/-! ### all rounds -/
def markX (m : B64) (s : List B64) : List B64 := (nth s 0 ^^^ m) :: s.drop 1
def rm (s : List B64) (m : B64) : List B64 := markX m (rnd s)
def marks : List B64 := [0x0000000000000001, 0x0000000000008082, 0x800000000000808A, 0x8000000080008000,
  0x000000000000808B, 0x0000000080000001, 0x8000000080008081, 0x8000000000008009,
  0x000000000000008A, 0x0000000000000088, 0x0000000080008009, 0x000000008000000A,
  0x000000008000808B, 0x800000000000008B, 0x8000000000008089, 0x8000000000008003,
  0x8000000000008002, 0x8000000000000080, 0x000000000000800A, 0x800000008000000A,
  0x8000000080008081, 0x8000000000008080, 0x0000000080000001, 0x8000000080008008]
def mix (s : List B64) : List B64 := marks.foldl rm s
theorem markX_len (m : B64) {s : List B64} (h : s.length = 25) : (markX m s).length = 25 := by unfold markX; simp [h]
theorem markX_inj {m : B64} {s t : List B64} (hs : s.length = 25) (ht : t.length = 25) (h : markX m s = markX m t) : s = t := by
  match s, t, hs, ht with
  | a :: s, b :: t, _, _ =>
    unfold markX nth at h
    simp at h
    obtain ⟨h1, h2⟩ := h
    rw [h1, h2]
theorem rm_len (s : List B64) (m : B64) : (rm s m).length = 25 := markX_len m (rnd_len s)
theorem foldl_rm_len : ∀ (ms : List B64) {s : List B64}, s.length = 25 → (ms.foldl rm s).length = 25
  | [], _, h => h
  | m :: ms, s, _ => foldl_rm_len ms (rm_len s m)
theorem mix_len {s : List B64} (h : s.length = 25) : (mix s).length = 25 := foldl_rm_len _ h
theorem foldl_rm_inj : ∀ (ms : List B64) {s t : List B64}, s.length = 25 → t.length = 25 → ms.foldl rm s = ms.foldl rm t → s = t
  | [], _, _, _, _, h => h
  | m :: ms, s, t, hs, ht, h => rnd_inj hs ht (markX_inj (rnd_len s) (rnd_len t) (foldl_rm_inj ms (rm_len s m) (rm_len t m) h))
/-! ### sums -/
def byteB (b : UInt8) : B64 := BitVec.ofNat 64 b.toNat
def liftB (b : B64) (i : Nat) : B64 := b <<< (i % 8 * 8)
/-- The state with a byte laid at a place. -/
def lay (s : List B64) (n : Nat) (b : B64) : List B64 := s.set (n / 8) (nth s (n / 8) ^^^ liftB b n)
def step1 (st : List B64 × Nat) (b : UInt8) : List B64 × Nat :=
  if st.2 + 1 = 136 then (mix (lay st.1 st.2 (byteB b)), 0) else (lay st.1 st.2 (byteB b), st.2 + 1)
def takeB (st : List B64 × Nat) (l : List UInt8) : List B64 × Nat := l.foldl step1 st
def endB (st : List B64 × Nat) : List B64 := lay (lay st.1 st.2 1) 135 0x80
def firstB (s : List B64) : List UInt8 := (List.range 32).map fun i => UInt8.ofNat ((nth s (i / 8)).toNat / 2 ^ (i % 8 * 8))
def zeroS : List B64 := List.replicate 25 0
def sumB (l : List UInt8) : List UInt8 := firstB (mix (endB (takeB (zeroS, 0) l)))
theorem lay_len {s : List B64} (n : Nat) (b : B64) (h : s.length = 25) : (lay s n b).length = 25 := by unfold lay; simp [h]
structure StOK (st : List B64 × Nat) : Prop where
  len : st.1.length = 25
  lt : st.2 < 136
theorem step1_ok {st : List B64 × Nat} (b : UInt8) (h : StOK st) : StOK (step1 st b) := by
  unfold step1
  split
  · exact ⟨mix_len (lay_len _ _ h.len), (by decide : 0 < 136)⟩
  · exact ⟨lay_len _ _ h.len, by have := h.lt; simp only; omega⟩
theorem takeB_ok : ∀ (l : List UInt8) {st : List B64 × Nat}, StOK st → StOK (takeB st l)
  | [], _, h => h
  | b :: l, st, h => takeB_ok l (step1_ok b h)
theorem takeB_append (st : List B64 × Nat) (l m : List UInt8) : takeB st (l ++ m) = takeB (takeB st l) m := by unfold takeB; exact List.foldl_append
theorem takeB_snoc (st : List B64 × Nat) (l : List UInt8) (b : UInt8) : takeB st (l ++ [b]) = step1 (takeB st l) b := by rw [takeB_append]; rfl
theorem zero_ok : StOK (zeroS, 0) := ⟨by decide, by decide⟩
theorem firstB_len (s : List B64) : (firstB s).length = 32 := by unfold firstB; simp
theorem sumB_len (l : List UInt8) : (sumB l).length = 32 := firstB_len _
end Go.Proofs.Kec

namespace Go.Proofs.YtmmloghbnpfedaaDoor.Ke
open Go Go.RowKit Go.Proofs.Kec
set_option linter.unusedVariables false
theorem rl_of (x : BitVec 64) (n : Nat) (h : n < 64) : x <<< n ||| x >>> (64 - n) = rl x n := by
  unfold rl BitVec.rotateLeft BitVec.rotateLeftAux; rw [Nat.mod_eq_of_lt h]
theorem and63 (n : Nat) (h : n < 64) : Value.int .u64 (Go.bits .and .u64 ((n : Nat) : Int) 63) = .int .u64 ((n : Nat) : Int) := by
  rw [show (63 : Int) = ((63 : Nat) : Int) from rfl, u64_and_nat n 63 (by omega) (by omega), show (63 : Nat) = 2 ^ 6 - 1 from rfl, Nat.and_two_pow_sub_one_eq_mod, Nat.mod_eq_of_lt (by omega)]
set_option maxRecDepth 100000 in
set_option maxHeartbeats 2000000 in
theorem rotl_fn (x : BitVec 64) (n : Nat) (hn : n < 64) : Fn Tryd.prog 103 #[.int .u64 ((BitVec.toNat x : Nat) : Int), .int .i64 ((n : Nat) : Int)] (.int .u64 ((BitVec.toNat (rl x n) : Nat) : Int)) := by
  refine Fn.intro (c := codeOf Tryd.f103) [.tmp 4] 17 Tryd.func103 kr kr kr fun w => ?_
  have H0 := St.start w
  refine rS [.v] H0 kr fun gs1 w1 H1 => ?_
  clear H0
  refine rS [.v, .e (v := .int .u64 (IntKind.u64.wrap (((n : Nat) : Int)))) (v' := .int .u64 ((n : Nat) : Int)) (int_eq (wrapN_u64 (a := n) (by omega))), .e (v := .int .u64 (Go.bits .and .u64 ((n : Nat) : Int) 63)) (v' := .int .u64 ((n : Nat) : Int)) (and63 n hn), .v] H1 kr fun gs2 w2 H2 => ?_
  clear H1
  refine rS [.v, .v, .e (v := .int .u64 (IntKind.u64.wrap ((((BitVec.toNat x : Nat) : Int)) * 2 ^ (min n 64)))) (v' := .int .u64 ((BitVec.toNat (x <<< n) : Nat) : Int)) (bv_shl_u64 x n), .v, .v, .e (v := .int .u64 (IntKind.u64.wrap (64 - ((n : Nat) : Int)))) (v' := .int .u64 ((64 - n : Nat) : Int)) (int_eq (wrapSub_u64 (a := 64) (b := n) (by omega))), .e (v := .int .u64 (Int.fdiv (((BitVec.toNat x : Nat) : Int)) (2 ^ (min (64 - n) 64)))) (v' := .int .u64 ((BitVec.toNat (x >>> (64 - n)) : Nat) : Int)) (bv_shr_u64 x (64 - n)), .e (v := .int .u64 (Go.bits .or .u64 (((BitVec.toNat (x <<< n) : Nat) : Int)) (((BitVec.toNat (x >>> (64 - n)) : Nat) : Int)))) (v' := .int .u64 ((BitVec.toNat ((x <<< n) ||| (x >>> (64 - n))) : Nat) : Int)) (bv_or_u64 (x <<< n) (x >>> (64 - n))), .v] H2 kr fun gs3 w3 H3 => ?_
  clear H2
  refine g_ret kr ?_
  show ∃ vs, Res _ _ _ _ vs ∧ _
  refine ⟨[.int .u64 ((BitVec.toNat ((x <<< n) ||| (x >>> (64 - n))) : Nat) : Int)], (.tmp (.int .u64 ((BitVec.toNat ((x <<< n) ||| (x >>> (64 - n))) : Nat) : Int)) kr .nil), ?_, H3.below⟩
  rw [← rl_of x n hn]; rfl
set_option maxRecDepth 100000 in
set_option maxHeartbeats 2000000 in
theorem turn_fn (x : BitVec 64) (n : Nat) (hn : n < 64) : Fn Tryd.prog 97 #[.int .u64 ((BitVec.toNat x : Nat) : Int), .int .i64 ((n : Nat) : Int)] (.int .u64 ((BitVec.toNat (rl x n) : Nat) : Int)) := by
  refine Fn.intro (c := codeOf Tryd.f97) [.tmp 4] 8 Tryd.func97 kr kr kr fun w => ?_
  have H0 := St.start w
  refine rS [.v] H0 kr fun gs1 w1 H1 => ?_
  clear H0
  refine rS [.v, .v, .c (rotl_fn x n (by omega)), .v] H1 kr fun gs2 w2 H2 => ?_
  clear H1
  refine g_ret kr ?_
  show ∃ vs, Res _ _ _ _ vs ∧ _
  refine ⟨[.int .u64 ((BitVec.toNat (rl x n) : Nat) : Int)], (.tmp (.int .u64 ((BitVec.toNat (rl x n) : Nat) : Int)) kr .nil), ?_, H2.below⟩
  rfl
set_option maxRecDepth 100000 in
set_option maxHeartbeats 2000000 in
theorem row_fn (xa xb xc xd xe : BitVec 64) : Fn Tryd.prog 98 #[.int .u64 ((BitVec.toNat xa : Nat) : Int), .int .u64 ((BitVec.toNat xb : Nat) : Int), .int .u64 ((BitVec.toNat xc : Nat) : Int), .int .u64 ((BitVec.toNat xd : Nat) : Int), .int .u64 ((BitVec.toNat xe : Nat) : Int)] (.tuple #[.int .u64 ((BitVec.toNat (rowX xa xb xc) : Nat) : Int), .int .u64 ((BitVec.toNat (rowX xb xc xd) : Nat) : Int), .int .u64 ((BitVec.toNat (rowX xc xd xe) : Nat) : Int), .int .u64 ((BitVec.toNat (rowX xd xe xa) : Nat) : Int), .int .u64 ((BitVec.toNat (rowX xe xa xb) : Nat) : Int)]) := by
  refine Fn.intro (c := codeOf Tryd.f98) [.tmp 10, .tmp 11, .tmp 12, .tmp 13, .tmp 14] 40 Tryd.func98 kr kr kr fun w => ?_
  have H0 := St.start w
  refine rS [.v, .v, .v, .v, .v] H0 kr fun gs1 w1 H1 => ?_
  clear H0
  refine rS [.v, .v, .v, .e (v := .int .u64 (Go.bits .andNot .u64 (((BitVec.toNat xc : Nat) : Int)) (((BitVec.toNat xb : Nat) : Int)))) (v' := .int .u64 ((BitVec.toNat (xc &&& ~~~xb) : Nat) : Int)) (bv_andNot_u64 xc xb), .e (v := .int .u64 (Go.bits .xor .u64 (((BitVec.toNat xa : Nat) : Int)) (((BitVec.toNat (xc &&& ~~~xb) : Nat) : Int)))) (v' := .int .u64 ((BitVec.toNat (xa ^^^ (xc &&& ~~~xb)) : Nat) : Int)) (bv_xor_u64 xa (xc &&& ~~~xb)), .v, .v, .v, .e (v := .int .u64 (Go.bits .andNot .u64 (((BitVec.toNat xd : Nat) : Int)) (((BitVec.toNat xc : Nat) : Int)))) (v' := .int .u64 ((BitVec.toNat (xd &&& ~~~xc) : Nat) : Int)) (bv_andNot_u64 xd xc), .e (v := .int .u64 (Go.bits .xor .u64 (((BitVec.toNat xb : Nat) : Int)) (((BitVec.toNat (xd &&& ~~~xc) : Nat) : Int)))) (v' := .int .u64 ((BitVec.toNat (xb ^^^ (xd &&& ~~~xc)) : Nat) : Int)) (bv_xor_u64 xb (xd &&& ~~~xc)), .v, .v, .v, .e (v := .int .u64 (Go.bits .andNot .u64 (((BitVec.toNat xe : Nat) : Int)) (((BitVec.toNat xd : Nat) : Int)))) (v' := .int .u64 ((BitVec.toNat (xe &&& ~~~xd) : Nat) : Int)) (bv_andNot_u64 xe xd), .e (v := .int .u64 (Go.bits .xor .u64 (((BitVec.toNat xc : Nat) : Int)) (((BitVec.toNat (xe &&& ~~~xd) : Nat) : Int)))) (v' := .int .u64 ((BitVec.toNat (xc ^^^ (xe &&& ~~~xd)) : Nat) : Int)) (bv_xor_u64 xc (xe &&& ~~~xd)), .v, .v, .v, .e (v := .int .u64 (Go.bits .andNot .u64 (((BitVec.toNat xa : Nat) : Int)) (((BitVec.toNat xe : Nat) : Int)))) (v' := .int .u64 ((BitVec.toNat (xa &&& ~~~xe) : Nat) : Int)) (bv_andNot_u64 xa xe), .e (v := .int .u64 (Go.bits .xor .u64 (((BitVec.toNat xd : Nat) : Int)) (((BitVec.toNat (xa &&& ~~~xe) : Nat) : Int)))) (v' := .int .u64 ((BitVec.toNat (xd ^^^ (xa &&& ~~~xe)) : Nat) : Int)) (bv_xor_u64 xd (xa &&& ~~~xe)), .v, .v, .v, .e (v := .int .u64 (Go.bits .andNot .u64 (((BitVec.toNat xb : Nat) : Int)) (((BitVec.toNat xa : Nat) : Int)))) (v' := .int .u64 ((BitVec.toNat (xb &&& ~~~xa) : Nat) : Int)) (bv_andNot_u64 xb xa), .e (v := .int .u64 (Go.bits .xor .u64 (((BitVec.toNat xe : Nat) : Int)) (((BitVec.toNat (xb &&& ~~~xa) : Nat) : Int)))) (v' := .int .u64 ((BitVec.toNat (xe ^^^ (xb &&& ~~~xa)) : Nat) : Int)) (bv_xor_u64 xe (xb &&& ~~~xa)), .v, .v, .v, .v, .v] H1 kr fun gs2 w2 H2 => ?_
  clear H1
  refine g_ret kr ?_
  show ∃ vs, Res _ _ _ _ vs ∧ _
  refine ⟨[.int .u64 ((BitVec.toNat (xa ^^^ (xc &&& ~~~xb)) : Nat) : Int), .int .u64 ((BitVec.toNat (xb ^^^ (xd &&& ~~~xc)) : Nat) : Int), .int .u64 ((BitVec.toNat (xc ^^^ (xe &&& ~~~xd)) : Nat) : Int), .int .u64 ((BitVec.toNat (xd ^^^ (xa &&& ~~~xe)) : Nat) : Int), .int .u64 ((BitVec.toNat (xe ^^^ (xb &&& ~~~xa)) : Nat) : Int)], (.tmp (.int .u64 ((BitVec.toNat (xa ^^^ (xc &&& ~~~xb)) : Nat) : Int)) kr (.tmp (.int .u64 ((BitVec.toNat (xb ^^^ (xd &&& ~~~xc)) : Nat) : Int)) kr (.tmp (.int .u64 ((BitVec.toNat (xc ^^^ (xe &&& ~~~xd)) : Nat) : Int)) kr (.tmp (.int .u64 ((BitVec.toNat (xd ^^^ (xa &&& ~~~xe)) : Nat) : Int)) kr (.tmp (.int .u64 ((BitVec.toNat (xe ^^^ (xb &&& ~~~xa)) : Nat) : Int)) kr .nil))))), ?_, H2.below⟩
  rfl
def svn (s : List (BitVec 64)) : Value := .agg #[.int .u64 ((BitVec.toNat (nth s 0) : Nat) : Int), .int .u64 ((BitVec.toNat (nth s 1) : Nat) : Int), .int .u64 ((BitVec.toNat (nth s 2) : Nat) : Int), .int .u64 ((BitVec.toNat (nth s 3) : Nat) : Int), .int .u64 ((BitVec.toNat (nth s 4) : Nat) : Int), .int .u64 ((BitVec.toNat (nth s 5) : Nat) : Int), .int .u64 ((BitVec.toNat (nth s 6) : Nat) : Int), .int .u64 ((BitVec.toNat (nth s 7) : Nat) : Int), .int .u64 ((BitVec.toNat (nth s 8) : Nat) : Int), .int .u64 ((BitVec.toNat (nth s 9) : Nat) : Int), .int .u64 ((BitVec.toNat (nth s 10) : Nat) : Int), .int .u64 ((BitVec.toNat (nth s 11) : Nat) : Int), .int .u64 ((BitVec.toNat (nth s 12) : Nat) : Int), .int .u64 ((BitVec.toNat (nth s 13) : Nat) : Int), .int .u64 ((BitVec.toNat (nth s 14) : Nat) : Int), .int .u64 ((BitVec.toNat (nth s 15) : Nat) : Int), .int .u64 ((BitVec.toNat (nth s 16) : Nat) : Int), .int .u64 ((BitVec.toNat (nth s 17) : Nat) : Int), .int .u64 ((BitVec.toNat (nth s 18) : Nat) : Int), .int .u64 ((BitVec.toNat (nth s 19) : Nat) : Int), .int .u64 ((BitVec.toNat (nth s 20) : Nat) : Int), .int .u64 ((BitVec.toNat (nth s 21) : Nat) : Int), .int .u64 ((BitVec.toNat (nth s 22) : Nat) : Int), .int .u64 ((BitVec.toNat (nth s 23) : Nat) : Int), .int .u64 ((BitVec.toNat (nth s 24) : Nat) : Int)]
theorem rl0 (x : BitVec 64) : rl x 0 = x := by
  apply BitVec.eq_of_getLsbD_eq
  intro i hi
  rw [rl_bit _ _ _ hi]; congr 1; omega
theorem pI0 (s : List (BitVec 64)) : pI s 0 = th s 0 := rl0 _
theorem row0_fn (s : List (BitVec 64)) : Fn Tryd.prog 98 #[.int .u64 ((BitVec.toNat (th s 0) : Nat) : Int), .int .u64 ((BitVec.toNat (pI s 1) : Nat) : Int), .int .u64 ((BitVec.toNat (pI s 2) : Nat) : Int), .int .u64 ((BitVec.toNat (pI s 3) : Nat) : Int), .int .u64 ((BitVec.toNat (pI s 4) : Nat) : Int)] (.tuple #[.int .u64 ((BitVec.toNat (xI (pI s) 0) : Nat) : Int), .int .u64 ((BitVec.toNat (xI (pI s) 1) : Nat) : Int), .int .u64 ((BitVec.toNat (xI (pI s) 2) : Nat) : Int), .int .u64 ((BitVec.toNat (xI (pI s) 3) : Nat) : Int), .int .u64 ((BitVec.toNat (xI (pI s) 4) : Nat) : Int)]) := by
  rw [← pI0 s]; exact row_fn (pI s 0) (pI s 1) (pI s 2) (pI s 3) (pI s 4)
set_option maxRecDepth 100000 in
set_option maxHeartbeats 2000000 in
theorem round_fn (s : List (BitVec 64)) : Fn Tryd.prog 90 #[svn s] (svn (rnd s)) := by
  refine Fn.intro (c := codeOf Tryd.f90) [.cell 2 84] 288 Tryd.func90 kr kr kr fun w => ?_
  have H0 := St.start w
  refine rS [.b, .a] H0 kr fun gs1 w1 H1 => ?_
  clear H0
  refine rS [.v, .l 0, .v, .l 0, .e (v := .int .u64 (Go.bits .xor .u64 (((BitVec.toNat (nth s 0) : Nat) : Int)) (((BitVec.toNat (nth s 5) : Nat) : Int)))) (v' := .int .u64 ((BitVec.toNat ((nth s 0) ^^^ (nth s 5)) : Nat) : Int)) (bv_xor_u64 (nth s 0) (nth s 5)), .v, .l 0, .e (v := .int .u64 (Go.bits .xor .u64 (((BitVec.toNat ((nth s 0) ^^^ (nth s 5)) : Nat) : Int)) (((BitVec.toNat (nth s 10) : Nat) : Int)))) (v' := .int .u64 ((BitVec.toNat (((nth s 0) ^^^ (nth s 5)) ^^^ (nth s 10)) : Nat) : Int)) (bv_xor_u64 ((nth s 0) ^^^ (nth s 5)) (nth s 10)), .v, .l 0, .e (v := .int .u64 (Go.bits .xor .u64 (((BitVec.toNat (((nth s 0) ^^^ (nth s 5)) ^^^ (nth s 10)) : Nat) : Int)) (((BitVec.toNat (nth s 15) : Nat) : Int)))) (v' := .int .u64 ((BitVec.toNat ((((nth s 0) ^^^ (nth s 5)) ^^^ (nth s 10)) ^^^ (nth s 15)) : Nat) : Int)) (bv_xor_u64 (((nth s 0) ^^^ (nth s 5)) ^^^ (nth s 10)) (nth s 15)), .v, .l 0, .e (v := .int .u64 (Go.bits .xor .u64 (((BitVec.toNat ((((nth s 0) ^^^ (nth s 5)) ^^^ (nth s 10)) ^^^ (nth s 15)) : Nat) : Int)) (((BitVec.toNat (nth s 20) : Nat) : Int)))) (v' := .int .u64 ((BitVec.toNat (cC s 0) : Nat) : Int)) (bv_xor_u64 ((((nth s 0) ^^^ (nth s 5)) ^^^ (nth s 10)) ^^^ (nth s 15)) (nth s 20)), .v] H1 kr fun gs2 w2 H2 => ?_
  clear H1
  refine g_keep [0, 1, 2, 3] fun ρ1 => ?_
  have HK1 := H2.keep
  clear H2
  refine rS [.v, .l 0, .v, .l 0, .e (v := .int .u64 (Go.bits .xor .u64 (((BitVec.toNat (nth s 1) : Nat) : Int)) (((BitVec.toNat (nth s 6) : Nat) : Int)))) (v' := .int .u64 ((BitVec.toNat ((nth s 1) ^^^ (nth s 6)) : Nat) : Int)) (bv_xor_u64 (nth s 1) (nth s 6)), .v, .l 0, .e (v := .int .u64 (Go.bits .xor .u64 (((BitVec.toNat ((nth s 1) ^^^ (nth s 6)) : Nat) : Int)) (((BitVec.toNat (nth s 11) : Nat) : Int)))) (v' := .int .u64 ((BitVec.toNat (((nth s 1) ^^^ (nth s 6)) ^^^ (nth s 11)) : Nat) : Int)) (bv_xor_u64 ((nth s 1) ^^^ (nth s 6)) (nth s 11)), .v, .l 0, .e (v := .int .u64 (Go.bits .xor .u64 (((BitVec.toNat (((nth s 1) ^^^ (nth s 6)) ^^^ (nth s 11)) : Nat) : Int)) (((BitVec.toNat (nth s 16) : Nat) : Int)))) (v' := .int .u64 ((BitVec.toNat ((((nth s 1) ^^^ (nth s 6)) ^^^ (nth s 11)) ^^^ (nth s 16)) : Nat) : Int)) (bv_xor_u64 (((nth s 1) ^^^ (nth s 6)) ^^^ (nth s 11)) (nth s 16)), .v, .l 0, .e (v := .int .u64 (Go.bits .xor .u64 (((BitVec.toNat ((((nth s 1) ^^^ (nth s 6)) ^^^ (nth s 11)) ^^^ (nth s 16)) : Nat) : Int)) (((BitVec.toNat (nth s 21) : Nat) : Int)))) (v' := .int .u64 ((BitVec.toNat (cC s 1) : Nat) : Int)) (bv_xor_u64 ((((nth s 1) ^^^ (nth s 6)) ^^^ (nth s 11)) ^^^ (nth s 16)) (nth s 21)), .v] HK1 kr fun gs3 w3 H3 => ?_
  clear HK1
  refine rS [.v, .l 0, .v, .l 0, .e (v := .int .u64 (Go.bits .xor .u64 (((BitVec.toNat (nth s 2) : Nat) : Int)) (((BitVec.toNat (nth s 7) : Nat) : Int)))) (v' := .int .u64 ((BitVec.toNat ((nth s 2) ^^^ (nth s 7)) : Nat) : Int)) (bv_xor_u64 (nth s 2) (nth s 7)), .v, .l 0, .e (v := .int .u64 (Go.bits .xor .u64 (((BitVec.toNat ((nth s 2) ^^^ (nth s 7)) : Nat) : Int)) (((BitVec.toNat (nth s 12) : Nat) : Int)))) (v' := .int .u64 ((BitVec.toNat (((nth s 2) ^^^ (nth s 7)) ^^^ (nth s 12)) : Nat) : Int)) (bv_xor_u64 ((nth s 2) ^^^ (nth s 7)) (nth s 12)), .v, .l 0, .e (v := .int .u64 (Go.bits .xor .u64 (((BitVec.toNat (((nth s 2) ^^^ (nth s 7)) ^^^ (nth s 12)) : Nat) : Int)) (((BitVec.toNat (nth s 17) : Nat) : Int)))) (v' := .int .u64 ((BitVec.toNat ((((nth s 2) ^^^ (nth s 7)) ^^^ (nth s 12)) ^^^ (nth s 17)) : Nat) : Int)) (bv_xor_u64 (((nth s 2) ^^^ (nth s 7)) ^^^ (nth s 12)) (nth s 17)), .v, .l 0, .e (v := .int .u64 (Go.bits .xor .u64 (((BitVec.toNat ((((nth s 2) ^^^ (nth s 7)) ^^^ (nth s 12)) ^^^ (nth s 17)) : Nat) : Int)) (((BitVec.toNat (nth s 22) : Nat) : Int)))) (v' := .int .u64 ((BitVec.toNat (cC s 2) : Nat) : Int)) (bv_xor_u64 ((((nth s 2) ^^^ (nth s 7)) ^^^ (nth s 12)) ^^^ (nth s 17)) (nth s 22)), .v] H3 kr fun gs4 w4 H4 => ?_
  clear H3
  refine g_keep [0, 1, 2, 3, 4, 5] fun ρ2 => ?_
  have HK2 := H4.keep
  clear H4
  refine rS [.v, .l 0, .v, .l 0, .e (v := .int .u64 (Go.bits .xor .u64 (((BitVec.toNat (nth s 3) : Nat) : Int)) (((BitVec.toNat (nth s 8) : Nat) : Int)))) (v' := .int .u64 ((BitVec.toNat ((nth s 3) ^^^ (nth s 8)) : Nat) : Int)) (bv_xor_u64 (nth s 3) (nth s 8)), .v, .l 0, .e (v := .int .u64 (Go.bits .xor .u64 (((BitVec.toNat ((nth s 3) ^^^ (nth s 8)) : Nat) : Int)) (((BitVec.toNat (nth s 13) : Nat) : Int)))) (v' := .int .u64 ((BitVec.toNat (((nth s 3) ^^^ (nth s 8)) ^^^ (nth s 13)) : Nat) : Int)) (bv_xor_u64 ((nth s 3) ^^^ (nth s 8)) (nth s 13)), .v, .l 0, .e (v := .int .u64 (Go.bits .xor .u64 (((BitVec.toNat (((nth s 3) ^^^ (nth s 8)) ^^^ (nth s 13)) : Nat) : Int)) (((BitVec.toNat (nth s 18) : Nat) : Int)))) (v' := .int .u64 ((BitVec.toNat ((((nth s 3) ^^^ (nth s 8)) ^^^ (nth s 13)) ^^^ (nth s 18)) : Nat) : Int)) (bv_xor_u64 (((nth s 3) ^^^ (nth s 8)) ^^^ (nth s 13)) (nth s 18)), .v, .l 0, .e (v := .int .u64 (Go.bits .xor .u64 (((BitVec.toNat ((((nth s 3) ^^^ (nth s 8)) ^^^ (nth s 13)) ^^^ (nth s 18)) : Nat) : Int)) (((BitVec.toNat (nth s 23) : Nat) : Int)))) (v' := .int .u64 ((BitVec.toNat (cC s 3) : Nat) : Int)) (bv_xor_u64 ((((nth s 3) ^^^ (nth s 8)) ^^^ (nth s 13)) ^^^ (nth s 18)) (nth s 23)), .v] HK2 kr fun gs5 w5 H5 => ?_
  clear HK2
  refine rS [.v, .l 0, .v, .l 0, .e (v := .int .u64 (Go.bits .xor .u64 (((BitVec.toNat (nth s 4) : Nat) : Int)) (((BitVec.toNat (nth s 9) : Nat) : Int)))) (v' := .int .u64 ((BitVec.toNat ((nth s 4) ^^^ (nth s 9)) : Nat) : Int)) (bv_xor_u64 (nth s 4) (nth s 9)), .v, .l 0, .e (v := .int .u64 (Go.bits .xor .u64 (((BitVec.toNat ((nth s 4) ^^^ (nth s 9)) : Nat) : Int)) (((BitVec.toNat (nth s 14) : Nat) : Int)))) (v' := .int .u64 ((BitVec.toNat (((nth s 4) ^^^ (nth s 9)) ^^^ (nth s 14)) : Nat) : Int)) (bv_xor_u64 ((nth s 4) ^^^ (nth s 9)) (nth s 14)), .v, .l 0, .e (v := .int .u64 (Go.bits .xor .u64 (((BitVec.toNat (((nth s 4) ^^^ (nth s 9)) ^^^ (nth s 14)) : Nat) : Int)) (((BitVec.toNat (nth s 19) : Nat) : Int)))) (v' := .int .u64 ((BitVec.toNat ((((nth s 4) ^^^ (nth s 9)) ^^^ (nth s 14)) ^^^ (nth s 19)) : Nat) : Int)) (bv_xor_u64 (((nth s 4) ^^^ (nth s 9)) ^^^ (nth s 14)) (nth s 19)), .v, .l 0, .e (v := .int .u64 (Go.bits .xor .u64 (((BitVec.toNat ((((nth s 4) ^^^ (nth s 9)) ^^^ (nth s 14)) ^^^ (nth s 19)) : Nat) : Int)) (((BitVec.toNat (nth s 24) : Nat) : Int)))) (v' := .int .u64 ((BitVec.toNat (cC s 4) : Nat) : Int)) (bv_xor_u64 ((((nth s 4) ^^^ (nth s 9)) ^^^ (nth s 14)) ^^^ (nth s 19)) (nth s 24)), .v] H5 kr fun gs6 w6 H6 => ?_
  clear H5
  refine g_keep [0, 1, 2, 3, 4, 5, 6, 7] fun ρ3 => ?_
  have HK3 := H6.keep
  clear H6
  refine rS [.v, .v, .c (turn_fn (cC s 1) 1 (by omega)), .e (v := .int .u64 (Go.bits .xor .u64 (((BitVec.toNat (cC s 4) : Nat) : Int)) (((BitVec.toNat (rl (cC s 1) 1) : Nat) : Int)))) (v' := .int .u64 ((BitVec.toNat (dD (cC s) 0) : Nat) : Int)) (bv_xor_u64 (cC s 4) (rl (cC s 1) 1)), .v] HK3 kr fun gs7 w7 H7 => ?_
  clear HK3
  refine rS [.v, .v, .c (turn_fn (cC s 2) 1 (by omega)), .e (v := .int .u64 (Go.bits .xor .u64 (((BitVec.toNat (cC s 0) : Nat) : Int)) (((BitVec.toNat (rl (cC s 2) 1) : Nat) : Int)))) (v' := .int .u64 ((BitVec.toNat (dD (cC s) 1) : Nat) : Int)) (bv_xor_u64 (cC s 0) (rl (cC s 2) 1)), .v] H7 kr fun gs8 w8 H8 => ?_
  clear H7
  refine rS [.v, .v, .c (turn_fn (cC s 3) 1 (by omega)), .e (v := .int .u64 (Go.bits .xor .u64 (((BitVec.toNat (cC s 1) : Nat) : Int)) (((BitVec.toNat (rl (cC s 3) 1) : Nat) : Int)))) (v' := .int .u64 ((BitVec.toNat (dD (cC s) 2) : Nat) : Int)) (bv_xor_u64 (cC s 1) (rl (cC s 3) 1)), .v] H8 kr fun gs9 w9 H9 => ?_
  clear H8
  refine rS [.v, .v, .c (turn_fn (cC s 4) 1 (by omega)), .e (v := .int .u64 (Go.bits .xor .u64 (((BitVec.toNat (cC s 2) : Nat) : Int)) (((BitVec.toNat (rl (cC s 4) 1) : Nat) : Int)))) (v' := .int .u64 ((BitVec.toNat (dD (cC s) 3) : Nat) : Int)) (bv_xor_u64 (cC s 2) (rl (cC s 4) 1)), .v] H9 kr fun gs10 w10 H10 => ?_
  clear H9
  refine g_keep [0, 1, 2, 3, 4, 5, 6, 7, 8, 9, 10, 11] fun ρ4 => ?_
  have HK4 := H10.keep
  clear H10
  refine rS [.v, .v, .c (turn_fn (cC s 0) 1 (by omega)), .e (v := .int .u64 (Go.bits .xor .u64 (((BitVec.toNat (cC s 3) : Nat) : Int)) (((BitVec.toNat (rl (cC s 0) 1) : Nat) : Int)))) (v' := .int .u64 ((BitVec.toNat (dD (cC s) 4) : Nat) : Int)) (bv_xor_u64 (cC s 3) (rl (cC s 0) 1)), .v] HK4 kr fun gs11 w11 H11 => ?_
  clear HK4
  refine dS [.v, .l 0, .v, .e (v := .int .u64 (Go.bits .xor .u64 (((BitVec.toNat (nth s 0) : Nat) : Int)) (((BitVec.toNat (dD (cC s) 0) : Nat) : Int)))) (v' := .int .u64 ((BitVec.toNat (th s 0) : Nat) : Int)) (bv_xor_u64 (nth s 0) (dD (cC s) 0)), .v, .l 0, .v, .e (v := .int .u64 (Go.bits .xor .u64 (((BitVec.toNat (nth s 6) : Nat) : Int)) (((BitVec.toNat (dD (cC s) 1) : Nat) : Int)))) (v' := .int .u64 ((BitVec.toNat (th s 6) : Nat) : Int)) (bv_xor_u64 (nth s 6) (dD (cC s) 1)), .c (turn_fn (th s 6) 44 (by omega)), .v, .l 0, .v, .e (v := .int .u64 (Go.bits .xor .u64 (((BitVec.toNat (nth s 12) : Nat) : Int)) (((BitVec.toNat (dD (cC s) 2) : Nat) : Int)))) (v' := .int .u64 ((BitVec.toNat (th s 12) : Nat) : Int)) (bv_xor_u64 (nth s 12) (dD (cC s) 2)), .c (turn_fn (th s 12) 43 (by omega)), .v, .l 0, .v, .e (v := .int .u64 (Go.bits .xor .u64 (((BitVec.toNat (nth s 18) : Nat) : Int)) (((BitVec.toNat (dD (cC s) 3) : Nat) : Int)))) (v' := .int .u64 ((BitVec.toNat (th s 18) : Nat) : Int)) (bv_xor_u64 (nth s 18) (dD (cC s) 3)), .c (turn_fn (th s 18) 21 (by omega)), .v, .l 0, .v, .e (v := .int .u64 (Go.bits .xor .u64 (((BitVec.toNat (nth s 24) : Nat) : Int)) (((BitVec.toNat (dD (cC s) 4) : Nat) : Int)))) (v' := .int .u64 ((BitVec.toNat (th s 24) : Nat) : Int)) (bv_xor_u64 (nth s 24) (dD (cC s) 4)), .c (turn_fn (th s 24) 14 (by omega)), .c (row0_fn s), .v, .v, .v, .v, .v, .v, .v, .s 1, .v, .s 1, .v, .s 1, .v, .s 1, .v, .s 1] H11 kr fun w12 H12 => ?_
  clear H11
  refine g_keep [0, 1, 2, 3, 4, 5, 6, 7, 8, 9, 10, 11, 12] fun ρ5 => ?_
  have HK5 := H12.keep
  clear H12
  refine dS [.v, .l 0, .v, .e (v := .int .u64 (Go.bits .xor .u64 (((BitVec.toNat (nth s 3) : Nat) : Int)) (((BitVec.toNat (dD (cC s) 3) : Nat) : Int)))) (v' := .int .u64 ((BitVec.toNat (th s 3) : Nat) : Int)) (bv_xor_u64 (nth s 3) (dD (cC s) 3)), .c (turn_fn (th s 3) 28 (by omega)), .v, .l 0, .v, .e (v := .int .u64 (Go.bits .xor .u64 (((BitVec.toNat (nth s 9) : Nat) : Int)) (((BitVec.toNat (dD (cC s) 4) : Nat) : Int)))) (v' := .int .u64 ((BitVec.toNat (th s 9) : Nat) : Int)) (bv_xor_u64 (nth s 9) (dD (cC s) 4)), .c (turn_fn (th s 9) 20 (by omega)), .v, .l 0, .v, .e (v := .int .u64 (Go.bits .xor .u64 (((BitVec.toNat (nth s 10) : Nat) : Int)) (((BitVec.toNat (dD (cC s) 0) : Nat) : Int)))) (v' := .int .u64 ((BitVec.toNat (th s 10) : Nat) : Int)) (bv_xor_u64 (nth s 10) (dD (cC s) 0)), .c (turn_fn (th s 10) 3 (by omega)), .v, .l 0, .v, .e (v := .int .u64 (Go.bits .xor .u64 (((BitVec.toNat (nth s 16) : Nat) : Int)) (((BitVec.toNat (dD (cC s) 1) : Nat) : Int)))) (v' := .int .u64 ((BitVec.toNat (th s 16) : Nat) : Int)) (bv_xor_u64 (nth s 16) (dD (cC s) 1)), .c (turn_fn (th s 16) 45 (by omega)), .v, .l 0, .v, .e (v := .int .u64 (Go.bits .xor .u64 (((BitVec.toNat (nth s 22) : Nat) : Int)) (((BitVec.toNat (dD (cC s) 2) : Nat) : Int)))) (v' := .int .u64 ((BitVec.toNat (th s 22) : Nat) : Int)) (bv_xor_u64 (nth s 22) (dD (cC s) 2)), .c (turn_fn (th s 22) 61 (by omega)), .c (row_fn (pI s 5) (pI s 6) (pI s 7) (pI s 8) (pI s 9)), .v, .v, .v, .v, .v, .v, .v, .s 1, .v, .s 1, .v, .s 1, .v, .s 1, .v, .s 1] HK5 kr fun w13 H13 => ?_
  clear HK5
  refine g_keep [0, 1, 2, 3, 4, 5, 6, 7, 8, 9, 10, 11, 12] fun ρ6 => ?_
  have HK6 := H13.keep
  clear H13
  refine dS [.v, .l 0, .v, .e (v := .int .u64 (Go.bits .xor .u64 (((BitVec.toNat (nth s 1) : Nat) : Int)) (((BitVec.toNat (dD (cC s) 1) : Nat) : Int)))) (v' := .int .u64 ((BitVec.toNat (th s 1) : Nat) : Int)) (bv_xor_u64 (nth s 1) (dD (cC s) 1)), .c (turn_fn (th s 1) 1 (by omega)), .v, .l 0, .v, .e (v := .int .u64 (Go.bits .xor .u64 (((BitVec.toNat (nth s 7) : Nat) : Int)) (((BitVec.toNat (dD (cC s) 2) : Nat) : Int)))) (v' := .int .u64 ((BitVec.toNat (th s 7) : Nat) : Int)) (bv_xor_u64 (nth s 7) (dD (cC s) 2)), .c (turn_fn (th s 7) 6 (by omega)), .v, .l 0, .v, .e (v := .int .u64 (Go.bits .xor .u64 (((BitVec.toNat (nth s 13) : Nat) : Int)) (((BitVec.toNat (dD (cC s) 3) : Nat) : Int)))) (v' := .int .u64 ((BitVec.toNat (th s 13) : Nat) : Int)) (bv_xor_u64 (nth s 13) (dD (cC s) 3)), .c (turn_fn (th s 13) 25 (by omega)), .v, .l 0, .v, .e (v := .int .u64 (Go.bits .xor .u64 (((BitVec.toNat (nth s 19) : Nat) : Int)) (((BitVec.toNat (dD (cC s) 4) : Nat) : Int)))) (v' := .int .u64 ((BitVec.toNat (th s 19) : Nat) : Int)) (bv_xor_u64 (nth s 19) (dD (cC s) 4)), .c (turn_fn (th s 19) 8 (by omega)), .v, .l 0, .v, .e (v := .int .u64 (Go.bits .xor .u64 (((BitVec.toNat (nth s 20) : Nat) : Int)) (((BitVec.toNat (dD (cC s) 0) : Nat) : Int)))) (v' := .int .u64 ((BitVec.toNat (th s 20) : Nat) : Int)) (bv_xor_u64 (nth s 20) (dD (cC s) 0)), .c (turn_fn (th s 20) 18 (by omega)), .c (row_fn (pI s 10) (pI s 11) (pI s 12) (pI s 13) (pI s 14)), .v, .v, .v, .v, .v, .v, .v, .s 1, .v, .s 1, .v, .s 1, .v, .s 1, .v, .s 1] HK6 kr fun w14 H14 => ?_
  clear HK6
  refine g_keep [0, 1, 2, 3, 4, 5, 6, 7, 8, 9, 10, 11, 12] fun ρ7 => ?_
  have HK7 := H14.keep
  clear H14
  refine dS [.v, .l 0, .v, .e (v := .int .u64 (Go.bits .xor .u64 (((BitVec.toNat (nth s 4) : Nat) : Int)) (((BitVec.toNat (dD (cC s) 4) : Nat) : Int)))) (v' := .int .u64 ((BitVec.toNat (th s 4) : Nat) : Int)) (bv_xor_u64 (nth s 4) (dD (cC s) 4)), .c (turn_fn (th s 4) 27 (by omega)), .v, .l 0, .v, .e (v := .int .u64 (Go.bits .xor .u64 (((BitVec.toNat (nth s 5) : Nat) : Int)) (((BitVec.toNat (dD (cC s) 0) : Nat) : Int)))) (v' := .int .u64 ((BitVec.toNat (th s 5) : Nat) : Int)) (bv_xor_u64 (nth s 5) (dD (cC s) 0)), .c (turn_fn (th s 5) 36 (by omega)), .v, .l 0, .v, .e (v := .int .u64 (Go.bits .xor .u64 (((BitVec.toNat (nth s 11) : Nat) : Int)) (((BitVec.toNat (dD (cC s) 1) : Nat) : Int)))) (v' := .int .u64 ((BitVec.toNat (th s 11) : Nat) : Int)) (bv_xor_u64 (nth s 11) (dD (cC s) 1)), .c (turn_fn (th s 11) 10 (by omega)), .v, .l 0, .v, .e (v := .int .u64 (Go.bits .xor .u64 (((BitVec.toNat (nth s 17) : Nat) : Int)) (((BitVec.toNat (dD (cC s) 2) : Nat) : Int)))) (v' := .int .u64 ((BitVec.toNat (th s 17) : Nat) : Int)) (bv_xor_u64 (nth s 17) (dD (cC s) 2)), .c (turn_fn (th s 17) 15 (by omega)), .v, .l 0, .v, .e (v := .int .u64 (Go.bits .xor .u64 (((BitVec.toNat (nth s 23) : Nat) : Int)) (((BitVec.toNat (dD (cC s) 3) : Nat) : Int)))) (v' := .int .u64 ((BitVec.toNat (th s 23) : Nat) : Int)) (bv_xor_u64 (nth s 23) (dD (cC s) 3)), .c (turn_fn (th s 23) 56 (by omega)), .c (row_fn (pI s 15) (pI s 16) (pI s 17) (pI s 18) (pI s 19)), .v, .v, .v, .v, .v, .v, .v, .s 1, .v, .s 1, .v, .s 1, .v, .s 1, .v, .s 1] HK7 kr fun w15 H15 => ?_
  clear HK7
  refine g_keep [0, 1, 2, 3, 4, 5, 6, 7, 8, 9, 10, 11, 12] fun ρ8 => ?_
  have HK8 := H15.keep
  clear H15
  refine dS [.v, .l 0, .v, .e (v := .int .u64 (Go.bits .xor .u64 (((BitVec.toNat (nth s 2) : Nat) : Int)) (((BitVec.toNat (dD (cC s) 2) : Nat) : Int)))) (v' := .int .u64 ((BitVec.toNat (th s 2) : Nat) : Int)) (bv_xor_u64 (nth s 2) (dD (cC s) 2)), .c (turn_fn (th s 2) 62 (by omega)), .v, .l 0, .v, .e (v := .int .u64 (Go.bits .xor .u64 (((BitVec.toNat (nth s 8) : Nat) : Int)) (((BitVec.toNat (dD (cC s) 3) : Nat) : Int)))) (v' := .int .u64 ((BitVec.toNat (th s 8) : Nat) : Int)) (bv_xor_u64 (nth s 8) (dD (cC s) 3)), .c (turn_fn (th s 8) 55 (by omega)), .v, .l 0, .v, .e (v := .int .u64 (Go.bits .xor .u64 (((BitVec.toNat (nth s 14) : Nat) : Int)) (((BitVec.toNat (dD (cC s) 4) : Nat) : Int)))) (v' := .int .u64 ((BitVec.toNat (th s 14) : Nat) : Int)) (bv_xor_u64 (nth s 14) (dD (cC s) 4)), .c (turn_fn (th s 14) 39 (by omega)), .v, .l 0, .v, .e (v := .int .u64 (Go.bits .xor .u64 (((BitVec.toNat (nth s 15) : Nat) : Int)) (((BitVec.toNat (dD (cC s) 0) : Nat) : Int)))) (v' := .int .u64 ((BitVec.toNat (th s 15) : Nat) : Int)) (bv_xor_u64 (nth s 15) (dD (cC s) 0)), .c (turn_fn (th s 15) 41 (by omega)), .v, .l 0, .v, .e (v := .int .u64 (Go.bits .xor .u64 (((BitVec.toNat (nth s 21) : Nat) : Int)) (((BitVec.toNat (dD (cC s) 1) : Nat) : Int)))) (v' := .int .u64 ((BitVec.toNat (th s 21) : Nat) : Int)) (bv_xor_u64 (nth s 21) (dD (cC s) 1)), .c (turn_fn (th s 21) 2 (by omega)), .c (row_fn (pI s 20) (pI s 21) (pI s 22) (pI s 23) (pI s 24)), .v, .v, .v, .v, .v, .v, .v, .s 1, .v, .s 1, .v, .s 1, .v, .s 1, .v, .s 1] HK8 kr fun w16 H16 => ?_
  clear HK8
  refine g_keep [0, 1, 2, 3, 4, 5, 6, 7, 8, 9, 10, 11, 12] fun ρ9 => ?_
  have HK9 := H16.keep
  clear H16
  refine rS [.l 1, .s 1] HK9 kr fun gs17 w17 H17 => ?_
  clear HK9
  refine g_ret kr ?_
  show ∃ vs, Res _ _ _ _ vs ∧ _
  refine ⟨[.agg #[.int .u64 ((BitVec.toNat (xI (pI s) 0) : Nat) : Int), .int .u64 ((BitVec.toNat (xI (pI s) 1) : Nat) : Int), .int .u64 ((BitVec.toNat (xI (pI s) 2) : Nat) : Int), .int .u64 ((BitVec.toNat (xI (pI s) 3) : Nat) : Int), .int .u64 ((BitVec.toNat (xI (pI s) 4) : Nat) : Int), .int .u64 ((BitVec.toNat (xI (pI s) 5) : Nat) : Int), .int .u64 ((BitVec.toNat (xI (pI s) 6) : Nat) : Int), .int .u64 ((BitVec.toNat (xI (pI s) 7) : Nat) : Int), .int .u64 ((BitVec.toNat (xI (pI s) 8) : Nat) : Int), .int .u64 ((BitVec.toNat (xI (pI s) 9) : Nat) : Int), .int .u64 ((BitVec.toNat (xI (pI s) 10) : Nat) : Int), .int .u64 ((BitVec.toNat (xI (pI s) 11) : Nat) : Int), .int .u64 ((BitVec.toNat (xI (pI s) 12) : Nat) : Int), .int .u64 ((BitVec.toNat (xI (pI s) 13) : Nat) : Int), .int .u64 ((BitVec.toNat (xI (pI s) 14) : Nat) : Int), .int .u64 ((BitVec.toNat (xI (pI s) 15) : Nat) : Int), .int .u64 ((BitVec.toNat (xI (pI s) 16) : Nat) : Int), .int .u64 ((BitVec.toNat (xI (pI s) 17) : Nat) : Int), .int .u64 ((BitVec.toNat (xI (pI s) 18) : Nat) : Int), .int .u64 ((BitVec.toNat (xI (pI s) 19) : Nat) : Int), .int .u64 ((BitVec.toNat (xI (pI s) 20) : Nat) : Int), .int .u64 ((BitVec.toNat (xI (pI s) 21) : Nat) : Int), .int .u64 ((BitVec.toNat (xI (pI s) 22) : Nat) : Int), .int .u64 ((BitVec.toNat (xI (pI s) 23) : Nat) : Int), .int .u64 ((BitVec.toNat (xI (pI s) 24) : Nat) : Int)]], (.agg (b := (gs1 1).b) #[.int .u64 ((BitVec.toNat (xI (pI s) 0) : Nat) : Int), .int .u64 ((BitVec.toNat (xI (pI s) 1) : Nat) : Int), .int .u64 ((BitVec.toNat (xI (pI s) 2) : Nat) : Int), .int .u64 ((BitVec.toNat (xI (pI s) 3) : Nat) : Int), .int .u64 ((BitVec.toNat (xI (pI s) 4) : Nat) : Int), .int .u64 ((BitVec.toNat (xI (pI s) 5) : Nat) : Int), .int .u64 ((BitVec.toNat (xI (pI s) 6) : Nat) : Int), .int .u64 ((BitVec.toNat (xI (pI s) 7) : Nat) : Int), .int .u64 ((BitVec.toNat (xI (pI s) 8) : Nat) : Int), .int .u64 ((BitVec.toNat (xI (pI s) 9) : Nat) : Int), .int .u64 ((BitVec.toNat (xI (pI s) 10) : Nat) : Int), .int .u64 ((BitVec.toNat (xI (pI s) 11) : Nat) : Int), .int .u64 ((BitVec.toNat (xI (pI s) 12) : Nat) : Int), .int .u64 ((BitVec.toNat (xI (pI s) 13) : Nat) : Int), .int .u64 ((BitVec.toNat (xI (pI s) 14) : Nat) : Int), .int .u64 ((BitVec.toNat (xI (pI s) 15) : Nat) : Int), .int .u64 ((BitVec.toNat (xI (pI s) 16) : Nat) : Int), .int .u64 ((BitVec.toNat (xI (pI s) 17) : Nat) : Int), .int .u64 ((BitVec.toNat (xI (pI s) 18) : Nat) : Int), .int .u64 ((BitVec.toNat (xI (pI s) 19) : Nat) : Int), .int .u64 ((BitVec.toNat (xI (pI s) 20) : Nat) : Int), .int .u64 ((BitVec.toNat (xI (pI s) 21) : Nat) : Int), .int .u64 ((BitVec.toNat (xI (pI s) 22) : Nat) : Int), .int .u64 ((BitVec.toNat (xI (pI s) 23) : Nat) : Int), .int .u64 ((BitVec.toNat (xI (pI s) 24) : Nat) : Int)] 84 (0, 0) kr (H17.get 1 kr) kr .nil), ?_, H17.below⟩
  rfl
end Go.Proofs.YtmmloghbnpfedaaDoor.Ke

namespace Go.Proofs.YtmmloghbnpfedaaDoor.Ke
open Go Go.RowKit Go.Proofs.Kec
set_option linter.unusedVariables false
def marksC : Array Value := (Kec.marks.map fun m => Value.int .u64 ((BitVec.toNat m : Nat) : Int)).toArray
def Marks (w : World) : Prop := ∃ T fz, w.heap[0]? = some (.cells marksC T fz)
theorem marks_at (k q : Nat) (hq : q = k) (h : k < 24) : marksC[q]? = some (Value.int .u64 ((BitVec.toNat (Kec.marks.getD k 0) : Nat) : Int)) := by
  subst hq
  have hl : Kec.marks.length = 24 := rfl
  unfold marksC; simp [hl, h]
def mixK (s : List (BitVec 64)) (j : Nat) : List (BitVec 64) := (Kec.marks.take j).foldl rm s
theorem mixK_succ (s : List (BitVec 64)) (j : Nat) (h : j < 24) : mixK s (j + 1) = rm (mixK s j) (Kec.marks.getD j 0) := by
  have hl : Kec.marks.length = 24 := rfl
  unfold mixK
  rw [List.take_add_one, List.foldl_append, List.getElem?_eq_getElem (by omega)]
  simp [hl, h]
theorem mixK_all (s : List (BitVec 64)) : mixK s 24 = mix s := by
  unfold mixK mix; rw [List.take_of_length_le (by decide)]
theorem nth_rmS (s : List (BitVec 64)) (m : BitVec 64) (k : Nat) : nth (rm s m) (k + 1) = nth (rnd s) (k + 1) := by
  unfold rm markX nth; simp
theorem svn_rm (s : List (BitVec 64)) (m : BitVec 64) : ((Value.cells (svn (rnd s))).toList.take 0 ++ (Value.cells (.int .u64 ((BitVec.toNat (nth (rnd s) 0 ^^^ m) : Nat) : Int))).toList ++ (Value.cells (svn (rnd s))).toList.drop (0 + 1)).toArray = Value.cells (svn (rm s m)) := by
  have e1 : nth (rm s m) 1 = nth (rnd s) 1 := nth_rmS s m 0
  have e2 : nth (rm s m) 2 = nth (rnd s) 2 := nth_rmS s m 1
  have e3 : nth (rm s m) 3 = nth (rnd s) 3 := nth_rmS s m 2
  have e4 : nth (rm s m) 4 = nth (rnd s) 4 := nth_rmS s m 3
  have e5 : nth (rm s m) 5 = nth (rnd s) 5 := nth_rmS s m 4
  have e6 : nth (rm s m) 6 = nth (rnd s) 6 := nth_rmS s m 5
  have e7 : nth (rm s m) 7 = nth (rnd s) 7 := nth_rmS s m 6
  have e8 : nth (rm s m) 8 = nth (rnd s) 8 := nth_rmS s m 7
  have e9 : nth (rm s m) 9 = nth (rnd s) 9 := nth_rmS s m 8
  have e10 : nth (rm s m) 10 = nth (rnd s) 10 := nth_rmS s m 9
  have e11 : nth (rm s m) 11 = nth (rnd s) 11 := nth_rmS s m 10
  have e12 : nth (rm s m) 12 = nth (rnd s) 12 := nth_rmS s m 11
  have e13 : nth (rm s m) 13 = nth (rnd s) 13 := nth_rmS s m 12
  have e14 : nth (rm s m) 14 = nth (rnd s) 14 := nth_rmS s m 13
  have e15 : nth (rm s m) 15 = nth (rnd s) 15 := nth_rmS s m 14
  have e16 : nth (rm s m) 16 = nth (rnd s) 16 := nth_rmS s m 15
  have e17 : nth (rm s m) 17 = nth (rnd s) 17 := nth_rmS s m 16
  have e18 : nth (rm s m) 18 = nth (rnd s) 18 := nth_rmS s m 17
  have e19 : nth (rm s m) 19 = nth (rnd s) 19 := nth_rmS s m 18
  have e20 : nth (rm s m) 20 = nth (rnd s) 20 := nth_rmS s m 19
  have e21 : nth (rm s m) 21 = nth (rnd s) 21 := nth_rmS s m 20
  have e22 : nth (rm s m) 22 = nth (rnd s) 22 := nth_rmS s m 21
  have e23 : nth (rm s m) 23 = nth (rnd s) 23 := nth_rmS s m 22
  have e24 : nth (rm s m) 24 = nth (rnd s) 24 := nth_rmS s m 23
  have e0 : nth (rm s m) 0 = nth (rnd s) 0 ^^^ m := rfl
  unfold svn
  rw [e0, e1, e2, e3, e4, e5, e6, e7, e8, e9, e10, e11, e12, e13, e14, e15, e16, e17, e18, e19, e20, e21, e22, e23, e24]; rfl
set_option maxRecDepth 100000 in
set_option maxHeartbeats 2000000 in
theorem mix_fnT (s : List (BitVec 64)) (T : TypeId) (fz : Nat × Nat) : FnP Tryd.prog 66 #[svn s] (fun w => w.heap[0]? = some (.cells marksC T fz)) (svn (mix s)) := by
  refine FnP.intro (c := codeOf Tryd.f66) [.cell 2 84] 18 Tryd.func66 kr kr kr fun w hpre => ?_
  have H0 := St.start w
  refine rS [.b, .a] H0 kr fun gs1 w1 H1 => ?_
  clear H0
  refine g_seq kr ?_
  refine rS [.f hpre (lt_of_heap hpre), .v] H1 kr fun gs2 w2 H2 => ?_
  clear H1
  refine g_block 0 kr ?_
  have HL1 : St w.heap.size w w2 [((gs1 0).b, Obj.cells (Value.cells (svn s)) 84 (0, 0)), ((gs1 1).b, Obj.cells #[.int .u64 0, .int .u64 0, .int .u64 0, .int .u64 0, .int .u64 0, .int .u64 0, .int .u64 0, .int .u64 0, .int .u64 0, .int .u64 0, .int .u64 0, .int .u64 0, .int .u64 0, .int .u64 0, .int .u64 0, .int .u64 0, .int .u64 0, .int .u64 0, .int .u64 0, .int .u64 0, .int .u64 0, .int .u64 0, .int .u64 0, .int .u64 0, .int .u64 0] 84 (0, 0))] := H2.as kr
  clear H2
  have HM2 : St w.heap.size w w2 [((gs1 0).b, Obj.cells (Value.cells (svn (mixK s 0))) 84 (0, 0)), ((gs1 1).b, Obj.cells #[.int .u64 0, .int .u64 0, .int .u64 0, .int .u64 0, .int .u64 0, .int .u64 0, .int .u64 0, .int .u64 0, .int .u64 0, .int .u64 0, .int .u64 0, .int .u64 0, .int .u64 0, .int .u64 0, .int .u64 0, .int .u64 0, .int .u64 0, .int .u64 0, .int .u64 0, .int .u64 0, .int .u64 0, .int .u64 0, .int .u64 0, .int .u64 0, .int .u64 0] 84 (0, 0))] := HL1
  refine g_loop kr (fun mz ρ ww => ∃ (j : Nat), 24 - j = mz ∧ (j ≤ 24) ∧ St w.heap.size w ww [((gs1 0).b, Obj.cells (Value.cells (svn (mixK s j))) 84 (0, 0)), ((gs1 1).b, Obj.cells #[.int .u64 0, .int .u64 0, .int .u64 0, .int .u64 0, .int .u64 0, .int .u64 0, .int .u64 0, .int .u64 0, .int .u64 0, .int .u64 0, .int .u64 0, .int .u64 0, .int .u64 0, .int .u64 0, .int .u64 0, .int .u64 0, .int .u64 0, .int .u64 0, .int .u64 0, .int .u64 0, .int .u64 0, .int .u64 0, .int .u64 0, .int .u64 0, .int .u64 0] 84 (0, 0))] ∧ Is [(0, svn s), (1, .pointer (some ⟨(gs1 0).b, 0, none⟩)), (2, .pointer (some ⟨(gs1 1).b, 0, none⟩)), (5, .agg marksC), (6, .int .i64 ((j : Nat) : Int))] ρ) (24 - 0) ⟨0, rfl, (by omega), HM2, (Is.of ⟨kr, kr, kr, kr, kr, trivial⟩)⟩ ?_
  clear HM2
  rintro _ _ w3 ⟨j, rfl, hj, H3, _, rfl⟩
  by_cases hc3 : (j : Nat) < 24
  · skip
    refine rS [.e (v := .bool (decide (((j : Nat) : Int) < 24))) (v' := .bool true) (bool_eq (decide_eq_true (by omega)))] H3 kr fun gs4 w4 H4 => ?_
    clear H3
    refine g_seq kr ?_
    refine g_cond_t kr kr ?_
    refine g_skip kr ?_
    show WP _ _ _ _ _ _
    refine g_seq kr ?_
    refine g_block 1 kr ?_
    refine rS [.o (ins := [((.tmp 5), .agg marksC), ((.tmp 6), .int .i64 ((j : Nat) : Int))]) (v := .int .u64 ((BitVec.toNat (List.getD Kec.marks j 0) : Nat) : Int)) (fun ρ o w ho hi => arr_index (t := 109) (e := 22) (kd := .i64) (n := 24) kr kr kr (x := (.tmp 5)) (y := (.tmp 6)) (Value.cells (.agg marksC)) j (.int .u64 ((BitVec.toNat (List.getD Kec.marks j 0) : Nat) : Int)) ho hi.1 hi.2.1 (by omega) (marks_at j _ (by omega) (by omega)) w), .v] H4 kr fun gs5 w5 H5 => ?_
    clear H4
    refine rS [.l 0, .c (round_fn (mixK s j)), .s 0] H5 kr fun gs6 w6 H6 => ?_
    clear H5
    refine rL [.v, .l 0, .v, .e (v := .int .u64 (Go.bits .xor .u64 (((BitVec.toNat (nth (rnd (mixK s j)) 0) : Nat) : Int)) (((BitVec.toNat (List.getD Kec.marks j 0) : Nat) : Int)))) (v' := .int .u64 ((BitVec.toNat ((nth (rnd (mixK s j)) 0) ^^^ (List.getD Kec.marks j 0)) : Nat) : Int)) (bv_xor_u64 (nth (rnd (mixK s j)) 0) (List.getD Kec.marks j 0)), .v, .se (C := (Value.cells (svn (rnd (mixK s j))))) (C' := (Value.cells (svn (rm (mixK s j) (List.getD Kec.marks j 0))))) (off := 0) (v := .int .u64 ((BitVec.toNat ((nth (rnd (mixK s j)) 0) ^^^ (List.getD Kec.marks j 0)) : Nat) : Int)) 0 (of_decide_eq_true kr) (svn_rm (mixK s j) (List.getD Kec.marks j 0))] H6 kr fun gs7 w7 H7 => ?_
    clear H6
    show WP _ _ _ _ _ _
    refine rL [.e (v := .int .i64 (IntKind.i64.wrap (((j : Nat) : Int) + 1))) (v' := .int .i64 ((j + 1 : Nat) : Int)) (int_eq (wrapAdd_i64 (a := j) (b := 1) (by omega))), .v] H7 kr fun gs8 w8 H8 => ?_
    clear H7
    have HL4 : St w.heap.size w w8 [((gs1 0).b, Obj.cells (Value.cells (svn (rm (mixK s j) (List.getD Kec.marks j 0)))) 84 (0, 0)), ((gs1 1).b, Obj.cells #[.int .u64 0, .int .u64 0, .int .u64 0, .int .u64 0, .int .u64 0, .int .u64 0, .int .u64 0, .int .u64 0, .int .u64 0, .int .u64 0, .int .u64 0, .int .u64 0, .int .u64 0, .int .u64 0, .int .u64 0, .int .u64 0, .int .u64 0, .int .u64 0, .int .u64 0, .int .u64 0, .int .u64 0, .int .u64 0, .int .u64 0, .int .u64 0, .int .u64 0] 84 (0, 0))] := H8.as kr
    clear H8
    have HM5 : St w.heap.size w w8 [((gs1 0).b, Obj.cells (Value.cells (svn (mixK s (j + 1)))) 84 (0, 0)), ((gs1 1).b, Obj.cells #[.int .u64 0, .int .u64 0, .int .u64 0, .int .u64 0, .int .u64 0, .int .u64 0, .int .u64 0, .int .u64 0, .int .u64 0, .int .u64 0, .int .u64 0, .int .u64 0, .int .u64 0, .int .u64 0, .int .u64 0, .int .u64 0, .int .u64 0, .int .u64 0, .int .u64 0, .int .u64 0, .int .u64 0, .int .u64 0, .int .u64 0, .int .u64 0, .int .u64 0] 84 (0, 0))] := by rw [mixK_succ s j (by omega)]; exact HL4
    show ∃ m, _ ∧ _
    exact ⟨_, (by omega), (j + 1), rfl, (by omega), HM5, (Is.of ⟨kr, kr, kr, kr, kr, trivial⟩)⟩
  · skip
    refine rS [.e (v := .bool (decide (((j : Nat) : Int) < 24))) (v' := .bool false) (bool_eq (decide_eq_false (by omega)))] H3 kr fun gs9 w9 H9 => ?_
    clear H3
    refine g_seq kr ?_
    refine g_cond_f kr kr ?_
    refine g_exit 0 kr ?_
    show WP _ _ _ _ _ _
    refine rS [.l 0, .s 1] H9 kr fun gs10 w10 H10 => ?_
    clear H9
    refine g_ret kr ?_
    show ∃ vs, Res _ _ _ _ vs ∧ _
    refine ⟨[svn (mixK s j)], (.agg (b := (gs1 1).b) (Value.cells (svn (mixK s j))) 84 (0, 0) kr (H10.get 1 kr) kr .nil), ?_, H10.below⟩
    obtain rfl : j = 24 := by omega
    exact congrArg svn (mixK_all s)
theorem mix_fn (s : List (BitVec 64)) : FnP Tryd.prog 66 #[svn s] Marks (svn (mix s)) := fun w ⟨T, fz, h⟩ => mix_fnT s T fz w h
end Go.Proofs.YtmmloghbnpfedaaDoor.Ke

namespace Go.Proofs.YtmmloghbnpfedaaDoor.Ke
open Go Go.RowKit Go.Proofs.Kec
set_option linter.unusedVariables false
theorem tcd {α : Type} (L : List α) (q : Nat) (x : α) (h : q < L.length) : L.take q ++ [x] ++ L.drop (q + 1) = L.set q x := by
  rw [List.set_eq_take_append_cons_drop, if_pos h, List.append_assoc]; rfl
theorem svn_list (s : List (BitVec 64)) : Value.cells (svn s) = ((List.range 25).map fun k => Value.int .u64 ((BitVec.toNat (nth s k) : Nat) : Int)).toArray := rfl
theorem svn_at (s : List (BitVec 64)) (k q : Nat) (hq : q = k) (hk : k < 25) : (Value.cells (svn s))[q]? = some (Value.int .u64 ((BitVec.toNat (nth s k) : Nat) : Int)) := by
  subst hq; rw [svn_list]; simp [hk]
theorem nth_set (s : List (BitVec 64)) (k j : Nat) (x : BitVec 64) (hk : k < s.length) : nth (s.set k x) j = if j = k then x else nth s j := by
  unfold nth
  rw [List.getD_eq_getElem?_getD, List.getD_eq_getElem?_getD, List.getElem?_set]
  by_cases h : k = j
  · subst h; simp [hk]
  · rw [if_neg h, if_neg (fun e => h e.symm)]
theorem svn_put (s : List (BitVec 64)) (k q : Nat) (x : BitVec 64) (hs : s.length = 25) (hq : q = k) (hk : k < 25) :
    ((Value.cells (svn s)).toList.take q ++ (Value.cells (.int .u64 ((BitVec.toNat x : Nat) : Int))).toList ++ (Value.cells (svn s)).toList.drop (q + (Value.cells (.int .u64 ((BitVec.toNat x : Nat) : Int))).size)).toArray = Value.cells (svn (s.set k x)) := by
  subst hq
  rw [svn_list, svn_list]
  congr 1
  show List.take q _ ++ [Value.int .u64 ((BitVec.toNat x : Nat) : Int)] ++ List.drop (q + 1) _ = _
  rw [tcd _ q _ (by simpa using hk)]
  apply List.ext_getElem?
  intro j
  rw [List.toList_toArray]
  rw [List.getElem?_set]
  by_cases h : q = j
  · subst h; simp [hk, nth_set s q q x (by omega)]
  · by_cases hj : j < 25
    · simp [h, hj, nth_set s q j x (by omega), show ¬ j = q from fun e => h e.symm]
    · simp [h, hj]
theorem Marks.old {B : Nat} {w0 w : World} {l : List (Nat × Obj)} (HS : St B w0 w l) (hB : B = w0.heap.size) (h : Marks w0) : Marks w := by
  obtain ⟨T, fz, h⟩ := h; exact ⟨T, fz, HS.old h (by rw [hB]; exact lt_of_heap h)⟩
theorem Marks.oldB {B : Nat} {w0 w : World} (HS : Below B w0 w) (hB : B = w0.heap.size) (h : Marks w0) : Marks w := by
  obtain ⟨T, fz, h⟩ := h; exact ⟨T, fz, by rw [HS.block 0 (by rw [hB]; exact lt_of_heap h)]; exact h⟩
theorem Marks.oldE {B : Nat} {w0 w : World} {E : List D2.Ent} (HS : D2.StE B w0 w E) (hB : B = w0.heap.size) (h : Marks w0) : Marks w := by
  obtain ⟨T, fz, h⟩ := h; exact ⟨T, fz, D2.StE.old HS h (by rw [hB]; exact lt_of_heap h)⟩
theorem take_step {s s1 : List (BitVec 64)} {n n1 k : Nat} {t : ByteArray} (h : takeB (s, n) ((tl t).take k) = (s1, n1)) (hk : k < ByteArray.size t) :
    takeB (s, n) ((tl t).take (k + 1)) = (if n1 + 1 = 136 then (mix (lay s1 n1 (BitVec.ofNat 64 (by_ t k))), 0) else (lay s1 n1 (BitVec.ofNat 64 (by_ t k)), n1 + 1)) := by
  have hk' : k < (tl t).length := hk
  rw [List.take_add_one, List.getElem?_eq_getElem hk', Option.toList_some, takeB_snoc, h]
  unfold step1 byteB by_
  rw [List.getD_eq_getElem?_getD, List.getElem?_eq_getElem hk', Option.getD_some]
set_option maxRecDepth 100000 in
set_option maxHeartbeats 2000000 in
theorem lift_fn (b i : Nat) (hi : i < 1000) : Fn Tryd.prog 89 #[.int .u8 ((b : Nat) : Int), .int .i64 ((i : Nat) : Int)] (.int .u64 ((BitVec.toNat (liftB (BitVec.ofNat 64 b) i) : Nat) : Int)) := by
  refine Fn.intro (c := codeOf Tryd.f89) [.tmp 4] 11 Tryd.func89 kr kr kr fun w => ?_
  have H0 := St.start w
  refine rS [.v] H0 kr fun gs1 w1 H1 => ?_
  clear H0
  refine rS [.v, .e (v := .int .u64 (IntKind.u64.wrap ((b : Nat) : Int))) (v' := .int .u64 ((BitVec.toNat (BitVec.ofNat 64 b) : Nat) : Int)) (bv_ofNat_u64 b), .v, .e (v := .int .i64 (Int.tmod ((i : Nat) : Int) 8)) (v' := .int .i64 ((i % 8 : Nat) : Int)) (int_eq (remN i 8)), .e (v := .int .i64 (IntKind.i64.wrap (((i % 8 : Nat) : Int) * 8))) (v' := .int .i64 (((i % 8) * 8 : Nat) : Int)) (int_eq (wrapMul_i64 (a := i % 8) (b := 8) (by omega))), .e (v := .int .u64 (IntKind.u64.wrap ((((BitVec.toNat (BitVec.ofNat 64 b) : Nat) : Int)) * 2 ^ (min ((i % 8) * 8) 64)))) (v' := .int .u64 ((BitVec.toNat ((BitVec.ofNat 64 b) <<< ((i % 8) * 8)) : Nat) : Int)) (bv_shl_u64 (BitVec.ofNat 64 b) ((i % 8) * 8)), .v] H1 kr fun gs2 w2 H2 => ?_
  clear H1
  refine g_ret kr ?_
  show ∃ vs, Res _ _ _ _ vs ∧ _
  refine ⟨[.int .u64 ((BitVec.toNat ((BitVec.ofNat 64 b) <<< ((i % 8) * 8)) : Nat) : Int)], (.tmp (.int .u64 ((BitVec.toNat ((BitVec.ofNat 64 b) <<< ((i % 8) * 8)) : Nat) : Int)) kr .nil), ?_, H2.below⟩
  rfl
set_option maxRecDepth 100000 in
set_option maxHeartbeats 2000000 in
theorem take_fn (s : List (BitVec 64)) (n : Nat) (t : ByteArray) (hs : s.length = 25) (hn : n < 136) (ht : ByteArray.size t < 4611686018427387904) : FnP Tryd.prog 64 #[svn s, .int .i64 ((n : Nat) : Int), .string t] (Marks) (.tuple #[svn (takeB (s, n) (tl t)).1, .int .i64 (((takeB (s, n) (tl t)).2 : Nat) : Int)]) := by
  refine FnP.intro (c := codeOf Tryd.f64) [.cell 6 84, .tmp 7] 34 Tryd.func64 kr kr kr fun w hpre => ?_
  have H0 := St.start w
  refine rS [.b, .a, .v] H0 kr fun gs1 w1 H1 => ?_
  clear H0
  refine g_seq kr ?_
  refine rS [.v, .v, .v] H1 kr fun gs2 w2 H2 => ?_
  clear H1
  refine g_block 0 kr ?_
  have HL1 : St w.heap.size w w2 [((gs1 0).b, Obj.cells (Value.cells (svn s)) 84 (0, 0)), ((gs1 1).b, Obj.cells #[.int .u64 0, .int .u64 0, .int .u64 0, .int .u64 0, .int .u64 0, .int .u64 0, .int .u64 0, .int .u64 0, .int .u64 0, .int .u64 0, .int .u64 0, .int .u64 0, .int .u64 0, .int .u64 0, .int .u64 0, .int .u64 0, .int .u64 0, .int .u64 0, .int .u64 0, .int .u64 0, .int .u64 0, .int .u64 0, .int .u64 0, .int .u64 0, .int .u64 0] 84 (0, 0))] := H2.as kr
  clear H2
  refine g_loop kr (fun mz ρ ww => ∃ (s1 : List (BitVec 64)) (n1 : Nat) (k : Nat), ByteArray.size t - k = mz ∧ (s1.length = 25) ∧ (n1 < 136) ∧ (k ≤ ByteArray.size t) ∧ (takeB (s, n) ((tl t).take k) = (s1, n1)) ∧ St w.heap.size w ww [((gs1 0).b, Obj.cells (Value.cells (svn s1)) 84 (0, 0)), ((gs1 1).b, Obj.cells #[.int .u64 0, .int .u64 0, .int .u64 0, .int .u64 0, .int .u64 0, .int .u64 0, .int .u64 0, .int .u64 0, .int .u64 0, .int .u64 0, .int .u64 0, .int .u64 0, .int .u64 0, .int .u64 0, .int .u64 0, .int .u64 0, .int .u64 0, .int .u64 0, .int .u64 0, .int .u64 0, .int .u64 0, .int .u64 0, .int .u64 0, .int .u64 0, .int .u64 0] 84 (0, 0))] ∧ Is [(0, svn s), (1, .int .i64 ((n1 : Nat) : Int)), (2, .string t), (3, .pointer (some ⟨(gs1 0).b, 0, none⟩)), (6, .pointer (some ⟨(gs1 1).b, 0, none⟩)), (7, .int .i64 0), (10, .int .i64 ((ByteArray.size t : Nat) : Int)), (11, .int .i64 ((k : Nat) : Int))] ρ) (ByteArray.size t - 0) ⟨s, n, 0, rfl, hs, hn, (by omega), rfl, HL1, (Is.of ⟨kr, kr, kr, kr, kr, kr, kr, kr, trivial⟩)⟩ ?_
  clear HL1
  rintro _ _ w3 ⟨s1, n1, k, rfl, hs1, hn1, hk, htk, H3, _, rfl⟩
  have hbl := by_lt t k
  by_cases hc2 : (k : Nat) < ByteArray.size t
  · skip
    refine rS [.e (v := .bool (decide (((k : Nat) : Int) < ((ByteArray.size t : Nat) : Int)))) (v' := .bool true) (bool_eq (decide_eq_true (by omega)))] H3 kr fun gs4 w4 H4 => ?_
    clear H3
    refine g_seq kr ?_
    refine g_cond_t kr kr ?_
    refine g_skip kr ?_
    show WP _ _ _ _ _ _
    refine g_seq kr ?_
    refine g_block 1 kr ?_
    refine rS [.v, .v] H4 kr fun gs5 w5 H5 => ?_
    clear H4
    refine dS [.v, .e (v := .int .i64 (IntKind.i64.wrap (((n1 : Nat) : Int).tdiv 8))) (v' := .int .i64 ((n1 / 8 : Nat) : Int)) (int_eq (quoN_i64 (a := n1) (b := 8) (by omega))), .o (ins := [((.tmp 3), .pointer (some ⟨(gs1 0).b, 0, none⟩)), ((.tmp 15), .int .i64 ((n1 / 8 : Nat) : Int))]) (v := .pointer (some ⟨(gs1 0).b, 0 + (n1 / 8) * 1, none⟩)) (fun ρ o w ho hi => idxA_run (kd := .i64) (t := 84) (n := 25) (size := 1) kr (x := (.tmp 3)) (y := (.tmp 15)) (gs1 0).b 0 (n1 / 8) ho hi.1 hi.2.1 (by omega) w), .ls (C := (Value.cells (svn s1))) (off := 0 + (n1 / 8) * 1) (v := .int .u64 ((BitVec.toNat (nth s1 (n1 / 8)) : Nat) : Int)) 0 (svn_at s1 (n1 / 8) _ (by omega) (by omega)), .v, .v, .o (ins := [((.tmp 18), .string t), ((.tmp 19), .int .i64 ((k : Nat) : Int))]) (v := .int .u8 ((by_ t k : Nat) : Int)) (fun ρ o w ho hi => sindex_run (t := 9) (kd := .i64) kr (x := (.tmp 18)) (y := (.tmp 19)) t k ho hi.1 hi.2.1 (by omega) w), .v, .c (lift_fn (by_ t k) n1 (by omega)), .e (v := .int .u64 (Go.bits .xor .u64 (((BitVec.toNat (nth s1 (n1 / 8)) : Nat) : Int)) (((BitVec.toNat (liftB (BitVec.ofNat 64 (by_ t k)) n1) : Nat) : Int)))) (v' := .int .u64 ((BitVec.toNat ((nth s1 (n1 / 8)) ^^^ (liftB (BitVec.ofNat 64 (by_ t k)) n1)) : Nat) : Int)) (bv_xor_u64 (nth s1 (n1 / 8)) (liftB (BitVec.ofNat 64 (by_ t k)) n1)), .o (ins := [((.tmp 3), .pointer (some ⟨(gs1 0).b, 0, none⟩)), ((.tmp 15), .int .i64 ((n1 / 8 : Nat) : Int))]) (v := .pointer (some ⟨(gs1 0).b, 0 + (n1 / 8) * 1, none⟩)) (fun ρ o w ho hi => idxA_run (kd := .i64) (t := 84) (n := 25) (size := 1) kr (x := (.tmp 3)) (y := (.tmp 15)) (gs1 0).b 0 (n1 / 8) ho hi.1 hi.2.1 (by omega) w), .se (C := (Value.cells (svn s1))) (C' := (Value.cells (svn (lay s1 n1 (BitVec.ofNat 64 (by_ t k)))))) (off := 0 + (n1 / 8) * 1) (v := .int .u64 ((BitVec.toNat ((nth s1 (n1 / 8)) ^^^ (liftB (BitVec.ofNat 64 (by_ t k)) n1)) : Nat) : Int)) 0 (by show _ + 1 ≤ 25; omega) (svn_put s1 (n1 / 8) _ ((nth s1 (n1 / 8)) ^^^ (liftB (BitVec.ofNat 64 (by_ t k)) n1)) hs1 (by omega) (by omega))] H5 kr fun w6 H6 => ?_
    clear H5
    refine g_keep [0, 1, 2, 3, 6, 7, 8, 10, 11, 12] fun ρ1 => ?_
    have HK3 := H6.keep
    clear H6
    refine rS [.v, .e (v := .int .i64 (IntKind.i64.wrap (((n1 : Nat) : Int) + 1))) (v' := .int .i64 ((n1 + 1 : Nat) : Int)) (int_eq (wrapAdd_i64 (a := n1) (b := 1) (by omega))), .v] HK3 kr fun gs7 w7 H7 => ?_
    clear HK3
    refine g_sreg [0, 1] kr kr ?_
    refine rp [.v] H7 kr fun gs8 w8 H8 => ?_
    show WPs _ _ _ _ [1] _ _
    clear H7
    by_cases hc4 : (n1 + 1 : Nat) = 136
    · skip
      refine rp [.e (v := .bool (((n1 + 1 : Nat) : Int) == 136)) (v' := .bool true) (bool_eq (beq_iff_eq.2 (by omega)))] H8 kr fun gs9 w9 H9 => ?_
      show WPs _ _ _ _ [] _ _
      clear H8
      refine s_nil ?_
      refine g_cond_t kr kr ?_
      refine rL [.l 0, .cp (pre := Marks) (mix_fn (lay s1 n1 (BitVec.ofNat 64 (by_ t k)))) [] (fun w hb hd => (Marks.oldB hb rfl hpre)), .s 0, .v] H9 kr fun gs10 w10 H10 => ?_
      clear H9
      show WP _ _ _ _ _ _
      refine rL [.e (v := .int .i64 (IntKind.i64.wrap (((k : Nat) : Int) + 1))) (v' := .int .i64 ((k + 1 : Nat) : Int)) (int_eq (wrapAdd_i64 (a := k) (b := 1) (by omega))), .v] H10 kr fun gs11 w11 H11 => ?_
      clear H10
      have HL5 : St w.heap.size w w11 [((gs1 0).b, Obj.cells (Value.cells (svn (mix (lay s1 n1 (BitVec.ofNat 64 (by_ t k)))))) 84 (0, 0)), ((gs1 1).b, Obj.cells #[.int .u64 0, .int .u64 0, .int .u64 0, .int .u64 0, .int .u64 0, .int .u64 0, .int .u64 0, .int .u64 0, .int .u64 0, .int .u64 0, .int .u64 0, .int .u64 0, .int .u64 0, .int .u64 0, .int .u64 0, .int .u64 0, .int .u64 0, .int .u64 0, .int .u64 0, .int .u64 0, .int .u64 0, .int .u64 0, .int .u64 0, .int .u64 0, .int .u64 0] 84 (0, 0))] := H11.as kr
      clear H11
      show ∃ m, _ ∧ _
      exact ⟨_, (by omega), (mix (lay s1 n1 (BitVec.ofNat 64 (by_ t k)))), 0, (k + 1), rfl, (mix_len (lay_len _ _ hs1)), (by omega), (by omega), ((take_step htk (by omega)).trans (if_pos (by omega))), HL5, (Is.of ⟨kr, kr, kr, kr, kr, kr, kr, kr, trivial⟩)⟩
    · skip
      refine rp [.e (v := .bool (((n1 + 1 : Nat) : Int) == 136)) (v' := .bool false) (bool_eq (beq_eq_false_iff_ne.2 (by omega)))] H8 kr fun gs12 w12 H12 => ?_
      show WPs _ _ _ _ [] _ _
      clear H8
      refine s_nil ?_
      refine g_cond_f kr kr ?_
      refine g_skip kr ?_
      show WP _ _ _ _ _ _
      refine rL [.e (v := .int .i64 (IntKind.i64.wrap (((k : Nat) : Int) + 1))) (v' := .int .i64 ((k + 1 : Nat) : Int)) (int_eq (wrapAdd_i64 (a := k) (b := 1) (by omega))), .v] H12 kr fun gs13 w13 H13 => ?_
      clear H12
      have HL6 : St w.heap.size w w13 [((gs1 0).b, Obj.cells (Value.cells (svn (lay s1 n1 (BitVec.ofNat 64 (by_ t k))))) 84 (0, 0)), ((gs1 1).b, Obj.cells #[.int .u64 0, .int .u64 0, .int .u64 0, .int .u64 0, .int .u64 0, .int .u64 0, .int .u64 0, .int .u64 0, .int .u64 0, .int .u64 0, .int .u64 0, .int .u64 0, .int .u64 0, .int .u64 0, .int .u64 0, .int .u64 0, .int .u64 0, .int .u64 0, .int .u64 0, .int .u64 0, .int .u64 0, .int .u64 0, .int .u64 0, .int .u64 0, .int .u64 0] 84 (0, 0))] := H13.as kr
      clear H13
      show ∃ m, _ ∧ _
      exact ⟨_, (by omega), (lay s1 n1 (BitVec.ofNat 64 (by_ t k))), (n1 + 1), (k + 1), rfl, (lay_len _ _ hs1), (by omega), (by omega), ((take_step htk (by omega)).trans (if_neg (by omega))), HL6, (Is.of ⟨kr, kr, kr, kr, kr, kr, kr, kr, trivial⟩)⟩
  · skip
    refine rS [.e (v := .bool (decide (((k : Nat) : Int) < ((ByteArray.size t : Nat) : Int)))) (v' := .bool false) (bool_eq (decide_eq_false (by omega)))] H3 kr fun gs14 w14 H14 => ?_
    clear H3
    refine g_seq kr ?_
    refine g_cond_f kr kr ?_
    refine g_exit 0 kr ?_
    show WP _ _ _ _ _ _
    refine rS [.l 0, .v, .s 1, .v] H14 kr fun gs15 w15 H15 => ?_
    clear H14
    refine g_ret kr ?_
    show ∃ vs, Res _ _ _ _ vs ∧ _
    refine ⟨[svn s1, .int .i64 ((n1 : Nat) : Int)], (.agg (b := (gs1 1).b) (Value.cells (svn s1)) 84 (0, 0) kr (H15.get 1 kr) kr (.tmp (.int .i64 ((n1 : Nat) : Int)) kr .nil)), ?_, H15.below⟩
    rw [List.take_of_length_le (show (tl t).length ≤ k by rw [tl_len]; omega)] at htk; rw [htk]; rfl
set_option maxRecDepth 100000 in
set_option maxHeartbeats 2000000 in
theorem end_fn (s : List (BitVec 64)) (n : Nat) (hs : s.length = 25) (hn : n < 136) : Fn Tryd.prog 67 #[svn s, .int .i64 ((n : Nat) : Int)] (svn (endB (s, n))) := by
  refine Fn.intro (c := codeOf Tryd.f67) [.cell 4 84] 19 Tryd.func67 kr kr kr fun w => ?_
  have H0 := St.start w
  refine rS [.b, .a] H0 kr fun gs1 w1 H1 => ?_
  clear H0
  refine dS [.v, .e (v := .int .i64 (IntKind.i64.wrap (((n : Nat) : Int).tdiv 8))) (v' := .int .i64 ((n / 8 : Nat) : Int)) (int_eq (quoN_i64 (a := n) (b := 8) (by omega))), .o (ins := [((.tmp 2), .pointer (some ⟨(gs1 0).b, 0, none⟩)), ((.tmp 6), .int .i64 ((n / 8 : Nat) : Int))]) (v := .pointer (some ⟨(gs1 0).b, 0 + (n / 8) * 1, none⟩)) (fun ρ o w ho hi => idxA_run (kd := .i64) (t := 84) (n := 25) (size := 1) kr (x := (.tmp 2)) (y := (.tmp 6)) (gs1 0).b 0 (n / 8) ho hi.1 hi.2.1 (by omega) w), .ls (C := (Value.cells (svn s))) (off := 0 + (n / 8) * 1) (v := .int .u64 ((BitVec.toNat (nth s (n / 8)) : Nat) : Int)) 0 (svn_at s (n / 8) _ (by omega) (by omega)), .v, .c (lift_fn 1 n (by omega)), .e (v := .int .u64 (Go.bits .xor .u64 (((BitVec.toNat (nth s (n / 8)) : Nat) : Int)) (((BitVec.toNat (liftB (BitVec.ofNat 64 1) n) : Nat) : Int)))) (v' := .int .u64 ((BitVec.toNat ((nth s (n / 8)) ^^^ (liftB (BitVec.ofNat 64 1) n)) : Nat) : Int)) (bv_xor_u64 (nth s (n / 8)) (liftB (BitVec.ofNat 64 1) n)), .o (ins := [((.tmp 2), .pointer (some ⟨(gs1 0).b, 0, none⟩)), ((.tmp 6), .int .i64 ((n / 8 : Nat) : Int))]) (v := .pointer (some ⟨(gs1 0).b, 0 + (n / 8) * 1, none⟩)) (fun ρ o w ho hi => idxA_run (kd := .i64) (t := 84) (n := 25) (size := 1) kr (x := (.tmp 2)) (y := (.tmp 6)) (gs1 0).b 0 (n / 8) ho hi.1 hi.2.1 (by omega) w), .se (C := (Value.cells (svn s))) (C' := (Value.cells (svn (lay s n 1)))) (off := 0 + (n / 8) * 1) (v := .int .u64 ((BitVec.toNat ((nth s (n / 8)) ^^^ (liftB (BitVec.ofNat 64 1) n)) : Nat) : Int)) 0 (by show _ + 1 ≤ 25; omega) (svn_put s (n / 8) _ ((nth s (n / 8)) ^^^ (liftB (BitVec.ofNat 64 1) n)) hs (by omega) (by omega))] H1 kr fun w2 H2 => ?_
  clear H1
  refine dS [.v, .l 0, .c (lift_fn 128 135 (by omega)), .e (v := .int .u64 (Go.bits .xor .u64 (((BitVec.toNat (nth (lay s n 1) 16) : Nat) : Int)) (((BitVec.toNat (liftB (BitVec.ofNat 64 128) 135) : Nat) : Int)))) (v' := .int .u64 ((BitVec.toNat ((nth (lay s n 1) 16) ^^^ (liftB (BitVec.ofNat 64 128) 135)) : Nat) : Int)) (bv_xor_u64 (nth (lay s n 1) 16) (liftB (BitVec.ofNat 64 128) 135)), .v, .se (C := (Value.cells (svn (lay s n 1)))) (C' := (Value.cells (svn (lay (lay s n 1) 135 128)))) (off := 16) (v := .int .u64 ((BitVec.toNat ((nth (lay s n 1) 16) ^^^ (liftB (BitVec.ofNat 64 128) 135)) : Nat) : Int)) 0 (of_decide_eq_true kr) (svn_put (lay s n 1) 16 16 _ (lay_len _ _ hs) rfl (by omega))] H2 kr fun w3 H3 => ?_
  clear H2
  refine g_keep [0, 1, 2, 4] fun ρ1 => ?_
  have HK1 := H3.keep
  clear H3
  refine rS [.l 0, .s 1] HK1 kr fun gs4 w4 H4 => ?_
  clear HK1
  refine g_ret kr ?_
  show ∃ vs, Res _ _ _ _ vs ∧ _
  refine ⟨[svn (lay (lay s n 1) 135 128)], (.agg (b := (gs1 1).b) (Value.cells (svn (lay (lay s n 1) 135 128))) 84 (0, 0) kr (H4.get 1 kr) kr .nil), ?_, H4.below⟩
  rfl
end Go.Proofs.YtmmloghbnpfedaaDoor.Ke
