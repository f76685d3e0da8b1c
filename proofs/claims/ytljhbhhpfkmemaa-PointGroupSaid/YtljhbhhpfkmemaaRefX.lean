/-
  The reference: Times.
-/
import Derived.Test.YtljhbhhpfkmemaaNum
import Derived.Test.YtljhbhhpfkmemaaUlib
import Derived.Test.YtljhbhhpfkmemaaRefM
import Derived.Test.YtljhbhhpfkmemaaRefT
namespace Go.Proofs.Ytljhbhhpfkmemaa
open Go Go.RowKit
set_option linter.unusedVariables false
set_option maxRecDepth 100000 in
set_option maxHeartbeats 2000000 in
theorem times_fn (x y : List Nat) (ba nx ca bb ny cb : Nat) (curA curB : Array Value) (hnx : nx = List.length x) (hny : ny = List.length y) (hA : Rw 1 curA ca nx (cellsD x)) (hB : Rw 1 curB cb ny (cellsD y)) (hx : Ok x) (hy : Ok y) (lx : List.length x ≤ 5000) (ly : List.length y ≤ 5000) : FnR Try.prog 66 #[.slice (some ⟨ba, 0, none⟩) nx ca, .slice (some ⟨bb, 0, none⟩) ny cb] (fun w => w.heap[ba]? = some (.cells curA 3 (0, 0)) ∧ w.heap[bb]? = some (.cells curB 3 (0, 0))) (RetS 3 1 (fun cur cap n l => (n = List.length l ∧ Rw 1 cur cap n (cellsD l) ∧ Ok l ∧ (vl l = vl x * vl y ∧ List.length l = List.length x + List.length y + 1)))) := by
  subst hnx hny
  refine FnR.intro (c := codeOf Try.f66) [.tmp 4] 60 Try.func66 kr kr kr fun w hpre => ?_
  have H0 := St.start w
  refine g_sreg [0] kr kr ?_
  refine s_val (some 4) (.slice none 0 0) (fun w => kr) kr ?_
  refine s_nil ?_
  refine g_sreg [0, 1, 2, 3, 4, 5, 6, 7] kr kr ?_
  refine s_val (some 10) (.slice (some ⟨ba, 0, none⟩) (List.length x) ca) (fun w => kr) kr ?_
  refine s_val (some 11) (.int .i64 ((List.length x : Nat) : Int)) (fun w => kr) kr ?_
  refine s_val (some 12) (.slice (some ⟨bb, 0, none⟩) (List.length y) cb) (fun w => kr) kr ?_
  refine s_val (some 13) (.int .i64 ((List.length y : Nat) : Int)) (fun w => kr) kr ?_
  refine s_valE (some 14) (.int .i64 (IntKind.i64.wrap (((List.length x : Nat) : Int) + ((List.length y : Nat) : Int)))) (.int .i64 (((List.length x) + (List.length y) : Nat) : Int)) (fun w => kr) (int_eq (wrapAdd_i64 (a := List.length x) (b := List.length y) (by omega))) kr ?_
  refine s_valE (some 15) (.int .i64 (IntKind.i64.wrap ((((List.length x) + (List.length y) : Nat) : Int) + 1))) (.int .i64 ((((List.length x) + (List.length y)) + 1 : Nat) : Int)) (fun w => kr) (int_eq (wrapAdd_i64 (a := (List.length x) + (List.length y)) (b := 1) (by omega))) kr ?_
  refine s_make H0 (some 16) 67 3 8 (.int .i64 0) (.tmp 15) (.tmp 15) .i64 .i64 (((List.length x) + (List.length y)) + 1) kr kr kr kr rfl kr kr (by omega) (by unfold maxLen; omega) ?_
  intro b_1 cur_2 w1 H1 hr_3; clear H0
  have hr_3z : Rw 1 cur_2 (((List.length x) + (List.length y)) + 1) (((List.length x) + (List.length y)) + 1) (cellsD (List.replicate (((List.length x) + (List.length y)) + 1) 0)) := by unfold cellsD; rw [List.map_replicate]; exact hr_3
  refine s_val (some 5) (.slice (some ⟨b_1, 0, none⟩) (((List.length x) + (List.length y)) + 1) (((List.length x) + (List.length y)) + 1)) (fun w => kr) kr ?_
  refine s_nil ?_
  refine g_seq kr ?_
  refine g_sreg [0, 1, 2] kr kr ?_
  refine s_val (some 17) (.slice (some ⟨ba, 0, none⟩) (List.length x) ca) (fun w => kr) kr ?_
  refine s_val (some 18) (.int .i64 ((List.length x : Nat) : Int)) (fun w => kr) kr ?_
  refine s_val (some 19) (.int .i64 0) (fun w => kr) kr ?_
  refine s_nil ?_
  refine g_block 0 kr ?_
  refine g_loop kr (fun mz ρ ww => ∃ (b : Nat) (cap : Nat) (n : Nat) (cur : Array Value) (l : List Nat) (i : Nat), List.length x + 1 - i = mz ∧ (n = List.length l) ∧ (Rw 1 cur cap n (cellsD l)) ∧ (i ≤ List.length x) ∧ (List.length l = List.length x + List.length y + 1) ∧ (Ok l) ∧ (vl l = vl (List.take i x) * vl y) ∧ St w.heap.size w ww [(b, Od cur 3)] ∧ Is [(0, .slice (some ⟨ba, 0, none⟩) (List.length x) ca), (1, .slice (some ⟨bb, 0, none⟩) (List.length y) cb), (4, .slice none 0 0), (5, .slice (some ⟨b, 0, none⟩) n cap), (18, .int .i64 ((List.length x : Nat) : Int)), (19, .int .i64 ((i : Nat) : Int))] ρ) (List.length x + 1 - 0) ⟨b_1, ((List.length x) + (List.length y)) + 1, ((List.length x) + (List.length y)) + 1, cur_2, (List.replicate (((List.length x) + (List.length y)) + 1) 0), 0, rfl, (by rw [List.length_replicate]), hr_3z, (by omega), (by rw [List.length_replicate]), (ok_zeros _), (by rw [vl_zeros]; simp [vl]), H1, (Is.of ⟨kr, kr, kr, kr, kr, kr, trivial⟩)⟩ ?_
  clear H1
  rintro _ _ w2 ⟨b, cap, n, cur, l, i, rfl, hn, hr, hi, hl, hok, hv, H2, _, rfl⟩
  refine g_sreg [0] kr kr ?_
  by_cases hc1 : (i : Nat) < List.length x
  · skip
    refine s_valE (some 20) (.bool (decide (((i : Nat) : Int) < ((List.length x : Nat) : Int)))) (.bool true) (fun w => kr) (bool_eq (decide_eq_true (by omega))) kr ?_
    refine s_nil ?_
    refine g_seq kr ?_
    refine g_cond_t kr kr ?_
    refine g_skip kr ?_
    show WP _ _ _ _ _ _
    refine g_seq kr ?_
    refine g_block 1 kr ?_
    refine g_sreg [0, 1] kr kr ?_
    refine s_val (some 21) (.int .i64 ((i : Nat) : Int)) (fun w => kr) kr ?_
    refine s_val (some 6) (.int .i64 ((i : Nat) : Int)) (fun w => kr) kr ?_
    refine s_nil ?_
    refine g_sreg [0] kr kr ?_
    refine s_val (some 7) (.int .i64 0) (fun w => kr) kr ?_
    refine s_nil ?_
    refine g_sreg [0] kr kr ?_
    refine s_val (some 8) (.int .i64 0) (fun w => kr) kr ?_
    refine s_nil ?_
    refine g_block 2 kr ?_
    refine g_loop kr (fun mz ρ ww => ∃ (b2 : Nat) (cap2 : Nat) (n2 : Nat) (cur2 : Array Value) (l2 : List Nat) (k : Nat) (c : Nat), List.length y + 2 - k = mz ∧ (n2 = List.length l2) ∧ (Rw 1 cur2 cap2 n2 (cellsD l2)) ∧ (MulI x y l2 i k c) ∧ St w.heap.size w ww [(b2, Od cur2 3)] ∧ Is [(0, .slice (some ⟨ba, 0, none⟩) (List.length x) ca), (1, .slice (some ⟨bb, 0, none⟩) (List.length y) cb), (4, .slice none 0 0), (5, .slice (some ⟨b2, 0, none⟩) n2 cap2), (6, .int .i64 ((i : Nat) : Int)), (7, .int .i64 ((c : Nat) : Int)), (8, .int .i64 ((k : Nat) : Int)), (18, .int .i64 ((List.length x : Nat) : Int)), (19, .int .i64 ((i : Nat) : Int)), (20, .bool true)] ρ) (List.length y + 2 - 0) ⟨b, cap, n, cur, l, 0, 0, rfl, hn, hr, (MulI.start hl hok (by omega) hv), H2, (Is.of ⟨kr, kr, kr, kr, kr, kr, kr, kr, kr, kr, trivial⟩)⟩ ?_
    clear H2
    rintro _ _ w3 ⟨b2, cap2, n2, cur2, l2, k, c, rfl, hn2, hr2, hM, H3, _, rfl⟩
    have hcw := hM.cw; have htop := hM.top; have hii := hM.hi; have hlen2 := hM.len; have ho := ok_getD hM.ok (i + k); have hxi := ok_getD hx i; have hyk := ok_getD hy k
    have hm : List.getD x i 0 * List.getD y k 0 ≤ 65535 * 65535 := Nat.mul_le_mul (by omega) (by omega)
    refine g_seq kr ?_
    refine g_sreg [0, 1, 2, 3, 4, 5, 6, 7] kr kr ?_
    refine s_val (some 22) (.int .i64 ((k : Nat) : Int)) (fun w => kr) kr ?_
    refine s_val (some 23) (.slice (some ⟨bb, 0, none⟩) (List.length y) cb) (fun w => kr) kr ?_
    refine s_val (some 24) (.int .i64 ((List.length y : Nat) : Int)) (fun w => kr) kr ?_
    by_cases hc2 : (k : Nat) < List.length y
    · skip
      refine s_valE (some 25) (.bool (decide (((k : Nat) : Int) < ((List.length y : Nat) : Int)))) (.bool true) (fun w => kr) (bool_eq (decide_eq_true (by omega))) kr ?_
      refine s_val (some 26) (.bool true) (fun w => kr) kr ?_
      refine s_not (some 27) kr kr ?_
      refine s_not (some 28) kr kr ?_
      refine s_val (some 29) (.bool true) (fun w => kr) kr ?_
      refine s_nil ?_
      refine g_cond_t kr kr ?_
      refine g_skip kr ?_
      show WP _ _ _ _ _ _
      refine g_seq kr ?_
      refine g_block 3 kr ?_
      obtain ⟨hij, hM2⟩ := hM.next hx hy (by omega)
      refine D2.g_sdraw [0, 1, 2, 3, 4, 5, 6, 7, 8, 9, 10, 11, 12, 13, 14, 15, 16, 17] [((some 32), fun _ => .slice (some ⟨b2, 0, none⟩) n2 cap2), ((some 33), fun _ => .int .i64 ((i : Nat) : Int)), ((some 34), fun _ => .int .i64 ((k : Nat) : Int)), ((some 35), fun _ => .int .i64 ((i + k : Nat) : Int)), ((some 36), fun _ => .pointer (some ⟨b2, 0 + (i + k) * 1, none⟩)), ((some 37), fun _ => .int .i64 ((List.getD l2 (i + k) 0 : Nat) : Int)), ((some 38), fun _ => .slice (some ⟨ba, 0, none⟩) (List.length x) ca), ((some 39), fun _ => .int .i64 ((i : Nat) : Int)), ((some 40), fun _ => .pointer (some ⟨ba, 0 + i * 1, none⟩)), ((some 41), fun _ => .int .i64 ((List.getD x i 0 : Nat) : Int)), ((some 42), fun _ => .slice (some ⟨bb, 0, none⟩) (List.length y) cb), ((some 43), fun _ => .int .i64 ((k : Nat) : Int)), ((some 44), fun _ => .int .i64 ((List.getD y k 0 : Nat) : Int)), ((some 45), fun _ => .int .i64 (((List.getD x i 0) * (List.getD y k 0) : Nat) : Int)), ((some 46), fun _ => .int .i64 (((List.getD l2 (i + k) 0) + ((List.getD x i 0) * (List.getD y k 0)) : Nat) : Int)), ((some 47), fun _ => .int .i64 ((c : Nat) : Int)), ((some 48), fun _ => .int .i64 ((((List.getD l2 (i + k) 0) + ((List.getD x i 0) * (List.getD y k 0))) + c : Nat) : Int)), ((some 9), fun _ => .int .i64 ((((List.getD l2 (i + k) 0) + ((List.getD x i 0) * (List.getD y k 0))) + c : Nat) : Int))] (D2.Pre w.heap.size w (fun L g => [(true, (b2, Od cur2 3))]) (fun L g => True)) kr kr kr kr ⟨D2.StE.of H3.drew _ kr, trivial⟩ ⟨?_, ?_, ?_, ?_, ?_, ?_, ?_, ?_, ?_, ?_, ?_, ?_, ?_, ?_, ?_, ?_, ?_, ?_, trivial⟩ ?_
      · exact D2.gv_val (fun _ _ _ h => h) (fun g w => kr)
      · exact D2.gv_val (fun _ _ _ h => h) (fun g w => kr)
      · exact D2.gv_val (fun _ _ _ h => h) (fun g w => kr)
      · exact D2.gv_valE (fun _ _ _ h => h) (V' := .int .i64 (IntKind.i64.wrap (((i : Nat) : Int) + ((k : Nat) : Int)))) (fun g w => kr) (int_eq (wrapAdd_i64 (a := i) (b := k) (by omega)))
      · exact D2.gv_op (fun _ _ _ h => h) _ (fun g => kr) (fun g => (fun o w ho => idxS_run (kd := .i64) (t := 67) (e := 3) (size := 1) (bytes := 8) kr (x := (.tmp 32)) (y := (.tmp 35)) b2 0 n2 cap2 (i + k) ho kr kr (by omega) w))
      · exact D2.gv_load1 3 (.tmp 36) 0 (fun g => b2) (fun g => 0 + (i + k) * 1) (fun g => cur2) 3 (0, 0) (fun _ _ _ h => h) (fun g => kr) (fun g => kr) (fun L g hN => kr) kr (fun L g hN hF => by exact (hr2.atD (by omega) hn2))
      · exact D2.gv_val (fun _ _ _ h => h) (fun g w => kr)
      · exact D2.gv_val (fun _ _ _ h => h) (fun g w => kr)
      · exact D2.gv_op (fun _ _ _ h => h) _ (fun g => kr) (fun g => (fun o w ho => idxS_run (kd := .i64) (t := 68) (e := 3) (size := 1) (bytes := 8) kr (x := (.tmp 38)) (y := (.tmp 39)) ba 0 (List.length x) ca i ho kr kr (by omega) w))
      · exact D2.gv_load1F 3 (.tmp 40) ba (0 + i * 1) curA 3 (0, 0) (fun _ _ _ h => h) (fun g => kr) (fun g => kr) hpre.1 (lt_of_heap hpre.1) kr (hA.atD (by omega) rfl)
      · exact D2.gv_val (fun _ _ _ h => h) (fun g w => kr)
      · exact D2.gv_val (fun _ _ _ h => h) (fun g w => kr)
      · exact D2.gv_callP 63 (fun g => #[.slice (some ⟨bb, 0, none⟩) (List.length y) cb, .int .i64 ((k : Nat) : Int)]) (fun g => fun w => w.heap[bb]? = some (.cells curB 3 (0, 0))) (fun _ _ _ h => h) (fun L g hN hF => by exact digit_fn y bb (List.length y) cb curB rfl hB (by omega) k (by omega)) (fun L g w hN hE hF => by exact (hE.old hpre.2 (lt_of_heap hpre.2))) (fun g w => kr)
      · exact D2.gv_valE (fun _ _ _ h => h) (V' := .int .i64 (IntKind.i64.wrap (((List.getD x i 0 : Nat) : Int) * ((List.getD y k 0 : Nat) : Int)))) (fun g w => kr) (int_eq (wrapMul_i64 (a := List.getD x i 0) (b := List.getD y k 0) (by omega)))
      · exact D2.gv_valE (fun _ _ _ h => h) (V' := .int .i64 (IntKind.i64.wrap (((List.getD l2 (i + k) 0 : Nat) : Int) + (((List.getD x i 0) * (List.getD y k 0) : Nat) : Int)))) (fun g w => kr) (int_eq (wrapAdd_i64 (a := List.getD l2 (i + k) 0) (b := (List.getD x i 0) * (List.getD y k 0)) (by omega)))
      · exact D2.gv_val (fun _ _ _ h => h) (fun g w => kr)
      · exact D2.gv_valE (fun _ _ _ h => h) (V' := .int .i64 (IntKind.i64.wrap ((((List.getD l2 (i + k) 0) + ((List.getD x i 0) * (List.getD y k 0)) : Nat) : Int) + ((c : Nat) : Int)))) (fun g w => kr) (int_eq (wrapAdd_i64 (a := (List.getD l2 (i + k) 0) + ((List.getD x i 0) * (List.getD y k 0))) (b := c) (by omega)))
      · exact D2.gv_val (fun _ _ _ h => h) (fun g w => kr)
      intro L0 G4 w4 hall HL; clear H3
      have H4 : St w.heap.size w w4 [(b2, Od cur2 3)] := D2.StE.st HL.1
      clear HL hall
      refine g_sreg [0, 1, 2, 3, 4, 5, 6, 7] kr kr ?_
      refine s_val (some 49) (.slice (some ⟨b2, 0, none⟩) n2 cap2) (fun w => kr) kr ?_
      refine s_val (some 50) (.int .i64 ((i : Nat) : Int)) (fun w => kr) kr ?_
      refine s_val (some 51) (.int .i64 ((k : Nat) : Int)) (fun w => kr) kr ?_
      refine s_valE (some 52) (.int .i64 (IntKind.i64.wrap (((i : Nat) : Int) + ((k : Nat) : Int)))) (.int .i64 ((i + k : Nat) : Int)) (fun w => kr) (int_eq (wrapAdd_i64 (a := i) (b := k) (by omega))) kr ?_
      refine s_val (some 53) (.int .i64 ((((List.getD l2 (i + k) 0) + ((List.getD x i 0) * (List.getD y k 0))) + c : Nat) : Int)) (fun w => kr) kr ?_
      refine s_valE (some 54) (.int .i64 (Int.tmod ((((List.getD l2 (i + k) 0) + ((List.getD x i 0) * (List.getD y k 0))) + c : Nat) : Int) 65536)) (.int .i64 (((((List.getD l2 (i + k) 0) + ((List.getD x i 0) * (List.getD y k 0))) + c) % 65536 : Nat) : Int)) (fun w => kr) (int_eq (remN (((List.getD l2 (i + k) 0) + ((List.getD x i 0) * (List.getD y k 0))) + c) 65536)) kr ?_
      refine s_op (some 55) _ (.pointer (some ⟨b2, 0 + (i + k) * 1, none⟩)) kr kr (fun o w ho => idxS_run (kd := .i64) (t := 67) (e := 3) (size := 1) (bytes := 8) kr (x := (.tmp 49)) (y := (.tmp 52)) b2 0 n2 cap2 (i + k) ho kr kr (by omega) w) ?_
      obtain ⟨cur_4, hc_5, hs_6, hr_7⟩ := hr2.put (i + k) ((((List.getD l2 (i + k) 0) + ((List.getD x i 0) * (List.getD y k 0))) + c) % 65536) (by omega)
      refine s_store H4 0 [(b2, Od cur_4 3)] 3 (.tmp 55) (.tmp 54) b2 (0 + (i + k) * 1) cur2 cur_4 3 (.int .i64 (((((List.getD l2 (i + k) 0) + ((List.getD x i 0) * (List.getD y k 0))) + c) % 65536 : Nat) : Int)) kr kr kr kr kr kr hs_6 hc_5 kr ?_
      intro w5 H5; clear H4
      refine s_nil ?_
      refine g_reg0 [0, 1, 2] kr ?_
      refine s_val (some 56) (.int .i64 ((((List.getD l2 (i + k) 0) + ((List.getD x i 0) * (List.getD y k 0))) + c : Nat) : Int)) (fun w => kr) kr ?_
      refine s_valE (some 57) (.int .i64 (IntKind.i64.wrap (((((List.getD l2 (i + k) 0) + ((List.getD x i 0) * (List.getD y k 0))) + c : Nat) : Int).tdiv 65536))) (.int .i64 (((((List.getD l2 (i + k) 0) + ((List.getD x i 0) * (List.getD y k 0))) + c) / 65536 : Nat) : Int)) (fun w => kr) (int_eq (quoN_i64 (a := ((List.getD l2 (i + k) 0) + ((List.getD x i 0) * (List.getD y k 0))) + c) (b := 65536) (by omega))) kr ?_
      refine s_val (some 7) (.int .i64 (((((List.getD l2 (i + k) 0) + ((List.getD x i 0) * (List.getD y k 0))) + c) / 65536 : Nat) : Int)) (fun w => kr) kr ?_
      refine s_nil ?_
      show WP _ _ _ _ _ _
      refine g_reg0 [0, 1, 2] kr ?_
      refine s_val (some 30) (.int .i64 ((k : Nat) : Int)) (fun w => kr) kr ?_
      refine s_valE (some 31) (.int .i64 (IntKind.i64.wrap (((k : Nat) : Int) + 1))) (.int .i64 ((k + 1 : Nat) : Int)) (fun w => kr) (int_eq (wrapAdd_i64 (a := k) (b := 1) (by omega))) kr ?_
      refine s_val (some 8) (.int .i64 ((k + 1 : Nat) : Int)) (fun w => kr) kr ?_
      refine s_nil ?_
      show ∃ m, _ ∧ _
      exact ⟨_, (by have := hM2.top; omega), b2, cap2, n2, cur_4, (List.set l2 (i + k) ((((List.getD l2 (i + k) 0) + ((List.getD x i 0) * (List.getD y k 0))) + c) % 65536)), k + 1, (List.getD l2 (i + k) 0 + List.getD x i 0 * List.getD y k 0 + c) / 65536, rfl, (by rw [List.length_set]; exact hn2), hr_7, hM2, H5, (Is.of ⟨kr, kr, kr, kr, kr, kr, kr, kr, kr, kr, trivial⟩)⟩
    · skip
      refine s_valE (some 25) (.bool (decide (((k : Nat) : Int) < ((List.length y : Nat) : Int)))) (.bool false) (fun w => kr) (bool_eq (decide_eq_false (by omega))) kr ?_
      refine s_val (some 26) (.bool false) (fun w => kr) kr ?_
      refine s_val (some 27) (.int .i64 ((c : Nat) : Int)) (fun w => kr) kr ?_
      by_cases hc3 : (c : Nat) > 0
      · skip
        refine s_valE (some 28) (.bool (decide (0 < ((c : Nat) : Int)))) (.bool true) (fun w => kr) (bool_eq (decide_eq_true (by omega))) kr ?_
        refine s_val (some 29) (.bool true) (fun w => kr) kr ?_
        refine s_nil ?_
        refine g_cond_t kr kr ?_
        refine g_skip kr ?_
        show WP _ _ _ _ _ _
        refine g_seq kr ?_
        refine g_block 3 kr ?_
        obtain ⟨hij, hM2⟩ := hM.next hx hy (by omega)
        refine D2.g_sdraw [0, 1, 2, 3, 4, 5, 6, 7, 8, 9, 10, 11, 12, 13, 14, 15, 16, 17] [((some 32), fun _ => .slice (some ⟨b2, 0, none⟩) n2 cap2), ((some 33), fun _ => .int .i64 ((i : Nat) : Int)), ((some 34), fun _ => .int .i64 ((k : Nat) : Int)), ((some 35), fun _ => .int .i64 ((i + k : Nat) : Int)), ((some 36), fun _ => .pointer (some ⟨b2, 0 + (i + k) * 1, none⟩)), ((some 37), fun _ => .int .i64 ((List.getD l2 (i + k) 0 : Nat) : Int)), ((some 38), fun _ => .slice (some ⟨ba, 0, none⟩) (List.length x) ca), ((some 39), fun _ => .int .i64 ((i : Nat) : Int)), ((some 40), fun _ => .pointer (some ⟨ba, 0 + i * 1, none⟩)), ((some 41), fun _ => .int .i64 ((List.getD x i 0 : Nat) : Int)), ((some 42), fun _ => .slice (some ⟨bb, 0, none⟩) (List.length y) cb), ((some 43), fun _ => .int .i64 ((k : Nat) : Int)), ((some 44), fun _ => .int .i64 ((List.getD y k 0 : Nat) : Int)), ((some 45), fun _ => .int .i64 (((List.getD x i 0) * (List.getD y k 0) : Nat) : Int)), ((some 46), fun _ => .int .i64 (((List.getD l2 (i + k) 0) + ((List.getD x i 0) * (List.getD y k 0)) : Nat) : Int)), ((some 47), fun _ => .int .i64 ((c : Nat) : Int)), ((some 48), fun _ => .int .i64 ((((List.getD l2 (i + k) 0) + ((List.getD x i 0) * (List.getD y k 0))) + c : Nat) : Int)), ((some 9), fun _ => .int .i64 ((((List.getD l2 (i + k) 0) + ((List.getD x i 0) * (List.getD y k 0))) + c : Nat) : Int))] (D2.Pre w.heap.size w (fun L g => [(true, (b2, Od cur2 3))]) (fun L g => True)) kr kr kr kr ⟨D2.StE.of H3.drew _ kr, trivial⟩ ⟨?_, ?_, ?_, ?_, ?_, ?_, ?_, ?_, ?_, ?_, ?_, ?_, ?_, ?_, ?_, ?_, ?_, ?_, trivial⟩ ?_
        · exact D2.gv_val (fun _ _ _ h => h) (fun g w => kr)
        · exact D2.gv_val (fun _ _ _ h => h) (fun g w => kr)
        · exact D2.gv_val (fun _ _ _ h => h) (fun g w => kr)
        · exact D2.gv_valE (fun _ _ _ h => h) (V' := .int .i64 (IntKind.i64.wrap (((i : Nat) : Int) + ((k : Nat) : Int)))) (fun g w => kr) (int_eq (wrapAdd_i64 (a := i) (b := k) (by omega)))
        · exact D2.gv_op (fun _ _ _ h => h) _ (fun g => kr) (fun g => (fun o w ho => idxS_run (kd := .i64) (t := 67) (e := 3) (size := 1) (bytes := 8) kr (x := (.tmp 32)) (y := (.tmp 35)) b2 0 n2 cap2 (i + k) ho kr kr (by omega) w))
        · exact D2.gv_load1 3 (.tmp 36) 0 (fun g => b2) (fun g => 0 + (i + k) * 1) (fun g => cur2) 3 (0, 0) (fun _ _ _ h => h) (fun g => kr) (fun g => kr) (fun L g hN => kr) kr (fun L g hN hF => by exact (hr2.atD (by omega) hn2))
        · exact D2.gv_val (fun _ _ _ h => h) (fun g w => kr)
        · exact D2.gv_val (fun _ _ _ h => h) (fun g w => kr)
        · exact D2.gv_op (fun _ _ _ h => h) _ (fun g => kr) (fun g => (fun o w ho => idxS_run (kd := .i64) (t := 68) (e := 3) (size := 1) (bytes := 8) kr (x := (.tmp 38)) (y := (.tmp 39)) ba 0 (List.length x) ca i ho kr kr (by omega) w))
        · exact D2.gv_load1F 3 (.tmp 40) ba (0 + i * 1) curA 3 (0, 0) (fun _ _ _ h => h) (fun g => kr) (fun g => kr) hpre.1 (lt_of_heap hpre.1) kr (hA.atD (by omega) rfl)
        · exact D2.gv_val (fun _ _ _ h => h) (fun g w => kr)
        · exact D2.gv_val (fun _ _ _ h => h) (fun g w => kr)
        · exact D2.gv_callP 63 (fun g => #[.slice (some ⟨bb, 0, none⟩) (List.length y) cb, .int .i64 ((k : Nat) : Int)]) (fun g => fun w => w.heap[bb]? = some (.cells curB 3 (0, 0))) (fun _ _ _ h => h) (fun L g hN hF => by exact digit_fn y bb (List.length y) cb curB rfl hB (by omega) k (by omega)) (fun L g w hN hE hF => by exact (hE.old hpre.2 (lt_of_heap hpre.2))) (fun g w => kr)
        · exact D2.gv_valE (fun _ _ _ h => h) (V' := .int .i64 (IntKind.i64.wrap (((List.getD x i 0 : Nat) : Int) * ((List.getD y k 0 : Nat) : Int)))) (fun g w => kr) (int_eq (wrapMul_i64 (a := List.getD x i 0) (b := List.getD y k 0) (by omega)))
        · exact D2.gv_valE (fun _ _ _ h => h) (V' := .int .i64 (IntKind.i64.wrap (((List.getD l2 (i + k) 0 : Nat) : Int) + (((List.getD x i 0) * (List.getD y k 0) : Nat) : Int)))) (fun g w => kr) (int_eq (wrapAdd_i64 (a := List.getD l2 (i + k) 0) (b := (List.getD x i 0) * (List.getD y k 0)) (by omega)))
        · exact D2.gv_val (fun _ _ _ h => h) (fun g w => kr)
        · exact D2.gv_valE (fun _ _ _ h => h) (V' := .int .i64 (IntKind.i64.wrap ((((List.getD l2 (i + k) 0) + ((List.getD x i 0) * (List.getD y k 0)) : Nat) : Int) + ((c : Nat) : Int)))) (fun g w => kr) (int_eq (wrapAdd_i64 (a := (List.getD l2 (i + k) 0) + ((List.getD x i 0) * (List.getD y k 0))) (b := c) (by omega)))
        · exact D2.gv_val (fun _ _ _ h => h) (fun g w => kr)
        intro L0 G6 w6 hall HL; clear H3
        have H6 : St w.heap.size w w6 [(b2, Od cur2 3)] := D2.StE.st HL.1
        clear HL hall
        refine g_sreg [0, 1, 2, 3, 4, 5, 6, 7] kr kr ?_
        refine s_val (some 49) (.slice (some ⟨b2, 0, none⟩) n2 cap2) (fun w => kr) kr ?_
        refine s_val (some 50) (.int .i64 ((i : Nat) : Int)) (fun w => kr) kr ?_
        refine s_val (some 51) (.int .i64 ((k : Nat) : Int)) (fun w => kr) kr ?_
        refine s_valE (some 52) (.int .i64 (IntKind.i64.wrap (((i : Nat) : Int) + ((k : Nat) : Int)))) (.int .i64 ((i + k : Nat) : Int)) (fun w => kr) (int_eq (wrapAdd_i64 (a := i) (b := k) (by omega))) kr ?_
        refine s_val (some 53) (.int .i64 ((((List.getD l2 (i + k) 0) + ((List.getD x i 0) * (List.getD y k 0))) + c : Nat) : Int)) (fun w => kr) kr ?_
        refine s_valE (some 54) (.int .i64 (Int.tmod ((((List.getD l2 (i + k) 0) + ((List.getD x i 0) * (List.getD y k 0))) + c : Nat) : Int) 65536)) (.int .i64 (((((List.getD l2 (i + k) 0) + ((List.getD x i 0) * (List.getD y k 0))) + c) % 65536 : Nat) : Int)) (fun w => kr) (int_eq (remN (((List.getD l2 (i + k) 0) + ((List.getD x i 0) * (List.getD y k 0))) + c) 65536)) kr ?_
        refine s_op (some 55) _ (.pointer (some ⟨b2, 0 + (i + k) * 1, none⟩)) kr kr (fun o w ho => idxS_run (kd := .i64) (t := 67) (e := 3) (size := 1) (bytes := 8) kr (x := (.tmp 49)) (y := (.tmp 52)) b2 0 n2 cap2 (i + k) ho kr kr (by omega) w) ?_
        obtain ⟨cur_8, hc_9, hs_10, hr_11⟩ := hr2.put (i + k) ((((List.getD l2 (i + k) 0) + ((List.getD x i 0) * (List.getD y k 0))) + c) % 65536) (by omega)
        refine s_store H6 0 [(b2, Od cur_8 3)] 3 (.tmp 55) (.tmp 54) b2 (0 + (i + k) * 1) cur2 cur_8 3 (.int .i64 (((((List.getD l2 (i + k) 0) + ((List.getD x i 0) * (List.getD y k 0))) + c) % 65536 : Nat) : Int)) kr kr kr kr kr kr hs_10 hc_9 kr ?_
        intro w7 H7; clear H6
        refine s_nil ?_
        refine g_reg0 [0, 1, 2] kr ?_
        refine s_val (some 56) (.int .i64 ((((List.getD l2 (i + k) 0) + ((List.getD x i 0) * (List.getD y k 0))) + c : Nat) : Int)) (fun w => kr) kr ?_
        refine s_valE (some 57) (.int .i64 (IntKind.i64.wrap (((((List.getD l2 (i + k) 0) + ((List.getD x i 0) * (List.getD y k 0))) + c : Nat) : Int).tdiv 65536))) (.int .i64 (((((List.getD l2 (i + k) 0) + ((List.getD x i 0) * (List.getD y k 0))) + c) / 65536 : Nat) : Int)) (fun w => kr) (int_eq (quoN_i64 (a := ((List.getD l2 (i + k) 0) + ((List.getD x i 0) * (List.getD y k 0))) + c) (b := 65536) (by omega))) kr ?_
        refine s_val (some 7) (.int .i64 (((((List.getD l2 (i + k) 0) + ((List.getD x i 0) * (List.getD y k 0))) + c) / 65536 : Nat) : Int)) (fun w => kr) kr ?_
        refine s_nil ?_
        show WP _ _ _ _ _ _
        refine g_reg0 [0, 1, 2] kr ?_
        refine s_val (some 30) (.int .i64 ((k : Nat) : Int)) (fun w => kr) kr ?_
        refine s_valE (some 31) (.int .i64 (IntKind.i64.wrap (((k : Nat) : Int) + 1))) (.int .i64 ((k + 1 : Nat) : Int)) (fun w => kr) (int_eq (wrapAdd_i64 (a := k) (b := 1) (by omega))) kr ?_
        refine s_val (some 8) (.int .i64 ((k + 1 : Nat) : Int)) (fun w => kr) kr ?_
        refine s_nil ?_
        show ∃ m, _ ∧ _
        exact ⟨_, (by have := hM2.top; omega), b2, cap2, n2, cur_8, (List.set l2 (i + k) ((((List.getD l2 (i + k) 0) + ((List.getD x i 0) * (List.getD y k 0))) + c) % 65536)), k + 1, (List.getD l2 (i + k) 0 + List.getD x i 0 * List.getD y k 0 + c) / 65536, rfl, (by rw [List.length_set]; exact hn2), hr_11, hM2, H7, (Is.of ⟨kr, kr, kr, kr, kr, kr, kr, kr, kr, kr, trivial⟩)⟩
      · skip
        refine s_valE (some 28) (.bool (decide (0 < ((c : Nat) : Int)))) (.bool false) (fun w => kr) (bool_eq (decide_eq_false (by omega))) kr ?_
        refine s_val (some 29) (.bool false) (fun w => kr) kr ?_
        refine s_nil ?_
        refine g_cond_f kr kr ?_
        refine g_exit 2 kr ?_
        show WP _ _ _ _ _ _
        refine g_reg0 [0, 1] kr ?_
        refine s_valE (some 58) (.int .i64 (IntKind.i64.wrap (((i : Nat) : Int) + 1))) (.int .i64 ((i + 1 : Nat) : Int)) (fun w => kr) (int_eq (wrapAdd_i64 (a := i) (b := 1) (by omega))) kr ?_
        refine s_val (some 19) (.int .i64 ((i + 1 : Nat) : Int)) (fun w => kr) kr ?_
        refine s_nil ?_
        show ∃ m, _ ∧ _
        exact ⟨_, (by omega), b2, cap2, n2, cur2, l2, i + 1, rfl, hn2, hr2, (by omega), hM.len, hM.ok, (hM.fin (by omega) (by omega)), H3, (Is.of ⟨kr, kr, kr, kr, kr, kr, trivial⟩)⟩
  · skip
    refine s_valE (some 20) (.bool (decide (((i : Nat) : Int) < ((List.length x : Nat) : Int)))) (.bool false) (fun w => kr) (bool_eq (decide_eq_false (by omega))) kr ?_
    refine s_nil ?_
    refine g_seq kr ?_
    refine g_cond_f kr kr ?_
    refine g_exit 0 kr ?_
    show WP _ _ _ _ _ _
    refine g_sreg [0, 1] kr kr ?_
    refine s_val (some 59) (.slice (some ⟨b, 0, none⟩) n cap) (fun w => kr) kr ?_
    refine s_val (some 4) (.slice (some ⟨b, 0, none⟩) n cap) (fun w => kr) kr ?_
    refine s_nil ?_
    refine g_ret kr ?_
    show ∃ vs, Res _ _ _ _ vs ∧ _
    refine ⟨[.slice (some ⟨b, 0, none⟩) n cap], (.tmp (.slice (some ⟨b, 0, none⟩) n cap) kr .nil), H2.below, ?_⟩
    obtain rfl : i = List.length x := by omega
    exact ⟨b, cap, _, _, l, rfl, H2.ge 0 (o := .cells cur 3 (0, 0)) kr, H2.get 0 kr, hn, hr, hok, by rw [hv, List.take_of_length_le (Nat.le_refl _)], hl⟩
end Go.Proofs.Ytljhbhhpfkmemaa
