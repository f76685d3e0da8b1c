/-
  Package point: sums of shares.
-/
import Derived.Test.YtljhbhhpfkmemaaPtV
import Derived.Test.YtljhbhhpfkmemaaPtS
namespace Go.Proofs.Ytljhbhhpfkmemaa
open Go Go.RowKit
set_option linter.unusedVariables false
set_option maxRecDepth 100000 in
set_option maxHeartbeats 2000000 in
theorem at_fn (n : Nat) (p : Ec.Wp) (hp : p.Ok) (hn : n < big) (bs d : Nat) (hd : d < 64) : FnP Try.prog 59 #[.pointer (some ⟨bs, 0, none⟩), .int .i64 ((d : Nat) : Int)] (fun w => w.heap[bs]? = some (.cells (Value.cells (shv n p 15)) 80 (0, 0))) (wv (Ec.mults p (n / 16 ^ d % 16))) := by
  have hl : shw n (d * 4 / 64) < 18446744073709551616 := Nat.mod_lt _ (by decide)
  refine FnP.intro (c := codeOf Try.f59) [.cell 4 51] 26 Try.func59 kr kr kr fun w hpre => ?_
  have H0 := St.start w
  refine g_sreg [0] kr kr ?_
  refine s_alloc H0 (some 4) 51 (.agg Z13) kr kr kr ?_
  intro b1 w1 H1; clear H0
  refine s_nil ?_
  refine g_sreg [0, 1, 2] kr kr ?_
  refine s_val (some 7) (.int .i64 ((d : Nat) : Int)) (fun w => kr) kr ?_
  refine s_valE (some 8) (.int .i64 (IntKind.i64.wrap (((d : Nat) : Int) * 4))) (.int .i64 ((d * 4 : Nat) : Int)) (fun w => kr) (int_eq (wrapMul_i64 (a := d) (b := 4) (by omega))) kr ?_
  refine s_val (some 5) (.int .i64 ((d * 4 : Nat) : Int)) (fun w => kr) kr ?_
  refine s_nil ?_
  refine g_sreg [0, 1, 2, 3, 4, 5, 6, 7, 8, 9, 10] kr kr ?_
  refine s_val (some 9) (.pointer (some ⟨bs, 0, none⟩)) (fun w => kr) kr ?_
  refine s_val (some 10) (.int .i64 ((d * 4 : Nat) : Int)) (fun w => kr) kr ?_
  refine s_valE (some 11) (.int .i64 (IntKind.i64.wrap (((d * 4 : Nat) : Int).tdiv 64))) (.int .i64 (((d * 4) / 64 : Nat) : Int)) (fun w => kr) (int_eq (quoN_i64 (a := d * 4) (b := 64) (by omega))) kr ?_
  refine s_val (some 12) (.pointer (some ⟨bs, 0, none⟩)) (fun w => kr) kr ?_
  refine s_val (some 13) (.pointer (some ⟨bs, 0, none⟩)) (fun w => kr) kr ?_
  refine s_op (some 14) _ (.pointer (some ⟨bs, 0 + ((d * 4) / 64) * 1, none⟩)) kr kr (fun o w ho => idxA_run (kd := .i64) (t := 24) (n := 4) (size := 1) kr (x := (.tmp 13)) (y := (.tmp 11)) bs 0 ((d * 4) / 64) ho kr kr (by omega) w) ?_
  refine s_load1F H1 (some 15) 22 (.tmp 14) bs (0 + ((d * 4) / 64) * 1) (Value.cells (shv n p 15)) 80 (0, 0) (.int .u64 ((shw n ((d * 4) / 64) : Nat) : Int)) kr kr kr hpre (lt_of_heap hpre) kr (shw_at n p (q := ((d * 4) / 64)) (by omega) (by omega)) ?_
  refine s_val (some 16) (.int .i64 ((d * 4 : Nat) : Int)) (fun w => kr) kr ?_
  refine s_valE (some 17) (.int .i64 (Int.tmod ((d * 4 : Nat) : Int) 64)) (.int .i64 (((d * 4) % 64 : Nat) : Int)) (fun w => kr) (int_eq (remN (d * 4) 64)) kr ?_
  refine s_valE (some 18) (.int .u64 (Int.fdiv ((shw n ((d * 4) / 64) : Nat) : Int) (2 ^ (min ((d * 4) % 64) 64)))) (.int .u64 (((shw n ((d * 4) / 64)) / 2 ^ ((d * 4) % 64) : Nat) : Int)) (fun w => kr) (int_eq (shr_min (shw n ((d * 4) / 64)) ((d * 4) % 64) 64 (by omega))) kr ?_
  refine s_val (some 6) (.int .u64 (((shw n ((d * 4) / 64)) / 2 ^ ((d * 4) % 64) : Nat) : Int)) (fun w => kr) kr ?_
  refine s_nil ?_
  refine g_sreg [0, 1, 2, 3, 4, 5, 6, 7] kr kr ?_
  refine s_val (some 19) (.pointer (some ⟨bs, 0, none⟩)) (fun w => kr) kr ?_
  refine s_val (some 20) (.int .u64 (((shw n ((d * 4) / 64)) / 2 ^ ((d * 4) % 64) : Nat) : Int)) (fun w => kr) kr ?_
  refine s_valE (some 21) (.int .u64 (Int.tmod (((shw n ((d * 4) / 64)) / 2 ^ ((d * 4) % 64) : Nat) : Int) 16)) (.int .u64 ((((shw n ((d * 4) / 64)) / 2 ^ ((d * 4) % 64)) % 16 : Nat) : Int)) (fun w => kr) (int_eq (remN ((shw n ((d * 4) / 64)) / 2 ^ ((d * 4) % 64)) 16)) kr ?_
  refine s_val (some 22) (.pointer (some ⟨bs, 0, none⟩)) (fun w => kr) kr ?_
  refine s_val (some 23) (.pointer (some ⟨bs, 4, none⟩)) (fun w => kr) kr ?_
  refine s_op (some 24) _ (.pointer (some ⟨bs, 4 + (((shw n ((d * 4) / 64)) / 2 ^ ((d * 4) % 64)) % 16) * 13, none⟩)) kr kr (fun o w ho => idxA_run (kd := .u64) (t := 78) (n := 16) (size := 13) kr (x := (.tmp 23)) (y := (.tmp 21)) bs 4 (((shw n ((d * 4) / 64)) / 2 ^ ((d * 4) % 64)) % 16) ho kr kr (by omega) w) ?_
  refine s_loadpF H1 (some 25) 51 (.tmp 24) bs (4 + (((shw n ((d * 4) / 64)) / 2 ^ ((d * 4) % 64)) % 16) * 13) 13 (Value.cells (shv n p 15)) (Value.cells (wv (Ec.mults p (n / 16 ^ d % 16)))) 80 (0, 0) kr kr kr hpre (lt_of_heap hpre) kr (by rw [sh_size]; omega) ((shm_at n p (q := shw n (d * 4 / 64) / 2 ^ (d * 4 % 64) % 16) rfl (Nat.mod_lt _ (by decide))).trans (by rw [dig_bits])) ?_
  refine s_store H1 0 [(b1, Oc (wv (Ec.mults p (n / 16 ^ d % 16))) 51)] 51 (.tmp 4) (.tmp 25) b1 (0) Z13 (Value.cells (wv (Ec.mults p (n / 16 ^ d % 16)))) 51 (wv (Ec.mults p (n / 16 ^ d % 16))) kr kr kr kr kr kr (of_decide_eq_true kr) kr kr ?_
  intro w2 H2; clear H1
  refine s_nil ?_
  refine g_ret kr ?_
  show ∃ vs, Res _ _ _ _ vs ∧ _
  refine ⟨[wv (Ec.mults p (n / 16 ^ d % 16))], (.agg (b := b1) (Value.cells (wv (Ec.mults p (n / 16 ^ d % 16)))) 51 (0, 0) kr (H2.get 0 kr) kr .nil), ?_, H2.below⟩
  rfl

set_option maxRecDepth 100000 in
set_option maxHeartbeats 2000000 in
theorem together1_fn (n : Nat) (p : Ec.Wp) (hp : p.Ok) (hn : n < big) (ba sa : Nat) : FnP Try.prog 40 #[.slice (some ⟨ba, 0, none⟩) 1 1] (fun w => w.heap[ba]? = some (.cells #[Value.pointer (some ⟨sa, 0, none⟩)] 58 (0, 0)) ∧ w.heap[sa]? = some (.cells (Value.cells (shv n p 15)) 80 (0, 0))) (wv (Ec.tog n p 64)) := by
  refine FnP.intro (c := codeOf Try.f40) [.cell 2 51] 30 Try.func40 kr kr kr fun w hpre => ?_
  have H0 := St.start w
  refine g_sreg [0] kr kr ?_
  refine s_alloc H0 (some 2) 51 (.agg Z13) kr kr kr ?_
  intro b1 w1 H1; clear H0
  refine s_nil ?_
  refine g_sreg [0, 1, 2] kr kr ?_
  refine s_call H1 (some 7) 29 #[] (wv Ec.zeroW) pzero_fn (fun w => kr) kr ?_
  intro w2 H2; clear H1
  refine s_alloc H2 (some 3) 51 (.agg Z13) kr kr kr ?_
  intro b2 w3 H3; clear H2
  refine s_store H3 0 [(b2, Oc (wv Ec.zeroW) 51), (b1, Od Z13 51)] 51 (.tmp 3) (.tmp 7) b2 (0) Z13 (Value.cells (wv Ec.zeroW)) 51 (wv Ec.zeroW) kr kr kr kr kr kr (of_decide_eq_true kr) kr kr ?_
  intro w4 H4; clear H3
  refine s_nil ?_
  refine g_seq kr ?_
  refine g_sreg [0] kr kr ?_
  refine s_val (some 4) (.int .i64 63) (fun w => kr) kr ?_
  refine s_nil ?_
  refine g_block 0 kr ?_
  rw [show Ec.zeroW = Ec.tog n p (64 - 64) from rfl] at H4
  refine g_loop kr (fun mz ρ ww => ∃ (j : Nat), j = mz ∧ (j ≤ 64) ∧ St w.heap.size w ww [(b2, Oc (wv (Ec.tog n p (64 - j))) 51), (b1, Od Z13 51)] ∧ Is [(0, .slice (some ⟨ba, 0, none⟩) 1 1), (2, .pointer (some ⟨b1, 0, none⟩)), (3, .pointer (some ⟨b2, 0, none⟩)), (4, .int .i64 (((j : Nat) : Int) - 1))] ρ) 64 ⟨64, rfl, (by omega), H4, (Is.of ⟨kr, kr, kr, kr, trivial⟩)⟩ ?_
  clear H4
  rintro _ _ w5 ⟨j, rfl, hj, H5, _, rfl⟩
  refine g_seq kr ?_
  refine g_sreg [0, 1] kr kr ?_
  refine s_val (some 8) (.int .i64 (((j : Nat) : Int) - 1)) (fun w => kr) kr ?_
  by_cases hc1 : (((j : Nat) : Int) - 1 : Int) ≥ 0
  · skip
    refine s_valE (some 9) (.bool (decide (0 ≤ ((j : Nat) : Int) - 1))) (.bool true) (fun w => kr) (bool_eq (decide_eq_true (by omega))) kr ?_
    refine s_nil ?_
    refine g_cond_t kr kr ?_
    refine g_skip kr ?_
    show WP _ _ _ _ _ _
    refine g_seq kr ?_
    refine g_block 1 kr ?_
    refine g_seq kr ?_
    refine g_sreg [0] kr kr ?_
    rw [show (((j : Nat) : Int) - 1) = ((j - 1 : Nat) : Int) from by omega]
    refine s_val (some 12) (.int .i64 0) (fun w => kr) kr ?_
    refine s_nil ?_
    refine g_block 2 kr ?_
    refine g_first kr ?_
    refine g_sreg [0] kr kr ?_
    refine s_val (some 13) (.bool true) (fun w => kr) kr ?_
    refine s_nil ?_
    refine g_seq kr ?_
    refine g_cond_t kr kr ?_
    refine g_skip kr ?_
    show WP _ _ _ _ _ _
    refine g_seq kr ?_
    refine g_block 3 kr ?_
    refine g_reg0 [0, 1, 2] kr ?_
    refine s_load H5 (some 14) 51 (.tmp 3) 0 b2 (Value.cells (wv (Ec.tog n p (64 - j)))) 51 (0, 0) kr kr kr kr kr ?_
    refine s_call H5 (some 15) 56 #[wv (Ec.tog n p (64 - j))] (wv (Ec.dblW (Ec.tog n p (64 - j)))) (dbl_fn (Ec.tog n p (64 - j)) (Ec.tog_ok hp _)) (fun w => kr) kr ?_
    intro w6 H6; clear H5
    refine s_store H6 0 [(b2, Oc (wv (Ec.dblW (Ec.tog n p (64 - j)))) 51), (b1, Od Z13 51)] 51 (.tmp 3) (.tmp 15) b2 (0) (Value.cells (wv (Ec.tog n p (64 - j)))) (Value.cells (wv (Ec.dblW (Ec.tog n p (64 - j))))) 51 (wv (Ec.dblW (Ec.tog n p (64 - j)))) kr kr kr kr kr kr (of_decide_eq_true kr) kr kr ?_
    intro w7 H7; clear H6
    refine s_nil ?_
    show WP _ _ _ _ _ _
    refine g_reg0 [0, 1] kr ?_
    refine s_val (some 16) (.int .i64 1) (fun w => kr) kr ?_
    refine s_val (some 12) (.int .i64 1) (fun w => kr) kr ?_
    refine s_nil ?_
    show WPL _ _ _ _ _ _
    refine g_next ?_
    refine g_sreg [0] kr kr ?_
    refine s_val (some 13) (.bool true) (fun w => kr) kr ?_
    refine s_nil ?_
    refine g_seq kr ?_
    refine g_cond_t kr kr ?_
    refine g_skip kr ?_
    show WP _ _ _ _ _ _
    refine g_seq kr ?_
    refine g_block 3 kr ?_
    refine g_reg0 [0, 1, 2] kr ?_
    refine s_load H7 (some 14) 51 (.tmp 3) 0 b2 (Value.cells (wv (Ec.dblW (Ec.tog n p (64 - j))))) 51 (0, 0) kr kr kr kr kr ?_
    refine s_call H7 (some 15) 56 #[wv (Ec.dblW (Ec.tog n p (64 - j)))] (wv (Ec.dblW (Ec.dblW (Ec.tog n p (64 - j))))) (dbl_fn (Ec.dblW (Ec.tog n p (64 - j))) (Ec.dblW_ok (Ec.tog_ok hp _))) (fun w => kr) kr ?_
    intro w8 H8; clear H7
    refine s_store H8 0 [(b2, Oc (wv (Ec.dblW (Ec.dblW (Ec.tog n p (64 - j))))) 51), (b1, Od Z13 51)] 51 (.tmp 3) (.tmp 15) b2 (0) (Value.cells (wv (Ec.dblW (Ec.tog n p (64 - j))))) (Value.cells (wv (Ec.dblW (Ec.dblW (Ec.tog n p (64 - j)))))) 51 (wv (Ec.dblW (Ec.dblW (Ec.tog n p (64 - j))))) kr kr kr kr kr kr (of_decide_eq_true kr) kr kr ?_
    intro w9 H9; clear H8
    refine s_nil ?_
    show WP _ _ _ _ _ _
    refine g_reg0 [0, 1] kr ?_
    refine s_val (some 16) (.int .i64 2) (fun w => kr) kr ?_
    refine s_val (some 12) (.int .i64 2) (fun w => kr) kr ?_
    refine s_nil ?_
    show WPL _ _ _ _ _ _
    refine g_next ?_
    refine g_sreg [0] kr kr ?_
    refine s_val (some 13) (.bool true) (fun w => kr) kr ?_
    refine s_nil ?_
    refine g_seq kr ?_
    refine g_cond_t kr kr ?_
    refine g_skip kr ?_
    show WP _ _ _ _ _ _
    refine g_seq kr ?_
    refine g_block 3 kr ?_
    refine g_reg0 [0, 1, 2] kr ?_
    refine s_load H9 (some 14) 51 (.tmp 3) 0 b2 (Value.cells (wv (Ec.dblW (Ec.dblW (Ec.tog n p (64 - j)))))) 51 (0, 0) kr kr kr kr kr ?_
    refine s_call H9 (some 15) 56 #[wv (Ec.dblW (Ec.dblW (Ec.tog n p (64 - j))))] (wv (Ec.dblW (Ec.dblW (Ec.dblW (Ec.tog n p (64 - j)))))) (dbl_fn (Ec.dblW (Ec.dblW (Ec.tog n p (64 - j)))) (Ec.dblW_ok (Ec.dblW_ok (Ec.tog_ok hp _)))) (fun w => kr) kr ?_
    intro w10 H10; clear H9
    refine s_store H10 0 [(b2, Oc (wv (Ec.dblW (Ec.dblW (Ec.dblW (Ec.tog n p (64 - j)))))) 51), (b1, Od Z13 51)] 51 (.tmp 3) (.tmp 15) b2 (0) (Value.cells (wv (Ec.dblW (Ec.dblW (Ec.tog n p (64 - j)))))) (Value.cells (wv (Ec.dblW (Ec.dblW (Ec.dblW (Ec.tog n p (64 - j))))))) 51 (wv (Ec.dblW (Ec.dblW (Ec.dblW (Ec.tog n p (64 - j)))))) kr kr kr kr kr kr (of_decide_eq_true kr) kr kr ?_
    intro w11 H11; clear H10
    refine s_nil ?_
    show WP _ _ _ _ _ _
    refine g_reg0 [0, 1] kr ?_
    refine s_val (some 16) (.int .i64 3) (fun w => kr) kr ?_
    refine s_val (some 12) (.int .i64 3) (fun w => kr) kr ?_
    refine s_nil ?_
    show WPL _ _ _ _ _ _
    refine g_next ?_
    refine g_sreg [0] kr kr ?_
    refine s_val (some 13) (.bool true) (fun w => kr) kr ?_
    refine s_nil ?_
    refine g_seq kr ?_
    refine g_cond_t kr kr ?_
    refine g_skip kr ?_
    show WP _ _ _ _ _ _
    refine g_seq kr ?_
    refine g_block 3 kr ?_
    refine g_reg0 [0, 1, 2] kr ?_
    refine s_load H11 (some 14) 51 (.tmp 3) 0 b2 (Value.cells (wv (Ec.dblW (Ec.dblW (Ec.dblW (Ec.tog n p (64 - j))))))) 51 (0, 0) kr kr kr kr kr ?_
    refine s_call H11 (some 15) 56 #[wv (Ec.dblW (Ec.dblW (Ec.dblW (Ec.tog n p (64 - j)))))] (wv (Ec.dblW (Ec.dblW (Ec.dblW (Ec.dblW (Ec.tog n p (64 - j))))))) (dbl_fn (Ec.dblW (Ec.dblW (Ec.dblW (Ec.tog n p (64 - j))))) (Ec.dblW_ok (Ec.dblW_ok (Ec.dblW_ok (Ec.tog_ok hp _))))) (fun w => kr) kr ?_
    intro w12 H12; clear H11
    refine s_store H12 0 [(b2, Oc (wv (Ec.dblW (Ec.dblW (Ec.dblW (Ec.dblW (Ec.tog n p (64 - j))))))) 51), (b1, Od Z13 51)] 51 (.tmp 3) (.tmp 15) b2 (0) (Value.cells (wv (Ec.dblW (Ec.dblW (Ec.dblW (Ec.tog n p (64 - j))))))) (Value.cells (wv (Ec.dblW (Ec.dblW (Ec.dblW (Ec.dblW (Ec.tog n p (64 - j)))))))) 51 (wv (Ec.dblW (Ec.dblW (Ec.dblW (Ec.dblW (Ec.tog n p (64 - j))))))) kr kr kr kr kr kr (of_decide_eq_true kr) kr kr ?_
    intro w13 H13; clear H12
    refine s_nil ?_
    show WP _ _ _ _ _ _
    refine g_reg0 [0, 1] kr ?_
    refine s_val (some 16) (.int .i64 4) (fun w => kr) kr ?_
    refine s_val (some 12) (.int .i64 4) (fun w => kr) kr ?_
    refine s_nil ?_
    show WPL _ _ _ _ _ _
    refine g_next ?_
    refine g_sreg [0] kr kr ?_
    refine s_val (some 13) (.bool false) (fun w => kr) kr ?_
    refine s_nil ?_
    refine g_seq kr ?_
    refine g_cond_f kr kr ?_
    refine g_exit 2 kr ?_
    show WP _ _ _ _ _ _
    refine g_sreg [0, 1, 2] kr kr ?_
    refine s_val (some 17) (.slice (some ⟨ba, 0, none⟩) 1 1) (fun w => kr) kr ?_
    refine s_val (some 18) (.int .i64 1) (fun w => kr) kr ?_
    refine s_val (some 19) (.int .i64 0) (fun w => kr) kr ?_
    refine s_nil ?_
    refine g_block 4 kr ?_
    refine g_first kr ?_
    refine g_sreg [0] kr kr ?_
    refine s_val (some 20) (.bool true) (fun w => kr) kr ?_
    refine s_nil ?_
    refine g_seq kr ?_
    refine g_cond_t kr kr ?_
    refine g_skip kr ?_
    show WP _ _ _ _ _ _
    refine g_seq kr ?_
    refine g_block 5 kr ?_
    refine g_sreg [0, 1, 2] kr kr ?_
    refine s_op (some 21) _ (.pointer (some ⟨ba, 0 + 0 * 1, none⟩)) kr kr (fun o w ho => idxS_run (kd := .i64) (t := 76) (e := 58) (size := 1) (bytes := 8) kr (x := (.tmp 17)) (y := (.tmp 19)) ba 0 1 1 0 ho kr kr (by omega) w) ?_
    refine s_load1F H13 (some 22) 58 (.tmp 21) ba (0 + 0 * 1) #[.pointer (some ⟨sa, 0, none⟩)] 58 (0, 0) (.pointer (some ⟨sa, 0, none⟩)) kr kr kr hpre.1 (lt_of_heap hpre.1) kr kr ?_
    refine s_val (some 6) (.pointer (some ⟨sa, 0, none⟩)) (fun w => kr) kr ?_
    refine s_nil ?_
    refine D2.g_draw0 [0, 1, 2, 3, 4, 5] [((some 23), fun _ => wv (Ec.dblW (Ec.dblW (Ec.dblW (Ec.dblW (Ec.tog n p (64 - j))))))), ((some 24), fun _ => .pointer (some ⟨sa, 0, none⟩)), ((some 25), fun _ => .int .i64 ((j - 1 : Nat) : Int)), ((some 26), fun _ => wv (Ec.mults p (n / 16 ^ (j - 1) % 16))), ((some 27), fun _ => wv (Ec.plusW (Ec.dblW (Ec.dblW (Ec.dblW (Ec.dblW (Ec.tog n p (64 - j)))))) (Ec.mults p (n / 16 ^ (j - 1) % 16)))), (none, fun _ => undef)] (D2.Pre w.heap.size w (fun L g => [(true, (bif L 5 then (b2, Oc (wv (Ec.plusW (Ec.dblW (Ec.dblW (Ec.dblW (Ec.dblW (Ec.tog n p (64 - j)))))) (Ec.mults p (n / 16 ^ (j - 1) % 16)))) 51) else (b2, Oc (wv (Ec.dblW (Ec.dblW (Ec.dblW (Ec.dblW (Ec.tog n p (64 - j))))))) 51))), (true, (b1, Od Z13 51))]) (fun L g => True)) kr kr kr ⟨D2.StE.of H13.drew _ kr, trivial⟩ ⟨?_, ?_, ?_, ?_, ?_, ?_, trivial⟩ ?_
    · exact D2.gv_load 51 (.tmp 3) 0 (fun g => b2) (Value.cells (wv (Ec.dblW (Ec.dblW (Ec.dblW (Ec.dblW (Ec.tog n p (64 - j)))))))) 51 (0, 0) (fun _ _ _ h => h) (fun g => kr) (fun g => kr) (fun L g hN => (by have hL5 : L 5 = false := (hN.post 5 kr); exact D2.ent_get' (p := true) (e := (bif L 5 then (b2, Oc (wv (Ec.plusW (Ec.dblW (Ec.dblW (Ec.dblW (Ec.dblW (Ec.tog n p (64 - j)))))) (Ec.mults p (n / 16 ^ (j - 1) % 16)))) 51) else (b2, Oc (wv (Ec.dblW (Ec.dblW (Ec.dblW (Ec.dblW (Ec.tog n p (64 - j))))))) 51))) kr (by rfl) (by simp only [hL5, cond_true, cond_false] <;> rfl))) kr
    · exact D2.gv_val (fun _ _ _ h => h) (fun g w => kr)
    · exact D2.gv_val (fun _ _ _ h => h) (fun g w => kr)
    · exact D2.gv_callP 59 (fun g => #[.pointer (some ⟨sa, 0, none⟩), .int .i64 ((j - 1 : Nat) : Int)]) (fun g => fun w => w.heap[sa]? = some (.cells (Value.cells (shv n p 15)) 80 (0, 0))) (fun _ _ _ h => h) (fun L g hN hF => by exact at_fn n p hp hn sa (j - 1) (by omega)) (fun L g w hN hE hF => by exact (hE.old hpre.2 (lt_of_heap hpre.2))) (fun g w => kr)
    · exact D2.gv_call 36 #[wv (Ec.dblW (Ec.dblW (Ec.dblW (Ec.dblW (Ec.tog n p (64 - j)))))), wv (Ec.mults p (n / 16 ^ (j - 1) % 16))] (fun _ _ _ h => h) (plus_fn (Ec.dblW (Ec.dblW (Ec.dblW (Ec.dblW (Ec.tog n p (64 - j)))))) (Ec.mults p (n / 16 ^ (j - 1) % 16)) (Ec.dblW_ok (Ec.dblW_ok (Ec.dblW_ok (Ec.dblW_ok (Ec.tog_ok hp _))))) (Ec.mults_ok hp _)) (fun g w => kr)
    · exact D2.gv_store 0 51 (.tmp 3) (.tmp 27) (fun g => b2) (fun g => 0) (Value.cells (wv (Ec.dblW (Ec.dblW (Ec.dblW (Ec.dblW (Ec.tog n p (64 - j)))))))) (Value.cells (wv (Ec.plusW (Ec.dblW (Ec.dblW (Ec.dblW (Ec.dblW (Ec.tog n p (64 - j)))))) (Ec.mults p (n / 16 ^ (j - 1) % 16))))) 51 (wv (Ec.plusW (Ec.dblW (Ec.dblW (Ec.dblW (Ec.dblW (Ec.tog n p (64 - j)))))) (Ec.mults p (n / 16 ^ (j - 1) % 16)))) (fun g => kr) (fun g => kr) (fun g => kr) kr kr (fun g => (of_decide_eq_true kr)) (fun g => kr) (fun L g hN => ⟨(by have hL5 : L 5 = false := hN.1; exact D2.ent_get' (p := true) (e := (bif L 5 then (b2, Oc (wv (Ec.plusW (Ec.dblW (Ec.dblW (Ec.dblW (Ec.dblW (Ec.tog n p (64 - j)))))) (Ec.mults p (n / 16 ^ (j - 1) % 16)))) 51) else (b2, Oc (wv (Ec.dblW (Ec.dblW (Ec.dblW (Ec.dblW (Ec.tog n p (64 - j))))))) 51))) kr (by rfl) (by simp only [hL5, cond_true, cond_false] <;> rfl)), kr⟩) (fun L g hN hF => hF)
    intro L0 G14 w14 hall HL; clear H13
    have H14 : St w.heap.size w w14 [(b2, Oc (wv (Ec.plusW (Ec.dblW (Ec.dblW (Ec.dblW (Ec.dblW (Ec.tog n p (64 - j)))))) (Ec.mults p (n / 16 ^ (j - 1) % 16)))) 51), (b1, Od Z13 51)] := by have e5 := hall 5 (Nat.le_of_ble_eq_true kr); have hS := D2.StE.st HL.1; simp only [e5, cond_true, D2.pres] at hS; exact hS
    clear HL hall
    show WP _ _ _ _ _ _
    refine g_reg0 [0, 1] kr ?_
    refine s_val (some 28) (.int .i64 1) (fun w => kr) kr ?_
    refine s_val (some 19) (.int .i64 1) (fun w => kr) kr ?_
    refine s_nil ?_
    show WPL _ _ _ _ _ _
    refine g_next ?_
    refine g_sreg [0] kr kr ?_
    refine s_val (some 20) (.bool false) (fun w => kr) kr ?_
    refine s_nil ?_
    refine g_seq kr ?_
    refine g_cond_f kr kr ?_
    refine g_exit 4 kr ?_
    show WP _ _ _ _ _ _
    refine g_reg0 [0, 1, 2] kr ?_
    refine s_val (some 10) (.int .i64 ((j - 1 : Nat) : Int)) (fun w => kr) kr ?_
    refine s_valE (some 11) (.int .i64 (IntKind.i64.wrap (((j - 1 : Nat) : Int) - 1))) (.int .i64 (((j - 1 : Nat) : Int) - 1)) (fun w => kr) (int_eq (wrap_i64 (by omega) (by omega))) kr ?_
    refine s_val (some 4) (.int .i64 (((j - 1 : Nat) : Int) - 1)) (fun w => kr) kr ?_
    refine s_nil ?_
    rw [show (Ec.plusW (Ec.dblW (Ec.dblW (Ec.dblW (Ec.dblW (Ec.tog n p (64 - j)))))) (Ec.mults p (n / 16 ^ (j - 1) % 16))) = Ec.tog n p (64 - (j - 1)) from tog_next (by omega) hj] at H14
    show ∃ m, _ ∧ _
    exact ⟨_, (by omega), (j - 1), rfl, (by omega), H14, (Is.of ⟨kr, kr, kr, kr, trivial⟩)⟩
  · skip
    refine s_valE (some 9) (.bool (decide (0 ≤ ((j : Nat) : Int) - 1))) (.bool false) (fun w => kr) (bool_eq (decide_eq_false (by omega))) kr ?_
    refine s_nil ?_
    refine g_cond_f kr kr ?_
    refine g_exit 0 kr ?_
    show WP _ _ _ _ _ _
    refine g_sreg [0, 1] kr kr ?_
    refine s_load H5 (some 29) 51 (.tmp 3) 0 b2 (Value.cells (wv (Ec.tog n p (64 - j)))) 51 (0, 0) kr kr kr kr kr ?_
    refine s_store H5 1 [(b2, Oc (wv (Ec.tog n p (64 - j))) 51), (b1, Oc (wv (Ec.tog n p (64 - j))) 51)] 51 (.tmp 2) (.tmp 29) b1 (0) Z13 (Value.cells (wv (Ec.tog n p (64 - j)))) 51 (wv (Ec.tog n p (64 - j))) kr kr kr kr kr kr (of_decide_eq_true kr) kr kr ?_
    intro w15 H15; clear H5
    refine s_nil ?_
    refine g_ret kr ?_
    show ∃ vs, Res _ _ _ _ vs ∧ _
    refine ⟨[wv (Ec.tog n p (64 - j))], (.agg (b := b1) (Value.cells (wv (Ec.tog n p (64 - j)))) 51 (0, 0) kr (H15.get 1 kr) kr .nil), ?_, H15.below⟩
    obtain rfl : j = 0 := by omega
    rfl

set_option maxRecDepth 100000 in
set_option maxHeartbeats 2000000 in
theorem together2_fn (n : Nat) (p : Ec.Wp) (hp : p.Ok) (hn : n < big) (m : Nat) (q : Ec.Wp) (hq : q.Ok) (hm : m < big) (ba sa sb : Nat) : FnP Try.prog 40 #[.slice (some ⟨ba, 0, none⟩) 2 2] (fun w => w.heap[ba]? = some (.cells #[Value.pointer (some ⟨sa, 0, none⟩), Value.pointer (some ⟨sb, 0, none⟩)] 58 (0, 0)) ∧ w.heap[sa]? = some (.cells (Value.cells (shv n p 15)) 80 (0, 0)) ∧ w.heap[sb]? = some (.cells (Value.cells (shv m q 15)) 80 (0, 0))) (wv (Ec.tog2 n p m q 64)) := by
  refine FnP.intro (c := codeOf Try.f40) [.cell 2 51] 30 Try.func40 kr kr kr fun w hpre => ?_
  have H0 := St.start w
  refine g_sreg [0] kr kr ?_
  refine s_alloc H0 (some 2) 51 (.agg Z13) kr kr kr ?_
  intro b1 w1 H1; clear H0
  refine s_nil ?_
  refine g_sreg [0, 1, 2] kr kr ?_
  refine s_call H1 (some 7) 29 #[] (wv Ec.zeroW) pzero_fn (fun w => kr) kr ?_
  intro w2 H2; clear H1
  refine s_alloc H2 (some 3) 51 (.agg Z13) kr kr kr ?_
  intro b2 w3 H3; clear H2
  refine s_store H3 0 [(b2, Oc (wv Ec.zeroW) 51), (b1, Od Z13 51)] 51 (.tmp 3) (.tmp 7) b2 (0) Z13 (Value.cells (wv Ec.zeroW)) 51 (wv Ec.zeroW) kr kr kr kr kr kr (of_decide_eq_true kr) kr kr ?_
  intro w4 H4; clear H3
  refine s_nil ?_
  refine g_seq kr ?_
  refine g_sreg [0] kr kr ?_
  refine s_val (some 4) (.int .i64 63) (fun w => kr) kr ?_
  refine s_nil ?_
  refine g_block 0 kr ?_
  rw [show Ec.zeroW = Ec.tog2 n p m q (64 - 64) from rfl] at H4
  refine g_loop kr (fun mz ρ ww => ∃ (j : Nat), j = mz ∧ (j ≤ 64) ∧ St w.heap.size w ww [(b2, Oc (wv (Ec.tog2 n p m q (64 - j))) 51), (b1, Od Z13 51)] ∧ Is [(0, .slice (some ⟨ba, 0, none⟩) 2 2), (2, .pointer (some ⟨b1, 0, none⟩)), (3, .pointer (some ⟨b2, 0, none⟩)), (4, .int .i64 (((j : Nat) : Int) - 1))] ρ) 64 ⟨64, rfl, (by omega), H4, (Is.of ⟨kr, kr, kr, kr, trivial⟩)⟩ ?_
  clear H4
  rintro _ _ w5 ⟨j, rfl, hj, H5, _, rfl⟩
  refine g_seq kr ?_
  refine g_sreg [0, 1] kr kr ?_
  refine s_val (some 8) (.int .i64 (((j : Nat) : Int) - 1)) (fun w => kr) kr ?_
  by_cases hc1 : (((j : Nat) : Int) - 1 : Int) ≥ 0
  · skip
    refine s_valE (some 9) (.bool (decide (0 ≤ ((j : Nat) : Int) - 1))) (.bool true) (fun w => kr) (bool_eq (decide_eq_true (by omega))) kr ?_
    refine s_nil ?_
    refine g_cond_t kr kr ?_
    refine g_skip kr ?_
    show WP _ _ _ _ _ _
    refine g_seq kr ?_
    refine g_block 1 kr ?_
    refine g_seq kr ?_
    refine g_sreg [0] kr kr ?_
    rw [show (((j : Nat) : Int) - 1) = ((j - 1 : Nat) : Int) from by omega]
    refine s_val (some 12) (.int .i64 0) (fun w => kr) kr ?_
    refine s_nil ?_
    refine g_block 2 kr ?_
    refine g_first kr ?_
    refine g_sreg [0] kr kr ?_
    refine s_val (some 13) (.bool true) (fun w => kr) kr ?_
    refine s_nil ?_
    refine g_seq kr ?_
    refine g_cond_t kr kr ?_
    refine g_skip kr ?_
    show WP _ _ _ _ _ _
    refine g_seq kr ?_
    refine g_block 3 kr ?_
    refine g_reg0 [0, 1, 2] kr ?_
    refine s_load H5 (some 14) 51 (.tmp 3) 0 b2 (Value.cells (wv (Ec.tog2 n p m q (64 - j)))) 51 (0, 0) kr kr kr kr kr ?_
    refine s_call H5 (some 15) 56 #[wv (Ec.tog2 n p m q (64 - j))] (wv (Ec.dblW (Ec.tog2 n p m q (64 - j)))) (dbl_fn (Ec.tog2 n p m q (64 - j)) (Ec.tog2_ok hp hq _)) (fun w => kr) kr ?_
    intro w6 H6; clear H5
    refine s_store H6 0 [(b2, Oc (wv (Ec.dblW (Ec.tog2 n p m q (64 - j)))) 51), (b1, Od Z13 51)] 51 (.tmp 3) (.tmp 15) b2 (0) (Value.cells (wv (Ec.tog2 n p m q (64 - j)))) (Value.cells (wv (Ec.dblW (Ec.tog2 n p m q (64 - j))))) 51 (wv (Ec.dblW (Ec.tog2 n p m q (64 - j)))) kr kr kr kr kr kr (of_decide_eq_true kr) kr kr ?_
    intro w7 H7; clear H6
    refine s_nil ?_
    show WP _ _ _ _ _ _
    refine g_reg0 [0, 1] kr ?_
    refine s_val (some 16) (.int .i64 1) (fun w => kr) kr ?_
    refine s_val (some 12) (.int .i64 1) (fun w => kr) kr ?_
    refine s_nil ?_
    show WPL _ _ _ _ _ _
    refine g_next ?_
    refine g_sreg [0] kr kr ?_
    refine s_val (some 13) (.bool true) (fun w => kr) kr ?_
    refine s_nil ?_
    refine g_seq kr ?_
    refine g_cond_t kr kr ?_
    refine g_skip kr ?_
    show WP _ _ _ _ _ _
    refine g_seq kr ?_
    refine g_block 3 kr ?_
    refine g_reg0 [0, 1, 2] kr ?_
    refine s_load H7 (some 14) 51 (.tmp 3) 0 b2 (Value.cells (wv (Ec.dblW (Ec.tog2 n p m q (64 - j))))) 51 (0, 0) kr kr kr kr kr ?_
    refine s_call H7 (some 15) 56 #[wv (Ec.dblW (Ec.tog2 n p m q (64 - j)))] (wv (Ec.dblW (Ec.dblW (Ec.tog2 n p m q (64 - j))))) (dbl_fn (Ec.dblW (Ec.tog2 n p m q (64 - j))) (Ec.dblW_ok (Ec.tog2_ok hp hq _))) (fun w => kr) kr ?_
    intro w8 H8; clear H7
    refine s_store H8 0 [(b2, Oc (wv (Ec.dblW (Ec.dblW (Ec.tog2 n p m q (64 - j))))) 51), (b1, Od Z13 51)] 51 (.tmp 3) (.tmp 15) b2 (0) (Value.cells (wv (Ec.dblW (Ec.tog2 n p m q (64 - j))))) (Value.cells (wv (Ec.dblW (Ec.dblW (Ec.tog2 n p m q (64 - j)))))) 51 (wv (Ec.dblW (Ec.dblW (Ec.tog2 n p m q (64 - j))))) kr kr kr kr kr kr (of_decide_eq_true kr) kr kr ?_
    intro w9 H9; clear H8
    refine s_nil ?_
    show WP _ _ _ _ _ _
    refine g_reg0 [0, 1] kr ?_
    refine s_val (some 16) (.int .i64 2) (fun w => kr) kr ?_
    refine s_val (some 12) (.int .i64 2) (fun w => kr) kr ?_
    refine s_nil ?_
    show WPL _ _ _ _ _ _
    refine g_next ?_
    refine g_sreg [0] kr kr ?_
    refine s_val (some 13) (.bool true) (fun w => kr) kr ?_
    refine s_nil ?_
    refine g_seq kr ?_
    refine g_cond_t kr kr ?_
    refine g_skip kr ?_
    show WP _ _ _ _ _ _
    refine g_seq kr ?_
    refine g_block 3 kr ?_
    refine g_reg0 [0, 1, 2] kr ?_
    refine s_load H9 (some 14) 51 (.tmp 3) 0 b2 (Value.cells (wv (Ec.dblW (Ec.dblW (Ec.tog2 n p m q (64 - j)))))) 51 (0, 0) kr kr kr kr kr ?_
    refine s_call H9 (some 15) 56 #[wv (Ec.dblW (Ec.dblW (Ec.tog2 n p m q (64 - j))))] (wv (Ec.dblW (Ec.dblW (Ec.dblW (Ec.tog2 n p m q (64 - j)))))) (dbl_fn (Ec.dblW (Ec.dblW (Ec.tog2 n p m q (64 - j)))) (Ec.dblW_ok (Ec.dblW_ok (Ec.tog2_ok hp hq _)))) (fun w => kr) kr ?_
    intro w10 H10; clear H9
    refine s_store H10 0 [(b2, Oc (wv (Ec.dblW (Ec.dblW (Ec.dblW (Ec.tog2 n p m q (64 - j)))))) 51), (b1, Od Z13 51)] 51 (.tmp 3) (.tmp 15) b2 (0) (Value.cells (wv (Ec.dblW (Ec.dblW (Ec.tog2 n p m q (64 - j)))))) (Value.cells (wv (Ec.dblW (Ec.dblW (Ec.dblW (Ec.tog2 n p m q (64 - j))))))) 51 (wv (Ec.dblW (Ec.dblW (Ec.dblW (Ec.tog2 n p m q (64 - j)))))) kr kr kr kr kr kr (of_decide_eq_true kr) kr kr ?_
    intro w11 H11; clear H10
    refine s_nil ?_
    show WP _ _ _ _ _ _
    refine g_reg0 [0, 1] kr ?_
    refine s_val (some 16) (.int .i64 3) (fun w => kr) kr ?_
    refine s_val (some 12) (.int .i64 3) (fun w => kr) kr ?_
    refine s_nil ?_
    show WPL _ _ _ _ _ _
    refine g_next ?_
    refine g_sreg [0] kr kr ?_
    refine s_val (some 13) (.bool true) (fun w => kr) kr ?_
    refine s_nil ?_
    refine g_seq kr ?_
    refine g_cond_t kr kr ?_
    refine g_skip kr ?_
    show WP _ _ _ _ _ _
    refine g_seq kr ?_
    refine g_block 3 kr ?_
    refine g_reg0 [0, 1, 2] kr ?_
    refine s_load H11 (some 14) 51 (.tmp 3) 0 b2 (Value.cells (wv (Ec.dblW (Ec.dblW (Ec.dblW (Ec.tog2 n p m q (64 - j))))))) 51 (0, 0) kr kr kr kr kr ?_
    refine s_call H11 (some 15) 56 #[wv (Ec.dblW (Ec.dblW (Ec.dblW (Ec.tog2 n p m q (64 - j)))))] (wv (Ec.dblW (Ec.dblW (Ec.dblW (Ec.dblW (Ec.tog2 n p m q (64 - j))))))) (dbl_fn (Ec.dblW (Ec.dblW (Ec.dblW (Ec.tog2 n p m q (64 - j))))) (Ec.dblW_ok (Ec.dblW_ok (Ec.dblW_ok (Ec.tog2_ok hp hq _))))) (fun w => kr) kr ?_
    intro w12 H12; clear H11
    refine s_store H12 0 [(b2, Oc (wv (Ec.dblW (Ec.dblW (Ec.dblW (Ec.dblW (Ec.tog2 n p m q (64 - j))))))) 51), (b1, Od Z13 51)] 51 (.tmp 3) (.tmp 15) b2 (0) (Value.cells (wv (Ec.dblW (Ec.dblW (Ec.dblW (Ec.tog2 n p m q (64 - j))))))) (Value.cells (wv (Ec.dblW (Ec.dblW (Ec.dblW (Ec.dblW (Ec.tog2 n p m q (64 - j)))))))) 51 (wv (Ec.dblW (Ec.dblW (Ec.dblW (Ec.dblW (Ec.tog2 n p m q (64 - j))))))) kr kr kr kr kr kr (of_decide_eq_true kr) kr kr ?_
    intro w13 H13; clear H12
    refine s_nil ?_
    show WP _ _ _ _ _ _
    refine g_reg0 [0, 1] kr ?_
    refine s_val (some 16) (.int .i64 4) (fun w => kr) kr ?_
    refine s_val (some 12) (.int .i64 4) (fun w => kr) kr ?_
    refine s_nil ?_
    show WPL _ _ _ _ _ _
    refine g_next ?_
    refine g_sreg [0] kr kr ?_
    refine s_val (some 13) (.bool false) (fun w => kr) kr ?_
    refine s_nil ?_
    refine g_seq kr ?_
    refine g_cond_f kr kr ?_
    refine g_exit 2 kr ?_
    show WP _ _ _ _ _ _
    refine g_sreg [0, 1, 2] kr kr ?_
    refine s_val (some 17) (.slice (some ⟨ba, 0, none⟩) 2 2) (fun w => kr) kr ?_
    refine s_val (some 18) (.int .i64 2) (fun w => kr) kr ?_
    refine s_val (some 19) (.int .i64 0) (fun w => kr) kr ?_
    refine s_nil ?_
    refine g_block 4 kr ?_
    refine g_first kr ?_
    refine g_sreg [0] kr kr ?_
    refine s_val (some 20) (.bool true) (fun w => kr) kr ?_
    refine s_nil ?_
    refine g_seq kr ?_
    refine g_cond_t kr kr ?_
    refine g_skip kr ?_
    show WP _ _ _ _ _ _
    refine g_seq kr ?_
    refine g_block 5 kr ?_
    refine g_sreg [0, 1, 2] kr kr ?_
    refine s_op (some 21) _ (.pointer (some ⟨ba, 0 + 0 * 1, none⟩)) kr kr (fun o w ho => idxS_run (kd := .i64) (t := 76) (e := 58) (size := 1) (bytes := 8) kr (x := (.tmp 17)) (y := (.tmp 19)) ba 0 2 2 0 ho kr kr (by omega) w) ?_
    refine s_load1F H13 (some 22) 58 (.tmp 21) ba (0 + 0 * 1) #[.pointer (some ⟨sa, 0, none⟩), .pointer (some ⟨sb, 0, none⟩)] 58 (0, 0) (.pointer (some ⟨sa, 0, none⟩)) kr kr kr hpre.1 (lt_of_heap hpre.1) kr kr ?_
    refine s_val (some 6) (.pointer (some ⟨sa, 0, none⟩)) (fun w => kr) kr ?_
    refine s_nil ?_
    refine D2.g_draw0 [0, 1, 2, 3, 4, 5] [((some 23), fun _ => wv (Ec.dblW (Ec.dblW (Ec.dblW (Ec.dblW (Ec.tog2 n p m q (64 - j))))))), ((some 24), fun _ => .pointer (some ⟨sa, 0, none⟩)), ((some 25), fun _ => .int .i64 ((j - 1 : Nat) : Int)), ((some 26), fun _ => wv (Ec.mults p (n / 16 ^ (j - 1) % 16))), ((some 27), fun _ => wv (Ec.plusW (Ec.dblW (Ec.dblW (Ec.dblW (Ec.dblW (Ec.tog2 n p m q (64 - j)))))) (Ec.mults p (n / 16 ^ (j - 1) % 16)))), (none, fun _ => undef)] (D2.Pre w.heap.size w (fun L g => [(true, (bif L 5 then (b2, Oc (wv (Ec.plusW (Ec.dblW (Ec.dblW (Ec.dblW (Ec.dblW (Ec.tog2 n p m q (64 - j)))))) (Ec.mults p (n / 16 ^ (j - 1) % 16)))) 51) else (b2, Oc (wv (Ec.dblW (Ec.dblW (Ec.dblW (Ec.dblW (Ec.tog2 n p m q (64 - j))))))) 51))), (true, (b1, Od Z13 51))]) (fun L g => True)) kr kr kr ⟨D2.StE.of H13.drew _ kr, trivial⟩ ⟨?_, ?_, ?_, ?_, ?_, ?_, trivial⟩ ?_
    · exact D2.gv_load 51 (.tmp 3) 0 (fun g => b2) (Value.cells (wv (Ec.dblW (Ec.dblW (Ec.dblW (Ec.dblW (Ec.tog2 n p m q (64 - j)))))))) 51 (0, 0) (fun _ _ _ h => h) (fun g => kr) (fun g => kr) (fun L g hN => (by have hL5 : L 5 = false := (hN.post 5 kr); exact D2.ent_get' (p := true) (e := (bif L 5 then (b2, Oc (wv (Ec.plusW (Ec.dblW (Ec.dblW (Ec.dblW (Ec.dblW (Ec.tog2 n p m q (64 - j)))))) (Ec.mults p (n / 16 ^ (j - 1) % 16)))) 51) else (b2, Oc (wv (Ec.dblW (Ec.dblW (Ec.dblW (Ec.dblW (Ec.tog2 n p m q (64 - j))))))) 51))) kr (by rfl) (by simp only [hL5, cond_true, cond_false] <;> rfl))) kr
    · exact D2.gv_val (fun _ _ _ h => h) (fun g w => kr)
    · exact D2.gv_val (fun _ _ _ h => h) (fun g w => kr)
    · exact D2.gv_callP 59 (fun g => #[.pointer (some ⟨sa, 0, none⟩), .int .i64 ((j - 1 : Nat) : Int)]) (fun g => fun w => w.heap[sa]? = some (.cells (Value.cells (shv n p 15)) 80 (0, 0))) (fun _ _ _ h => h) (fun L g hN hF => by exact at_fn n p hp hn sa (j - 1) (by omega)) (fun L g w hN hE hF => by exact (hE.old hpre.2.1 (lt_of_heap hpre.2.1))) (fun g w => kr)
    · exact D2.gv_call 36 #[wv (Ec.dblW (Ec.dblW (Ec.dblW (Ec.dblW (Ec.tog2 n p m q (64 - j)))))), wv (Ec.mults p (n / 16 ^ (j - 1) % 16))] (fun _ _ _ h => h) (plus_fn (Ec.dblW (Ec.dblW (Ec.dblW (Ec.dblW (Ec.tog2 n p m q (64 - j)))))) (Ec.mults p (n / 16 ^ (j - 1) % 16)) (Ec.dblW_ok (Ec.dblW_ok (Ec.dblW_ok (Ec.dblW_ok (Ec.tog2_ok hp hq _))))) (Ec.mults_ok hp _)) (fun g w => kr)
    · exact D2.gv_store 0 51 (.tmp 3) (.tmp 27) (fun g => b2) (fun g => 0) (Value.cells (wv (Ec.dblW (Ec.dblW (Ec.dblW (Ec.dblW (Ec.tog2 n p m q (64 - j)))))))) (Value.cells (wv (Ec.plusW (Ec.dblW (Ec.dblW (Ec.dblW (Ec.dblW (Ec.tog2 n p m q (64 - j)))))) (Ec.mults p (n / 16 ^ (j - 1) % 16))))) 51 (wv (Ec.plusW (Ec.dblW (Ec.dblW (Ec.dblW (Ec.dblW (Ec.tog2 n p m q (64 - j)))))) (Ec.mults p (n / 16 ^ (j - 1) % 16)))) (fun g => kr) (fun g => kr) (fun g => kr) kr kr (fun g => (of_decide_eq_true kr)) (fun g => kr) (fun L g hN => ⟨(by have hL5 : L 5 = false := hN.1; exact D2.ent_get' (p := true) (e := (bif L 5 then (b2, Oc (wv (Ec.plusW (Ec.dblW (Ec.dblW (Ec.dblW (Ec.dblW (Ec.tog2 n p m q (64 - j)))))) (Ec.mults p (n / 16 ^ (j - 1) % 16)))) 51) else (b2, Oc (wv (Ec.dblW (Ec.dblW (Ec.dblW (Ec.dblW (Ec.tog2 n p m q (64 - j))))))) 51))) kr (by rfl) (by simp only [hL5, cond_true, cond_false] <;> rfl)), kr⟩) (fun L g hN hF => hF)
    intro L0 G14 w14 hall HL; clear H13
    have H14 : St w.heap.size w w14 [(b2, Oc (wv (Ec.plusW (Ec.dblW (Ec.dblW (Ec.dblW (Ec.dblW (Ec.tog2 n p m q (64 - j)))))) (Ec.mults p (n / 16 ^ (j - 1) % 16)))) 51), (b1, Od Z13 51)] := by have e5 := hall 5 (Nat.le_of_ble_eq_true kr); have hS := D2.StE.st HL.1; simp only [e5, cond_true, D2.pres] at hS; exact hS
    clear HL hall
    show WP _ _ _ _ _ _
    refine g_reg0 [0, 1] kr ?_
    refine s_val (some 28) (.int .i64 1) (fun w => kr) kr ?_
    refine s_val (some 19) (.int .i64 1) (fun w => kr) kr ?_
    refine s_nil ?_
    show WPL _ _ _ _ _ _
    refine g_next ?_
    refine g_sreg [0] kr kr ?_
    refine s_val (some 20) (.bool true) (fun w => kr) kr ?_
    refine s_nil ?_
    refine g_seq kr ?_
    refine g_cond_t kr kr ?_
    refine g_skip kr ?_
    show WP _ _ _ _ _ _
    refine g_seq kr ?_
    refine g_block 5 kr ?_
    refine g_sreg [0, 1, 2] kr kr ?_
    refine s_op (some 21) _ (.pointer (some ⟨ba, 0 + 1 * 1, none⟩)) kr kr (fun o w ho => idxS_run (kd := .i64) (t := 76) (e := 58) (size := 1) (bytes := 8) kr (x := (.tmp 17)) (y := (.tmp 19)) ba 0 2 2 1 ho kr kr (by omega) w) ?_
    refine s_load1F H14 (some 22) 58 (.tmp 21) ba (0 + 1 * 1) #[.pointer (some ⟨sa, 0, none⟩), .pointer (some ⟨sb, 0, none⟩)] 58 (0, 0) (.pointer (some ⟨sb, 0, none⟩)) kr kr kr hpre.1 (lt_of_heap hpre.1) kr kr ?_
    refine s_val (some 6) (.pointer (some ⟨sb, 0, none⟩)) (fun w => kr) kr ?_
    refine s_nil ?_
    refine D2.g_draw0 [0, 1, 2, 3, 4, 5] [((some 23), fun _ => wv (Ec.plusW (Ec.dblW (Ec.dblW (Ec.dblW (Ec.dblW (Ec.tog2 n p m q (64 - j)))))) (Ec.mults p (n / 16 ^ (j - 1) % 16)))), ((some 24), fun _ => .pointer (some ⟨sb, 0, none⟩)), ((some 25), fun _ => .int .i64 ((j - 1 : Nat) : Int)), ((some 26), fun _ => wv (Ec.mults q (m / 16 ^ (j - 1) % 16))), ((some 27), fun _ => wv (Ec.plusW (Ec.plusW (Ec.dblW (Ec.dblW (Ec.dblW (Ec.dblW (Ec.tog2 n p m q (64 - j)))))) (Ec.mults p (n / 16 ^ (j - 1) % 16))) (Ec.mults q (m / 16 ^ (j - 1) % 16)))), (none, fun _ => undef)] (D2.Pre w.heap.size w (fun L g => [(true, (bif L 5 then (b2, Obj.cells (Value.cells (wv (Ec.plusW (Ec.plusW (Ec.dblW (Ec.dblW (Ec.dblW (Ec.dblW (Ec.tog2 n p m q (64 - j)))))) (Ec.mults p (n / 16 ^ (j - 1) % 16))) (Ec.mults q (m / 16 ^ (j - 1) % 16))))) 51 (0, 0)) else (b2, Oc (wv (Ec.plusW (Ec.dblW (Ec.dblW (Ec.dblW (Ec.dblW (Ec.tog2 n p m q (64 - j)))))) (Ec.mults p (n / 16 ^ (j - 1) % 16)))) 51))), (true, (b1, Od Z13 51))]) (fun L g => True)) kr kr kr ⟨D2.StE.of H14.drew _ kr, trivial⟩ ⟨?_, ?_, ?_, ?_, ?_, ?_, trivial⟩ ?_
    · exact D2.gv_load 51 (.tmp 3) 0 (fun g => b2) (Value.cells (wv (Ec.plusW (Ec.dblW (Ec.dblW (Ec.dblW (Ec.dblW (Ec.tog2 n p m q (64 - j)))))) (Ec.mults p (n / 16 ^ (j - 1) % 16))))) 51 (0, 0) (fun _ _ _ h => h) (fun g => kr) (fun g => kr) (fun L g hN => (by have hL5 : L 5 = false := (hN.post 5 kr); exact D2.ent_get' (p := true) (e := (bif L 5 then (b2, Obj.cells (Value.cells (wv (Ec.plusW (Ec.plusW (Ec.dblW (Ec.dblW (Ec.dblW (Ec.dblW (Ec.tog2 n p m q (64 - j)))))) (Ec.mults p (n / 16 ^ (j - 1) % 16))) (Ec.mults q (m / 16 ^ (j - 1) % 16))))) 51 (0, 0)) else (b2, Oc (wv (Ec.plusW (Ec.dblW (Ec.dblW (Ec.dblW (Ec.dblW (Ec.tog2 n p m q (64 - j)))))) (Ec.mults p (n / 16 ^ (j - 1) % 16)))) 51))) kr (by rfl) (by simp only [hL5, cond_true, cond_false] <;> rfl))) kr
    · exact D2.gv_val (fun _ _ _ h => h) (fun g w => kr)
    · exact D2.gv_val (fun _ _ _ h => h) (fun g w => kr)
    · exact D2.gv_callP 59 (fun g => #[.pointer (some ⟨sb, 0, none⟩), .int .i64 ((j - 1 : Nat) : Int)]) (fun g => fun w => w.heap[sb]? = some (.cells (Value.cells (shv m q 15)) 80 (0, 0))) (fun _ _ _ h => h) (fun L g hN hF => by exact at_fn m q hq hm sb (j - 1) (by omega)) (fun L g w hN hE hF => by exact (hE.old hpre.2.2 (lt_of_heap hpre.2.2))) (fun g w => kr)
    · exact D2.gv_call 36 #[wv (Ec.plusW (Ec.dblW (Ec.dblW (Ec.dblW (Ec.dblW (Ec.tog2 n p m q (64 - j)))))) (Ec.mults p (n / 16 ^ (j - 1) % 16))), wv (Ec.mults q (m / 16 ^ (j - 1) % 16))] (fun _ _ _ h => h) (plus_fn (Ec.plusW (Ec.dblW (Ec.dblW (Ec.dblW (Ec.dblW (Ec.tog2 n p m q (64 - j)))))) (Ec.mults p (n / 16 ^ (j - 1) % 16))) (Ec.mults q (m / 16 ^ (j - 1) % 16)) (Ec.plusW_ok (Ec.dblW_ok (Ec.dblW_ok (Ec.dblW_ok (Ec.dblW_ok (Ec.tog2_ok hp hq _))))) (Ec.mults_ok hp _)) (Ec.mults_ok hq _)) (fun g w => kr)
    · exact D2.gv_store 0 51 (.tmp 3) (.tmp 27) (fun g => b2) (fun g => 0) (Value.cells (wv (Ec.plusW (Ec.dblW (Ec.dblW (Ec.dblW (Ec.dblW (Ec.tog2 n p m q (64 - j)))))) (Ec.mults p (n / 16 ^ (j - 1) % 16))))) (Value.cells (wv (Ec.plusW (Ec.plusW (Ec.dblW (Ec.dblW (Ec.dblW (Ec.dblW (Ec.tog2 n p m q (64 - j)))))) (Ec.mults p (n / 16 ^ (j - 1) % 16))) (Ec.mults q (m / 16 ^ (j - 1) % 16))))) 51 (wv (Ec.plusW (Ec.plusW (Ec.dblW (Ec.dblW (Ec.dblW (Ec.dblW (Ec.tog2 n p m q (64 - j)))))) (Ec.mults p (n / 16 ^ (j - 1) % 16))) (Ec.mults q (m / 16 ^ (j - 1) % 16)))) (fun g => kr) (fun g => kr) (fun g => kr) kr kr (fun g => (of_decide_eq_true kr)) (fun g => kr) (fun L g hN => ⟨(by have hL5 : L 5 = false := hN.1; exact D2.ent_get' (p := true) (e := (bif L 5 then (b2, Obj.cells (Value.cells (wv (Ec.plusW (Ec.plusW (Ec.dblW (Ec.dblW (Ec.dblW (Ec.dblW (Ec.tog2 n p m q (64 - j)))))) (Ec.mults p (n / 16 ^ (j - 1) % 16))) (Ec.mults q (m / 16 ^ (j - 1) % 16))))) 51 (0, 0)) else (b2, Oc (wv (Ec.plusW (Ec.dblW (Ec.dblW (Ec.dblW (Ec.dblW (Ec.tog2 n p m q (64 - j)))))) (Ec.mults p (n / 16 ^ (j - 1) % 16)))) 51))) kr (by rfl) (by simp only [hL5, cond_true, cond_false] <;> rfl)), kr⟩) (fun L g hN hF => hF)
    intro L0 G15 w15 hall HL; clear H14
    have H15 : St w.heap.size w w15 [(b2, Obj.cells (Value.cells (wv (Ec.plusW (Ec.plusW (Ec.dblW (Ec.dblW (Ec.dblW (Ec.dblW (Ec.tog2 n p m q (64 - j)))))) (Ec.mults p (n / 16 ^ (j - 1) % 16))) (Ec.mults q (m / 16 ^ (j - 1) % 16))))) 51 (0, 0)), (b1, Od Z13 51)] := by have e5 := hall 5 (Nat.le_of_ble_eq_true kr); have hS := D2.StE.st HL.1; simp only [e5, cond_true, D2.pres] at hS; exact hS
    clear HL hall
    show WP _ _ _ _ _ _
    refine g_reg0 [0, 1] kr ?_
    refine s_val (some 28) (.int .i64 2) (fun w => kr) kr ?_
    refine s_val (some 19) (.int .i64 2) (fun w => kr) kr ?_
    refine s_nil ?_
    show WPL _ _ _ _ _ _
    refine g_next ?_
    refine g_sreg [0] kr kr ?_
    refine s_val (some 20) (.bool false) (fun w => kr) kr ?_
    refine s_nil ?_
    refine g_seq kr ?_
    refine g_cond_f kr kr ?_
    refine g_exit 4 kr ?_
    show WP _ _ _ _ _ _
    refine g_reg0 [0, 1, 2] kr ?_
    refine s_val (some 10) (.int .i64 ((j - 1 : Nat) : Int)) (fun w => kr) kr ?_
    refine s_valE (some 11) (.int .i64 (IntKind.i64.wrap (((j - 1 : Nat) : Int) - 1))) (.int .i64 (((j - 1 : Nat) : Int) - 1)) (fun w => kr) (int_eq (wrap_i64 (by omega) (by omega))) kr ?_
    refine s_val (some 4) (.int .i64 (((j - 1 : Nat) : Int) - 1)) (fun w => kr) kr ?_
    refine s_nil ?_
    rw [show (Ec.plusW (Ec.plusW (Ec.dblW (Ec.dblW (Ec.dblW (Ec.dblW (Ec.tog2 n p m q (64 - j)))))) (Ec.mults p (n / 16 ^ (j - 1) % 16))) (Ec.mults q (m / 16 ^ (j - 1) % 16))) = Ec.tog2 n p m q (64 - (j - 1)) from tog2_next (by omega) hj] at H15
    show ∃ m, _ ∧ _
    exact ⟨_, (by omega), (j - 1), rfl, (by omega), H15, (Is.of ⟨kr, kr, kr, kr, trivial⟩)⟩
  · skip
    refine s_valE (some 9) (.bool (decide (0 ≤ ((j : Nat) : Int) - 1))) (.bool false) (fun w => kr) (bool_eq (decide_eq_false (by omega))) kr ?_
    refine s_nil ?_
    refine g_cond_f kr kr ?_
    refine g_exit 0 kr ?_
    show WP _ _ _ _ _ _
    refine g_sreg [0, 1] kr kr ?_
    refine s_load H5 (some 29) 51 (.tmp 3) 0 b2 (Value.cells (wv (Ec.tog2 n p m q (64 - j)))) 51 (0, 0) kr kr kr kr kr ?_
    refine s_store H5 1 [(b2, Oc (wv (Ec.tog2 n p m q (64 - j))) 51), (b1, Oc (wv (Ec.tog2 n p m q (64 - j))) 51)] 51 (.tmp 2) (.tmp 29) b1 (0) Z13 (Value.cells (wv (Ec.tog2 n p m q (64 - j)))) 51 (wv (Ec.tog2 n p m q (64 - j))) kr kr kr kr kr kr (of_decide_eq_true kr) kr kr ?_
    intro w16 H16; clear H5
    refine s_nil ?_
    refine g_ret kr ?_
    show ∃ vs, Res _ _ _ _ vs ∧ _
    refine ⟨[wv (Ec.tog2 n p m q (64 - j))], (.agg (b := b1) (Value.cells (wv (Ec.tog2 n p m q (64 - j)))) 51 (0, 0) kr (H16.get 1 kr) kr .nil), ?_, H16.below⟩
    obtain rfl : j = 0 := by omega
    rfl
end Go.Proofs.Ytljhbhhpfkmemaa
