/-
  The calls of package field.
-/
import Derived.Test.YtljhbhhpfkmemaaUlib
import Derived.Test.YtljhbhhpfkmemaaFieldM
namespace Go.Proofs.Ytljhbhhpfkmemaa
open Go Go.RowKit
set_option linter.unusedVariables false
theorem cm_ge {A B : Nat} (h : B ≤ A) : cm A B ≥ 0 := by unfold cm; split <;> (try split) <;> omega
theorem cm_nge {A B : Nat} (h : ¬ B ≤ A) : ¬ cm A B ≥ 0 := by unfold cm; split <;> (try split) <;> omega

set_option maxRecDepth 100000 in
theorem rest_fn (L H M : Nat) (hL : L < big) (hH : H < big) (hM : MOK M) : Fn Try.prog 49 #[uv L, uv H, uv M] (uv (rs L H M)) := by
  refine Fn.intro (c := codeOf Try.f49) [.cell 6 24] 54 Try.func49 kr kr kr fun w => ?_
  have H0 := St.start w
  refine g_sreg [0, 1, 2, 3] kr kr ?_
  refine s_box H0 (some 3) 24 (.tmp 0) (uv L) kr kr kr ?_
  intro b1 w1 H1; clear H0
  refine s_box H1 (some 4) 24 (.tmp 1) (uv H) kr kr kr ?_
  intro b2 w2 H2; clear H1
  refine s_box H2 (some 5) 24 (.tmp 2) (uv M) kr kr kr ?_
  intro b3 w3 H3; clear H2
  refine s_alloc H3 (some 6) 24 (.agg Z4) kr kr kr ?_
  intro b4 w4 H4; clear H3
  refine s_nil ?_
  refine g_sreg [0, 1, 2, 3, 4, 5, 6, 7, 8] kr kr ?_
  refine s_val (some 14) (.agg Z4) (fun w => kr) kr ?_
  refine s_load H4 (some 15) 24 (.tmp 5) 1 b3 (Value.cells (uv M)) 24 (0, 0) kr kr kr kr kr ?_
  refine s_call H4 (some 16) 50 #[.agg Z4, uv M] (.tuple #[uv (df 0 M), .bool (lo 0 M)]) (sub_fn 0 M (by unfold big; omega) hM.1) (fun w => kr) kr ?_
  intro w5 H5; clear H4
  refine s_val (some 13) (.tuple #[uv (df 0 M), .bool (lo 0 M)]) (fun w => kr) kr ?_
  refine s_val (some 17) (uv (df 0 M)) (fun w => kr) kr ?_
  refine s_val (some 18) (.bool (lo 0 M)) (fun w => kr) kr ?_
  refine s_alloc H5 (some 7) 24 (.agg Z4) kr kr kr ?_
  intro b5 w6 H6; clear H5
  refine s_store H6 0 [(b5, Oc (uv (df 0 M)) 24), (b4, Od Z4 24), (b3, Oc (uv M) 24), (b2, Oc (uv H) 24), (b1, Oc (uv L) 24)] 24 (.tmp 7) (.tmp 17) b5 0 Z4 (Value.cells (uv (df 0 M))) 24 (uv (df 0 M)) kr kr kr kr kr kr (of_decide_eq_true kr) kr kr ?_
  intro w7 H7; clear H6
  refine s_val (some 8) (.bool (lo 0 M)) (fun w => kr) kr ?_
  refine s_nil ?_
  refine g_seq kr ?_
  refine g_block 0 kr ?_
  refine g_loop kr (fun m ρ x => ∃ (l : Nat) (h : Nat), l + big * h = m ∧ (l < big) ∧ (h < big) ∧ ((l + big * h) % M = rs L H M) ∧ St w.heap.size w x [(b5, Oc (uv (df 0 M)) 24), (b4, Od Z4 24), (b3, Oc (uv M) 24), (b2, Oc (uv h) 24), (b1, Oc (uv l) 24)] ∧ Is [(0, uv L), (1, uv H), (2, uv M), (3, .pointer (some ⟨b1, 0, none⟩)), (4, .pointer (some ⟨b2, 0, none⟩)), (5, .pointer (some ⟨b3, 0, none⟩)), (6, .pointer (some ⟨b4, 0, none⟩)), (7, .pointer (some ⟨b5, 0, none⟩))] ρ) (L + big * H) ⟨L, H, rfl, hL, hH, rfl, H7, (Is.of ⟨kr, kr, kr, kr, kr, kr, kr, kr, trivial⟩)⟩ ?_
  clear H7
  rintro _ _ w8 ⟨l, h, rfl, hl, hh, hm, H8, _, rfl⟩
  refine g_seq kr ?_
  refine g_sreg [0, 1, 2] kr kr ?_
  refine s_load H8 (some 19) 24 (.tmp 4) 3 b2 (Value.cells (uv h)) 24 (0, 0) kr kr kr kr kr ?_
  refine s_val (some 20) (.agg Z4) (fun w => kr) kr ?_
  by_cases hne : h = 0
  · skip
    refine s_opE (some 21) _ (.bool (!decide (h = 0))) (.bool false) kr (fun o w ho => neU_run (x := (.tmp 19)) (y := (.tmp 20)) h 0 hh (by unfold big; omega) w ho kr kr) (by rw [decide_eq_true hne]; rfl) kr ?_
    have hm0 : (l + big * 0) % M = rs L H M := by rw [hne] at hm; exact hm
    refine s_nil ?_
    refine g_cond_f kr kr ?_
    refine g_exit 0 kr ?_
    show WP _ _ _ _ _ _
    refine g_seq kr ?_
    refine g_sreg [0, 1, 2, 3] kr kr ?_
    refine s_load H8 (some 43) 24 (.tmp 3) 4 b1 (Value.cells (uv l)) 24 (0, 0) kr kr kr kr kr ?_
    refine s_load H8 (some 44) 24 (.tmp 5) 2 b3 (Value.cells (uv M)) 24 (0, 0) kr kr kr kr kr ?_
    refine s_call H8 (some 45) 51 #[uv l, uv M] (.int .i64 (cm l M)) (cmp_fn l M hl hM.1) (fun w => kr) kr ?_
    intro w9 H9; clear H8
    by_cases hc : M ≤ l
    · skip
      refine s_valE (some 46) (.bool (decide (0 ≤ cm l M))) (.bool true) (fun w => kr) (bool_eq (decide_eq_true (cm_ge hc))) kr ?_
      refine s_nil ?_
      refine g_cond_t kr kr ?_
      refine g_reg0 [0, 1, 2, 3, 4, 5, 6] kr ?_
      refine s_load H9 (some 48) 24 (.tmp 3) 4 b1 (Value.cells (uv l)) 24 (0, 0) kr kr kr kr kr ?_
      refine s_load H9 (some 49) 24 (.tmp 5) 2 b3 (Value.cells (uv M)) 24 (0, 0) kr kr kr kr kr ?_
      refine s_call H9 (some 50) 50 #[uv l, uv M] (.tuple #[uv (df l M), .bool (lo l M)]) (sub_fn l M hl hM.1) (fun w => kr) kr ?_
      intro w10 H10; clear H9
      refine s_val (some 47) (.tuple #[uv (df l M), .bool (lo l M)]) (fun w => kr) kr ?_
      refine s_val (some 51) (uv (df l M)) (fun w => kr) kr ?_
      refine s_val (some 52) (.bool (lo l M)) (fun w => kr) kr ?_
      refine s_store H10 4 [(b5, Oc (uv (df 0 M)) 24), (b4, Od Z4 24), (b3, Oc (uv M) 24), (b2, Oc (uv h) 24), (b1, Oc (uv (df l M)) 24)] 24 (.tmp 3) (.tmp 51) b1 0 (Value.cells (uv l)) (Value.cells (uv (df l M))) 24 (uv (df l M)) kr kr kr kr kr kr (of_decide_eq_true kr) kr kr ?_
      intro w11 H11; clear H10
      refine s_nil ?_
      show WP _ _ _ _ _ _
      refine g_sreg [0, 1] kr kr ?_
      refine s_load H11 (some 53) 24 (.tmp 3) 4 b1 (Value.cells (uv (df l M))) 24 (0, 0) kr kr kr kr kr ?_
      refine s_store H11 1 [(b5, Oc (uv (df 0 M)) 24), (b4, Oc (uv (df l M)) 24), (b3, Oc (uv M) 24), (b2, Oc (uv h) 24), (b1, Oc (uv (df l M)) 24)] 24 (.tmp 6) (.tmp 53) b4 0 Z4 (Value.cells (uv (df l M))) 24 (uv (df l M)) kr kr kr kr kr kr (of_decide_eq_true kr) kr kr ?_
      intro w12 H12; clear H11
      refine s_nil ?_
      refine g_ret kr ?_
      show ∃ vs, Res _ _ _ _ vs ∧ _
      refine ⟨[uv (df l M)], (.agg (b := b4) (Value.cells (uv (df l M))) 24 (0, 0) kr (H12.get 1 kr) kr .nil), ?_, H12.below⟩
      exact congrArg uv (fold_end1 hM hl hm0 hc)
    · skip
      refine s_valE (some 46) (.bool (decide (0 ≤ cm l M))) (.bool false) (fun w => kr) (bool_eq (decide_eq_false (cm_nge hc))) kr ?_
      refine s_nil ?_
      refine g_cond_f kr kr ?_
      refine g_skip kr ?_
      show WP _ _ _ _ _ _
      refine g_sreg [0, 1] kr kr ?_
      refine s_load H9 (some 53) 24 (.tmp 3) 4 b1 (Value.cells (uv l)) 24 (0, 0) kr kr kr kr kr ?_
      refine s_store H9 1 [(b5, Oc (uv (df 0 M)) 24), (b4, Oc (uv l) 24), (b3, Oc (uv M) 24), (b2, Oc (uv h) 24), (b1, Oc (uv l) 24)] 24 (.tmp 6) (.tmp 53) b4 0 Z4 (Value.cells (uv l)) 24 (uv l) kr kr kr kr kr kr (of_decide_eq_true kr) kr kr ?_
      intro w13 H13; clear H9
      refine s_nil ?_
      refine g_ret kr ?_
      show ∃ vs, Res _ _ _ _ vs ∧ _
      refine ⟨[uv l], (.agg (b := b4) (Value.cells (uv l)) 24 (0, 0) kr (H13.get 1 kr) kr .nil), ?_, H13.below⟩
      exact congrArg uv (fold_end2 hm0 hc)
  · skip
    refine s_opE (some 21) _ (.bool (!decide (h = 0))) (.bool true) kr (fun o w ho => neU_run (x := (.tmp 19)) (y := (.tmp 20)) h 0 hh (by unfold big; omega) w ho kr kr) (by rw [decide_eq_false hne]; rfl) kr ?_
    refine s_nil ?_
    refine g_cond_t kr kr ?_
    refine g_skip kr ?_
    show WP _ _ _ _ _ _
    refine g_block 1 kr ?_
    refine g_sreg [0, 1, 2, 3, 4, 5, 6, 7, 8, 9] kr kr ?_
    refine s_load H8 (some 23) 24 (.tmp 4) 3 b2 (Value.cells (uv h)) 24 (0, 0) kr kr kr kr kr ?_
    refine s_load H8 (some 24) 24 (.tmp 7) 0 b5 (Value.cells (uv (df 0 M))) 24 (0, 0) kr kr kr kr kr ?_
    refine s_call H8 (some 25) 43 #[uv h, uv (df 0 M)] (.tuple #[uv (pl h (df 0 M)), uv (ph h (df 0 M))]) (mul_fn h (df 0 M) hh (df_lt _ _)) (fun w => kr) kr ?_
    intro w14 H14; clear H8
    refine s_val (some 22) (.tuple #[uv (pl h (df 0 M)), uv (ph h (df 0 M))]) (fun w => kr) kr ?_
    refine s_val (some 26) (uv (pl h (df 0 M))) (fun w => kr) kr ?_
    refine s_val (some 27) (uv (ph h (df 0 M))) (fun w => kr) kr ?_
    refine s_alloc H14 (some 9) 24 (.agg Z4) kr kr kr ?_
    intro b6 w15 H15; clear H14
    refine s_alloc H15 (some 10) 24 (.agg Z4) kr kr kr ?_
    intro b7 w16 H16; clear H15
    refine s_store H16 1 [(b7, Od Z4 24), (b6, Oc (uv (pl h (df 0 M))) 24), (b5, Oc (uv (df 0 M)) 24), (b4, Od Z4 24), (b3, Oc (uv M) 24), (b2, Oc (uv h) 24), (b1, Oc (uv l) 24)] 24 (.tmp 9) (.tmp 26) b6 0 Z4 (Value.cells (uv (pl h (df 0 M)))) 24 (uv (pl h (df 0 M))) kr kr kr kr kr kr (of_decide_eq_true kr) kr kr ?_
    intro w17 H17; clear H16
    refine s_store H17 0 [(b7, Oc (uv (ph h (df 0 M))) 24), (b6, Oc (uv (pl h (df 0 M))) 24), (b5, Oc (uv (df 0 M)) 24), (b4, Od Z4 24), (b3, Oc (uv M) 24), (b2, Oc (uv h) 24), (b1, Oc (uv l) 24)] 24 (.tmp 10) (.tmp 27) b7 0 Z4 (Value.cells (uv (ph h (df 0 M)))) 24 (uv (ph h (df 0 M))) kr kr kr kr kr kr (of_decide_eq_true kr) kr kr ?_
    intro w18 H18; clear H17
    refine s_nil ?_
    refine g_sreg [0, 1, 2, 3, 4, 5, 6, 7, 8] kr kr ?_
    refine s_load H18 (some 29) 24 (.tmp 3) 6 b1 (Value.cells (uv l)) 24 (0, 0) kr kr kr kr kr ?_
    refine s_load H18 (some 30) 24 (.tmp 9) 1 b6 (Value.cells (uv (pl h (df 0 M)))) 24 (0, 0) kr kr kr kr kr ?_
    refine s_call H18 (some 31) 18 #[uv l, uv (pl h (df 0 M))] (.tuple #[uv (sm l (pl h (df 0 M))), .bool (ov l (pl h (df 0 M)))]) (add_fn l (pl h (df 0 M)) hl (pl_lt _ _)) (fun w => kr) kr ?_
    intro w19 H19; clear H18
    refine s_val (some 28) (.tuple #[uv (sm l (pl h (df 0 M))), .bool (ov l (pl h (df 0 M)))]) (fun w => kr) kr ?_
    refine s_val (some 32) (uv (sm l (pl h (df 0 M)))) (fun w => kr) kr ?_
    refine s_val (some 33) (.bool (ov l (pl h (df 0 M)))) (fun w => kr) kr ?_
    refine s_alloc H19 (some 11) 24 (.agg Z4) kr kr kr ?_
    intro b8 w20 H20; clear H19
    refine s_store H20 0 [(b8, Oc (uv (sm l (pl h (df 0 M)))) 24), (b7, Oc (uv (ph h (df 0 M))) 24), (b6, Oc (uv (pl h (df 0 M))) 24), (b5, Oc (uv (df 0 M)) 24), (b4, Od Z4 24), (b3, Oc (uv M) 24), (b2, Oc (uv h) 24), (b1, Oc (uv l) 24)] 24 (.tmp 11) (.tmp 32) b8 0 Z4 (Value.cells (uv (sm l (pl h (df 0 M))))) 24 (uv (sm l (pl h (df 0 M)))) kr kr kr kr kr kr (of_decide_eq_true kr) kr kr ?_
    intro w21 H21; clear H20
    refine s_val (some 12) (.bool (ov l (pl h (df 0 M)))) (fun w => kr) kr ?_
    refine s_nil ?_
    refine g_sdraw [0, 1, 2, 3] [((some 34), fun _ => uv (sm l (pl h (df 0 M)))), ((some 35), fun _ => uv (ph h (df 0 M))), (none, fun _ => undef), (none, fun _ => undef)] (fun L g x => St w.heap.size w x ([(b8, Oc (uv (sm l (pl h (df 0 M)))) 24), (b7, Oc (uv (ph h (df 0 M))) 24), (b6, Oc (uv (pl h (df 0 M))) 24), (b5, Oc (uv (df 0 M)) 24), (b4, Od Z4 24), (b3, Oc (uv M) 24), (b2, (bif L 3 then Oc (uv (ph h (df 0 M))) 24 else Oc (uv h) 24)), (b1, (bif L 2 then Oc (uv (sm l (pl h (df 0 M)))) 24 else Oc (uv l) 24))])) kr kr kr kr (H21.drew) ⟨?_, ?_, ?_, ?_, trivial⟩ ?_
    · exact gv_load 24 (.tmp 11) (fun _ => 0) (fun g => b8) (Value.cells (uv (sm l (pl h (df 0 M))))) 24 (0, 0) (fun _ _ _ h => h) (fun g => kr) (fun g => kr) (fun L g _ => kr) kr
    · exact gv_load 24 (.tmp 10) (fun _ => 1) (fun g => b7) (Value.cells (uv (ph h (df 0 M)))) 24 (0, 0) (fun _ _ _ h => h) (fun g => kr) (fun g => kr) (fun L g _ => kr) kr
    · exact gv_store (fun _ => 7) 24 (.tmp 3) (.tmp 34) (fun g => b1) 0 (Value.cells (uv l)) (Value.cells (uv (sm l (pl h (df 0 M))))) 24 (uv (sm l (pl h (df 0 M)))) (fun g => kr) (fun g => kr) (fun g => kr) kr kr (of_decide_eq_true kr) kr (fun L g hN => by (have hs2 : L 2 = false := hN.1; show ([(b8, Oc (uv (sm l (pl h (df 0 M)))) 24), (b7, Oc (uv (ph h (df 0 M))) 24), (b6, Oc (uv (pl h (df 0 M))) 24), (b5, Oc (uv (df 0 M)) 24), (b4, Od Z4 24), (b3, Oc (uv M) 24), (b2, (bif L 3 then Oc (uv (ph h (df 0 M))) 24 else Oc (uv h) 24)), (b1, (bif L 2 then Oc (uv (sm l (pl h (df 0 M)))) 24 else Oc (uv l) 24))])[(fun _ => 7) L]? = some (b1, Oc (uv l) 24) ∧ ([(b8, Oc (uv (sm l (pl h (df 0 M)))) 24), (b7, Oc (uv (ph h (df 0 M))) 24), (b6, Oc (uv (pl h (df 0 M))) 24), (b5, Oc (uv (df 0 M)) 24), (b4, Od Z4 24), (b3, Oc (uv M) 24), (b2, (bif L 3 then Oc (uv (ph h (df 0 M))) 24 else Oc (uv h) 24)), (b1, (bif L 2 then Oc (uv (sm l (pl h (df 0 M)))) 24 else Oc (uv l) 24))]).set ((fun _ => 7) L) (b1, Oc (uv (sm l (pl h (df 0 M)))) 24) = ([(b8, Oc (uv (sm l (pl h (df 0 M)))) 24), (b7, Oc (uv (ph h (df 0 M))) 24), (b6, Oc (uv (pl h (df 0 M))) 24), (b5, Oc (uv (df 0 M)) 24), (b4, Od Z4 24), (b3, Oc (uv M) 24), (b2, (bif L 3 then Oc (uv (ph h (df 0 M))) 24 else Oc (uv h) 24)), (b1, (bif true then Oc (uv (sm l (pl h (df 0 M)))) 24 else Oc (uv l) 24))]); rw [hs2]; exact ⟨rfl, rfl⟩))
    · exact gv_store (fun _ => 6) 24 (.tmp 4) (.tmp 35) (fun g => b2) 0 (Value.cells (uv h)) (Value.cells (uv (ph h (df 0 M)))) 24 (uv (ph h (df 0 M))) (fun g => kr) (fun g => kr) (fun g => kr) kr kr (of_decide_eq_true kr) kr (fun L g hN => by (have hs3 : L 3 = false := hN.1; show ([(b8, Oc (uv (sm l (pl h (df 0 M)))) 24), (b7, Oc (uv (ph h (df 0 M))) 24), (b6, Oc (uv (pl h (df 0 M))) 24), (b5, Oc (uv (df 0 M)) 24), (b4, Od Z4 24), (b3, Oc (uv M) 24), (b2, (bif L 3 then Oc (uv (ph h (df 0 M))) 24 else Oc (uv h) 24)), (b1, (bif L 2 then Oc (uv (sm l (pl h (df 0 M)))) 24 else Oc (uv l) 24))])[(fun _ => 6) L]? = some (b2, Oc (uv h) 24) ∧ ([(b8, Oc (uv (sm l (pl h (df 0 M)))) 24), (b7, Oc (uv (ph h (df 0 M))) 24), (b6, Oc (uv (pl h (df 0 M))) 24), (b5, Oc (uv (df 0 M)) 24), (b4, Od Z4 24), (b3, Oc (uv M) 24), (b2, (bif L 3 then Oc (uv (ph h (df 0 M))) 24 else Oc (uv h) 24)), (b1, (bif L 2 then Oc (uv (sm l (pl h (df 0 M)))) 24 else Oc (uv l) 24))]).set ((fun _ => 6) L) (b2, Oc (uv (ph h (df 0 M))) 24) = ([(b8, Oc (uv (sm l (pl h (df 0 M)))) 24), (b7, Oc (uv (ph h (df 0 M))) 24), (b6, Oc (uv (pl h (df 0 M))) 24), (b5, Oc (uv (df 0 M)) 24), (b4, Od Z4 24), (b3, Oc (uv M) 24), (b2, (bif true then Oc (uv (ph h (df 0 M))) 24 else Oc (uv h) 24)), (b1, (bif L 2 then Oc (uv (sm l (pl h (df 0 M)))) 24 else Oc (uv l) 24))]); rw [hs3]; exact ⟨rfl, rfl⟩))
    intro L0 g22 w22 hall HL; clear H21
    have H22 : St w.heap.size w w22 [(b8, Oc (uv (sm l (pl h (df 0 M)))) 24), (b7, Oc (uv (ph h (df 0 M))) 24), (b6, Oc (uv (pl h (df 0 M))) 24), (b5, Oc (uv (df 0 M)) 24), (b4, Od Z4 24), (b3, Oc (uv M) 24), (b2, Oc (uv (ph h (df 0 M))) 24), (b1, Oc (uv (sm l (pl h (df 0 M)))) 24)] := by have e2 := hall 2 (Nat.le_of_ble_eq_true kr); have e3 := hall 3 (Nat.le_of_ble_eq_true kr); simp only [e2, e3, cond_true] at HL; exact HL
    clear HL hall
    refine g_sreg [0] kr kr ?_
    obtain ⟨h', hh1, hh2, hfold⟩ := fold_next hM hl hh hne
    cases hov : ov l (pl h (df 0 M))
    · skip
      rw [hov] at hh1; simp only [Bool.false_eq_true, if_false] at hh1; subst hh1
      refine s_val (some 36) (.bool false) (fun w => kr) kr ?_
      refine s_nil ?_
      refine g_cond_f kr kr ?_
      refine g_skip kr ?_
      have HD1 : St w.heap.size w w22 [(b5, Oc (uv (df 0 M)) 24), (b4, Od Z4 24), (b3, Oc (uv M) 24), (b2, Oc (uv (ph h (df 0 M))) 24), (b1, Oc (uv (sm l (pl h (df 0 M)))) 24)] := H22.sub (List.Sublist.cons _ (List.Sublist.cons _ (List.Sublist.cons _ (List.Sublist.cons_cons _ (List.Sublist.cons_cons _ (List.Sublist.cons_cons _ (List.Sublist.cons_cons _ (List.Sublist.cons_cons _ List.Sublist.slnil))))))))
      show ∃ m, _ ∧ _
      exact ⟨_, (fold_less hM hne hfold), (sm l (pl h (df 0 M))), (ph h (df 0 M)), rfl, (sm_lt _ _), hh2, (fold_mod hfold hm), HD1, (Is.of ⟨kr, kr, kr, kr, kr, kr, kr, kr, trivial⟩)⟩
    · skip
      rw [hov] at hh1; simp only [if_true] at hh1; subst hh1
      refine s_val (some 36) (.bool true) (fun w => kr) kr ?_
      refine s_nil ?_
      refine g_cond_t kr kr ?_
      refine g_draw0 [0, 1, 2, 3, 4, 5, 6] [((some 38), fun _ => uv (ph h (df 0 M))), ((some 39), fun _ => uv 1), ((some 40), fun _ => .tuple #[uv (sm (ph h (df 0 M)) 1), .bool (ov (ph h (df 0 M)) 1)]), ((some 37), fun _ => .tuple #[uv (sm (ph h (df 0 M)) 1), .bool (ov (ph h (df 0 M)) 1)]), ((some 41), fun _ => uv (sm (ph h (df 0 M)) 1)), ((some 42), fun _ => .bool (ov (ph h (df 0 M)) 1)), (none, fun _ => undef)] (fun L g x => St w.heap.size w x ([(b8, Oc (uv (sm l (pl h (df 0 M)))) 24), (b7, Oc (uv (ph h (df 0 M))) 24), (b6, Oc (uv (pl h (df 0 M))) 24), (b5, Oc (uv (df 0 M)) 24), (b4, Od Z4 24), (b3, Oc (uv M) 24), (b2, (bif L 6 then Oc (uv (sm (ph h (df 0 M)) 1)) 24 else Oc (uv (ph h (df 0 M))) 24)), (b1, Oc (uv (sm l (pl h (df 0 M)))) 24)])) kr kr kr (H22.drew) ⟨?_, ?_, ?_, ?_, ?_, ?_, ?_, trivial⟩ ?_
      · exact gv_load 24 (.tmp 10) (fun _ => 1) (fun g => b7) (Value.cells (uv (ph h (df 0 M)))) 24 (0, 0) (fun _ _ _ h => h) (fun g => kr) (fun g => kr) (fun L g _ => kr) kr
      · exact gv_call 44 #[.int .u64 1] (fun _ _ _ h => h) (small_fn 1 (by omega)) (fun g w => kr)
      · exact gv_call 18 #[uv (ph h (df 0 M)), uv 1] (fun _ _ _ h => h) (add_fn (ph h (df 0 M)) 1 (ph_lt hh (df_lt _ _)) (by unfold big; omega)) (fun g w => kr)
      · exact gv_val (fun _ _ _ h => h) (fun g w => kr)
      · exact gv_val (fun _ _ _ h => h) (fun g w => kr)
      · exact gv_val (fun _ _ _ h => h) (fun g w => kr)
      · exact gv_store (fun _ => 6) 24 (.tmp 4) (.tmp 41) (fun g => b2) 0 (Value.cells (uv (ph h (df 0 M)))) (Value.cells (uv (sm (ph h (df 0 M)) 1))) 24 (uv (sm (ph h (df 0 M)) 1)) (fun g => kr) (fun g => kr) (fun g => kr) kr kr (of_decide_eq_true kr) kr (fun L g hN => by (have hs6 : L 6 = false := hN.1; show ([(b8, Oc (uv (sm l (pl h (df 0 M)))) 24), (b7, Oc (uv (ph h (df 0 M))) 24), (b6, Oc (uv (pl h (df 0 M))) 24), (b5, Oc (uv (df 0 M)) 24), (b4, Od Z4 24), (b3, Oc (uv M) 24), (b2, (bif L 6 then Oc (uv (sm (ph h (df 0 M)) 1)) 24 else Oc (uv (ph h (df 0 M))) 24)), (b1, Oc (uv (sm l (pl h (df 0 M)))) 24)])[(fun _ => 6) L]? = some (b2, Oc (uv (ph h (df 0 M))) 24) ∧ ([(b8, Oc (uv (sm l (pl h (df 0 M)))) 24), (b7, Oc (uv (ph h (df 0 M))) 24), (b6, Oc (uv (pl h (df 0 M))) 24), (b5, Oc (uv (df 0 M)) 24), (b4, Od Z4 24), (b3, Oc (uv M) 24), (b2, (bif L 6 then Oc (uv (sm (ph h (df 0 M)) 1)) 24 else Oc (uv (ph h (df 0 M))) 24)), (b1, Oc (uv (sm l (pl h (df 0 M)))) 24)]).set ((fun _ => 6) L) (b2, Oc (uv (sm (ph h (df 0 M)) 1)) 24) = ([(b8, Oc (uv (sm l (pl h (df 0 M)))) 24), (b7, Oc (uv (ph h (df 0 M))) 24), (b6, Oc (uv (pl h (df 0 M))) 24), (b5, Oc (uv (df 0 M)) 24), (b4, Od Z4 24), (b3, Oc (uv M) 24), (b2, (bif true then Oc (uv (sm (ph h (df 0 M)) 1)) 24 else Oc (uv (ph h (df 0 M))) 24)), (b1, Oc (uv (sm l (pl h (df 0 M)))) 24)]); rw [hs6]; exact ⟨rfl, rfl⟩))
      intro L0 g23 w23 hall HL; clear H22
      have H23 : St w.heap.size w w23 [(b8, Oc (uv (sm l (pl h (df 0 M)))) 24), (b7, Oc (uv (ph h (df 0 M))) 24), (b6, Oc (uv (pl h (df 0 M))) 24), (b5, Oc (uv (df 0 M)) 24), (b4, Od Z4 24), (b3, Oc (uv M) 24), (b2, Oc (uv (sm (ph h (df 0 M)) 1)) 24), (b1, Oc (uv (sm l (pl h (df 0 M)))) 24)] := by have e6 := hall 6 (Nat.le_of_ble_eq_true kr); simp only [e6, cond_true] at HL; exact HL
      clear HL hall
      have HD2 : St w.heap.size w w23 [(b5, Oc (uv (df 0 M)) 24), (b4, Od Z4 24), (b3, Oc (uv M) 24), (b2, Oc (uv (sm (ph h (df 0 M)) 1)) 24), (b1, Oc (uv (sm l (pl h (df 0 M)))) 24)] := H23.sub (List.Sublist.cons _ (List.Sublist.cons _ (List.Sublist.cons _ (List.Sublist.cons_cons _ (List.Sublist.cons_cons _ (List.Sublist.cons_cons _ (List.Sublist.cons_cons _ (List.Sublist.cons_cons _ List.Sublist.slnil))))))))
      show ∃ m, _ ∧ _
      exact ⟨_, (fold_less hM hne hfold), (sm l (pl h (df 0 M))), (sm (ph h (df 0 M)) 1), rfl, (sm_lt _ _), hh2, (fold_mod hfold hm), HD2, (Is.of ⟨kr, kr, kr, kr, kr, kr, kr, kr, trivial⟩)⟩

set_option maxRecDepth 100000 in
theorem prime0_fn  : Fn Try.prog 20 #[.int .i64 0] (.tuple #[uv PR, .int .i64 0]) := by
  refine Fn.intro (c := codeOf Try.f20) [.cell 2 24, .tmp 3] 12 Try.func20 kr kr kr fun w => ?_
  have H0 := St.start w
  refine g_sreg [0, 1] kr kr ?_
  refine s_alloc H0 (some 2) 24 (.agg Z4) kr kr kr ?_
  intro b1 w1 H1; clear H0
  refine s_val (some 3) (.int .i64 0) (fun w => kr) kr ?_
  refine s_nil ?_
  refine g_seq kr ?_
  refine g_sreg [0] kr kr ?_
  refine s_val (some 4) (.int .i64 0) (fun w => kr) kr ?_
  refine s_nil ?_
  refine g_block 0 kr ?_
  refine g_sreg [0, 1] kr kr ?_
  refine s_val (some 6) (.bool true) (fun w => kr) kr ?_
  refine s_val (some 5) (.bool true) (fun w => kr) kr ?_
  refine s_nil ?_
  refine g_cond_t kr kr ?_
  refine g_sreg [0, 1, 2] kr kr ?_
  refine s_val (some 7) (.agg #[.int .u64 18446744069414583343, .int .u64 18446744073709551615, .int .u64 18446744073709551615, .int .u64 18446744073709551615]) (fun w => kr) kr ?_
  refine s_store H1 0 [(b1, Obj.cells #[.int .u64 18446744069414583343, .int .u64 18446744073709551615, .int .u64 18446744073709551615, .int .u64 18446744073709551615] 24 (0, 0))] 24 (.tmp 2) (.tmp 7) b1 0 Z4 #[.int .u64 18446744069414583343, .int .u64 18446744073709551615, .int .u64 18446744073709551615, .int .u64 18446744073709551615] 24 (.agg #[.int .u64 18446744069414583343, .int .u64 18446744073709551615, .int .u64 18446744073709551615, .int .u64 18446744073709551615]) kr kr kr kr kr kr (of_decide_eq_true kr) kr kr ?_
  intro w2 H2; clear H1
  refine s_val (some 3) (.int .i64 0) (fun w => kr) kr ?_
  refine s_nil ?_
  refine g_ret kr ?_
  show ∃ vs, Res _ _ _ _ vs ∧ _
  refine ⟨[.agg #[.int .u64 18446744069414583343, .int .u64 18446744073709551615, .int .u64 18446744073709551615, .int .u64 18446744073709551615], .int .i64 0], (.agg (b := b1) #[.int .u64 18446744069414583343, .int .u64 18446744073709551615, .int .u64 18446744073709551615, .int .u64 18446744073709551615] 24 (0, 0) kr (H2.get 0 kr) kr (.tmp (.int .i64 0) kr .nil)), ?_, H2.below⟩
  kernel_rfl

set_option maxRecDepth 100000 in
theorem prime1_fn  : Fn Try.prog 20 #[.int .i64 1] (.tuple #[uv NR, .int .i64 0]) := by
  refine Fn.intro (c := codeOf Try.f20) [.cell 2 24, .tmp 3] 12 Try.func20 kr kr kr fun w => ?_
  have H0 := St.start w
  refine g_sreg [0, 1] kr kr ?_
  refine s_alloc H0 (some 2) 24 (.agg Z4) kr kr kr ?_
  intro b1 w1 H1; clear H0
  refine s_val (some 3) (.int .i64 0) (fun w => kr) kr ?_
  refine s_nil ?_
  refine g_seq kr ?_
  refine g_sreg [0] kr kr ?_
  refine s_val (some 4) (.int .i64 1) (fun w => kr) kr ?_
  refine s_nil ?_
  refine g_block 0 kr ?_
  refine g_sreg [0, 1] kr kr ?_
  refine s_val (some 6) (.bool false) (fun w => kr) kr ?_
  refine s_val (some 5) (.bool false) (fun w => kr) kr ?_
  refine s_nil ?_
  refine g_cond_f kr kr ?_
  refine g_sreg [0, 1] kr kr ?_
  refine s_val (some 9) (.bool true) (fun w => kr) kr ?_
  refine s_val (some 8) (.bool true) (fun w => kr) kr ?_
  refine s_nil ?_
  refine g_cond_t kr kr ?_
  refine g_sreg [0, 1, 2] kr kr ?_
  refine s_val (some 10) (.agg #[.int .u64 13822214165235122497, .int .u64 13451932020343611451, .int .u64 18446744073709551614, .int .u64 18446744073709551615]) (fun w => kr) kr ?_
  refine s_store H1 0 [(b1, Obj.cells #[.int .u64 13822214165235122497, .int .u64 13451932020343611451, .int .u64 18446744073709551614, .int .u64 18446744073709551615] 24 (0, 0))] 24 (.tmp 2) (.tmp 10) b1 0 Z4 #[.int .u64 13822214165235122497, .int .u64 13451932020343611451, .int .u64 18446744073709551614, .int .u64 18446744073709551615] 24 (.agg #[.int .u64 13822214165235122497, .int .u64 13451932020343611451, .int .u64 18446744073709551614, .int .u64 18446744073709551615]) kr kr kr kr kr kr (of_decide_eq_true kr) kr kr ?_
  intro w2 H2; clear H1
  refine s_val (some 3) (.int .i64 0) (fun w => kr) kr ?_
  refine s_nil ?_
  refine g_ret kr ?_
  show ∃ vs, Res _ _ _ _ vs ∧ _
  refine ⟨[.agg #[.int .u64 13822214165235122497, .int .u64 13451932020343611451, .int .u64 18446744073709551614, .int .u64 18446744073709551615], .int .i64 0], (.agg (b := b1) #[.int .u64 13822214165235122497, .int .u64 13451932020343611451, .int .u64 18446744073709551614, .int .u64 18446744073709551615] 24 (0, 0) kr (H2.get 0 kr) kr (.tmp (.int .i64 0) kr .nil)), ?_, H2.below⟩
  kernel_rfl

set_option maxRecDepth 100000 in
theorem reduce0_fn (A B : Nat) (hA : A < big) (hB : B < big) : Fn Try.prog 27 #[uv A, uv B, .int .i64 0] (.tuple #[uv (rs A B PR), .int .i64 0]) := by
  refine Fn.intro (c := codeOf Try.f27) [.cell 6 24, .tmp 7] 23 Try.func27 kr kr kr fun w => ?_
  have H0 := St.start w
  refine g_sreg [0, 1, 2, 3] kr kr ?_
  refine s_box H0 (some 3) 24 (.tmp 0) (uv A) kr kr kr ?_
  intro b1 w1 H1; clear H0
  refine s_box H1 (some 4) 24 (.tmp 1) (uv B) kr kr kr ?_
  intro b2 w2 H2; clear H1
  refine s_alloc H2 (some 6) 24 (.agg Z4) kr kr kr ?_
  intro b3 w3 H3; clear H2
  refine s_val (some 7) (.int .i64 0) (fun w => kr) kr ?_
  refine s_nil ?_
  refine g_sreg [0, 1, 2, 3, 4, 5, 6, 7] kr kr ?_
  refine s_val (some 11) (.int .i64 0) (fun w => kr) kr ?_
  refine s_call H3 (some 12) 20 #[.int .i64 0] (.tuple #[uv PR, .int .i64 0]) prime0_fn (fun w => kr) kr ?_
  intro w4 H4; clear H3
  refine s_val (some 10) (.tuple #[uv PR, .int .i64 0]) (fun w => kr) kr ?_
  refine s_val (some 13) (uv PR) (fun w => kr) kr ?_
  refine s_val (some 14) (.int .i64 0) (fun w => kr) kr ?_
  refine s_alloc H4 (some 8) 24 (.agg Z4) kr kr kr ?_
  intro b4 w5 H5; clear H4
  refine s_store H5 0 [(b4, Oc (uv PR) 24), (b3, Od Z4 24), (b2, Oc (uv B) 24), (b1, Oc (uv A) 24)] 24 (.tmp 8) (.tmp 13) b4 0 Z4 (Value.cells (uv PR)) 24 (uv PR) kr kr kr kr kr kr (of_decide_eq_true kr) kr kr ?_
  intro w6 H6; clear H5
  refine s_val (some 9) (.int .i64 0) (fun w => kr) kr ?_
  refine s_nil ?_
  refine g_seq kr ?_
  refine g_sreg [0, 1] kr kr ?_
  refine s_val (some 15) (.int .i64 0) (fun w => kr) kr ?_
  refine s_val (some 16) (.bool false) (fun w => kr) kr ?_
  refine s_nil ?_
  refine g_cond_f kr kr ?_
  refine g_skip kr ?_
  show WP _ _ _ _ _ _
  refine g_sreg [0, 1, 2, 3, 4, 5] kr kr ?_
  refine s_load H6 (some 19) 24 (.tmp 3) 3 b1 (Value.cells (uv A)) 24 (0, 0) kr kr kr kr kr ?_
  refine s_load H6 (some 20) 24 (.tmp 4) 2 b2 (Value.cells (uv B)) 24 (0, 0) kr kr kr kr kr ?_
  refine s_load H6 (some 21) 24 (.tmp 8) 0 b4 (Value.cells (uv PR)) 24 (0, 0) kr kr kr kr kr ?_
  refine s_call H6 (some 22) 49 #[uv A, uv B, uv PR] (uv (rs A B PR)) (rest_fn A B PR hA hB pr_ok) (fun w => kr) kr ?_
  intro w7 H7; clear H6
  refine s_store H7 1 [(b4, Oc (uv PR) 24), (b3, Oc (uv (rs A B PR)) 24), (b2, Oc (uv B) 24), (b1, Oc (uv A) 24)] 24 (.tmp 6) (.tmp 22) b3 0 Z4 (Value.cells (uv (rs A B PR))) 24 (uv (rs A B PR)) kr kr kr kr kr kr (of_decide_eq_true kr) kr kr ?_
  intro w8 H8; clear H7
  refine s_val (some 7) (.int .i64 0) (fun w => kr) kr ?_
  refine s_nil ?_
  refine g_ret kr ?_
  show ∃ vs, Res _ _ _ _ vs ∧ _
  refine ⟨[uv (rs A B PR), .int .i64 0], (.agg (b := b3) (Value.cells (uv (rs A B PR))) 24 (0, 0) kr (H8.get 1 kr) kr (.tmp (.int .i64 0) kr .nil)), ?_, H8.below⟩
  rfl

set_option maxRecDepth 100000 in
theorem reduce1_fn (A B : Nat) (hA : A < big) (hB : B < big) : Fn Try.prog 27 #[uv A, uv B, .int .i64 1] (.tuple #[uv (rs A B NR), .int .i64 0]) := by
  refine Fn.intro (c := codeOf Try.f27) [.cell 6 24, .tmp 7] 23 Try.func27 kr kr kr fun w => ?_
  have H0 := St.start w
  refine g_sreg [0, 1, 2, 3] kr kr ?_
  refine s_box H0 (some 3) 24 (.tmp 0) (uv A) kr kr kr ?_
  intro b1 w1 H1; clear H0
  refine s_box H1 (some 4) 24 (.tmp 1) (uv B) kr kr kr ?_
  intro b2 w2 H2; clear H1
  refine s_alloc H2 (some 6) 24 (.agg Z4) kr kr kr ?_
  intro b3 w3 H3; clear H2
  refine s_val (some 7) (.int .i64 0) (fun w => kr) kr ?_
  refine s_nil ?_
  refine g_sreg [0, 1, 2, 3, 4, 5, 6, 7] kr kr ?_
  refine s_val (some 11) (.int .i64 1) (fun w => kr) kr ?_
  refine s_call H3 (some 12) 20 #[.int .i64 1] (.tuple #[uv NR, .int .i64 0]) prime1_fn (fun w => kr) kr ?_
  intro w4 H4; clear H3
  refine s_val (some 10) (.tuple #[uv NR, .int .i64 0]) (fun w => kr) kr ?_
  refine s_val (some 13) (uv NR) (fun w => kr) kr ?_
  refine s_val (some 14) (.int .i64 0) (fun w => kr) kr ?_
  refine s_alloc H4 (some 8) 24 (.agg Z4) kr kr kr ?_
  intro b4 w5 H5; clear H4
  refine s_store H5 0 [(b4, Oc (uv NR) 24), (b3, Od Z4 24), (b2, Oc (uv B) 24), (b1, Oc (uv A) 24)] 24 (.tmp 8) (.tmp 13) b4 0 Z4 (Value.cells (uv NR)) 24 (uv NR) kr kr kr kr kr kr (of_decide_eq_true kr) kr kr ?_
  intro w6 H6; clear H5
  refine s_val (some 9) (.int .i64 0) (fun w => kr) kr ?_
  refine s_nil ?_
  refine g_seq kr ?_
  refine g_sreg [0, 1] kr kr ?_
  refine s_val (some 15) (.int .i64 0) (fun w => kr) kr ?_
  refine s_val (some 16) (.bool false) (fun w => kr) kr ?_
  refine s_nil ?_
  refine g_cond_f kr kr ?_
  refine g_skip kr ?_
  show WP _ _ _ _ _ _
  refine g_sreg [0, 1, 2, 3, 4, 5] kr kr ?_
  refine s_load H6 (some 19) 24 (.tmp 3) 3 b1 (Value.cells (uv A)) 24 (0, 0) kr kr kr kr kr ?_
  refine s_load H6 (some 20) 24 (.tmp 4) 2 b2 (Value.cells (uv B)) 24 (0, 0) kr kr kr kr kr ?_
  refine s_load H6 (some 21) 24 (.tmp 8) 0 b4 (Value.cells (uv NR)) 24 (0, 0) kr kr kr kr kr ?_
  refine s_call H6 (some 22) 49 #[uv A, uv B, uv NR] (uv (rs A B NR)) (rest_fn A B NR hA hB nr_ok) (fun w => kr) kr ?_
  intro w7 H7; clear H6
  refine s_store H7 1 [(b4, Oc (uv NR) 24), (b3, Oc (uv (rs A B NR)) 24), (b2, Oc (uv B) 24), (b1, Oc (uv A) 24)] 24 (.tmp 6) (.tmp 22) b3 0 Z4 (Value.cells (uv (rs A B NR))) 24 (uv (rs A B NR)) kr kr kr kr kr kr (of_decide_eq_true kr) kr kr ?_
  intro w8 H8; clear H7
  refine s_val (some 7) (.int .i64 0) (fun w => kr) kr ?_
  refine s_nil ?_
  refine g_ret kr ?_
  show ∃ vs, Res _ _ _ _ vs ∧ _
  refine ⟨[uv (rs A B NR), .int .i64 0], (.agg (b := b3) (Value.cells (uv (rs A B NR))) 24 (0, 0) kr (H8.get 1 kr) kr (.tmp (.int .i64 0) kr .nil)), ?_, H8.below⟩
  rfl

set_option maxRecDepth 100000 in
theorem fadd0_fn (A B : Nat) (hA : A < big) (hB : B < big) : Fn Try.prog 24 #[uv A, uv B, .int .i64 0] (.tuple #[uv (fAdd A B PR), .int .i64 0]) := by
  refine Fn.intro (c := codeOf Try.f24) [.cell 6 24, .tmp 7] 25 Try.func24 kr kr kr fun w => ?_
  have H0 := St.start w
  refine g_sreg [0, 1, 2, 3] kr kr ?_
  refine s_box H0 (some 3) 24 (.tmp 0) (uv A) kr kr kr ?_
  intro b1 w1 H1; clear H0
  refine s_box H1 (some 4) 24 (.tmp 1) (uv B) kr kr kr ?_
  intro b2 w2 H2; clear H1
  refine s_alloc H2 (some 6) 24 (.agg Z4) kr kr kr ?_
  intro b3 w3 H3; clear H2
  refine s_val (some 7) (.int .i64 0) (fun w => kr) kr ?_
  refine s_nil ?_
  refine g_sreg [0, 1, 2, 3, 4, 5, 6, 7, 8] kr kr ?_
  refine s_load H3 (some 12) 24 (.tmp 3) 2 b1 (Value.cells (uv A)) 24 (0, 0) kr kr kr kr kr ?_
  refine s_load H3 (some 13) 24 (.tmp 4) 1 b2 (Value.cells (uv B)) 24 (0, 0) kr kr kr kr kr ?_
  refine s_call H3 (some 14) 18 #[uv A, uv B] (.tuple #[uv (sm A B), .bool (ov A B)]) (add_fn A B hA hB) (fun w => kr) kr ?_
  intro w4 H4; clear H3
  refine s_val (some 11) (.tuple #[uv (sm A B), .bool (ov A B)]) (fun w => kr) kr ?_
  refine s_val (some 15) (uv (sm A B)) (fun w => kr) kr ?_
  refine s_val (some 16) (.bool (ov A B)) (fun w => kr) kr ?_
  refine s_alloc H4 (some 8) 24 (.agg Z4) kr kr kr ?_
  intro b4 w5 H5; clear H4
  refine s_store H5 0 [(b4, Oc (uv (sm A B)) 24), (b3, Od Z4 24), (b2, Oc (uv B) 24), (b1, Oc (uv A) 24)] 24 (.tmp 8) (.tmp 15) b4 0 Z4 (Value.cells (uv (sm A B))) 24 (uv (sm A B)) kr kr kr kr kr kr (of_decide_eq_true kr) kr kr ?_
  intro w6 H6; clear H5
  refine s_val (some 9) (.bool (ov A B)) (fun w => kr) kr ?_
  refine s_nil ?_
  refine g_sreg [0] kr kr ?_
  refine s_alloc H6 (some 10) 24 (.agg Z4) kr kr kr ?_
  intro b5 w7 H7; clear H6
  refine s_nil ?_
  refine g_seq kr ?_
  refine g_sreg [0] kr kr ?_
  cases hov : ov A B
  · skip
    refine s_val (some 17) (.bool false) (fun w => kr) kr ?_
    refine s_nil ?_
    refine g_cond_f kr kr ?_
    refine g_skip kr ?_
    show WP _ _ _ _ _ _
    refine g_sreg [0, 1, 2, 3, 4, 5, 6, 7] kr kr ?_
    refine s_load H7 (some 19) 24 (.tmp 8) 1 b4 (Value.cells (uv (sm A B))) 24 (0, 0) kr kr kr kr kr ?_
    refine s_load H7 (some 20) 24 (.tmp 10) 0 b5 Z4 24 (0, 0) kr kr kr kr kr ?_
    refine s_val (some 21) (.int .i64 0) (fun w => kr) kr ?_
    refine s_call H7 (some 22) 27 #[uv (sm A B), .agg Z4, .int .i64 0] (.tuple #[uv (rs (sm A B) 0 PR), .int .i64 0]) (reduce0_fn (sm A B) 0 (sm_lt _ _) (by unfold big; omega)) (fun w => kr) kr ?_
    intro w8 H8; clear H7
    refine s_val (some 23) (uv (rs (sm A B) 0 PR)) (fun w => kr) kr ?_
    refine s_val (some 24) (.int .i64 0) (fun w => kr) kr ?_
    refine s_store H8 2 [(b5, Od Z4 24), (b4, Oc (uv (sm A B)) 24), (b3, Oc (uv (rs (sm A B) 0 PR)) 24), (b2, Oc (uv B) 24), (b1, Oc (uv A) 24)] 24 (.tmp 6) (.tmp 23) b3 0 Z4 (Value.cells (uv (rs (sm A B) 0 PR))) 24 (uv (rs (sm A B) 0 PR)) kr kr kr kr kr kr (of_decide_eq_true kr) kr kr ?_
    intro w9 H9; clear H8
    refine s_val (some 7) (.int .i64 0) (fun w => kr) kr ?_
    refine s_nil ?_
    refine g_ret kr ?_
    show ∃ vs, Res _ _ _ _ vs ∧ _
    refine ⟨[uv (rs (sm A B) 0 PR), .int .i64 0], (.agg (b := b3) (Value.cells (uv (rs (sm A B) 0 PR))) 24 (0, 0) kr (H9.get 2 kr) kr (.tmp (.int .i64 0) kr .nil)), ?_, H9.below⟩
    have e := fAdd_of (M := PR) hA hB
    rw [hov] at e; simp only [Bool.false_eq_true, if_true, if_false] at e
    exact congrArg (fun n => Value.tuple #[uv n, .int .i64 0]) e
  · skip
    refine s_val (some 17) (.bool true) (fun w => kr) kr ?_
    refine s_nil ?_
    refine g_cond_t kr kr ?_
    refine g_reg0 [0, 1] kr ?_
    refine s_call H7 (some 18) 44 #[.int .u64 1] (uv 1) (small_fn 1 (by omega)) (fun w => kr) kr ?_
    intro w10 H10; clear H7
    refine s_store H10 0 [(b5, Oc (uv 1) 24), (b4, Oc (uv (sm A B)) 24), (b3, Od Z4 24), (b2, Oc (uv B) 24), (b1, Oc (uv A) 24)] 24 (.tmp 10) (.tmp 18) b5 0 Z4 (Value.cells (uv 1)) 24 (uv 1) kr kr kr kr kr kr (of_decide_eq_true kr) kr kr ?_
    intro w11 H11; clear H10
    refine s_nil ?_
    show WP _ _ _ _ _ _
    refine g_sreg [0, 1, 2, 3, 4, 5, 6, 7] kr kr ?_
    refine s_load H11 (some 19) 24 (.tmp 8) 1 b4 (Value.cells (uv (sm A B))) 24 (0, 0) kr kr kr kr kr ?_
    refine s_load H11 (some 20) 24 (.tmp 10) 0 b5 (Value.cells (uv 1)) 24 (0, 0) kr kr kr kr kr ?_
    refine s_val (some 21) (.int .i64 0) (fun w => kr) kr ?_
    refine s_call H11 (some 22) 27 #[uv (sm A B), uv 1, .int .i64 0] (.tuple #[uv (rs (sm A B) 1 PR), .int .i64 0]) (reduce0_fn (sm A B) 1 (sm_lt _ _) (by unfold big; omega)) (fun w => kr) kr ?_
    intro w12 H12; clear H11
    refine s_val (some 23) (uv (rs (sm A B) 1 PR)) (fun w => kr) kr ?_
    refine s_val (some 24) (.int .i64 0) (fun w => kr) kr ?_
    refine s_store H12 2 [(b5, Oc (uv 1) 24), (b4, Oc (uv (sm A B)) 24), (b3, Oc (uv (rs (sm A B) 1 PR)) 24), (b2, Oc (uv B) 24), (b1, Oc (uv A) 24)] 24 (.tmp 6) (.tmp 23) b3 0 Z4 (Value.cells (uv (rs (sm A B) 1 PR))) 24 (uv (rs (sm A B) 1 PR)) kr kr kr kr kr kr (of_decide_eq_true kr) kr kr ?_
    intro w13 H13; clear H12
    refine s_val (some 7) (.int .i64 0) (fun w => kr) kr ?_
    refine s_nil ?_
    refine g_ret kr ?_
    show ∃ vs, Res _ _ _ _ vs ∧ _
    refine ⟨[uv (rs (sm A B) 1 PR), .int .i64 0], (.agg (b := b3) (Value.cells (uv (rs (sm A B) 1 PR))) 24 (0, 0) kr (H13.get 2 kr) kr (.tmp (.int .i64 0) kr .nil)), ?_, H13.below⟩
    have e := fAdd_of (M := PR) hA hB
    rw [hov] at e; simp only [Bool.false_eq_true, if_true, if_false] at e
    exact congrArg (fun n => Value.tuple #[uv n, .int .i64 0]) e

set_option maxRecDepth 100000 in
theorem fadd1_fn (A B : Nat) (hA : A < big) (hB : B < big) : Fn Try.prog 24 #[uv A, uv B, .int .i64 1] (.tuple #[uv (fAdd A B NR), .int .i64 0]) := by
  refine Fn.intro (c := codeOf Try.f24) [.cell 6 24, .tmp 7] 25 Try.func24 kr kr kr fun w => ?_
  have H0 := St.start w
  refine g_sreg [0, 1, 2, 3] kr kr ?_
  refine s_box H0 (some 3) 24 (.tmp 0) (uv A) kr kr kr ?_
  intro b1 w1 H1; clear H0
  refine s_box H1 (some 4) 24 (.tmp 1) (uv B) kr kr kr ?_
  intro b2 w2 H2; clear H1
  refine s_alloc H2 (some 6) 24 (.agg Z4) kr kr kr ?_
  intro b3 w3 H3; clear H2
  refine s_val (some 7) (.int .i64 0) (fun w => kr) kr ?_
  refine s_nil ?_
  refine g_sreg [0, 1, 2, 3, 4, 5, 6, 7, 8] kr kr ?_
  refine s_load H3 (some 12) 24 (.tmp 3) 2 b1 (Value.cells (uv A)) 24 (0, 0) kr kr kr kr kr ?_
  refine s_load H3 (some 13) 24 (.tmp 4) 1 b2 (Value.cells (uv B)) 24 (0, 0) kr kr kr kr kr ?_
  refine s_call H3 (some 14) 18 #[uv A, uv B] (.tuple #[uv (sm A B), .bool (ov A B)]) (add_fn A B hA hB) (fun w => kr) kr ?_
  intro w4 H4; clear H3
  refine s_val (some 11) (.tuple #[uv (sm A B), .bool (ov A B)]) (fun w => kr) kr ?_
  refine s_val (some 15) (uv (sm A B)) (fun w => kr) kr ?_
  refine s_val (some 16) (.bool (ov A B)) (fun w => kr) kr ?_
  refine s_alloc H4 (some 8) 24 (.agg Z4) kr kr kr ?_
  intro b4 w5 H5; clear H4
  refine s_store H5 0 [(b4, Oc (uv (sm A B)) 24), (b3, Od Z4 24), (b2, Oc (uv B) 24), (b1, Oc (uv A) 24)] 24 (.tmp 8) (.tmp 15) b4 0 Z4 (Value.cells (uv (sm A B))) 24 (uv (sm A B)) kr kr kr kr kr kr (of_decide_eq_true kr) kr kr ?_
  intro w6 H6; clear H5
  refine s_val (some 9) (.bool (ov A B)) (fun w => kr) kr ?_
  refine s_nil ?_
  refine g_sreg [0] kr kr ?_
  refine s_alloc H6 (some 10) 24 (.agg Z4) kr kr kr ?_
  intro b5 w7 H7; clear H6
  refine s_nil ?_
  refine g_seq kr ?_
  refine g_sreg [0] kr kr ?_
  cases hov : ov A B
  · skip
    refine s_val (some 17) (.bool false) (fun w => kr) kr ?_
    refine s_nil ?_
    refine g_cond_f kr kr ?_
    refine g_skip kr ?_
    show WP _ _ _ _ _ _
    refine g_sreg [0, 1, 2, 3, 4, 5, 6, 7] kr kr ?_
    refine s_load H7 (some 19) 24 (.tmp 8) 1 b4 (Value.cells (uv (sm A B))) 24 (0, 0) kr kr kr kr kr ?_
    refine s_load H7 (some 20) 24 (.tmp 10) 0 b5 Z4 24 (0, 0) kr kr kr kr kr ?_
    refine s_val (some 21) (.int .i64 1) (fun w => kr) kr ?_
    refine s_call H7 (some 22) 27 #[uv (sm A B), .agg Z4, .int .i64 1] (.tuple #[uv (rs (sm A B) 0 NR), .int .i64 0]) (reduce1_fn (sm A B) 0 (sm_lt _ _) (by unfold big; omega)) (fun w => kr) kr ?_
    intro w8 H8; clear H7
    refine s_val (some 23) (uv (rs (sm A B) 0 NR)) (fun w => kr) kr ?_
    refine s_val (some 24) (.int .i64 0) (fun w => kr) kr ?_
    refine s_store H8 2 [(b5, Od Z4 24), (b4, Oc (uv (sm A B)) 24), (b3, Oc (uv (rs (sm A B) 0 NR)) 24), (b2, Oc (uv B) 24), (b1, Oc (uv A) 24)] 24 (.tmp 6) (.tmp 23) b3 0 Z4 (Value.cells (uv (rs (sm A B) 0 NR))) 24 (uv (rs (sm A B) 0 NR)) kr kr kr kr kr kr (of_decide_eq_true kr) kr kr ?_
    intro w9 H9; clear H8
    refine s_val (some 7) (.int .i64 0) (fun w => kr) kr ?_
    refine s_nil ?_
    refine g_ret kr ?_
    show ∃ vs, Res _ _ _ _ vs ∧ _
    refine ⟨[uv (rs (sm A B) 0 NR), .int .i64 0], (.agg (b := b3) (Value.cells (uv (rs (sm A B) 0 NR))) 24 (0, 0) kr (H9.get 2 kr) kr (.tmp (.int .i64 0) kr .nil)), ?_, H9.below⟩
    have e := fAdd_of (M := NR) hA hB
    rw [hov] at e; simp only [Bool.false_eq_true, if_true, if_false] at e
    exact congrArg (fun n => Value.tuple #[uv n, .int .i64 0]) e
  · skip
    refine s_val (some 17) (.bool true) (fun w => kr) kr ?_
    refine s_nil ?_
    refine g_cond_t kr kr ?_
    refine g_reg0 [0, 1] kr ?_
    refine s_call H7 (some 18) 44 #[.int .u64 1] (uv 1) (small_fn 1 (by omega)) (fun w => kr) kr ?_
    intro w10 H10; clear H7
    refine s_store H10 0 [(b5, Oc (uv 1) 24), (b4, Oc (uv (sm A B)) 24), (b3, Od Z4 24), (b2, Oc (uv B) 24), (b1, Oc (uv A) 24)] 24 (.tmp 10) (.tmp 18) b5 0 Z4 (Value.cells (uv 1)) 24 (uv 1) kr kr kr kr kr kr (of_decide_eq_true kr) kr kr ?_
    intro w11 H11; clear H10
    refine s_nil ?_
    show WP _ _ _ _ _ _
    refine g_sreg [0, 1, 2, 3, 4, 5, 6, 7] kr kr ?_
    refine s_load H11 (some 19) 24 (.tmp 8) 1 b4 (Value.cells (uv (sm A B))) 24 (0, 0) kr kr kr kr kr ?_
    refine s_load H11 (some 20) 24 (.tmp 10) 0 b5 (Value.cells (uv 1)) 24 (0, 0) kr kr kr kr kr ?_
    refine s_val (some 21) (.int .i64 1) (fun w => kr) kr ?_
    refine s_call H11 (some 22) 27 #[uv (sm A B), uv 1, .int .i64 1] (.tuple #[uv (rs (sm A B) 1 NR), .int .i64 0]) (reduce1_fn (sm A B) 1 (sm_lt _ _) (by unfold big; omega)) (fun w => kr) kr ?_
    intro w12 H12; clear H11
    refine s_val (some 23) (uv (rs (sm A B) 1 NR)) (fun w => kr) kr ?_
    refine s_val (some 24) (.int .i64 0) (fun w => kr) kr ?_
    refine s_store H12 2 [(b5, Oc (uv 1) 24), (b4, Oc (uv (sm A B)) 24), (b3, Oc (uv (rs (sm A B) 1 NR)) 24), (b2, Oc (uv B) 24), (b1, Oc (uv A) 24)] 24 (.tmp 6) (.tmp 23) b3 0 Z4 (Value.cells (uv (rs (sm A B) 1 NR))) 24 (uv (rs (sm A B) 1 NR)) kr kr kr kr kr kr (of_decide_eq_true kr) kr kr ?_
    intro w13 H13; clear H12
    refine s_val (some 7) (.int .i64 0) (fun w => kr) kr ?_
    refine s_nil ?_
    refine g_ret kr ?_
    show ∃ vs, Res _ _ _ _ vs ∧ _
    refine ⟨[uv (rs (sm A B) 1 NR), .int .i64 0], (.agg (b := b3) (Value.cells (uv (rs (sm A B) 1 NR))) 24 (0, 0) kr (H13.get 2 kr) kr (.tmp (.int .i64 0) kr .nil)), ?_, H13.below⟩
    have e := fAdd_of (M := NR) hA hB
    rw [hov] at e; simp only [Bool.false_eq_true, if_true, if_false] at e
    exact congrArg (fun n => Value.tuple #[uv n, .int .i64 0]) e

set_option maxRecDepth 100000 in
theorem fmul0_fn (A B : Nat) (hA : A < big) (hB : B < big) : Fn Try.prog 23 #[uv A, uv B, .int .i64 0] (.tuple #[uv (fMul A B PR), .int .i64 0]) := by
  refine Fn.intro (c := codeOf Try.f23) [.cell 6 24, .tmp 7] 22 Try.func23 kr kr kr fun w => ?_
  have H0 := St.start w
  refine g_sreg [0, 1, 2, 3] kr kr ?_
  refine s_box H0 (some 3) 24 (.tmp 0) (uv A) kr kr kr ?_
  intro b1 w1 H1; clear H0
  refine s_box H1 (some 4) 24 (.tmp 1) (uv B) kr kr kr ?_
  intro b2 w2 H2; clear H1
  refine s_alloc H2 (some 6) 24 (.agg Z4) kr kr kr ?_
  intro b3 w3 H3; clear H2
  refine s_val (some 7) (.int .i64 0) (fun w => kr) kr ?_
  refine s_nil ?_
  refine g_sreg [0, 1, 2, 3, 4, 5, 6, 7, 8, 9] kr kr ?_
  refine s_load H3 (some 11) 24 (.tmp 3) 2 b1 (Value.cells (uv A)) 24 (0, 0) kr kr kr kr kr ?_
  refine s_load H3 (some 12) 24 (.tmp 4) 1 b2 (Value.cells (uv B)) 24 (0, 0) kr kr kr kr kr ?_
  refine s_call H3 (some 13) 43 #[uv A, uv B] (.tuple #[uv (pl A B), uv (ph A B)]) (mul_fn A B hA hB) (fun w => kr) kr ?_
  intro w4 H4; clear H3
  refine s_val (some 10) (.tuple #[uv (pl A B), uv (ph A B)]) (fun w => kr) kr ?_
  refine s_val (some 14) (uv (pl A B)) (fun w => kr) kr ?_
  refine s_val (some 15) (uv (ph A B)) (fun w => kr) kr ?_
  refine s_alloc H4 (some 8) 24 (.agg Z4) kr kr kr ?_
  intro b4 w5 H5; clear H4
  refine s_alloc H5 (some 9) 24 (.agg Z4) kr kr kr ?_
  intro b5 w6 H6; clear H5
  refine s_store H6 1 [(b5, Od Z4 24), (b4, Oc (uv (pl A B)) 24), (b3, Od Z4 24), (b2, Oc (uv B) 24), (b1, Oc (uv A) 24)] 24 (.tmp 8) (.tmp 14) b4 0 Z4 (Value.cells (uv (pl A B))) 24 (uv (pl A B)) kr kr kr kr kr kr (of_decide_eq_true kr) kr kr ?_
  intro w7 H7; clear H6
  refine s_store H7 0 [(b5, Oc (uv (ph A B)) 24), (b4, Oc (uv (pl A B)) 24), (b3, Od Z4 24), (b2, Oc (uv B) 24), (b1, Oc (uv A) 24)] 24 (.tmp 9) (.tmp 15) b5 0 Z4 (Value.cells (uv (ph A B))) 24 (uv (ph A B)) kr kr kr kr kr kr (of_decide_eq_true kr) kr kr ?_
  intro w8 H8; clear H7
  refine s_nil ?_
  refine g_sreg [0, 1, 2, 3, 4, 5, 6, 7] kr kr ?_
  refine s_load H8 (some 16) 24 (.tmp 8) 1 b4 (Value.cells (uv (pl A B))) 24 (0, 0) kr kr kr kr kr ?_
  refine s_load H8 (some 17) 24 (.tmp 9) 0 b5 (Value.cells (uv (ph A B))) 24 (0, 0) kr kr kr kr kr ?_
  refine s_val (some 18) (.int .i64 0) (fun w => kr) kr ?_
  refine s_call H8 (some 19) 27 #[uv (pl A B), uv (ph A B), .int .i64 0] (.tuple #[uv (rs (pl A B) (ph A B) PR), .int .i64 0]) (reduce0_fn (pl A B) (ph A B) (pl_lt _ _) (ph_lt hA hB)) (fun w => kr) kr ?_
  intro w9 H9; clear H8
  refine s_val (some 20) (uv (rs (pl A B) (ph A B) PR)) (fun w => kr) kr ?_
  refine s_val (some 21) (.int .i64 0) (fun w => kr) kr ?_
  refine s_store H9 2 [(b5, Oc (uv (ph A B)) 24), (b4, Oc (uv (pl A B)) 24), (b3, Oc (uv (rs (pl A B) (ph A B) PR)) 24), (b2, Oc (uv B) 24), (b1, Oc (uv A) 24)] 24 (.tmp 6) (.tmp 20) b3 0 Z4 (Value.cells (uv (rs (pl A B) (ph A B) PR))) 24 (uv (rs (pl A B) (ph A B) PR)) kr kr kr kr kr kr (of_decide_eq_true kr) kr kr ?_
  intro w10 H10; clear H9
  refine s_val (some 7) (.int .i64 0) (fun w => kr) kr ?_
  refine s_nil ?_
  refine g_ret kr ?_
  show ∃ vs, Res _ _ _ _ vs ∧ _
  refine ⟨[uv (rs (pl A B) (ph A B) PR), .int .i64 0], (.agg (b := b3) (Value.cells (uv (rs (pl A B) (ph A B) PR))) 24 (0, 0) kr (H10.get 2 kr) kr (.tmp (.int .i64 0) kr .nil)), ?_, H10.below⟩
  exact congrArg (fun n => Value.tuple #[uv n, .int .i64 0]) (fMul_of A B PR)

set_option maxRecDepth 100000 in
theorem fmul1_fn (A B : Nat) (hA : A < big) (hB : B < big) : Fn Try.prog 23 #[uv A, uv B, .int .i64 1] (.tuple #[uv (fMul A B NR), .int .i64 0]) := by
  refine Fn.intro (c := codeOf Try.f23) [.cell 6 24, .tmp 7] 22 Try.func23 kr kr kr fun w => ?_
  have H0 := St.start w
  refine g_sreg [0, 1, 2, 3] kr kr ?_
  refine s_box H0 (some 3) 24 (.tmp 0) (uv A) kr kr kr ?_
  intro b1 w1 H1; clear H0
  refine s_box H1 (some 4) 24 (.tmp 1) (uv B) kr kr kr ?_
  intro b2 w2 H2; clear H1
  refine s_alloc H2 (some 6) 24 (.agg Z4) kr kr kr ?_
  intro b3 w3 H3; clear H2
  refine s_val (some 7) (.int .i64 0) (fun w => kr) kr ?_
  refine s_nil ?_
  refine g_sreg [0, 1, 2, 3, 4, 5, 6, 7, 8, 9] kr kr ?_
  refine s_load H3 (some 11) 24 (.tmp 3) 2 b1 (Value.cells (uv A)) 24 (0, 0) kr kr kr kr kr ?_
  refine s_load H3 (some 12) 24 (.tmp 4) 1 b2 (Value.cells (uv B)) 24 (0, 0) kr kr kr kr kr ?_
  refine s_call H3 (some 13) 43 #[uv A, uv B] (.tuple #[uv (pl A B), uv (ph A B)]) (mul_fn A B hA hB) (fun w => kr) kr ?_
  intro w4 H4; clear H3
  refine s_val (some 10) (.tuple #[uv (pl A B), uv (ph A B)]) (fun w => kr) kr ?_
  refine s_val (some 14) (uv (pl A B)) (fun w => kr) kr ?_
  refine s_val (some 15) (uv (ph A B)) (fun w => kr) kr ?_
  refine s_alloc H4 (some 8) 24 (.agg Z4) kr kr kr ?_
  intro b4 w5 H5; clear H4
  refine s_alloc H5 (some 9) 24 (.agg Z4) kr kr kr ?_
  intro b5 w6 H6; clear H5
  refine s_store H6 1 [(b5, Od Z4 24), (b4, Oc (uv (pl A B)) 24), (b3, Od Z4 24), (b2, Oc (uv B) 24), (b1, Oc (uv A) 24)] 24 (.tmp 8) (.tmp 14) b4 0 Z4 (Value.cells (uv (pl A B))) 24 (uv (pl A B)) kr kr kr kr kr kr (of_decide_eq_true kr) kr kr ?_
  intro w7 H7; clear H6
  refine s_store H7 0 [(b5, Oc (uv (ph A B)) 24), (b4, Oc (uv (pl A B)) 24), (b3, Od Z4 24), (b2, Oc (uv B) 24), (b1, Oc (uv A) 24)] 24 (.tmp 9) (.tmp 15) b5 0 Z4 (Value.cells (uv (ph A B))) 24 (uv (ph A B)) kr kr kr kr kr kr (of_decide_eq_true kr) kr kr ?_
  intro w8 H8; clear H7
  refine s_nil ?_
  refine g_sreg [0, 1, 2, 3, 4, 5, 6, 7] kr kr ?_
  refine s_load H8 (some 16) 24 (.tmp 8) 1 b4 (Value.cells (uv (pl A B))) 24 (0, 0) kr kr kr kr kr ?_
  refine s_load H8 (some 17) 24 (.tmp 9) 0 b5 (Value.cells (uv (ph A B))) 24 (0, 0) kr kr kr kr kr ?_
  refine s_val (some 18) (.int .i64 1) (fun w => kr) kr ?_
  refine s_call H8 (some 19) 27 #[uv (pl A B), uv (ph A B), .int .i64 1] (.tuple #[uv (rs (pl A B) (ph A B) NR), .int .i64 0]) (reduce1_fn (pl A B) (ph A B) (pl_lt _ _) (ph_lt hA hB)) (fun w => kr) kr ?_
  intro w9 H9; clear H8
  refine s_val (some 20) (uv (rs (pl A B) (ph A B) NR)) (fun w => kr) kr ?_
  refine s_val (some 21) (.int .i64 0) (fun w => kr) kr ?_
  refine s_store H9 2 [(b5, Oc (uv (ph A B)) 24), (b4, Oc (uv (pl A B)) 24), (b3, Oc (uv (rs (pl A B) (ph A B) NR)) 24), (b2, Oc (uv B) 24), (b1, Oc (uv A) 24)] 24 (.tmp 6) (.tmp 20) b3 0 Z4 (Value.cells (uv (rs (pl A B) (ph A B) NR))) 24 (uv (rs (pl A B) (ph A B) NR)) kr kr kr kr kr kr (of_decide_eq_true kr) kr kr ?_
  intro w10 H10; clear H9
  refine s_val (some 7) (.int .i64 0) (fun w => kr) kr ?_
  refine s_nil ?_
  refine g_ret kr ?_
  show ∃ vs, Res _ _ _ _ vs ∧ _
  refine ⟨[uv (rs (pl A B) (ph A B) NR), .int .i64 0], (.agg (b := b3) (Value.cells (uv (rs (pl A B) (ph A B) NR))) 24 (0, 0) kr (H10.get 2 kr) kr (.tmp (.int .i64 0) kr .nil)), ?_, H10.below⟩
  exact congrArg (fun n => Value.tuple #[uv n, .int .i64 0]) (fMul_of A B NR)

end Go.Proofs.Ytljhbhhpfkmemaa
