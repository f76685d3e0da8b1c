/-
  Package point: the curve, turned ones, shares.
-/
import Derived.Test.YtljhbhhpfkmemaaPtV
import Derived.Test.YtljhbhhpfkmemaaPtW
import Derived.Test.YtljhbhhpfkmemaaPtL
namespace Go.Proofs.Ytljhbhhpfkmemaa
open Go Go.RowKit
set_option linter.unusedVariables false
set_option maxRecDepth 100000 in
set_option maxHeartbeats 2000000 in
theorem on_fn (p : Ec.Pd) (hp : p.Ok) : Fn Try.prog 10 #[pv p] (.bool (Ec.onB p)) := by
  refine Fn.intro (c := codeOf Try.f10) [.tmp 2] 28 Try.func10 kr kr kr fun w => ?_
  have H0 := St.start w
  refine g_sreg [0, 1] kr kr ?_
  refine s_box H0 (some 1) 26 (.tmp 0) (pv p) kr kr kr ?_
  intro b1 w1 H1; clear H0
  refine s_val (some 2) (.bool false) (fun w => kr) kr ?_
  refine s_nil ?_
  refine g_seq kr ?_
  refine g_sreg [0, 1] kr kr ?_
  refine s_val (some 3) (.pointer (some ⟨b1, 8, none⟩)) (fun w => kr) kr ?_
  refine s_load1 H1 (some 4) 4 (.tmp 3) 0 b1 8 (Value.cells (pv p)) 26 (0, 0) (.bool (Ec.Pd.b p)) kr kr kr kr kr kr ?_
  refine s_nil ?_
  cases hb1 : Ec.Pd.b p
  · skip
    refine g_cond_f kr kr ?_
    refine g_skip kr ?_
    show WP _ _ _ _ _ _
    by_cases hx1 : (Ec.Pd.X p) < PR
    · skip
      by_cases hx2 : (Ec.Pd.Y p) < PR
      · skip
        refine D2.g_sdraw [0, 1, 2, 3, 4, 5, 6, 7, 8, 9, 10, 11, 12, 13, 14, 15, 16, 17, 18, 19] [((some 9), fun _ => .pointer (some ⟨b1, 0, none⟩)), ((some 10), fun _ => uv (Ec.Pd.X p)), ((some 11), fun _ => .bool true), ((some 12), fun _ => .bool true), ((some 13), fun _ => .pointer (some ⟨b1, 4, none⟩)), ((some 14), fun _ => uv (Ec.Pd.Y p)), ((some 15), fun _ => .bool true), ((some 16), fun _ => .bool true), ((some 17), fun _ => .bool true), ((some 18), fun _ => .pointer (some ⟨b1, 4, none⟩)), ((some 19), fun _ => uv (Ec.Pd.Y p)), ((some 20), fun _ => .pointer (some ⟨b1, 4, none⟩)), ((some 21), fun _ => uv (Ec.Pd.Y p)), ((some 22), fun _ => uv (fMul (Ec.Pd.Y p) (Ec.Pd.Y p) PR)), ((some 23), fun _ => .pointer (some ⟨b1, 0, none⟩)), ((some 24), fun _ => uv (Ec.Pd.X p)), ((some 25), fun _ => uv (Ec.sqN (Ec.Pd.X p))), ((some 26), fun _ => .bool (decide ((fMul (Ec.Pd.Y p) (Ec.Pd.Y p) PR) = (Ec.sqN (Ec.Pd.X p))))), ((some 27), fun _ => .bool (decide ((fMul (Ec.Pd.Y p) (Ec.Pd.Y p) PR) = (Ec.sqN (Ec.Pd.X p))))), ((some 2), fun _ => .bool (decide ((fMul (Ec.Pd.Y p) (Ec.Pd.Y p) PR) = (Ec.sqN (Ec.Pd.X p)))))] (D2.Pre w.heap.size w (fun L g => [(true, (b1, Oc (pv p) 26))]) (fun L g => True)) kr kr kr kr ⟨D2.StE.of H1.drew _ kr, trivial⟩ ⟨?_, ?_, ?_, ?_, ?_, ?_, ?_, ?_, ?_, ?_, ?_, ?_, ?_, ?_, ?_, ?_, ?_, ?_, ?_, ?_, trivial⟩ ?_
        · exact D2.gv_val (fun _ _ _ h => h) (fun g w => kr)
        · exact D2.gv_loadp 24 (.tmp 9) 0 (fun g => b1) 0 4 (Value.cells (pv p)) (Value.cells (uv (Ec.Pd.X p))) 26 (0, 0) (fun _ _ _ h => h) (fun g => kr) (fun g => kr) (fun L g hN => kr) kr (of_decide_eq_true kr) kr
        · exact D2.gv_call 30 #[uv (Ec.Pd.X p)] (fun _ _ _ h => h) (red_yes (Ec.Pd.X p) hp.X (by omega)) (fun g w => kr)
        · exact D2.gv_val (fun _ _ _ h => h) (fun g w => kr)
        · exact D2.gv_val (fun _ _ _ h => h) (fun g w => kr)
        · exact D2.gv_loadp 24 (.tmp 13) 0 (fun g => b1) 4 4 (Value.cells (pv p)) (Value.cells (uv (Ec.Pd.Y p))) 26 (0, 0) (fun _ _ _ h => h) (fun g => kr) (fun g => kr) (fun L g hN => kr) kr (of_decide_eq_true kr) kr
        · exact D2.gv_call 30 #[uv (Ec.Pd.Y p)] (fun _ _ _ h => h) (red_yes (Ec.Pd.Y p) hp.Y (by omega)) (fun g w => kr)
        · exact D2.gv_val (fun _ _ _ h => h) (fun g w => kr)
        · exact D2.gv_val (fun _ _ _ h => h) (fun g w => kr)
        · exact D2.gv_val (fun _ _ _ h => h) (fun g w => kr)
        · exact D2.gv_loadp 24 (.tmp 18) 0 (fun g => b1) 4 4 (Value.cells (pv p)) (Value.cells (uv (Ec.Pd.Y p))) 26 (0, 0) (fun _ _ _ h => h) (fun g => kr) (fun g => kr) (fun L g hN => kr) kr (of_decide_eq_true kr) kr
        · exact D2.gv_val (fun _ _ _ h => h) (fun g w => kr)
        · exact D2.gv_loadp 24 (.tmp 20) 0 (fun g => b1) 4 4 (Value.cells (pv p)) (Value.cells (uv (Ec.Pd.Y p))) 26 (0, 0) (fun _ _ _ h => h) (fun g => kr) (fun g => kr) (fun L g hN => kr) kr (of_decide_eq_true kr) kr
        · exact D2.gv_call 31 #[uv (Ec.Pd.Y p), uv (Ec.Pd.Y p)] (fun _ _ _ h => h) (pmul_fn (Ec.Pd.Y p) (Ec.Pd.Y p) hp.Y hp.Y) (fun g w => kr)
        · exact D2.gv_val (fun _ _ _ h => h) (fun g w => kr)
        · exact D2.gv_loadp 24 (.tmp 23) 0 (fun g => b1) 0 4 (Value.cells (pv p)) (Value.cells (uv (Ec.Pd.X p))) 26 (0, 0) (fun _ _ _ h => h) (fun g => kr) (fun g => kr) (fun L g hN => kr) kr (of_decide_eq_true kr) kr
        · exact D2.gv_call 32 #[uv (Ec.Pd.X p)] (fun _ _ _ h => h) (square_fn (Ec.Pd.X p) hp.X) (fun g w => kr)
        · exact D2.gv_op (fun _ _ _ h => h) _ (fun g => kr) (fun g => (fun o w ho => eqU_run (x := (.tmp 22)) (y := (.tmp 25)) (fMul (Ec.Pd.Y p) (Ec.Pd.Y p) PR) (Ec.sqN (Ec.Pd.X p)) (fMul_lt pr_ok) (Ec.P_big (Ec.sqN_lt _)) w ho kr kr))
        · exact D2.gv_val (fun _ _ _ h => h) (fun g w => kr)
        · exact D2.gv_val (fun _ _ _ h => h) (fun g w => kr)
        intro L0 G2 w2 hall HL; clear H1
        have H2 : St w.heap.size w w2 [(b1, Oc (pv p) 26)] := D2.StE.st HL.1
        clear HL hall
        refine g_ret kr ?_
        show ∃ vs, Res _ _ _ _ vs ∧ _
        refine ⟨[.bool (decide ((fMul (Ec.Pd.Y p) (Ec.Pd.Y p) PR) = (Ec.sqN (Ec.Pd.X p))))], (.tmp (.bool (decide ((fMul (Ec.Pd.Y p) (Ec.Pd.Y p) PR) = (Ec.sqN (Ec.Pd.X p))))) kr .nil), ?_, H2.below⟩
        exact congrArg Value.bool (Ec.onB_e hb1 (by omega) (by omega)).symm
      · skip
        refine D2.g_sdraw [0, 1, 2, 3, 4, 5, 6, 7, 8, 9, 10, 11, 12, 13, 14, 15, 16, 17, 18, 19] [((some 9), fun _ => .pointer (some ⟨b1, 0, none⟩)), ((some 10), fun _ => uv (Ec.Pd.X p)), ((some 11), fun _ => .bool true), ((some 12), fun _ => .bool true), ((some 13), fun _ => .pointer (some ⟨b1, 4, none⟩)), ((some 14), fun _ => uv (Ec.Pd.Y p)), ((some 15), fun _ => .bool false), ((some 16), fun _ => .bool false), ((some 17), fun _ => .bool false), ((some 18), fun _ => undef), ((some 19), fun _ => undef), ((some 20), fun _ => undef), ((some 21), fun _ => undef), ((some 22), fun _ => undef), ((some 23), fun _ => undef), ((some 24), fun _ => undef), ((some 25), fun _ => undef), ((some 26), fun _ => undef), ((some 27), fun _ => .bool false), ((some 2), fun _ => .bool false)] (D2.Pre w.heap.size w (fun L g => [(true, (b1, Oc (pv p) 26))]) (fun L g => True)) kr kr kr kr ⟨D2.StE.of H1.drew _ kr, trivial⟩ ⟨?_, ?_, ?_, ?_, ?_, ?_, ?_, ?_, ?_, ?_, ?_, ?_, ?_, ?_, ?_, ?_, ?_, ?_, ?_, ?_, trivial⟩ ?_
        · exact D2.gv_val (fun _ _ _ h => h) (fun g w => kr)
        · exact D2.gv_loadp 24 (.tmp 9) 0 (fun g => b1) 0 4 (Value.cells (pv p)) (Value.cells (uv (Ec.Pd.X p))) 26 (0, 0) (fun _ _ _ h => h) (fun g => kr) (fun g => kr) (fun L g hN => kr) kr (of_decide_eq_true kr) kr
        · exact D2.gv_call 30 #[uv (Ec.Pd.X p)] (fun _ _ _ h => h) (red_yes (Ec.Pd.X p) hp.X (by omega)) (fun g w => kr)
        · exact D2.gv_val (fun _ _ _ h => h) (fun g w => kr)
        · exact D2.gv_val (fun _ _ _ h => h) (fun g w => kr)
        · exact D2.gv_loadp 24 (.tmp 13) 0 (fun g => b1) 4 4 (Value.cells (pv p)) (Value.cells (uv (Ec.Pd.Y p))) 26 (0, 0) (fun _ _ _ h => h) (fun g => kr) (fun g => kr) (fun L g hN => kr) kr (of_decide_eq_true kr) kr
        · exact D2.gv_call 30 #[uv (Ec.Pd.Y p)] (fun _ _ _ h => h) (red_no (Ec.Pd.Y p) hp.Y (by omega)) (fun g w => kr)
        · exact D2.gv_val (fun _ _ _ h => h) (fun g w => kr)
        · exact D2.gv_val (fun _ _ _ h => h) (fun g w => kr)
        · exact D2.gv_not (fun _ _ _ h => h) (fun g => kr)
        · exact D2.gv_not (fun _ _ _ h => h) (fun g => kr)
        · exact D2.gv_not (fun _ _ _ h => h) (fun g => kr)
        · exact D2.gv_not (fun _ _ _ h => h) (fun g => kr)
        · exact D2.gv_not (fun _ _ _ h => h) (fun g => kr)
        · exact D2.gv_not (fun _ _ _ h => h) (fun g => kr)
        · exact D2.gv_not (fun _ _ _ h => h) (fun g => kr)
        · exact D2.gv_not (fun _ _ _ h => h) (fun g => kr)
        · exact D2.gv_not (fun _ _ _ h => h) (fun g => kr)
        · exact D2.gv_val (fun _ _ _ h => h) (fun g w => kr)
        · exact D2.gv_val (fun _ _ _ h => h) (fun g w => kr)
        intro L0 G3 w3 hall HL; clear H1
        have H3 : St w.heap.size w w3 [(b1, Oc (pv p) 26)] := D2.StE.st HL.1
        clear HL hall
        refine g_ret kr ?_
        show ∃ vs, Res _ _ _ _ vs ∧ _
        refine ⟨[.bool false], (.tmp (.bool false) kr .nil), ?_, H3.below⟩
        exact congrArg Value.bool (Ec.onB_y hb1 (by omega) (by omega)).symm
    · skip
      by_cases hx3 : (Ec.Pd.Y p) < PR
      · skip
        refine D2.g_sdraw [0, 1, 2, 3, 4, 5, 6, 7, 8, 9, 10, 11, 12, 13, 14, 15, 16, 17, 18, 19] [((some 9), fun _ => .pointer (some ⟨b1, 0, none⟩)), ((some 10), fun _ => uv (Ec.Pd.X p)), ((some 11), fun _ => .bool false), ((some 12), fun _ => .bool false), ((some 13), fun _ => undef), ((some 14), fun _ => undef), ((some 15), fun _ => undef), ((some 16), fun _ => .bool false), ((some 17), fun _ => .bool false), ((some 18), fun _ => undef), ((some 19), fun _ => undef), ((some 20), fun _ => undef), ((some 21), fun _ => undef), ((some 22), fun _ => undef), ((some 23), fun _ => undef), ((some 24), fun _ => undef), ((some 25), fun _ => undef), ((some 26), fun _ => undef), ((some 27), fun _ => .bool false), ((some 2), fun _ => .bool false)] (D2.Pre w.heap.size w (fun L g => [(true, (b1, Oc (pv p) 26))]) (fun L g => True)) kr kr kr kr ⟨D2.StE.of H1.drew _ kr, trivial⟩ ⟨?_, ?_, ?_, ?_, ?_, ?_, ?_, ?_, ?_, ?_, ?_, ?_, ?_, ?_, ?_, ?_, ?_, ?_, ?_, ?_, trivial⟩ ?_
        · exact D2.gv_val (fun _ _ _ h => h) (fun g w => kr)
        · exact D2.gv_loadp 24 (.tmp 9) 0 (fun g => b1) 0 4 (Value.cells (pv p)) (Value.cells (uv (Ec.Pd.X p))) 26 (0, 0) (fun _ _ _ h => h) (fun g => kr) (fun g => kr) (fun L g hN => kr) kr (of_decide_eq_true kr) kr
        · exact D2.gv_call 30 #[uv (Ec.Pd.X p)] (fun _ _ _ h => h) (red_no (Ec.Pd.X p) hp.X (by omega)) (fun g w => kr)
        · exact D2.gv_val (fun _ _ _ h => h) (fun g w => kr)
        · exact D2.gv_not (fun _ _ _ h => h) (fun g => kr)
        · exact D2.gv_not (fun _ _ _ h => h) (fun g => kr)
        · exact D2.gv_not (fun _ _ _ h => h) (fun g => kr)
        · exact D2.gv_val (fun _ _ _ h => h) (fun g w => kr)
        · exact D2.gv_val (fun _ _ _ h => h) (fun g w => kr)
        · exact D2.gv_not (fun _ _ _ h => h) (fun g => kr)
        · exact D2.gv_not (fun _ _ _ h => h) (fun g => kr)
        · exact D2.gv_not (fun _ _ _ h => h) (fun g => kr)
        · exact D2.gv_not (fun _ _ _ h => h) (fun g => kr)
        · exact D2.gv_not (fun _ _ _ h => h) (fun g => kr)
        · exact D2.gv_not (fun _ _ _ h => h) (fun g => kr)
        · exact D2.gv_not (fun _ _ _ h => h) (fun g => kr)
        · exact D2.gv_not (fun _ _ _ h => h) (fun g => kr)
        · exact D2.gv_not (fun _ _ _ h => h) (fun g => kr)
        · exact D2.gv_val (fun _ _ _ h => h) (fun g w => kr)
        · exact D2.gv_val (fun _ _ _ h => h) (fun g w => kr)
        intro L0 G4 w4 hall HL; clear H1
        have H4 : St w.heap.size w w4 [(b1, Oc (pv p) 26)] := D2.StE.st HL.1
        clear HL hall
        refine g_ret kr ?_
        show ∃ vs, Res _ _ _ _ vs ∧ _
        refine ⟨[.bool false], (.tmp (.bool false) kr .nil), ?_, H4.below⟩
        exact congrArg Value.bool (Ec.onB_x hb1 (by omega)).symm
      · skip
        refine D2.g_sdraw [0, 1, 2, 3, 4, 5, 6, 7, 8, 9, 10, 11, 12, 13, 14, 15, 16, 17, 18, 19] [((some 9), fun _ => .pointer (some ⟨b1, 0, none⟩)), ((some 10), fun _ => uv (Ec.Pd.X p)), ((some 11), fun _ => .bool false), ((some 12), fun _ => .bool false), ((some 13), fun _ => undef), ((some 14), fun _ => undef), ((some 15), fun _ => undef), ((some 16), fun _ => .bool false), ((some 17), fun _ => .bool false), ((some 18), fun _ => undef), ((some 19), fun _ => undef), ((some 20), fun _ => undef), ((some 21), fun _ => undef), ((some 22), fun _ => undef), ((some 23), fun _ => undef), ((some 24), fun _ => undef), ((some 25), fun _ => undef), ((some 26), fun _ => undef), ((some 27), fun _ => .bool false), ((some 2), fun _ => .bool false)] (D2.Pre w.heap.size w (fun L g => [(true, (b1, Oc (pv p) 26))]) (fun L g => True)) kr kr kr kr ⟨D2.StE.of H1.drew _ kr, trivial⟩ ⟨?_, ?_, ?_, ?_, ?_, ?_, ?_, ?_, ?_, ?_, ?_, ?_, ?_, ?_, ?_, ?_, ?_, ?_, ?_, ?_, trivial⟩ ?_
        · exact D2.gv_val (fun _ _ _ h => h) (fun g w => kr)
        · exact D2.gv_loadp 24 (.tmp 9) 0 (fun g => b1) 0 4 (Value.cells (pv p)) (Value.cells (uv (Ec.Pd.X p))) 26 (0, 0) (fun _ _ _ h => h) (fun g => kr) (fun g => kr) (fun L g hN => kr) kr (of_decide_eq_true kr) kr
        · exact D2.gv_call 30 #[uv (Ec.Pd.X p)] (fun _ _ _ h => h) (red_no (Ec.Pd.X p) hp.X (by omega)) (fun g w => kr)
        · exact D2.gv_val (fun _ _ _ h => h) (fun g w => kr)
        · exact D2.gv_not (fun _ _ _ h => h) (fun g => kr)
        · exact D2.gv_not (fun _ _ _ h => h) (fun g => kr)
        · exact D2.gv_not (fun _ _ _ h => h) (fun g => kr)
        · exact D2.gv_val (fun _ _ _ h => h) (fun g w => kr)
        · exact D2.gv_val (fun _ _ _ h => h) (fun g w => kr)
        · exact D2.gv_not (fun _ _ _ h => h) (fun g => kr)
        · exact D2.gv_not (fun _ _ _ h => h) (fun g => kr)
        · exact D2.gv_not (fun _ _ _ h => h) (fun g => kr)
        · exact D2.gv_not (fun _ _ _ h => h) (fun g => kr)
        · exact D2.gv_not (fun _ _ _ h => h) (fun g => kr)
        · exact D2.gv_not (fun _ _ _ h => h) (fun g => kr)
        · exact D2.gv_not (fun _ _ _ h => h) (fun g => kr)
        · exact D2.gv_not (fun _ _ _ h => h) (fun g => kr)
        · exact D2.gv_not (fun _ _ _ h => h) (fun g => kr)
        · exact D2.gv_val (fun _ _ _ h => h) (fun g w => kr)
        · exact D2.gv_val (fun _ _ _ h => h) (fun g w => kr)
        intro L0 G5 w5 hall HL; clear H1
        have H5 : St w.heap.size w w5 [(b1, Oc (pv p) 26)] := D2.StE.st HL.1
        clear HL hall
        refine g_ret kr ?_
        show ∃ vs, Res _ _ _ _ vs ∧ _
        refine ⟨[.bool false], (.tmp (.bool false) kr .nil), ?_, H5.below⟩
        exact congrArg Value.bool (Ec.onB_x hb1 (by omega)).symm
  · skip
    refine g_cond_t kr kr ?_
    refine D2.g_sdraw [0, 1, 2, 3, 4] [((some 5), fun _ => pv p), ((some 6), fun _ => wv Ec.zeroW), ((some 7), fun _ => pv (Ec.Pd.mk 0 0 true)), ((some 8), fun _ => .bool (decide (p = (Ec.Pd.mk 0 0 true)))), ((some 2), fun _ => .bool (decide (p = (Ec.Pd.mk 0 0 true))))] (D2.Pre w.heap.size w (fun L g => [(true, (b1, Oc (pv p) 26))]) (fun L g => True)) kr kr kr kr ⟨D2.StE.of H1.drew _ kr, trivial⟩ ⟨?_, ?_, ?_, ?_, ?_, trivial⟩ ?_
    · exact D2.gv_load 26 (.tmp 1) 0 (fun g => b1) (Value.cells (pv p)) 26 (0, 0) (fun _ _ _ h => h) (fun g => kr) (fun g => kr) (fun L g hN => kr) kr
    · exact D2.gv_call 29 #[] (fun _ _ _ h => h) pzero_fn (fun g w => kr)
    · exact D2.gv_val (fun _ _ _ h => h) (fun g w => kr)
    · exact D2.gv_op (fun _ _ _ h => h) _ (fun g => kr) (fun g o w ho => eqP_run (x := (.tmp 5)) (y := (.tmp 7)) p (Ec.Pd.mk 0 0 true) hp (Ec.Pd.Ok.mk (p := Ec.Pd.mk 0 0 true) Ec.big_0 Ec.big_0) w ho kr kr)
    · exact D2.gv_val (fun _ _ _ h => h) (fun g w => kr)
    intro L0 G6 w6 hall HL; clear H1
    have H6 : St w.heap.size w w6 [(b1, Oc (pv p) 26)] := D2.StE.st HL.1
    clear HL hall
    refine g_ret kr ?_
    show ∃ vs, Res _ _ _ _ vs ∧ _
    refine ⟨[.bool (decide (p = (Ec.Pd.mk 0 0 true)))], (.tmp (.bool (decide (p = (Ec.Pd.mk 0 0 true)))) kr .nil), ?_, H6.below⟩
    exact congrArg Value.bool (Ec.onB_1 hb1).symm

set_option maxRecDepth 100000 in
set_option maxHeartbeats 2000000 in
theorem ron_fn (p : Ec.Pd) (hp : p.Ok) : Fn Try.prog 11 #[pv p] (.bool (Ec.onB p)) := by
  refine Fn.intro (c := codeOf Try.f11) [.tmp 2] 34 Try.func11 kr kr kr fun w => ?_
  have H0 := St.start w
  refine g_sreg [0, 1] kr kr ?_
  refine s_box H0 (some 1) 26 (.tmp 0) (pv p) kr kr kr ?_
  intro b1 w1 H1; clear H0
  refine s_val (some 2) (.bool false) (fun w => kr) kr ?_
  refine s_nil ?_
  refine g_seq kr ?_
  refine g_sreg [0, 1] kr kr ?_
  refine s_val (some 3) (.pointer (some ⟨b1, 8, none⟩)) (fun w => kr) kr ?_
  refine s_load1 H1 (some 4) 4 (.tmp 3) 0 b1 8 (Value.cells (pv p)) 26 (0, 0) (.bool (Ec.Pd.b p)) kr kr kr kr kr kr ?_
  refine s_nil ?_
  cases hb1 : Ec.Pd.b p
  · skip
    refine g_cond_f kr kr ?_
    refine g_skip kr ?_
    show WP _ _ _ _ _ _
    by_cases hx1 : (Ec.Pd.X p) < PR
    · skip
      by_cases hx2 : (Ec.Pd.Y p) < PR
      · skip
        refine D2.g_sdraw [0, 1, 2, 3, 4, 5, 6, 7, 8, 9, 10, 11, 12, 13, 14, 15, 16, 17, 18, 19, 20, 21, 22, 23, 24, 25, 26] [((some 8), fun _ => .pointer (some ⟨b1, 0, none⟩)), ((some 9), fun _ => uv (Ec.Pd.X p)), ((some 10), fun _ => .bool true), ((some 11), fun _ => .bool true), ((some 12), fun _ => .pointer (some ⟨b1, 4, none⟩)), ((some 13), fun _ => uv (Ec.Pd.Y p)), ((some 14), fun _ => .bool true), ((some 15), fun _ => .bool true), ((some 16), fun _ => .bool true), ((some 17), fun _ => .pointer (some ⟨b1, 4, none⟩)), ((some 18), fun _ => uv (Ec.Pd.Y p)), ((some 19), fun _ => .pointer (some ⟨b1, 4, none⟩)), ((some 20), fun _ => uv (Ec.Pd.Y p)), ((some 21), fun _ => uv (fMul (Ec.Pd.Y p) (Ec.Pd.Y p) PR)), ((some 22), fun _ => .pointer (some ⟨b1, 0, none⟩)), ((some 23), fun _ => uv (Ec.Pd.X p)), ((some 24), fun _ => .pointer (some ⟨b1, 0, none⟩)), ((some 25), fun _ => uv (Ec.Pd.X p)), ((some 26), fun _ => uv (fMul (Ec.Pd.X p) (Ec.Pd.X p) PR)), ((some 27), fun _ => .pointer (some ⟨b1, 0, none⟩)), ((some 28), fun _ => uv (Ec.Pd.X p)), ((some 29), fun _ => uv (fMul (fMul (Ec.Pd.X p) (Ec.Pd.X p) PR) (Ec.Pd.X p) PR)), ((some 30), fun _ => .agg #[.int .u64 7, .int .u64 0, .int .u64 0, .int .u64 0]), ((some 31), fun _ => uv (fAdd (fMul (fMul (Ec.Pd.X p) (Ec.Pd.X p) PR) (Ec.Pd.X p) PR) 7 PR)), ((some 32), fun _ => .bool (decide ((fMul (Ec.Pd.Y p) (Ec.Pd.Y p) PR) = (fAdd (fMul (fMul (Ec.Pd.X p) (Ec.Pd.X p) PR) (Ec.Pd.X p) PR) 7 PR)))), ((some 33), fun _ => .bool (decide ((fMul (Ec.Pd.Y p) (Ec.Pd.Y p) PR) = (fAdd (fMul (fMul (Ec.Pd.X p) (Ec.Pd.X p) PR) (Ec.Pd.X p) PR) 7 PR)))), ((some 2), fun _ => .bool (decide ((fMul (Ec.Pd.Y p) (Ec.Pd.Y p) PR) = (fAdd (fMul (fMul (Ec.Pd.X p) (Ec.Pd.X p) PR) (Ec.Pd.X p) PR) 7 PR))))] (D2.Pre w.heap.size w (fun L g => [(true, (b1, Oc (pv p) 26))]) (fun L g => True)) kr kr kr kr ⟨D2.StE.of H1.drew _ kr, trivial⟩ ⟨?_, ?_, ?_, ?_, ?_, ?_, ?_, ?_, ?_, ?_, ?_, ?_, ?_, ?_, ?_, ?_, ?_, ?_, ?_, ?_, ?_, ?_, ?_, ?_, ?_, ?_, ?_, trivial⟩ ?_
        · exact D2.gv_val (fun _ _ _ h => h) (fun g w => kr)
        · exact D2.gv_loadp 24 (.tmp 8) 0 (fun g => b1) 0 4 (Value.cells (pv p)) (Value.cells (uv (Ec.Pd.X p))) 26 (0, 0) (fun _ _ _ h => h) (fun g => kr) (fun g => kr) (fun L g hN => kr) kr (of_decide_eq_true kr) kr
        · exact D2.gv_call 26 #[uv (Ec.Pd.X p)] (fun _ _ _ h => h) (rred_yes (Ec.Pd.X p) hp.X (by omega)) (fun g w => kr)
        · exact D2.gv_val (fun _ _ _ h => h) (fun g w => kr)
        · exact D2.gv_val (fun _ _ _ h => h) (fun g w => kr)
        · exact D2.gv_loadp 24 (.tmp 12) 0 (fun g => b1) 4 4 (Value.cells (pv p)) (Value.cells (uv (Ec.Pd.Y p))) 26 (0, 0) (fun _ _ _ h => h) (fun g => kr) (fun g => kr) (fun L g hN => kr) kr (of_decide_eq_true kr) kr
        · exact D2.gv_call 26 #[uv (Ec.Pd.Y p)] (fun _ _ _ h => h) (rred_yes (Ec.Pd.Y p) hp.Y (by omega)) (fun g w => kr)
        · exact D2.gv_val (fun _ _ _ h => h) (fun g w => kr)
        · exact D2.gv_val (fun _ _ _ h => h) (fun g w => kr)
        · exact D2.gv_val (fun _ _ _ h => h) (fun g w => kr)
        · exact D2.gv_loadp 24 (.tmp 17) 0 (fun g => b1) 4 4 (Value.cells (pv p)) (Value.cells (uv (Ec.Pd.Y p))) 26 (0, 0) (fun _ _ _ h => h) (fun g => kr) (fun g => kr) (fun L g hN => kr) kr (of_decide_eq_true kr) kr
        · exact D2.gv_val (fun _ _ _ h => h) (fun g w => kr)
        · exact D2.gv_loadp 24 (.tmp 19) 0 (fun g => b1) 4 4 (Value.cells (pv p)) (Value.cells (uv (Ec.Pd.Y p))) 26 (0, 0) (fun _ _ _ h => h) (fun g => kr) (fun g => kr) (fun L g hN => kr) kr (of_decide_eq_true kr) kr
        · exact D2.gv_call 33 #[uv (Ec.Pd.Y p), uv (Ec.Pd.Y p)] (fun _ _ _ h => h) (rmul6_fn (Ec.Pd.Y p) (Ec.Pd.Y p) hp.Y hp.Y) (fun g w => kr)
        · exact D2.gv_val (fun _ _ _ h => h) (fun g w => kr)
        · exact D2.gv_loadp 24 (.tmp 22) 0 (fun g => b1) 0 4 (Value.cells (pv p)) (Value.cells (uv (Ec.Pd.X p))) 26 (0, 0) (fun _ _ _ h => h) (fun g => kr) (fun g => kr) (fun L g hN => kr) kr (of_decide_eq_true kr) kr
        · exact D2.gv_val (fun _ _ _ h => h) (fun g w => kr)
        · exact D2.gv_loadp 24 (.tmp 24) 0 (fun g => b1) 0 4 (Value.cells (pv p)) (Value.cells (uv (Ec.Pd.X p))) 26 (0, 0) (fun _ _ _ h => h) (fun g => kr) (fun g => kr) (fun L g hN => kr) kr (of_decide_eq_true kr) kr
        · exact D2.gv_call 33 #[uv (Ec.Pd.X p), uv (Ec.Pd.X p)] (fun _ _ _ h => h) (rmul6_fn (Ec.Pd.X p) (Ec.Pd.X p) hp.X hp.X) (fun g w => kr)
        · exact D2.gv_val (fun _ _ _ h => h) (fun g w => kr)
        · exact D2.gv_loadp 24 (.tmp 27) 0 (fun g => b1) 0 4 (Value.cells (pv p)) (Value.cells (uv (Ec.Pd.X p))) 26 (0, 0) (fun _ _ _ h => h) (fun g => kr) (fun g => kr) (fun L g hN => kr) kr (of_decide_eq_true kr) kr
        · exact D2.gv_call 33 #[uv (fMul (Ec.Pd.X p) (Ec.Pd.X p) PR), uv (Ec.Pd.X p)] (fun _ _ _ h => h) (rmul6_fn (fMul (Ec.Pd.X p) (Ec.Pd.X p) PR) (Ec.Pd.X p) (fMul_lt pr_ok) hp.X) (fun g w => kr)
        · exact D2.gv_val (fun _ _ _ h => h) (fun g w => kr)
        · exact D2.gv_call 34 #[uv (fMul (fMul (Ec.Pd.X p) (Ec.Pd.X p) PR) (Ec.Pd.X p) PR), .agg #[.int .u64 7, .int .u64 0, .int .u64 0, .int .u64 0]] (fun _ _ _ h => h) (radd6_fn (fMul (fMul (Ec.Pd.X p) (Ec.Pd.X p) PR) (Ec.Pd.X p) PR) 7 (fMul_lt pr_ok) (by unfold big; omega)) (fun g w => kr)
        · exact D2.gv_op (fun _ _ _ h => h) _ (fun g => kr) (fun g => (fun o w ho => eqU_run (x := (.tmp 21)) (y := (.tmp 31)) (fMul (Ec.Pd.Y p) (Ec.Pd.Y p) PR) (fAdd (fMul (fMul (Ec.Pd.X p) (Ec.Pd.X p) PR) (Ec.Pd.X p) PR) 7 PR) (fMul_lt pr_ok) (fAdd_lt pr_ok) w ho kr kr))
        · exact D2.gv_val (fun _ _ _ h => h) (fun g w => kr)
        · exact D2.gv_val (fun _ _ _ h => h) (fun g w => kr)
        intro L0 G2 w2 hall HL; clear H1
        have H2 : St w.heap.size w w2 [(b1, Oc (pv p) 26)] := D2.StE.st HL.1
        clear HL hall
        refine g_ret kr ?_
        show ∃ vs, Res _ _ _ _ vs ∧ _
        refine ⟨[.bool (decide ((fMul (Ec.Pd.Y p) (Ec.Pd.Y p) PR) = (fAdd (fMul (fMul (Ec.Pd.X p) (Ec.Pd.X p) PR) (Ec.Pd.X p) PR) 7 PR)))], (.tmp (.bool (decide ((fMul (Ec.Pd.Y p) (Ec.Pd.Y p) PR) = (fAdd (fMul (fMul (Ec.Pd.X p) (Ec.Pd.X p) PR) (Ec.Pd.X p) PR) 7 PR)))) kr .nil), ?_, H2.below⟩
        exact congrArg Value.bool (Ec.onB_e hb1 (by omega) (by omega)).symm
      · skip
        refine D2.g_sdraw [0, 1, 2, 3, 4, 5, 6, 7, 8, 9, 10, 11, 12, 13, 14, 15, 16, 17, 18, 19, 20, 21, 22, 23, 24, 25, 26] [((some 8), fun _ => .pointer (some ⟨b1, 0, none⟩)), ((some 9), fun _ => uv (Ec.Pd.X p)), ((some 10), fun _ => .bool true), ((some 11), fun _ => .bool true), ((some 12), fun _ => .pointer (some ⟨b1, 4, none⟩)), ((some 13), fun _ => uv (Ec.Pd.Y p)), ((some 14), fun _ => .bool false), ((some 15), fun _ => .bool false), ((some 16), fun _ => .bool false), ((some 17), fun _ => undef), ((some 18), fun _ => undef), ((some 19), fun _ => undef), ((some 20), fun _ => undef), ((some 21), fun _ => undef), ((some 22), fun _ => undef), ((some 23), fun _ => undef), ((some 24), fun _ => undef), ((some 25), fun _ => undef), ((some 26), fun _ => undef), ((some 27), fun _ => undef), ((some 28), fun _ => undef), ((some 29), fun _ => undef), ((some 30), fun _ => undef), ((some 31), fun _ => undef), ((some 32), fun _ => undef), ((some 33), fun _ => .bool false), ((some 2), fun _ => .bool false)] (D2.Pre w.heap.size w (fun L g => [(true, (b1, Oc (pv p) 26))]) (fun L g => True)) kr kr kr kr ⟨D2.StE.of H1.drew _ kr, trivial⟩ ⟨?_, ?_, ?_, ?_, ?_, ?_, ?_, ?_, ?_, ?_, ?_, ?_, ?_, ?_, ?_, ?_, ?_, ?_, ?_, ?_, ?_, ?_, ?_, ?_, ?_, ?_, ?_, trivial⟩ ?_
        · exact D2.gv_val (fun _ _ _ h => h) (fun g w => kr)
        · exact D2.gv_loadp 24 (.tmp 8) 0 (fun g => b1) 0 4 (Value.cells (pv p)) (Value.cells (uv (Ec.Pd.X p))) 26 (0, 0) (fun _ _ _ h => h) (fun g => kr) (fun g => kr) (fun L g hN => kr) kr (of_decide_eq_true kr) kr
        · exact D2.gv_call 26 #[uv (Ec.Pd.X p)] (fun _ _ _ h => h) (rred_yes (Ec.Pd.X p) hp.X (by omega)) (fun g w => kr)
        · exact D2.gv_val (fun _ _ _ h => h) (fun g w => kr)
        · exact D2.gv_val (fun _ _ _ h => h) (fun g w => kr)
        · exact D2.gv_loadp 24 (.tmp 12) 0 (fun g => b1) 4 4 (Value.cells (pv p)) (Value.cells (uv (Ec.Pd.Y p))) 26 (0, 0) (fun _ _ _ h => h) (fun g => kr) (fun g => kr) (fun L g hN => kr) kr (of_decide_eq_true kr) kr
        · exact D2.gv_call 26 #[uv (Ec.Pd.Y p)] (fun _ _ _ h => h) (rred_no (Ec.Pd.Y p) hp.Y (by omega)) (fun g w => kr)
        · exact D2.gv_val (fun _ _ _ h => h) (fun g w => kr)
        · exact D2.gv_val (fun _ _ _ h => h) (fun g w => kr)
        · exact D2.gv_not (fun _ _ _ h => h) (fun g => kr)
        · exact D2.gv_not (fun _ _ _ h => h) (fun g => kr)
        · exact D2.gv_not (fun _ _ _ h => h) (fun g => kr)
        · exact D2.gv_not (fun _ _ _ h => h) (fun g => kr)
        · exact D2.gv_not (fun _ _ _ h => h) (fun g => kr)
        · exact D2.gv_not (fun _ _ _ h => h) (fun g => kr)
        · exact D2.gv_not (fun _ _ _ h => h) (fun g => kr)
        · exact D2.gv_not (fun _ _ _ h => h) (fun g => kr)
        · exact D2.gv_not (fun _ _ _ h => h) (fun g => kr)
        · exact D2.gv_not (fun _ _ _ h => h) (fun g => kr)
        · exact D2.gv_not (fun _ _ _ h => h) (fun g => kr)
        · exact D2.gv_not (fun _ _ _ h => h) (fun g => kr)
        · exact D2.gv_not (fun _ _ _ h => h) (fun g => kr)
        · exact D2.gv_not (fun _ _ _ h => h) (fun g => kr)
        · exact D2.gv_not (fun _ _ _ h => h) (fun g => kr)
        · exact D2.gv_not (fun _ _ _ h => h) (fun g => kr)
        · exact D2.gv_val (fun _ _ _ h => h) (fun g w => kr)
        · exact D2.gv_val (fun _ _ _ h => h) (fun g w => kr)
        intro L0 G3 w3 hall HL; clear H1
        have H3 : St w.heap.size w w3 [(b1, Oc (pv p) 26)] := D2.StE.st HL.1
        clear HL hall
        refine g_ret kr ?_
        show ∃ vs, Res _ _ _ _ vs ∧ _
        refine ⟨[.bool false], (.tmp (.bool false) kr .nil), ?_, H3.below⟩
        exact congrArg Value.bool (Ec.onB_y hb1 (by omega) (by omega)).symm
    · skip
      by_cases hx3 : (Ec.Pd.Y p) < PR
      · skip
        refine D2.g_sdraw [0, 1, 2, 3, 4, 5, 6, 7, 8, 9, 10, 11, 12, 13, 14, 15, 16, 17, 18, 19, 20, 21, 22, 23, 24, 25, 26] [((some 8), fun _ => .pointer (some ⟨b1, 0, none⟩)), ((some 9), fun _ => uv (Ec.Pd.X p)), ((some 10), fun _ => .bool false), ((some 11), fun _ => .bool false), ((some 12), fun _ => undef), ((some 13), fun _ => undef), ((some 14), fun _ => undef), ((some 15), fun _ => .bool false), ((some 16), fun _ => .bool false), ((some 17), fun _ => undef), ((some 18), fun _ => undef), ((some 19), fun _ => undef), ((some 20), fun _ => undef), ((some 21), fun _ => undef), ((some 22), fun _ => undef), ((some 23), fun _ => undef), ((some 24), fun _ => undef), ((some 25), fun _ => undef), ((some 26), fun _ => undef), ((some 27), fun _ => undef), ((some 28), fun _ => undef), ((some 29), fun _ => undef), ((some 30), fun _ => undef), ((some 31), fun _ => undef), ((some 32), fun _ => undef), ((some 33), fun _ => .bool false), ((some 2), fun _ => .bool false)] (D2.Pre w.heap.size w (fun L g => [(true, (b1, Oc (pv p) 26))]) (fun L g => True)) kr kr kr kr ⟨D2.StE.of H1.drew _ kr, trivial⟩ ⟨?_, ?_, ?_, ?_, ?_, ?_, ?_, ?_, ?_, ?_, ?_, ?_, ?_, ?_, ?_, ?_, ?_, ?_, ?_, ?_, ?_, ?_, ?_, ?_, ?_, ?_, ?_, trivial⟩ ?_
        · exact D2.gv_val (fun _ _ _ h => h) (fun g w => kr)
        · exact D2.gv_loadp 24 (.tmp 8) 0 (fun g => b1) 0 4 (Value.cells (pv p)) (Value.cells (uv (Ec.Pd.X p))) 26 (0, 0) (fun _ _ _ h => h) (fun g => kr) (fun g => kr) (fun L g hN => kr) kr (of_decide_eq_true kr) kr
        · exact D2.gv_call 26 #[uv (Ec.Pd.X p)] (fun _ _ _ h => h) (rred_no (Ec.Pd.X p) hp.X (by omega)) (fun g w => kr)
        · exact D2.gv_val (fun _ _ _ h => h) (fun g w => kr)
        · exact D2.gv_not (fun _ _ _ h => h) (fun g => kr)
        · exact D2.gv_not (fun _ _ _ h => h) (fun g => kr)
        · exact D2.gv_not (fun _ _ _ h => h) (fun g => kr)
        · exact D2.gv_val (fun _ _ _ h => h) (fun g w => kr)
        · exact D2.gv_val (fun _ _ _ h => h) (fun g w => kr)
        · exact D2.gv_not (fun _ _ _ h => h) (fun g => kr)
        · exact D2.gv_not (fun _ _ _ h => h) (fun g => kr)
        · exact D2.gv_not (fun _ _ _ h => h) (fun g => kr)
        · exact D2.gv_not (fun _ _ _ h => h) (fun g => kr)
        · exact D2.gv_not (fun _ _ _ h => h) (fun g => kr)
        · exact D2.gv_not (fun _ _ _ h => h) (fun g => kr)
        · exact D2.gv_not (fun _ _ _ h => h) (fun g => kr)
        · exact D2.gv_not (fun _ _ _ h => h) (fun g => kr)
        · exact D2.gv_not (fun _ _ _ h => h) (fun g => kr)
        · exact D2.gv_not (fun _ _ _ h => h) (fun g => kr)
        · exact D2.gv_not (fun _ _ _ h => h) (fun g => kr)
        · exact D2.gv_not (fun _ _ _ h => h) (fun g => kr)
        · exact D2.gv_not (fun _ _ _ h => h) (fun g => kr)
        · exact D2.gv_not (fun _ _ _ h => h) (fun g => kr)
        · exact D2.gv_not (fun _ _ _ h => h) (fun g => kr)
        · exact D2.gv_not (fun _ _ _ h => h) (fun g => kr)
        · exact D2.gv_val (fun _ _ _ h => h) (fun g w => kr)
        · exact D2.gv_val (fun _ _ _ h => h) (fun g w => kr)
        intro L0 G4 w4 hall HL; clear H1
        have H4 : St w.heap.size w w4 [(b1, Oc (pv p) 26)] := D2.StE.st HL.1
        clear HL hall
        refine g_ret kr ?_
        show ∃ vs, Res _ _ _ _ vs ∧ _
        refine ⟨[.bool false], (.tmp (.bool false) kr .nil), ?_, H4.below⟩
        exact congrArg Value.bool (Ec.onB_x hb1 (by omega)).symm
      · skip
        refine D2.g_sdraw [0, 1, 2, 3, 4, 5, 6, 7, 8, 9, 10, 11, 12, 13, 14, 15, 16, 17, 18, 19, 20, 21, 22, 23, 24, 25, 26] [((some 8), fun _ => .pointer (some ⟨b1, 0, none⟩)), ((some 9), fun _ => uv (Ec.Pd.X p)), ((some 10), fun _ => .bool false), ((some 11), fun _ => .bool false), ((some 12), fun _ => undef), ((some 13), fun _ => undef), ((some 14), fun _ => undef), ((some 15), fun _ => .bool false), ((some 16), fun _ => .bool false), ((some 17), fun _ => undef), ((some 18), fun _ => undef), ((some 19), fun _ => undef), ((some 20), fun _ => undef), ((some 21), fun _ => undef), ((some 22), fun _ => undef), ((some 23), fun _ => undef), ((some 24), fun _ => undef), ((some 25), fun _ => undef), ((some 26), fun _ => undef), ((some 27), fun _ => undef), ((some 28), fun _ => undef), ((some 29), fun _ => undef), ((some 30), fun _ => undef), ((some 31), fun _ => undef), ((some 32), fun _ => undef), ((some 33), fun _ => .bool false), ((some 2), fun _ => .bool false)] (D2.Pre w.heap.size w (fun L g => [(true, (b1, Oc (pv p) 26))]) (fun L g => True)) kr kr kr kr ⟨D2.StE.of H1.drew _ kr, trivial⟩ ⟨?_, ?_, ?_, ?_, ?_, ?_, ?_, ?_, ?_, ?_, ?_, ?_, ?_, ?_, ?_, ?_, ?_, ?_, ?_, ?_, ?_, ?_, ?_, ?_, ?_, ?_, ?_, trivial⟩ ?_
        · exact D2.gv_val (fun _ _ _ h => h) (fun g w => kr)
        · exact D2.gv_loadp 24 (.tmp 8) 0 (fun g => b1) 0 4 (Value.cells (pv p)) (Value.cells (uv (Ec.Pd.X p))) 26 (0, 0) (fun _ _ _ h => h) (fun g => kr) (fun g => kr) (fun L g hN => kr) kr (of_decide_eq_true kr) kr
        · exact D2.gv_call 26 #[uv (Ec.Pd.X p)] (fun _ _ _ h => h) (rred_no (Ec.Pd.X p) hp.X (by omega)) (fun g w => kr)
        · exact D2.gv_val (fun _ _ _ h => h) (fun g w => kr)
        · exact D2.gv_not (fun _ _ _ h => h) (fun g => kr)
        · exact D2.gv_not (fun _ _ _ h => h) (fun g => kr)
        · exact D2.gv_not (fun _ _ _ h => h) (fun g => kr)
        · exact D2.gv_val (fun _ _ _ h => h) (fun g w => kr)
        · exact D2.gv_val (fun _ _ _ h => h) (fun g w => kr)
        · exact D2.gv_not (fun _ _ _ h => h) (fun g => kr)
        · exact D2.gv_not (fun _ _ _ h => h) (fun g => kr)
        · exact D2.gv_not (fun _ _ _ h => h) (fun g => kr)
        · exact D2.gv_not (fun _ _ _ h => h) (fun g => kr)
        · exact D2.gv_not (fun _ _ _ h => h) (fun g => kr)
        · exact D2.gv_not (fun _ _ _ h => h) (fun g => kr)
        · exact D2.gv_not (fun _ _ _ h => h) (fun g => kr)
        · exact D2.gv_not (fun _ _ _ h => h) (fun g => kr)
        · exact D2.gv_not (fun _ _ _ h => h) (fun g => kr)
        · exact D2.gv_not (fun _ _ _ h => h) (fun g => kr)
        · exact D2.gv_not (fun _ _ _ h => h) (fun g => kr)
        · exact D2.gv_not (fun _ _ _ h => h) (fun g => kr)
        · exact D2.gv_not (fun _ _ _ h => h) (fun g => kr)
        · exact D2.gv_not (fun _ _ _ h => h) (fun g => kr)
        · exact D2.gv_not (fun _ _ _ h => h) (fun g => kr)
        · exact D2.gv_not (fun _ _ _ h => h) (fun g => kr)
        · exact D2.gv_val (fun _ _ _ h => h) (fun g w => kr)
        · exact D2.gv_val (fun _ _ _ h => h) (fun g w => kr)
        intro L0 G5 w5 hall HL; clear H1
        have H5 : St w.heap.size w w5 [(b1, Oc (pv p) 26)] := D2.StE.st HL.1
        clear HL hall
        refine g_ret kr ?_
        show ∃ vs, Res _ _ _ _ vs ∧ _
        refine ⟨[.bool false], (.tmp (.bool false) kr .nil), ?_, H5.below⟩
        exact congrArg Value.bool (Ec.onB_x hb1 (by omega)).symm
  · skip
    refine g_cond_t kr kr ?_
    refine g_sreg [0, 1, 2, 3] kr kr ?_
    refine s_load H1 (some 5) 26 (.tmp 1) 0 b1 (Value.cells (pv p)) 26 (0, 0) kr kr kr kr kr ?_
    refine s_val (some 6) (pv (Ec.Pd.mk 0 0 true)) (fun w => kr) kr ?_
    refine s_op (some 7) _ (.bool (decide (p = (Ec.Pd.mk 0 0 true)))) kr kr (fun o w ho => eqP_run (x := (.tmp 5)) (y := (.tmp 6)) p (Ec.Pd.mk 0 0 true) hp (Ec.Pd.Ok.mk (p := Ec.Pd.mk 0 0 true) Ec.big_0 Ec.big_0) w ho kr kr) ?_
    refine s_val (some 2) (.bool (decide (p = (Ec.Pd.mk 0 0 true)))) (fun w => kr) kr ?_
    refine s_nil ?_
    refine g_ret kr ?_
    show ∃ vs, Res _ _ _ _ vs ∧ _
    refine ⟨[.bool (decide (p = (Ec.Pd.mk 0 0 true)))], (.tmp (.bool (decide (p = (Ec.Pd.mk 0 0 true)))) kr .nil), ?_, H1.below⟩
    exact congrArg Value.bool (Ec.onB_1 hb1).symm

theorem on_yes (p : Ec.Pd) (hp : p.Ok) (h : Ec.onB p = true) : Fn Try.prog 10 #[pv p] (.bool true) := by have := on_fn p hp; rwa [h] at this
theorem on_no (p : Ec.Pd) (hp : p.Ok) (h : Ec.onB p = false) : Fn Try.prog 10 #[pv p] (.bool false) := by have := on_fn p hp; rwa [h] at this
theorem ron_yes (p : Ec.Pd) (hp : p.Ok) (h : Ec.onB p = true) : Fn Try.prog 11 #[pv p] (.bool true) := by have := ron_fn p hp; rwa [h] at this
theorem ron_no (p : Ec.Pd) (hp : p.Ok) (h : Ec.onB p = false) : Fn Try.prog 11 #[pv p] (.bool false) := by have := ron_fn p hp; rwa [h] at this

set_option maxRecDepth 100000 in
set_option maxHeartbeats 2000000 in
theorem turn_fn (P : Ec.Pt Ec.Fp) (hP : P.On Ec.seven) : Fn Try.prog 14 #[pv (Ec.ofPt P)] (.tuple #[pv (Ec.ofPt P.neg), .int .i64 0]) := by
  refine Fn.intro (c := codeOf Try.f14) [.cell 2 26, .tmp 3] 14 Try.func14 kr kr kr fun w => ?_
  have H0 := St.start w
  refine g_sreg [0, 1, 2] kr kr ?_
  refine s_box H0 (some 1) 26 (.tmp 0) (pv (Ec.ofPt P)) kr kr kr ?_
  intro b1 w1 H1; clear H0
  refine s_alloc H1 (some 2) 26 (.agg Z9) kr kr kr ?_
  intro b2 w2 H2; clear H1
  refine s_val (some 3) (.int .i64 0) (fun w => kr) kr ?_
  refine s_nil ?_
  refine g_seq kr ?_
  refine g_sreg [0, 1, 2] kr kr ?_
  refine s_load H2 (some 4) 26 (.tmp 1) 1 b1 (Value.cells (pv (Ec.ofPt P))) 26 (0, 0) kr kr kr kr kr ?_
  refine s_call H2 (some 5) 10 #[pv (Ec.ofPt P)] (.bool true) (on_yes (Ec.ofPt P) (Ec.ofPt_ok _) (Ec.onB_pt hP)) (fun w => kr) kr ?_
  intro w3 H3; clear H2
  refine s_val (some 6) (.bool false) (fun w => kr) kr ?_
  refine s_nil ?_
  refine g_cond_f kr kr ?_
  refine g_skip kr ?_
  show WP _ _ _ _ _ _
  refine g_sreg [0, 1, 2, 3, 4, 5] kr kr ?_
  refine s_val (some 8) (.agg Z4) (fun w => kr) kr ?_
  refine s_val (some 9) (.pointer (some ⟨b1, 4, none⟩)) (fun w => kr) kr ?_
  refine s_loadp H3 (some 10) 24 (.tmp 9) 1 b1 4 4 (Value.cells (pv (Ec.ofPt P))) (Value.cells (uv (Ec.Pd.Y (Ec.ofPt P)))) 26 (0, 0) kr kr kr kr kr (of_decide_eq_true kr) kr ?_
  refine s_call H3 (some 11) 38 #[.agg Z4, uv (Ec.Pd.Y (Ec.ofPt P))] (uv (fSub 0 (Ec.Pd.Y (Ec.ofPt P)) PR)) (pless_fn 0 (Ec.Pd.Y (Ec.ofPt P)) (by unfold big; omega) ((Ec.ofPt_ok _).Y)) (fun w => kr) kr ?_
  intro w4 H4; clear H3
  refine s_val (some 12) (.pointer (some ⟨b1, 4, none⟩)) (fun w => kr) kr ?_
  refine s_store H4 1 [(b2, Od Z9 26), (b1, Oc (pv (Ec.Pd.mk (Ec.Pd.X (Ec.ofPt P)) (fSub 0 (Ec.Pd.Y (Ec.ofPt P)) PR) (Ec.Pd.b (Ec.ofPt P)))) 26)] 24 (.tmp 12) (.tmp 11) b1 (4) (Value.cells (pv (Ec.ofPt P))) (Value.cells (pv (Ec.Pd.mk (Ec.Pd.X (Ec.ofPt P)) (fSub 0 (Ec.Pd.Y (Ec.ofPt P)) PR) (Ec.Pd.b (Ec.ofPt P))))) 26 (uv (fSub 0 (Ec.Pd.Y (Ec.ofPt P)) PR)) kr kr kr kr kr kr (of_decide_eq_true kr) kr kr ?_
  intro w5 H5; clear H4
  refine s_nil ?_
  refine g_sreg [0, 1, 2] kr kr ?_
  refine s_load H5 (some 13) 26 (.tmp 1) 1 b1 (Value.cells (pv (Ec.Pd.mk (Ec.Pd.X (Ec.ofPt P)) (fSub 0 (Ec.Pd.Y (Ec.ofPt P)) PR) (Ec.Pd.b (Ec.ofPt P))))) 26 (0, 0) kr kr kr kr kr ?_
  refine s_store H5 0 [(b2, Oc (pv (Ec.Pd.mk (Ec.Pd.X (Ec.ofPt P)) (fSub 0 (Ec.Pd.Y (Ec.ofPt P)) PR) (Ec.Pd.b (Ec.ofPt P)))) 26), (b1, Oc (pv (Ec.Pd.mk (Ec.Pd.X (Ec.ofPt P)) (fSub 0 (Ec.Pd.Y (Ec.ofPt P)) PR) (Ec.Pd.b (Ec.ofPt P)))) 26)] 26 (.tmp 2) (.tmp 13) b2 (0) Z9 (Value.cells (pv (Ec.Pd.mk (Ec.Pd.X (Ec.ofPt P)) (fSub 0 (Ec.Pd.Y (Ec.ofPt P)) PR) (Ec.Pd.b (Ec.ofPt P))))) 26 (pv (Ec.Pd.mk (Ec.Pd.X (Ec.ofPt P)) (fSub 0 (Ec.Pd.Y (Ec.ofPt P)) PR) (Ec.Pd.b (Ec.ofPt P)))) kr kr kr kr kr kr (of_decide_eq_true kr) kr kr ?_
  intro w6 H6; clear H5
  refine s_val (some 3) (.int .i64 0) (fun w => kr) kr ?_
  refine s_nil ?_
  refine g_ret kr ?_
  show ∃ vs, Res _ _ _ _ vs ∧ _
  refine ⟨[pv (Ec.Pd.mk (Ec.Pd.X (Ec.ofPt P)) (fSub 0 (Ec.Pd.Y (Ec.ofPt P)) PR) (Ec.Pd.b (Ec.ofPt P))), .int .i64 0], (.agg (b := b2) (Value.cells (pv (Ec.Pd.mk (Ec.Pd.X (Ec.ofPt P)) (fSub 0 (Ec.Pd.Y (Ec.ofPt P)) PR) (Ec.Pd.b (Ec.ofPt P))))) 26 (0, 0) kr (H6.get 0 kr) kr (.tmp (.int .i64 0) kr .nil)), ?_, H6.below⟩
  exact congrArg (fun y => Value.tuple #[pv y, .int .i64 0]) (turn_pt P)

set_option maxRecDepth 100000 in
set_option maxHeartbeats 2000000 in
theorem turnNo_fn (p : Ec.Pd) (hp : p.Ok) (h : Ec.onB p = false) : Fn Try.prog 14 #[pv p] (.tuple #[pv (Ec.Pd.mk 0 0 false), .int .i64 1]) := by
  refine Fn.intro (c := codeOf Try.f14) [.cell 2 26, .tmp 3] 14 Try.func14 kr kr kr fun w => ?_
  have H0 := St.start w
  refine g_sreg [0, 1, 2] kr kr ?_
  refine s_box H0 (some 1) 26 (.tmp 0) (pv p) kr kr kr ?_
  intro b1 w1 H1; clear H0
  refine s_alloc H1 (some 2) 26 (.agg Z9) kr kr kr ?_
  intro b2 w2 H2; clear H1
  refine s_val (some 3) (.int .i64 0) (fun w => kr) kr ?_
  refine s_nil ?_
  refine g_seq kr ?_
  refine g_sreg [0, 1, 2] kr kr ?_
  refine s_load H2 (some 4) 26 (.tmp 1) 1 b1 (Value.cells (pv p)) 26 (0, 0) kr kr kr kr kr ?_
  refine s_call H2 (some 5) 10 #[pv p] (.bool false) (on_no p hp h) (fun w => kr) kr ?_
  intro w3 H3; clear H2
  refine s_val (some 6) (.bool true) (fun w => kr) kr ?_
  refine s_nil ?_
  refine g_cond_t kr kr ?_
  refine g_sreg [0, 1, 2] kr kr ?_
  refine s_val (some 7) (pv (Ec.Pd.mk 0 0 false)) (fun w => kr) kr ?_
  refine s_store H3 0 [(b2, Oc (pv (Ec.Pd.mk 0 0 false)) 26), (b1, Oc (pv p) 26)] 26 (.tmp 2) (.tmp 7) b2 (0) Z9 (Value.cells (pv (Ec.Pd.mk 0 0 false))) 26 (pv (Ec.Pd.mk 0 0 false)) kr kr kr kr kr kr (of_decide_eq_true kr) kr kr ?_
  intro w4 H4; clear H3
  refine s_val (some 3) (.int .i64 1) (fun w => kr) kr ?_
  refine s_nil ?_
  refine g_ret kr ?_
  show ∃ vs, Res _ _ _ _ vs ∧ _
  refine ⟨[pv (Ec.Pd.mk 0 0 false), .int .i64 1], (.agg (b := b2) (Value.cells (pv (Ec.Pd.mk 0 0 false))) 26 (0, 0) kr (H4.get 0 kr) kr (.tmp (.int .i64 1) kr .nil)), ?_, H4.below⟩
  kernel_rfl

set_option maxRecDepth 100000 in
set_option maxHeartbeats 2000000 in
theorem turned_fn (P : Ec.Pt Ec.Fp) (hP : P.On Ec.seven) : Fn Try.prog 15 #[pv (Ec.ofPt P)] (pv (Ec.ofPt P.neg)) := by
  refine Fn.intro (c := codeOf Try.f15) [.cell 2 26] 13 Try.func15 kr kr kr fun w => ?_
  have H0 := St.start w
  refine g_sreg [0, 1] kr kr ?_
  refine s_box H0 (some 1) 26 (.tmp 0) (pv (Ec.ofPt P)) kr kr kr ?_
  intro b1 w1 H1; clear H0
  refine s_alloc H1 (some 2) 26 (.agg Z9) kr kr kr ?_
  intro b2 w2 H2; clear H1
  refine s_nil ?_
  refine g_seq kr ?_
  refine g_sreg [0, 1] kr kr ?_
  refine s_val (some 3) (.pointer (some ⟨b1, 8, none⟩)) (fun w => kr) kr ?_
  refine s_load1 H2 (some 4) 4 (.tmp 3) 1 b1 8 (Value.cells (pv (Ec.ofPt P))) 26 (0, 0) (.bool (Ec.Pd.b (Ec.ofPt P))) kr kr kr kr kr kr ?_
  refine s_nil ?_
  cases hb1 : Ec.Pd.b (Ec.ofPt P)
  · skip
    refine g_cond_f kr kr ?_
    refine g_skip kr ?_
    show WP _ _ _ _ _ _
    refine D2.g_sdraw [0, 1, 2, 3, 4, 5, 6, 7] [((some 6), fun _ => .pointer (some ⟨b1, 0, none⟩)), ((some 7), fun _ => uv (Ec.Pd.X (Ec.ofPt P))), ((some 8), fun _ => .agg Z4), ((some 9), fun _ => .pointer (some ⟨b1, 4, none⟩)), ((some 10), fun _ => uv (Ec.Pd.Y (Ec.ofPt P))), ((some 11), fun _ => uv (fSub 0 (Ec.Pd.Y (Ec.ofPt P)) PR)), ((some 12), fun _ => pv (Ec.Pd.mk (Ec.Pd.X (Ec.ofPt P)) (fSub 0 (Ec.Pd.Y (Ec.ofPt P)) PR) false)), (none, fun _ => undef)] (D2.Pre w.heap.size w (fun L g => [(true, (bif L 7 then (b2, Oc (pv (Ec.Pd.mk (Ec.Pd.X (Ec.ofPt P)) (fSub 0 (Ec.Pd.Y (Ec.ofPt P)) PR) false)) 26) else (b2, Od Z9 26))), (true, (b1, Oc (pv (Ec.ofPt P)) 26))]) (fun L g => True)) kr kr kr kr ⟨D2.StE.of H2.drew _ kr, trivial⟩ ⟨?_, ?_, ?_, ?_, ?_, ?_, ?_, ?_, trivial⟩ ?_
    · exact D2.gv_val (fun _ _ _ h => h) (fun g w => kr)
    · exact D2.gv_loadp 24 (.tmp 6) 1 (fun g => b1) 0 4 (Value.cells (pv (Ec.ofPt P))) (Value.cells (uv (Ec.Pd.X (Ec.ofPt P)))) 26 (0, 0) (fun _ _ _ h => h) (fun g => kr) (fun g => kr) (fun L g hN => kr) kr (of_decide_eq_true kr) kr
    · exact D2.gv_val (fun _ _ _ h => h) (fun g w => kr)
    · exact D2.gv_val (fun _ _ _ h => h) (fun g w => kr)
    · exact D2.gv_loadp 24 (.tmp 9) 1 (fun g => b1) 4 4 (Value.cells (pv (Ec.ofPt P))) (Value.cells (uv (Ec.Pd.Y (Ec.ofPt P)))) 26 (0, 0) (fun _ _ _ h => h) (fun g => kr) (fun g => kr) (fun L g hN => kr) kr (of_decide_eq_true kr) kr
    · exact D2.gv_call 39 #[.agg Z4, uv (Ec.Pd.Y (Ec.ofPt P))] (fun _ _ _ h => h) (rsub6_fn 0 (Ec.Pd.Y (Ec.ofPt P)) (by unfold big; omega) ((Ec.ofPt_ok _).Y)) (fun g w => kr)
    · exact D2.gv_val (fun _ _ _ h => h) (fun g w => kr)
    · exact D2.gv_store 0 26 (.tmp 2) (.tmp 12) (fun g => b2) (fun g => 0) Z9 (Value.cells (pv (Ec.Pd.mk (Ec.Pd.X (Ec.ofPt P)) (fSub 0 (Ec.Pd.Y (Ec.ofPt P)) PR) false))) 26 (pv (Ec.Pd.mk (Ec.Pd.X (Ec.ofPt P)) (fSub 0 (Ec.Pd.Y (Ec.ofPt P)) PR) false)) (fun g => kr) (fun g => kr) (fun g => kr) kr kr (fun g => (of_decide_eq_true kr)) (fun g => kr) (fun L g hN => ⟨(by have hL7 : L 7 = false := hN.1; exact D2.ent_get' (p := true) (e := (bif L 7 then (b2, Oc (pv (Ec.Pd.mk (Ec.Pd.X (Ec.ofPt P)) (fSub 0 (Ec.Pd.Y (Ec.ofPt P)) PR) false)) 26) else (b2, Od Z9 26))) kr (by rfl) (by simp only [hL7, cond_true, cond_false] <;> rfl)), kr⟩) (fun L g hN hF => hF)
    intro L0 G3 w3 hall HL; clear H2
    have H3 : St w.heap.size w w3 [(b2, Oc (pv (Ec.Pd.mk (Ec.Pd.X (Ec.ofPt P)) (fSub 0 (Ec.Pd.Y (Ec.ofPt P)) PR) false)) 26), (b1, Oc (pv (Ec.ofPt P)) 26)] := by have e7 := hall 7 (Nat.le_of_ble_eq_true kr); have hS := D2.StE.st HL.1; simp only [e7, cond_true, D2.pres] at hS; exact hS
    clear HL hall
    refine g_ret kr ?_
    show ∃ vs, Res _ _ _ _ vs ∧ _
    refine ⟨[pv (Ec.Pd.mk (Ec.Pd.X (Ec.ofPt P)) (fSub 0 (Ec.Pd.Y (Ec.ofPt P)) PR) false)], (.agg (b := b2) (Value.cells (pv (Ec.Pd.mk (Ec.Pd.X (Ec.ofPt P)) (fSub 0 (Ec.Pd.Y (Ec.ofPt P)) PR) false))) 26 (0, 0) kr (H3.get 0 kr) kr .nil), ?_, H3.below⟩
    exact congrArg pv (turned_2 hb1)
  · skip
    refine g_cond_t kr kr ?_
    refine g_sreg [0, 1] kr kr ?_
    refine s_load H2 (some 5) 26 (.tmp 1) 1 b1 (Value.cells (pv (Ec.ofPt P))) 26 (0, 0) kr kr kr kr kr ?_
    refine s_store H2 0 [(b2, Oc (pv (Ec.ofPt P)) 26), (b1, Oc (pv (Ec.ofPt P)) 26)] 26 (.tmp 2) (.tmp 5) b2 (0) Z9 (Value.cells (pv (Ec.ofPt P))) 26 (pv (Ec.ofPt P)) kr kr kr kr kr kr (of_decide_eq_true kr) kr kr ?_
    intro w4 H4; clear H2
    refine s_nil ?_
    refine g_ret kr ?_
    show ∃ vs, Res _ _ _ _ vs ∧ _
    refine ⟨[pv (Ec.ofPt P)], (.agg (b := b2) (Value.cells (pv (Ec.ofPt P))) 26 (0, 0) kr (H4.get 0 kr) kr .nil), ?_, H4.below⟩
    exact congrArg pv (turned_1 hb1)

set_option maxRecDepth 100000 in
set_option maxHeartbeats 2000000 in
theorem base_fn  : Fn Try.prog 22 #[] (pv (Ec.ofPt Ec.G)) := by
  refine Fn.intro (c := codeOf Try.f22) [.cell 0 26] 4 Try.func22 kr kr kr fun w => ?_
  have H0 := St.start w
  refine g_sreg [0] kr kr ?_
  refine s_alloc H0 (some 0) 26 (.agg Z9) kr kr kr ?_
  intro b1 w1 H1; clear H0
  refine s_nil ?_
  refine g_sreg [0, 1, 2, 3] kr kr ?_
  refine s_val (some 1) (.agg #[.int .u64 6481385041966929816, .int .u64 188021827762530521, .int .u64 6170039885052185351, .int .u64 8772561819708210092]) (fun w => kr) kr ?_
  refine s_val (some 2) (.agg #[.int .u64 11261198710074299576, .int .u64 18237243440184513561, .int .u64 6747795201694173352, .int .u64 5204712524664259685]) (fun w => kr) kr ?_
  refine s_val (some 3) (pv (Ec.Pd.mk 55066263022277343669578718895168534326250603453777594175500187360389116729240 32670510020758816978083085130507043184471273380659243275938904335757337482424 false)) (fun w => kr) kr ?_
  refine s_store H1 0 [(b1, Oc (pv (Ec.Pd.mk 55066263022277343669578718895168534326250603453777594175500187360389116729240 32670510020758816978083085130507043184471273380659243275938904335757337482424 false)) 26)] 26 (.tmp 0) (.tmp 3) b1 (0) Z9 (Value.cells (pv (Ec.Pd.mk 55066263022277343669578718895168534326250603453777594175500187360389116729240 32670510020758816978083085130507043184471273380659243275938904335757337482424 false))) 26 (pv (Ec.Pd.mk 55066263022277343669578718895168534326250603453777594175500187360389116729240 32670510020758816978083085130507043184471273380659243275938904335757337482424 false)) kr kr kr kr kr kr (of_decide_eq_true kr) kr kr ?_
  intro w2 H2; clear H1
  refine s_nil ?_
  refine g_ret kr ?_
  show ∃ vs, Res _ _ _ _ vs ∧ _
  refine ⟨[pv (Ec.Pd.mk 55066263022277343669578718895168534326250603453777594175500187360389116729240 32670510020758816978083085130507043184471273380659243275938904335757337482424 false)], (.agg (b := b1) (Value.cells (pv (Ec.Pd.mk 55066263022277343669578718895168534326250603453777594175500187360389116729240 32670510020758816978083085130507043184471273380659243275938904335757337482424 false))) 26 (0, 0) kr (H2.get 0 kr) kr .nil), ?_, H2.below⟩
  kernel_rfl

set_option maxRecDepth 100000 in
set_option maxHeartbeats 2000000 in
theorem often_fn (p : Ec.Pd) (hp : p.Ok) (n : Nat) (hn : n < big) : FnR Try.prog 41 #[pv p, uv n] (fun _ => True) (RetP 80 (Value.cells (shv n (Ec.widenW p) 15))) := by
  refine FnR.intro (c := codeOf Try.f41) [.tmp 4] 35 Try.func41 kr kr kr fun w hpre => ?_
  have H0 := St.start w
  refine g_sreg [0, 1, 2] kr kr ?_
  refine s_box H0 (some 2) 26 (.tmp 0) (pv p) kr kr kr ?_
  intro b1 w1 H1; clear H0
  refine s_box H1 (some 3) 24 (.tmp 1) (uv n) kr kr kr ?_
  intro b2 w2 H2; clear H1
  refine s_val (some 4) (.pointer none) (fun w => kr) kr ?_
  refine s_nil ?_
  refine g_sreg [0, 1, 2, 3] kr kr ?_
  refine s_load H2 (some 7) 24 (.tmp 3) 0 b2 (Value.cells (uv n)) 24 (0, 0) kr kr kr kr kr ?_
  refine s_val (some 8) (.agg #[.int .u64 (wu0 n), .int .u64 (wu1 n), .int .u64 (wu2 n), .int .u64 (wu3 n), .int .u64 0, .int .u64 0, .int .u64 0, .int .u64 0, .int .u64 0, .int .u64 0, .int .u64 0, .int .u64 0, .bool false, .int .u64 0, .int .u64 0, .int .u64 0, .int .u64 0, .int .u64 0, .int .u64 0, .int .u64 0, .int .u64 0, .int .u64 0, .int .u64 0, .int .u64 0, .int .u64 0, .bool false, .int .u64 0, .int .u64 0, .int .u64 0, .int .u64 0, .int .u64 0, .int .u64 0, .int .u64 0, .int .u64 0, .int .u64 0, .int .u64 0, .int .u64 0, .int .u64 0, .bool false, .int .u64 0, .int .u64 0, .int .u64 0, .int .u64 0, .int .u64 0, .int .u64 0, .int .u64 0, .int .u64 0, .int .u64 0, .int .u64 0, .int .u64 0, .int .u64 0, .bool false, .int .u64 0, .int .u64 0, .int .u64 0, .int .u64 0, .int .u64 0, .int .u64 0, .int .u64 0, .int .u64 0, .int .u64 0, .int .u64 0, .int .u64 0, .int .u64 0, .bool false, .int .u64 0, .int .u64 0, .int .u64 0, .int .u64 0, .int .u64 0, .int .u64 0, .int .u64 0, .int .u64 0, .int .u64 0, .int .u64 0, .int .u64 0, .int .u64 0, .bool false, .int .u64 0, .int .u64 0, .int .u64 0, .int .u64 0, .int .u64 0, .int .u64 0, .int .u64 0, .int .u64 0, .int .u64 0, .int .u64 0, .int .u64 0, .int .u64 0, .bool false, .int .u64 0, .int .u64 0, .int .u64 0, .int .u64 0, .int .u64 0, .int .u64 0, .int .u64 0, .int .u64 0, .int .u64 0, .int .u64 0, .int .u64 0, .int .u64 0, .bool false, .int .u64 0, .int .u64 0, .int .u64 0, .int .u64 0, .int .u64 0, .int .u64 0, .int .u64 0, .int .u64 0, .int .u64 0, .int .u64 0, .int .u64 0, .int .u64 0, .bool false, .int .u64 0, .int .u64 0, .int .u64 0, .int .u64 0, .int .u64 0, .int .u64 0, .int .u64 0, .int .u64 0, .int .u64 0, .int .u64 0, .int .u64 0, .int .u64 0, .bool false, .int .u64 0, .int .u64 0, .int .u64 0, .int .u64 0, .int .u64 0, .int .u64 0, .int .u64 0, .int .u64 0, .int .u64 0, .int .u64 0, .int .u64 0, .int .u64 0, .bool false, .int .u64 0, .int .u64 0, .int .u64 0, .int .u64 0, .int .u64 0, .int .u64 0, .int .u64 0, .int .u64 0, .int .u64 0, .int .u64 0, .int .u64 0, .int .u64 0, .bool false, .int .u64 0, .int .u64 0, .int .u64 0, .int .u64 0, .int .u64 0, .int .u64 0, .int .u64 0, .int .u64 0, .int .u64 0, .int .u64 0, .int .u64 0, .int .u64 0, .bool false, .int .u64 0, .int .u64 0, .int .u64 0, .int .u64 0, .int .u64 0, .int .u64 0, .int .u64 0, .int .u64 0, .int .u64 0, .int .u64 0, .int .u64 0, .int .u64 0, .bool false, .int .u64 0, .int .u64 0, .int .u64 0, .int .u64 0, .int .u64 0, .int .u64 0, .int .u64 0, .int .u64 0, .int .u64 0, .int .u64 0, .int .u64 0, .int .u64 0, .bool false, .int .u64 0, .int .u64 0, .int .u64 0, .int .u64 0, .int .u64 0, .int .u64 0, .int .u64 0, .int .u64 0, .int .u64 0, .int .u64 0, .int .u64 0, .int .u64 0, .bool false, .int .u64 0, .int .u64 0, .int .u64 0, .int .u64 0]) (fun w => kr) kr ?_
  refine s_box H2 (some 9) 80 (.tmp 8) (.agg #[.int .u64 (wu0 n), .int .u64 (wu1 n), .int .u64 (wu2 n), .int .u64 (wu3 n), .int .u64 0, .int .u64 0, .int .u64 0, .int .u64 0, .int .u64 0, .int .u64 0, .int .u64 0, .int .u64 0, .bool false, .int .u64 0, .int .u64 0, .int .u64 0, .int .u64 0, .int .u64 0, .int .u64 0, .int .u64 0, .int .u64 0, .int .u64 0, .int .u64 0, .int .u64 0, .int .u64 0, .bool false, .int .u64 0, .int .u64 0, .int .u64 0, .int .u64 0, .int .u64 0, .int .u64 0, .int .u64 0, .int .u64 0, .int .u64 0, .int .u64 0, .int .u64 0, .int .u64 0, .bool false, .int .u64 0, .int .u64 0, .int .u64 0, .int .u64 0, .int .u64 0, .int .u64 0, .int .u64 0, .int .u64 0, .int .u64 0, .int .u64 0, .int .u64 0, .int .u64 0, .bool false, .int .u64 0, .int .u64 0, .int .u64 0, .int .u64 0, .int .u64 0, .int .u64 0, .int .u64 0, .int .u64 0, .int .u64 0, .int .u64 0, .int .u64 0, .int .u64 0, .bool false, .int .u64 0, .int .u64 0, .int .u64 0, .int .u64 0, .int .u64 0, .int .u64 0, .int .u64 0, .int .u64 0, .int .u64 0, .int .u64 0, .int .u64 0, .int .u64 0, .bool false, .int .u64 0, .int .u64 0, .int .u64 0, .int .u64 0, .int .u64 0, .int .u64 0, .int .u64 0, .int .u64 0, .int .u64 0, .int .u64 0, .int .u64 0, .int .u64 0, .bool false, .int .u64 0, .int .u64 0, .int .u64 0, .int .u64 0, .int .u64 0, .int .u64 0, .int .u64 0, .int .u64 0, .int .u64 0, .int .u64 0, .int .u64 0, .int .u64 0, .bool false, .int .u64 0, .int .u64 0, .int .u64 0, .int .u64 0, .int .u64 0, .int .u64 0, .int .u64 0, .int .u64 0, .int .u64 0, .int .u64 0, .int .u64 0, .int .u64 0, .bool false, .int .u64 0, .int .u64 0, .int .u64 0, .int .u64 0, .int .u64 0, .int .u64 0, .int .u64 0, .int .u64 0, .int .u64 0, .int .u64 0, .int .u64 0, .int .u64 0, .bool false, .int .u64 0, .int .u64 0, .int .u64 0, .int .u64 0, .int .u64 0, .int .u64 0, .int .u64 0, .int .u64 0, .int .u64 0, .int .u64 0, .int .u64 0, .int .u64 0, .bool false, .int .u64 0, .int .u64 0, .int .u64 0, .int .u64 0, .int .u64 0, .int .u64 0, .int .u64 0, .int .u64 0, .int .u64 0, .int .u64 0, .int .u64 0, .int .u64 0, .bool false, .int .u64 0, .int .u64 0, .int .u64 0, .int .u64 0, .int .u64 0, .int .u64 0, .int .u64 0, .int .u64 0, .int .u64 0, .int .u64 0, .int .u64 0, .int .u64 0, .bool false, .int .u64 0, .int .u64 0, .int .u64 0, .int .u64 0, .int .u64 0, .int .u64 0, .int .u64 0, .int .u64 0, .int .u64 0, .int .u64 0, .int .u64 0, .int .u64 0, .bool false, .int .u64 0, .int .u64 0, .int .u64 0, .int .u64 0, .int .u64 0, .int .u64 0, .int .u64 0, .int .u64 0, .int .u64 0, .int .u64 0, .int .u64 0, .int .u64 0, .bool false, .int .u64 0, .int .u64 0, .int .u64 0, .int .u64 0, .int .u64 0, .int .u64 0, .int .u64 0, .int .u64 0, .int .u64 0, .int .u64 0, .int .u64 0, .int .u64 0, .bool false, .int .u64 0, .int .u64 0, .int .u64 0, .int .u64 0]) kr kr kr ?_
  intro b3 w3 H3; clear H2
  refine s_val (some 5) (.pointer (some ⟨b3, 0, none⟩)) (fun w => kr) kr ?_
  refine s_nil ?_
  refine D2.g_sdraw [0, 1, 2, 3, 4, 5] [((some 10), fun _ => .pointer (some ⟨b3, 0, none⟩)), ((some 11), fun _ => wv Ec.zeroW), ((some 12), fun _ => .pointer (some ⟨b3, 0, none⟩)), ((some 13), fun _ => .pointer (some ⟨b3, 4, none⟩)), ((some 14), fun _ => .pointer (some ⟨b3, 4, none⟩)), (none, fun _ => undef)] (D2.Pre w.heap.size w (fun L g => [(true, (bif L 5 then (b3, Oc (shv n (Ec.widenW p) 0) 80) else (b3, Obj.cells #[.int .u64 (wu0 n), .int .u64 (wu1 n), .int .u64 (wu2 n), .int .u64 (wu3 n), .int .u64 0, .int .u64 0, .int .u64 0, .int .u64 0, .int .u64 0, .int .u64 0, .int .u64 0, .int .u64 0, .bool false, .int .u64 0, .int .u64 0, .int .u64 0, .int .u64 0, .int .u64 0, .int .u64 0, .int .u64 0, .int .u64 0, .int .u64 0, .int .u64 0, .int .u64 0, .int .u64 0, .bool false, .int .u64 0, .int .u64 0, .int .u64 0, .int .u64 0, .int .u64 0, .int .u64 0, .int .u64 0, .int .u64 0, .int .u64 0, .int .u64 0, .int .u64 0, .int .u64 0, .bool false, .int .u64 0, .int .u64 0, .int .u64 0, .int .u64 0, .int .u64 0, .int .u64 0, .int .u64 0, .int .u64 0, .int .u64 0, .int .u64 0, .int .u64 0, .int .u64 0, .bool false, .int .u64 0, .int .u64 0, .int .u64 0, .int .u64 0, .int .u64 0, .int .u64 0, .int .u64 0, .int .u64 0, .int .u64 0, .int .u64 0, .int .u64 0, .int .u64 0, .bool false, .int .u64 0, .int .u64 0, .int .u64 0, .int .u64 0, .int .u64 0, .int .u64 0, .int .u64 0, .int .u64 0, .int .u64 0, .int .u64 0, .int .u64 0, .int .u64 0, .bool false, .int .u64 0, .int .u64 0, .int .u64 0, .int .u64 0, .int .u64 0, .int .u64 0, .int .u64 0, .int .u64 0, .int .u64 0, .int .u64 0, .int .u64 0, .int .u64 0, .bool false, .int .u64 0, .int .u64 0, .int .u64 0, .int .u64 0, .int .u64 0, .int .u64 0, .int .u64 0, .int .u64 0, .int .u64 0, .int .u64 0, .int .u64 0, .int .u64 0, .bool false, .int .u64 0, .int .u64 0, .int .u64 0, .int .u64 0, .int .u64 0, .int .u64 0, .int .u64 0, .int .u64 0, .int .u64 0, .int .u64 0, .int .u64 0, .int .u64 0, .bool false, .int .u64 0, .int .u64 0, .int .u64 0, .int .u64 0, .int .u64 0, .int .u64 0, .int .u64 0, .int .u64 0, .int .u64 0, .int .u64 0, .int .u64 0, .int .u64 0, .bool false, .int .u64 0, .int .u64 0, .int .u64 0, .int .u64 0, .int .u64 0, .int .u64 0, .int .u64 0, .int .u64 0, .int .u64 0, .int .u64 0, .int .u64 0, .int .u64 0, .bool false, .int .u64 0, .int .u64 0, .int .u64 0, .int .u64 0, .int .u64 0, .int .u64 0, .int .u64 0, .int .u64 0, .int .u64 0, .int .u64 0, .int .u64 0, .int .u64 0, .bool false, .int .u64 0, .int .u64 0, .int .u64 0, .int .u64 0, .int .u64 0, .int .u64 0, .int .u64 0, .int .u64 0, .int .u64 0, .int .u64 0, .int .u64 0, .int .u64 0, .bool false, .int .u64 0, .int .u64 0, .int .u64 0, .int .u64 0, .int .u64 0, .int .u64 0, .int .u64 0, .int .u64 0, .int .u64 0, .int .u64 0, .int .u64 0, .int .u64 0, .bool false, .int .u64 0, .int .u64 0, .int .u64 0, .int .u64 0, .int .u64 0, .int .u64 0, .int .u64 0, .int .u64 0, .int .u64 0, .int .u64 0, .int .u64 0, .int .u64 0, .bool false, .int .u64 0, .int .u64 0, .int .u64 0, .int .u64 0, .int .u64 0, .int .u64 0, .int .u64 0, .int .u64 0, .int .u64 0, .int .u64 0, .int .u64 0, .int .u64 0, .bool false, .int .u64 0, .int .u64 0, .int .u64 0, .int .u64 0] 80 (0, 0)))), (true, (b2, Oc (uv n) 24)), (true, (b1, Oc (pv p) 26))]) (fun L g => True)) kr kr kr kr ⟨D2.StE.of H3.drew _ kr, trivial⟩ ⟨?_, ?_, ?_, ?_, ?_, ?_, trivial⟩ ?_
  · exact D2.gv_val (fun _ _ _ h => h) (fun g w => kr)
  · exact D2.gv_call 29 #[] (fun _ _ _ h => h) pzero_fn (fun g w => kr)
  · exact D2.gv_val (fun _ _ _ h => h) (fun g w => kr)
  · exact D2.gv_val (fun _ _ _ h => h) (fun g w => kr)
  · exact D2.gv_val (fun _ _ _ h => h) (fun g w => kr)
  · exact D2.gv_store 0 51 (.tmp 14) (.tmp 11) (fun g => b3) (fun g => 4) #[.int .u64 (wu0 n), .int .u64 (wu1 n), .int .u64 (wu2 n), .int .u64 (wu3 n), .int .u64 0, .int .u64 0, .int .u64 0, .int .u64 0, .int .u64 0, .int .u64 0, .int .u64 0, .int .u64 0, .bool false, .int .u64 0, .int .u64 0, .int .u64 0, .int .u64 0, .int .u64 0, .int .u64 0, .int .u64 0, .int .u64 0, .int .u64 0, .int .u64 0, .int .u64 0, .int .u64 0, .bool false, .int .u64 0, .int .u64 0, .int .u64 0, .int .u64 0, .int .u64 0, .int .u64 0, .int .u64 0, .int .u64 0, .int .u64 0, .int .u64 0, .int .u64 0, .int .u64 0, .bool false, .int .u64 0, .int .u64 0, .int .u64 0, .int .u64 0, .int .u64 0, .int .u64 0, .int .u64 0, .int .u64 0, .int .u64 0, .int .u64 0, .int .u64 0, .int .u64 0, .bool false, .int .u64 0, .int .u64 0, .int .u64 0, .int .u64 0, .int .u64 0, .int .u64 0, .int .u64 0, .int .u64 0, .int .u64 0, .int .u64 0, .int .u64 0, .int .u64 0, .bool false, .int .u64 0, .int .u64 0, .int .u64 0, .int .u64 0, .int .u64 0, .int .u64 0, .int .u64 0, .int .u64 0, .int .u64 0, .int .u64 0, .int .u64 0, .int .u64 0, .bool false, .int .u64 0, .int .u64 0, .int .u64 0, .int .u64 0, .int .u64 0, .int .u64 0, .int .u64 0, .int .u64 0, .int .u64 0, .int .u64 0, .int .u64 0, .int .u64 0, .bool false, .int .u64 0, .int .u64 0, .int .u64 0, .int .u64 0, .int .u64 0, .int .u64 0, .int .u64 0, .int .u64 0, .int .u64 0, .int .u64 0, .int .u64 0, .int .u64 0, .bool false, .int .u64 0, .int .u64 0, .int .u64 0, .int .u64 0, .int .u64 0, .int .u64 0, .int .u64 0, .int .u64 0, .int .u64 0, .int .u64 0, .int .u64 0, .int .u64 0, .bool false, .int .u64 0, .int .u64 0, .int .u64 0, .int .u64 0, .int .u64 0, .int .u64 0, .int .u64 0, .int .u64 0, .int .u64 0, .int .u64 0, .int .u64 0, .int .u64 0, .bool false, .int .u64 0, .int .u64 0, .int .u64 0, .int .u64 0, .int .u64 0, .int .u64 0, .int .u64 0, .int .u64 0, .int .u64 0, .int .u64 0, .int .u64 0, .int .u64 0, .bool false, .int .u64 0, .int .u64 0, .int .u64 0, .int .u64 0, .int .u64 0, .int .u64 0, .int .u64 0, .int .u64 0, .int .u64 0, .int .u64 0, .int .u64 0, .int .u64 0, .bool false, .int .u64 0, .int .u64 0, .int .u64 0, .int .u64 0, .int .u64 0, .int .u64 0, .int .u64 0, .int .u64 0, .int .u64 0, .int .u64 0, .int .u64 0, .int .u64 0, .bool false, .int .u64 0, .int .u64 0, .int .u64 0, .int .u64 0, .int .u64 0, .int .u64 0, .int .u64 0, .int .u64 0, .int .u64 0, .int .u64 0, .int .u64 0, .int .u64 0, .bool false, .int .u64 0, .int .u64 0, .int .u64 0, .int .u64 0, .int .u64 0, .int .u64 0, .int .u64 0, .int .u64 0, .int .u64 0, .int .u64 0, .int .u64 0, .int .u64 0, .bool false, .int .u64 0, .int .u64 0, .int .u64 0, .int .u64 0, .int .u64 0, .int .u64 0, .int .u64 0, .int .u64 0, .int .u64 0, .int .u64 0, .int .u64 0, .int .u64 0, .bool false, .int .u64 0, .int .u64 0, .int .u64 0, .int .u64 0] (Value.cells (shv n (Ec.widenW p) 0)) 80 (wv Ec.zeroW) (fun g => kr) (fun g => kr) (fun g => kr) kr kr (fun g => (of_decide_eq_true kr)) (fun g => kr) (fun L g hN => ⟨(by have hL5 : L 5 = false := hN.1; exact D2.ent_get' (p := true) (e := (bif L 5 then (b3, Oc (shv n (Ec.widenW p) 0) 80) else (b3, Obj.cells #[.int .u64 (wu0 n), .int .u64 (wu1 n), .int .u64 (wu2 n), .int .u64 (wu3 n), .int .u64 0, .int .u64 0, .int .u64 0, .int .u64 0, .int .u64 0, .int .u64 0, .int .u64 0, .int .u64 0, .bool false, .int .u64 0, .int .u64 0, .int .u64 0, .int .u64 0, .int .u64 0, .int .u64 0, .int .u64 0, .int .u64 0, .int .u64 0, .int .u64 0, .int .u64 0, .int .u64 0, .bool false, .int .u64 0, .int .u64 0, .int .u64 0, .int .u64 0, .int .u64 0, .int .u64 0, .int .u64 0, .int .u64 0, .int .u64 0, .int .u64 0, .int .u64 0, .int .u64 0, .bool false, .int .u64 0, .int .u64 0, .int .u64 0, .int .u64 0, .int .u64 0, .int .u64 0, .int .u64 0, .int .u64 0, .int .u64 0, .int .u64 0, .int .u64 0, .int .u64 0, .bool false, .int .u64 0, .int .u64 0, .int .u64 0, .int .u64 0, .int .u64 0, .int .u64 0, .int .u64 0, .int .u64 0, .int .u64 0, .int .u64 0, .int .u64 0, .int .u64 0, .bool false, .int .u64 0, .int .u64 0, .int .u64 0, .int .u64 0, .int .u64 0, .int .u64 0, .int .u64 0, .int .u64 0, .int .u64 0, .int .u64 0, .int .u64 0, .int .u64 0, .bool false, .int .u64 0, .int .u64 0, .int .u64 0, .int .u64 0, .int .u64 0, .int .u64 0, .int .u64 0, .int .u64 0, .int .u64 0, .int .u64 0, .int .u64 0, .int .u64 0, .bool false, .int .u64 0, .int .u64 0, .int .u64 0, .int .u64 0, .int .u64 0, .int .u64 0, .int .u64 0, .int .u64 0, .int .u64 0, .int .u64 0, .int .u64 0, .int .u64 0, .bool false, .int .u64 0, .int .u64 0, .int .u64 0, .int .u64 0, .int .u64 0, .int .u64 0, .int .u64 0, .int .u64 0, .int .u64 0, .int .u64 0, .int .u64 0, .int .u64 0, .bool false, .int .u64 0, .int .u64 0, .int .u64 0, .int .u64 0, .int .u64 0, .int .u64 0, .int .u64 0, .int .u64 0, .int .u64 0, .int .u64 0, .int .u64 0, .int .u64 0, .bool false, .int .u64 0, .int .u64 0, .int .u64 0, .int .u64 0, .int .u64 0, .int .u64 0, .int .u64 0, .int .u64 0, .int .u64 0, .int .u64 0, .int .u64 0, .int .u64 0, .bool false, .int .u64 0, .int .u64 0, .int .u64 0, .int .u64 0, .int .u64 0, .int .u64 0, .int .u64 0, .int .u64 0, .int .u64 0, .int .u64 0, .int .u64 0, .int .u64 0, .bool false, .int .u64 0, .int .u64 0, .int .u64 0, .int .u64 0, .int .u64 0, .int .u64 0, .int .u64 0, .int .u64 0, .int .u64 0, .int .u64 0, .int .u64 0, .int .u64 0, .bool false, .int .u64 0, .int .u64 0, .int .u64 0, .int .u64 0, .int .u64 0, .int .u64 0, .int .u64 0, .int .u64 0, .int .u64 0, .int .u64 0, .int .u64 0, .int .u64 0, .bool false, .int .u64 0, .int .u64 0, .int .u64 0, .int .u64 0, .int .u64 0, .int .u64 0, .int .u64 0, .int .u64 0, .int .u64 0, .int .u64 0, .int .u64 0, .int .u64 0, .bool false, .int .u64 0, .int .u64 0, .int .u64 0, .int .u64 0, .int .u64 0, .int .u64 0, .int .u64 0, .int .u64 0, .int .u64 0, .int .u64 0, .int .u64 0, .int .u64 0, .bool false, .int .u64 0, .int .u64 0, .int .u64 0, .int .u64 0] 80 (0, 0)))) kr (by rfl) (by simp only [hL5, cond_true, cond_false] <;> rfl)), kr⟩) (fun L g hN hF => hF)
  intro L0 G4 w4 hall HL; clear H3
  have H4 : St w.heap.size w w4 [(b3, Oc (shv n (Ec.widenW p) 0) 80), (b2, Oc (uv n) 24), (b1, Oc (pv p) 26)] := by have e5 := hall 5 (Nat.le_of_ble_eq_true kr); have hS := D2.StE.st HL.1; simp only [e5, cond_true, D2.pres] at hS; exact hS
  clear HL hall
  refine g_seq kr ?_
  refine g_sreg [0] kr kr ?_
  refine s_val (some 6) (.int .i64 1) (fun w => kr) kr ?_
  refine s_nil ?_
  refine g_block 0 kr ?_
  refine g_first kr ?_
  refine g_seq kr ?_
  refine g_sreg [0, 1] kr kr ?_
  refine s_val (some 15) (.int .i64 1) (fun w => kr) kr ?_
  refine s_val (some 16) (.bool true) (fun w => kr) kr ?_
  refine s_nil ?_
  refine g_cond_t kr kr ?_
  refine g_skip kr ?_
  show WP _ _ _ _ _ _
  refine g_seq kr ?_
  refine g_block 1 kr ?_
  refine D2.g_draw0 [0, 1, 2, 3, 4, 5, 6, 7, 8, 9, 10, 11, 12, 13, 14, 15] [((some 19), fun _ => .pointer (some ⟨b3, 0, none⟩)), ((some 20), fun _ => .int .i64 1), ((some 21), fun _ => .pointer (some ⟨b3, 0, none⟩)), ((some 22), fun _ => .int .i64 1), ((some 23), fun _ => .int .i64 0), ((some 24), fun _ => .pointer (some ⟨b3, 0, none⟩)), ((some 25), fun _ => .pointer (some ⟨b3, 4, none⟩)), ((some 26), fun _ => .pointer (some ⟨b3, 4, none⟩)), ((some 27), fun _ => wv (Ec.mults (Ec.widenW p) 0)), ((some 28), fun _ => pv p), ((some 29), fun _ => wv (Ec.widenW p)), ((some 30), fun _ => wv (Ec.mults (Ec.widenW p) 1)), ((some 31), fun _ => .pointer (some ⟨b3, 0, none⟩)), ((some 32), fun _ => .pointer (some ⟨b3, 4, none⟩)), ((some 33), fun _ => .pointer (some ⟨b3, 17, none⟩)), (none, fun _ => undef)] (D2.Pre w.heap.size w (fun L g => [(true, (bif L 15 then (b3, Oc (shv n (Ec.widenW p) 1) 80) else (b3, Oc (shv n (Ec.widenW p) 0) 80))), (true, (b2, Oc (uv n) 24)), (true, (b1, Oc (pv p) 26))]) (fun L g => True)) kr kr kr ⟨D2.StE.of H4.drew _ kr, trivial⟩ ⟨?_, ?_, ?_, ?_, ?_, ?_, ?_, ?_, ?_, ?_, ?_, ?_, ?_, ?_, ?_, ?_, trivial⟩ ?_
  · exact D2.gv_val (fun _ _ _ h => h) (fun g w => kr)
  · exact D2.gv_val (fun _ _ _ h => h) (fun g w => kr)
  · exact D2.gv_val (fun _ _ _ h => h) (fun g w => kr)
  · exact D2.gv_val (fun _ _ _ h => h) (fun g w => kr)
  · exact D2.gv_val (fun _ _ _ h => h) (fun g w => kr)
  · exact D2.gv_val (fun _ _ _ h => h) (fun g w => kr)
  · exact D2.gv_val (fun _ _ _ h => h) (fun g w => kr)
  · exact D2.gv_val (fun _ _ _ h => h) (fun g w => kr)
  · exact D2.gv_loadp 51 (.tmp 26) 0 (fun g => b3) 4 13 (Value.cells (shv n (Ec.widenW p) 0)) (Value.cells (wv (Ec.mults (Ec.widenW p) 0))) 80 (0, 0) (fun _ _ _ h => h) (fun g => kr) (fun g => kr) (fun L g hN => (by have hL15 : L 15 = false := (hN.post 15 kr); exact D2.ent_get' (p := true) (e := (bif L 15 then (b3, Oc (shv n (Ec.widenW p) 1) 80) else (b3, Oc (shv n (Ec.widenW p) 0) 80))) kr (by rfl) (by simp only [hL15, cond_true, cond_false] <;> rfl))) kr (of_decide_eq_true kr) kr
  · exact D2.gv_load 26 (.tmp 2) 2 (fun g => b1) (Value.cells (pv p)) 26 (0, 0) (fun _ _ _ h => h) (fun g => kr) (fun g => kr) (fun L g hN => kr) kr
  · exact D2.gv_call 35 #[pv p] (fun _ _ _ h => h) (widen_fn p hp) (fun g w => kr)
  · exact D2.gv_call 36 #[wv (Ec.mults (Ec.widenW p) 0), wv (Ec.widenW p)] (fun _ _ _ h => h) (plusM_fn (Ec.widenW p) (Ec.widenW_ok hp) 0) (fun g w => kr)
  · exact D2.gv_val (fun _ _ _ h => h) (fun g w => kr)
  · exact D2.gv_val (fun _ _ _ h => h) (fun g w => kr)
  · exact D2.gv_val (fun _ _ _ h => h) (fun g w => kr)
  · exact D2.gv_store 0 51 (.tmp 33) (.tmp 30) (fun g => b3) (fun g => 17) (Value.cells (shv n (Ec.widenW p) 0)) (Value.cells (shv n (Ec.widenW p) 1)) 80 (wv (Ec.mults (Ec.widenW p) 1)) (fun g => kr) (fun g => kr) (fun g => kr) kr kr (fun g => (of_decide_eq_true kr)) (fun g => kr) (fun L g hN => ⟨(by have hL15 : L 15 = false := hN.1; exact D2.ent_get' (p := true) (e := (bif L 15 then (b3, Oc (shv n (Ec.widenW p) 1) 80) else (b3, Oc (shv n (Ec.widenW p) 0) 80))) kr (by rfl) (by simp only [hL15, cond_true, cond_false] <;> rfl)), kr⟩) (fun L g hN hF => hF)
  intro L0 G5 w5 hall HL; clear H4
  have H5 : St w.heap.size w w5 [(b3, Oc (shv n (Ec.widenW p) 1) 80), (b2, Oc (uv n) 24), (b1, Oc (pv p) 26)] := by have e15 := hall 15 (Nat.le_of_ble_eq_true kr); have hS := D2.StE.st HL.1; simp only [e15, cond_true, D2.pres] at hS; exact hS
  clear HL hall
  show WP _ _ _ _ _ _
  refine g_reg0 [0, 1, 2] kr ?_
  refine s_val (some 17) (.int .i64 1) (fun w => kr) kr ?_
  refine s_val (some 18) (.int .i64 2) (fun w => kr) kr ?_
  refine s_val (some 6) (.int .i64 2) (fun w => kr) kr ?_
  refine s_nil ?_
  show WPL _ _ _ _ _ _
  refine g_next ?_
  refine g_seq kr ?_
  refine g_sreg [0, 1] kr kr ?_
  refine s_val (some 15) (.int .i64 2) (fun w => kr) kr ?_
  refine s_val (some 16) (.bool true) (fun w => kr) kr ?_
  refine s_nil ?_
  refine g_cond_t kr kr ?_
  refine g_skip kr ?_
  show WP _ _ _ _ _ _
  refine g_seq kr ?_
  refine g_block 1 kr ?_
  refine D2.g_draw0 [0, 1, 2, 3, 4, 5, 6, 7, 8, 9, 10, 11, 12, 13, 14, 15] [((some 19), fun _ => .pointer (some ⟨b3, 0, none⟩)), ((some 20), fun _ => .int .i64 2), ((some 21), fun _ => .pointer (some ⟨b3, 0, none⟩)), ((some 22), fun _ => .int .i64 2), ((some 23), fun _ => .int .i64 1), ((some 24), fun _ => .pointer (some ⟨b3, 0, none⟩)), ((some 25), fun _ => .pointer (some ⟨b3, 4, none⟩)), ((some 26), fun _ => .pointer (some ⟨b3, 17, none⟩)), ((some 27), fun _ => wv (Ec.mults (Ec.widenW p) 1)), ((some 28), fun _ => pv p), ((some 29), fun _ => wv (Ec.widenW p)), ((some 30), fun _ => wv (Ec.mults (Ec.widenW p) 2)), ((some 31), fun _ => .pointer (some ⟨b3, 0, none⟩)), ((some 32), fun _ => .pointer (some ⟨b3, 4, none⟩)), ((some 33), fun _ => .pointer (some ⟨b3, 30, none⟩)), (none, fun _ => undef)] (D2.Pre w.heap.size w (fun L g => [(true, (bif L 15 then (b3, Oc (shv n (Ec.widenW p) 2) 80) else (b3, Oc (shv n (Ec.widenW p) 1) 80))), (true, (b2, Oc (uv n) 24)), (true, (b1, Oc (pv p) 26))]) (fun L g => True)) kr kr kr ⟨D2.StE.of H5.drew _ kr, trivial⟩ ⟨?_, ?_, ?_, ?_, ?_, ?_, ?_, ?_, ?_, ?_, ?_, ?_, ?_, ?_, ?_, ?_, trivial⟩ ?_
  · exact D2.gv_val (fun _ _ _ h => h) (fun g w => kr)
  · exact D2.gv_val (fun _ _ _ h => h) (fun g w => kr)
  · exact D2.gv_val (fun _ _ _ h => h) (fun g w => kr)
  · exact D2.gv_val (fun _ _ _ h => h) (fun g w => kr)
  · exact D2.gv_val (fun _ _ _ h => h) (fun g w => kr)
  · exact D2.gv_val (fun _ _ _ h => h) (fun g w => kr)
  · exact D2.gv_val (fun _ _ _ h => h) (fun g w => kr)
  · exact D2.gv_val (fun _ _ _ h => h) (fun g w => kr)
  · exact D2.gv_loadp 51 (.tmp 26) 0 (fun g => b3) 17 13 (Value.cells (shv n (Ec.widenW p) 1)) (Value.cells (wv (Ec.mults (Ec.widenW p) 1))) 80 (0, 0) (fun _ _ _ h => h) (fun g => kr) (fun g => kr) (fun L g hN => (by have hL15 : L 15 = false := (hN.post 15 kr); exact D2.ent_get' (p := true) (e := (bif L 15 then (b3, Oc (shv n (Ec.widenW p) 2) 80) else (b3, Oc (shv n (Ec.widenW p) 1) 80))) kr (by rfl) (by simp only [hL15, cond_true, cond_false] <;> rfl))) kr (of_decide_eq_true kr) kr
  · exact D2.gv_load 26 (.tmp 2) 2 (fun g => b1) (Value.cells (pv p)) 26 (0, 0) (fun _ _ _ h => h) (fun g => kr) (fun g => kr) (fun L g hN => kr) kr
  · exact D2.gv_call 35 #[pv p] (fun _ _ _ h => h) (widen_fn p hp) (fun g w => kr)
  · exact D2.gv_call 36 #[wv (Ec.mults (Ec.widenW p) 1), wv (Ec.widenW p)] (fun _ _ _ h => h) (plusM_fn (Ec.widenW p) (Ec.widenW_ok hp) 1) (fun g w => kr)
  · exact D2.gv_val (fun _ _ _ h => h) (fun g w => kr)
  · exact D2.gv_val (fun _ _ _ h => h) (fun g w => kr)
  · exact D2.gv_val (fun _ _ _ h => h) (fun g w => kr)
  · exact D2.gv_store 0 51 (.tmp 33) (.tmp 30) (fun g => b3) (fun g => 30) (Value.cells (shv n (Ec.widenW p) 1)) (Value.cells (shv n (Ec.widenW p) 2)) 80 (wv (Ec.mults (Ec.widenW p) 2)) (fun g => kr) (fun g => kr) (fun g => kr) kr kr (fun g => (of_decide_eq_true kr)) (fun g => kr) (fun L g hN => ⟨(by have hL15 : L 15 = false := hN.1; exact D2.ent_get' (p := true) (e := (bif L 15 then (b3, Oc (shv n (Ec.widenW p) 2) 80) else (b3, Oc (shv n (Ec.widenW p) 1) 80))) kr (by rfl) (by simp only [hL15, cond_true, cond_false] <;> rfl)), kr⟩) (fun L g hN hF => hF)
  intro L0 G6 w6 hall HL; clear H5
  have H6 : St w.heap.size w w6 [(b3, Oc (shv n (Ec.widenW p) 2) 80), (b2, Oc (uv n) 24), (b1, Oc (pv p) 26)] := by have e15 := hall 15 (Nat.le_of_ble_eq_true kr); have hS := D2.StE.st HL.1; simp only [e15, cond_true, D2.pres] at hS; exact hS
  clear HL hall
  show WP _ _ _ _ _ _
  refine g_reg0 [0, 1, 2] kr ?_
  refine s_val (some 17) (.int .i64 2) (fun w => kr) kr ?_
  refine s_val (some 18) (.int .i64 3) (fun w => kr) kr ?_
  refine s_val (some 6) (.int .i64 3) (fun w => kr) kr ?_
  refine s_nil ?_
  show WPL _ _ _ _ _ _
  refine g_next ?_
  refine g_seq kr ?_
  refine g_sreg [0, 1] kr kr ?_
  refine s_val (some 15) (.int .i64 3) (fun w => kr) kr ?_
  refine s_val (some 16) (.bool true) (fun w => kr) kr ?_
  refine s_nil ?_
  refine g_cond_t kr kr ?_
  refine g_skip kr ?_
  show WP _ _ _ _ _ _
  refine g_seq kr ?_
  refine g_block 1 kr ?_
  refine D2.g_draw0 [0, 1, 2, 3, 4, 5, 6, 7, 8, 9, 10, 11, 12, 13, 14, 15] [((some 19), fun _ => .pointer (some ⟨b3, 0, none⟩)), ((some 20), fun _ => .int .i64 3), ((some 21), fun _ => .pointer (some ⟨b3, 0, none⟩)), ((some 22), fun _ => .int .i64 3), ((some 23), fun _ => .int .i64 2), ((some 24), fun _ => .pointer (some ⟨b3, 0, none⟩)), ((some 25), fun _ => .pointer (some ⟨b3, 4, none⟩)), ((some 26), fun _ => .pointer (some ⟨b3, 30, none⟩)), ((some 27), fun _ => wv (Ec.mults (Ec.widenW p) 2)), ((some 28), fun _ => pv p), ((some 29), fun _ => wv (Ec.widenW p)), ((some 30), fun _ => wv (Ec.mults (Ec.widenW p) 3)), ((some 31), fun _ => .pointer (some ⟨b3, 0, none⟩)), ((some 32), fun _ => .pointer (some ⟨b3, 4, none⟩)), ((some 33), fun _ => .pointer (some ⟨b3, 43, none⟩)), (none, fun _ => undef)] (D2.Pre w.heap.size w (fun L g => [(true, (bif L 15 then (b3, Oc (shv n (Ec.widenW p) 3) 80) else (b3, Oc (shv n (Ec.widenW p) 2) 80))), (true, (b2, Oc (uv n) 24)), (true, (b1, Oc (pv p) 26))]) (fun L g => True)) kr kr kr ⟨D2.StE.of H6.drew _ kr, trivial⟩ ⟨?_, ?_, ?_, ?_, ?_, ?_, ?_, ?_, ?_, ?_, ?_, ?_, ?_, ?_, ?_, ?_, trivial⟩ ?_
  · exact D2.gv_val (fun _ _ _ h => h) (fun g w => kr)
  · exact D2.gv_val (fun _ _ _ h => h) (fun g w => kr)
  · exact D2.gv_val (fun _ _ _ h => h) (fun g w => kr)
  · exact D2.gv_val (fun _ _ _ h => h) (fun g w => kr)
  · exact D2.gv_val (fun _ _ _ h => h) (fun g w => kr)
  · exact D2.gv_val (fun _ _ _ h => h) (fun g w => kr)
  · exact D2.gv_val (fun _ _ _ h => h) (fun g w => kr)
  · exact D2.gv_val (fun _ _ _ h => h) (fun g w => kr)
  · exact D2.gv_loadp 51 (.tmp 26) 0 (fun g => b3) 30 13 (Value.cells (shv n (Ec.widenW p) 2)) (Value.cells (wv (Ec.mults (Ec.widenW p) 2))) 80 (0, 0) (fun _ _ _ h => h) (fun g => kr) (fun g => kr) (fun L g hN => (by have hL15 : L 15 = false := (hN.post 15 kr); exact D2.ent_get' (p := true) (e := (bif L 15 then (b3, Oc (shv n (Ec.widenW p) 3) 80) else (b3, Oc (shv n (Ec.widenW p) 2) 80))) kr (by rfl) (by simp only [hL15, cond_true, cond_false] <;> rfl))) kr (of_decide_eq_true kr) kr
  · exact D2.gv_load 26 (.tmp 2) 2 (fun g => b1) (Value.cells (pv p)) 26 (0, 0) (fun _ _ _ h => h) (fun g => kr) (fun g => kr) (fun L g hN => kr) kr
  · exact D2.gv_call 35 #[pv p] (fun _ _ _ h => h) (widen_fn p hp) (fun g w => kr)
  · exact D2.gv_call 36 #[wv (Ec.mults (Ec.widenW p) 2), wv (Ec.widenW p)] (fun _ _ _ h => h) (plusM_fn (Ec.widenW p) (Ec.widenW_ok hp) 2) (fun g w => kr)
  · exact D2.gv_val (fun _ _ _ h => h) (fun g w => kr)
  · exact D2.gv_val (fun _ _ _ h => h) (fun g w => kr)
  · exact D2.gv_val (fun _ _ _ h => h) (fun g w => kr)
  · exact D2.gv_store 0 51 (.tmp 33) (.tmp 30) (fun g => b3) (fun g => 43) (Value.cells (shv n (Ec.widenW p) 2)) (Value.cells (shv n (Ec.widenW p) 3)) 80 (wv (Ec.mults (Ec.widenW p) 3)) (fun g => kr) (fun g => kr) (fun g => kr) kr kr (fun g => (of_decide_eq_true kr)) (fun g => kr) (fun L g hN => ⟨(by have hL15 : L 15 = false := hN.1; exact D2.ent_get' (p := true) (e := (bif L 15 then (b3, Oc (shv n (Ec.widenW p) 3) 80) else (b3, Oc (shv n (Ec.widenW p) 2) 80))) kr (by rfl) (by simp only [hL15, cond_true, cond_false] <;> rfl)), kr⟩) (fun L g hN hF => hF)
  intro L0 G7 w7 hall HL; clear H6
  have H7 : St w.heap.size w w7 [(b3, Oc (shv n (Ec.widenW p) 3) 80), (b2, Oc (uv n) 24), (b1, Oc (pv p) 26)] := by have e15 := hall 15 (Nat.le_of_ble_eq_true kr); have hS := D2.StE.st HL.1; simp only [e15, cond_true, D2.pres] at hS; exact hS
  clear HL hall
  show WP _ _ _ _ _ _
  refine g_reg0 [0, 1, 2] kr ?_
  refine s_val (some 17) (.int .i64 3) (fun w => kr) kr ?_
  refine s_val (some 18) (.int .i64 4) (fun w => kr) kr ?_
  refine s_val (some 6) (.int .i64 4) (fun w => kr) kr ?_
  refine s_nil ?_
  show WPL _ _ _ _ _ _
  refine g_next ?_
  refine g_seq kr ?_
  refine g_sreg [0, 1] kr kr ?_
  refine s_val (some 15) (.int .i64 4) (fun w => kr) kr ?_
  refine s_val (some 16) (.bool true) (fun w => kr) kr ?_
  refine s_nil ?_
  refine g_cond_t kr kr ?_
  refine g_skip kr ?_
  show WP _ _ _ _ _ _
  refine g_seq kr ?_
  refine g_block 1 kr ?_
  refine D2.g_draw0 [0, 1, 2, 3, 4, 5, 6, 7, 8, 9, 10, 11, 12, 13, 14, 15] [((some 19), fun _ => .pointer (some ⟨b3, 0, none⟩)), ((some 20), fun _ => .int .i64 4), ((some 21), fun _ => .pointer (some ⟨b3, 0, none⟩)), ((some 22), fun _ => .int .i64 4), ((some 23), fun _ => .int .i64 3), ((some 24), fun _ => .pointer (some ⟨b3, 0, none⟩)), ((some 25), fun _ => .pointer (some ⟨b3, 4, none⟩)), ((some 26), fun _ => .pointer (some ⟨b3, 43, none⟩)), ((some 27), fun _ => wv (Ec.mults (Ec.widenW p) 3)), ((some 28), fun _ => pv p), ((some 29), fun _ => wv (Ec.widenW p)), ((some 30), fun _ => wv (Ec.mults (Ec.widenW p) 4)), ((some 31), fun _ => .pointer (some ⟨b3, 0, none⟩)), ((some 32), fun _ => .pointer (some ⟨b3, 4, none⟩)), ((some 33), fun _ => .pointer (some ⟨b3, 56, none⟩)), (none, fun _ => undef)] (D2.Pre w.heap.size w (fun L g => [(true, (bif L 15 then (b3, Oc (shv n (Ec.widenW p) 4) 80) else (b3, Oc (shv n (Ec.widenW p) 3) 80))), (true, (b2, Oc (uv n) 24)), (true, (b1, Oc (pv p) 26))]) (fun L g => True)) kr kr kr ⟨D2.StE.of H7.drew _ kr, trivial⟩ ⟨?_, ?_, ?_, ?_, ?_, ?_, ?_, ?_, ?_, ?_, ?_, ?_, ?_, ?_, ?_, ?_, trivial⟩ ?_
  · exact D2.gv_val (fun _ _ _ h => h) (fun g w => kr)
  · exact D2.gv_val (fun _ _ _ h => h) (fun g w => kr)
  · exact D2.gv_val (fun _ _ _ h => h) (fun g w => kr)
  · exact D2.gv_val (fun _ _ _ h => h) (fun g w => kr)
  · exact D2.gv_val (fun _ _ _ h => h) (fun g w => kr)
  · exact D2.gv_val (fun _ _ _ h => h) (fun g w => kr)
  · exact D2.gv_val (fun _ _ _ h => h) (fun g w => kr)
  · exact D2.gv_val (fun _ _ _ h => h) (fun g w => kr)
  · exact D2.gv_loadp 51 (.tmp 26) 0 (fun g => b3) 43 13 (Value.cells (shv n (Ec.widenW p) 3)) (Value.cells (wv (Ec.mults (Ec.widenW p) 3))) 80 (0, 0) (fun _ _ _ h => h) (fun g => kr) (fun g => kr) (fun L g hN => (by have hL15 : L 15 = false := (hN.post 15 kr); exact D2.ent_get' (p := true) (e := (bif L 15 then (b3, Oc (shv n (Ec.widenW p) 4) 80) else (b3, Oc (shv n (Ec.widenW p) 3) 80))) kr (by rfl) (by simp only [hL15, cond_true, cond_false] <;> rfl))) kr (of_decide_eq_true kr) kr
  · exact D2.gv_load 26 (.tmp 2) 2 (fun g => b1) (Value.cells (pv p)) 26 (0, 0) (fun _ _ _ h => h) (fun g => kr) (fun g => kr) (fun L g hN => kr) kr
  · exact D2.gv_call 35 #[pv p] (fun _ _ _ h => h) (widen_fn p hp) (fun g w => kr)
  · exact D2.gv_call 36 #[wv (Ec.mults (Ec.widenW p) 3), wv (Ec.widenW p)] (fun _ _ _ h => h) (plusM_fn (Ec.widenW p) (Ec.widenW_ok hp) 3) (fun g w => kr)
  · exact D2.gv_val (fun _ _ _ h => h) (fun g w => kr)
  · exact D2.gv_val (fun _ _ _ h => h) (fun g w => kr)
  · exact D2.gv_val (fun _ _ _ h => h) (fun g w => kr)
  · exact D2.gv_store 0 51 (.tmp 33) (.tmp 30) (fun g => b3) (fun g => 56) (Value.cells (shv n (Ec.widenW p) 3)) (Value.cells (shv n (Ec.widenW p) 4)) 80 (wv (Ec.mults (Ec.widenW p) 4)) (fun g => kr) (fun g => kr) (fun g => kr) kr kr (fun g => (of_decide_eq_true kr)) (fun g => kr) (fun L g hN => ⟨(by have hL15 : L 15 = false := hN.1; exact D2.ent_get' (p := true) (e := (bif L 15 then (b3, Oc (shv n (Ec.widenW p) 4) 80) else (b3, Oc (shv n (Ec.widenW p) 3) 80))) kr (by rfl) (by simp only [hL15, cond_true, cond_false] <;> rfl)), kr⟩) (fun L g hN hF => hF)
  intro L0 G8 w8 hall HL; clear H7
  have H8 : St w.heap.size w w8 [(b3, Oc (shv n (Ec.widenW p) 4) 80), (b2, Oc (uv n) 24), (b1, Oc (pv p) 26)] := by have e15 := hall 15 (Nat.le_of_ble_eq_true kr); have hS := D2.StE.st HL.1; simp only [e15, cond_true, D2.pres] at hS; exact hS
  clear HL hall
  show WP _ _ _ _ _ _
  refine g_reg0 [0, 1, 2] kr ?_
  refine s_val (some 17) (.int .i64 4) (fun w => kr) kr ?_
  refine s_val (some 18) (.int .i64 5) (fun w => kr) kr ?_
  refine s_val (some 6) (.int .i64 5) (fun w => kr) kr ?_
  refine s_nil ?_
  show WPL _ _ _ _ _ _
  refine g_next ?_
  refine g_seq kr ?_
  refine g_sreg [0, 1] kr kr ?_
  refine s_val (some 15) (.int .i64 5) (fun w => kr) kr ?_
  refine s_val (some 16) (.bool true) (fun w => kr) kr ?_
  refine s_nil ?_
  refine g_cond_t kr kr ?_
  refine g_skip kr ?_
  show WP _ _ _ _ _ _
  refine g_seq kr ?_
  refine g_block 1 kr ?_
  refine D2.g_draw0 [0, 1, 2, 3, 4, 5, 6, 7, 8, 9, 10, 11, 12, 13, 14, 15] [((some 19), fun _ => .pointer (some ⟨b3, 0, none⟩)), ((some 20), fun _ => .int .i64 5), ((some 21), fun _ => .pointer (some ⟨b3, 0, none⟩)), ((some 22), fun _ => .int .i64 5), ((some 23), fun _ => .int .i64 4), ((some 24), fun _ => .pointer (some ⟨b3, 0, none⟩)), ((some 25), fun _ => .pointer (some ⟨b3, 4, none⟩)), ((some 26), fun _ => .pointer (some ⟨b3, 56, none⟩)), ((some 27), fun _ => wv (Ec.mults (Ec.widenW p) 4)), ((some 28), fun _ => pv p), ((some 29), fun _ => wv (Ec.widenW p)), ((some 30), fun _ => wv (Ec.mults (Ec.widenW p) 5)), ((some 31), fun _ => .pointer (some ⟨b3, 0, none⟩)), ((some 32), fun _ => .pointer (some ⟨b3, 4, none⟩)), ((some 33), fun _ => .pointer (some ⟨b3, 69, none⟩)), (none, fun _ => undef)] (D2.Pre w.heap.size w (fun L g => [(true, (bif L 15 then (b3, Oc (shv n (Ec.widenW p) 5) 80) else (b3, Oc (shv n (Ec.widenW p) 4) 80))), (true, (b2, Oc (uv n) 24)), (true, (b1, Oc (pv p) 26))]) (fun L g => True)) kr kr kr ⟨D2.StE.of H8.drew _ kr, trivial⟩ ⟨?_, ?_, ?_, ?_, ?_, ?_, ?_, ?_, ?_, ?_, ?_, ?_, ?_, ?_, ?_, ?_, trivial⟩ ?_
  · exact D2.gv_val (fun _ _ _ h => h) (fun g w => kr)
  · exact D2.gv_val (fun _ _ _ h => h) (fun g w => kr)
  · exact D2.gv_val (fun _ _ _ h => h) (fun g w => kr)
  · exact D2.gv_val (fun _ _ _ h => h) (fun g w => kr)
  · exact D2.gv_val (fun _ _ _ h => h) (fun g w => kr)
  · exact D2.gv_val (fun _ _ _ h => h) (fun g w => kr)
  · exact D2.gv_val (fun _ _ _ h => h) (fun g w => kr)
  · exact D2.gv_val (fun _ _ _ h => h) (fun g w => kr)
  · exact D2.gv_loadp 51 (.tmp 26) 0 (fun g => b3) 56 13 (Value.cells (shv n (Ec.widenW p) 4)) (Value.cells (wv (Ec.mults (Ec.widenW p) 4))) 80 (0, 0) (fun _ _ _ h => h) (fun g => kr) (fun g => kr) (fun L g hN => (by have hL15 : L 15 = false := (hN.post 15 kr); exact D2.ent_get' (p := true) (e := (bif L 15 then (b3, Oc (shv n (Ec.widenW p) 5) 80) else (b3, Oc (shv n (Ec.widenW p) 4) 80))) kr (by rfl) (by simp only [hL15, cond_true, cond_false] <;> rfl))) kr (of_decide_eq_true kr) kr
  · exact D2.gv_load 26 (.tmp 2) 2 (fun g => b1) (Value.cells (pv p)) 26 (0, 0) (fun _ _ _ h => h) (fun g => kr) (fun g => kr) (fun L g hN => kr) kr
  · exact D2.gv_call 35 #[pv p] (fun _ _ _ h => h) (widen_fn p hp) (fun g w => kr)
  · exact D2.gv_call 36 #[wv (Ec.mults (Ec.widenW p) 4), wv (Ec.widenW p)] (fun _ _ _ h => h) (plusM_fn (Ec.widenW p) (Ec.widenW_ok hp) 4) (fun g w => kr)
  · exact D2.gv_val (fun _ _ _ h => h) (fun g w => kr)
  · exact D2.gv_val (fun _ _ _ h => h) (fun g w => kr)
  · exact D2.gv_val (fun _ _ _ h => h) (fun g w => kr)
  · exact D2.gv_store 0 51 (.tmp 33) (.tmp 30) (fun g => b3) (fun g => 69) (Value.cells (shv n (Ec.widenW p) 4)) (Value.cells (shv n (Ec.widenW p) 5)) 80 (wv (Ec.mults (Ec.widenW p) 5)) (fun g => kr) (fun g => kr) (fun g => kr) kr kr (fun g => (of_decide_eq_true kr)) (fun g => kr) (fun L g hN => ⟨(by have hL15 : L 15 = false := hN.1; exact D2.ent_get' (p := true) (e := (bif L 15 then (b3, Oc (shv n (Ec.widenW p) 5) 80) else (b3, Oc (shv n (Ec.widenW p) 4) 80))) kr (by rfl) (by simp only [hL15, cond_true, cond_false] <;> rfl)), kr⟩) (fun L g hN hF => hF)
  intro L0 G9 w9 hall HL; clear H8
  have H9 : St w.heap.size w w9 [(b3, Oc (shv n (Ec.widenW p) 5) 80), (b2, Oc (uv n) 24), (b1, Oc (pv p) 26)] := by have e15 := hall 15 (Nat.le_of_ble_eq_true kr); have hS := D2.StE.st HL.1; simp only [e15, cond_true, D2.pres] at hS; exact hS
  clear HL hall
  show WP _ _ _ _ _ _
  refine g_reg0 [0, 1, 2] kr ?_
  refine s_val (some 17) (.int .i64 5) (fun w => kr) kr ?_
  refine s_val (some 18) (.int .i64 6) (fun w => kr) kr ?_
  refine s_val (some 6) (.int .i64 6) (fun w => kr) kr ?_
  refine s_nil ?_
  show WPL _ _ _ _ _ _
  refine g_next ?_
  refine g_seq kr ?_
  refine g_sreg [0, 1] kr kr ?_
  refine s_val (some 15) (.int .i64 6) (fun w => kr) kr ?_
  refine s_val (some 16) (.bool true) (fun w => kr) kr ?_
  refine s_nil ?_
  refine g_cond_t kr kr ?_
  refine g_skip kr ?_
  show WP _ _ _ _ _ _
  refine g_seq kr ?_
  refine g_block 1 kr ?_
  refine D2.g_draw0 [0, 1, 2, 3, 4, 5, 6, 7, 8, 9, 10, 11, 12, 13, 14, 15] [((some 19), fun _ => .pointer (some ⟨b3, 0, none⟩)), ((some 20), fun _ => .int .i64 6), ((some 21), fun _ => .pointer (some ⟨b3, 0, none⟩)), ((some 22), fun _ => .int .i64 6), ((some 23), fun _ => .int .i64 5), ((some 24), fun _ => .pointer (some ⟨b3, 0, none⟩)), ((some 25), fun _ => .pointer (some ⟨b3, 4, none⟩)), ((some 26), fun _ => .pointer (some ⟨b3, 69, none⟩)), ((some 27), fun _ => wv (Ec.mults (Ec.widenW p) 5)), ((some 28), fun _ => pv p), ((some 29), fun _ => wv (Ec.widenW p)), ((some 30), fun _ => wv (Ec.mults (Ec.widenW p) 6)), ((some 31), fun _ => .pointer (some ⟨b3, 0, none⟩)), ((some 32), fun _ => .pointer (some ⟨b3, 4, none⟩)), ((some 33), fun _ => .pointer (some ⟨b3, 82, none⟩)), (none, fun _ => undef)] (D2.Pre w.heap.size w (fun L g => [(true, (bif L 15 then (b3, Oc (shv n (Ec.widenW p) 6) 80) else (b3, Oc (shv n (Ec.widenW p) 5) 80))), (true, (b2, Oc (uv n) 24)), (true, (b1, Oc (pv p) 26))]) (fun L g => True)) kr kr kr ⟨D2.StE.of H9.drew _ kr, trivial⟩ ⟨?_, ?_, ?_, ?_, ?_, ?_, ?_, ?_, ?_, ?_, ?_, ?_, ?_, ?_, ?_, ?_, trivial⟩ ?_
  · exact D2.gv_val (fun _ _ _ h => h) (fun g w => kr)
  · exact D2.gv_val (fun _ _ _ h => h) (fun g w => kr)
  · exact D2.gv_val (fun _ _ _ h => h) (fun g w => kr)
  · exact D2.gv_val (fun _ _ _ h => h) (fun g w => kr)
  · exact D2.gv_val (fun _ _ _ h => h) (fun g w => kr)
  · exact D2.gv_val (fun _ _ _ h => h) (fun g w => kr)
  · exact D2.gv_val (fun _ _ _ h => h) (fun g w => kr)
  · exact D2.gv_val (fun _ _ _ h => h) (fun g w => kr)
  · exact D2.gv_loadp 51 (.tmp 26) 0 (fun g => b3) 69 13 (Value.cells (shv n (Ec.widenW p) 5)) (Value.cells (wv (Ec.mults (Ec.widenW p) 5))) 80 (0, 0) (fun _ _ _ h => h) (fun g => kr) (fun g => kr) (fun L g hN => (by have hL15 : L 15 = false := (hN.post 15 kr); exact D2.ent_get' (p := true) (e := (bif L 15 then (b3, Oc (shv n (Ec.widenW p) 6) 80) else (b3, Oc (shv n (Ec.widenW p) 5) 80))) kr (by rfl) (by simp only [hL15, cond_true, cond_false] <;> rfl))) kr (of_decide_eq_true kr) kr
  · exact D2.gv_load 26 (.tmp 2) 2 (fun g => b1) (Value.cells (pv p)) 26 (0, 0) (fun _ _ _ h => h) (fun g => kr) (fun g => kr) (fun L g hN => kr) kr
  · exact D2.gv_call 35 #[pv p] (fun _ _ _ h => h) (widen_fn p hp) (fun g w => kr)
  · exact D2.gv_call 36 #[wv (Ec.mults (Ec.widenW p) 5), wv (Ec.widenW p)] (fun _ _ _ h => h) (plusM_fn (Ec.widenW p) (Ec.widenW_ok hp) 5) (fun g w => kr)
  · exact D2.gv_val (fun _ _ _ h => h) (fun g w => kr)
  · exact D2.gv_val (fun _ _ _ h => h) (fun g w => kr)
  · exact D2.gv_val (fun _ _ _ h => h) (fun g w => kr)
  · exact D2.gv_store 0 51 (.tmp 33) (.tmp 30) (fun g => b3) (fun g => 82) (Value.cells (shv n (Ec.widenW p) 5)) (Value.cells (shv n (Ec.widenW p) 6)) 80 (wv (Ec.mults (Ec.widenW p) 6)) (fun g => kr) (fun g => kr) (fun g => kr) kr kr (fun g => (of_decide_eq_true kr)) (fun g => kr) (fun L g hN => ⟨(by have hL15 : L 15 = false := hN.1; exact D2.ent_get' (p := true) (e := (bif L 15 then (b3, Oc (shv n (Ec.widenW p) 6) 80) else (b3, Oc (shv n (Ec.widenW p) 5) 80))) kr (by rfl) (by simp only [hL15, cond_true, cond_false] <;> rfl)), kr⟩) (fun L g hN hF => hF)
  intro L0 G10 w10 hall HL; clear H9
  have H10 : St w.heap.size w w10 [(b3, Oc (shv n (Ec.widenW p) 6) 80), (b2, Oc (uv n) 24), (b1, Oc (pv p) 26)] := by have e15 := hall 15 (Nat.le_of_ble_eq_true kr); have hS := D2.StE.st HL.1; simp only [e15, cond_true, D2.pres] at hS; exact hS
  clear HL hall
  show WP _ _ _ _ _ _
  refine g_reg0 [0, 1, 2] kr ?_
  refine s_val (some 17) (.int .i64 6) (fun w => kr) kr ?_
  refine s_val (some 18) (.int .i64 7) (fun w => kr) kr ?_
  refine s_val (some 6) (.int .i64 7) (fun w => kr) kr ?_
  refine s_nil ?_
  show WPL _ _ _ _ _ _
  refine g_next ?_
  refine g_seq kr ?_
  refine g_sreg [0, 1] kr kr ?_
  refine s_val (some 15) (.int .i64 7) (fun w => kr) kr ?_
  refine s_val (some 16) (.bool true) (fun w => kr) kr ?_
  refine s_nil ?_
  refine g_cond_t kr kr ?_
  refine g_skip kr ?_
  show WP _ _ _ _ _ _
  refine g_seq kr ?_
  refine g_block 1 kr ?_
  refine D2.g_draw0 [0, 1, 2, 3, 4, 5, 6, 7, 8, 9, 10, 11, 12, 13, 14, 15] [((some 19), fun _ => .pointer (some ⟨b3, 0, none⟩)), ((some 20), fun _ => .int .i64 7), ((some 21), fun _ => .pointer (some ⟨b3, 0, none⟩)), ((some 22), fun _ => .int .i64 7), ((some 23), fun _ => .int .i64 6), ((some 24), fun _ => .pointer (some ⟨b3, 0, none⟩)), ((some 25), fun _ => .pointer (some ⟨b3, 4, none⟩)), ((some 26), fun _ => .pointer (some ⟨b3, 82, none⟩)), ((some 27), fun _ => wv (Ec.mults (Ec.widenW p) 6)), ((some 28), fun _ => pv p), ((some 29), fun _ => wv (Ec.widenW p)), ((some 30), fun _ => wv (Ec.mults (Ec.widenW p) 7)), ((some 31), fun _ => .pointer (some ⟨b3, 0, none⟩)), ((some 32), fun _ => .pointer (some ⟨b3, 4, none⟩)), ((some 33), fun _ => .pointer (some ⟨b3, 95, none⟩)), (none, fun _ => undef)] (D2.Pre w.heap.size w (fun L g => [(true, (bif L 15 then (b3, Oc (shv n (Ec.widenW p) 7) 80) else (b3, Oc (shv n (Ec.widenW p) 6) 80))), (true, (b2, Oc (uv n) 24)), (true, (b1, Oc (pv p) 26))]) (fun L g => True)) kr kr kr ⟨D2.StE.of H10.drew _ kr, trivial⟩ ⟨?_, ?_, ?_, ?_, ?_, ?_, ?_, ?_, ?_, ?_, ?_, ?_, ?_, ?_, ?_, ?_, trivial⟩ ?_
  · exact D2.gv_val (fun _ _ _ h => h) (fun g w => kr)
  · exact D2.gv_val (fun _ _ _ h => h) (fun g w => kr)
  · exact D2.gv_val (fun _ _ _ h => h) (fun g w => kr)
  · exact D2.gv_val (fun _ _ _ h => h) (fun g w => kr)
  · exact D2.gv_val (fun _ _ _ h => h) (fun g w => kr)
  · exact D2.gv_val (fun _ _ _ h => h) (fun g w => kr)
  · exact D2.gv_val (fun _ _ _ h => h) (fun g w => kr)
  · exact D2.gv_val (fun _ _ _ h => h) (fun g w => kr)
  · exact D2.gv_loadp 51 (.tmp 26) 0 (fun g => b3) 82 13 (Value.cells (shv n (Ec.widenW p) 6)) (Value.cells (wv (Ec.mults (Ec.widenW p) 6))) 80 (0, 0) (fun _ _ _ h => h) (fun g => kr) (fun g => kr) (fun L g hN => (by have hL15 : L 15 = false := (hN.post 15 kr); exact D2.ent_get' (p := true) (e := (bif L 15 then (b3, Oc (shv n (Ec.widenW p) 7) 80) else (b3, Oc (shv n (Ec.widenW p) 6) 80))) kr (by rfl) (by simp only [hL15, cond_true, cond_false] <;> rfl))) kr (of_decide_eq_true kr) kr
  · exact D2.gv_load 26 (.tmp 2) 2 (fun g => b1) (Value.cells (pv p)) 26 (0, 0) (fun _ _ _ h => h) (fun g => kr) (fun g => kr) (fun L g hN => kr) kr
  · exact D2.gv_call 35 #[pv p] (fun _ _ _ h => h) (widen_fn p hp) (fun g w => kr)
  · exact D2.gv_call 36 #[wv (Ec.mults (Ec.widenW p) 6), wv (Ec.widenW p)] (fun _ _ _ h => h) (plusM_fn (Ec.widenW p) (Ec.widenW_ok hp) 6) (fun g w => kr)
  · exact D2.gv_val (fun _ _ _ h => h) (fun g w => kr)
  · exact D2.gv_val (fun _ _ _ h => h) (fun g w => kr)
  · exact D2.gv_val (fun _ _ _ h => h) (fun g w => kr)
  · exact D2.gv_store 0 51 (.tmp 33) (.tmp 30) (fun g => b3) (fun g => 95) (Value.cells (shv n (Ec.widenW p) 6)) (Value.cells (shv n (Ec.widenW p) 7)) 80 (wv (Ec.mults (Ec.widenW p) 7)) (fun g => kr) (fun g => kr) (fun g => kr) kr kr (fun g => (of_decide_eq_true kr)) (fun g => kr) (fun L g hN => ⟨(by have hL15 : L 15 = false := hN.1; exact D2.ent_get' (p := true) (e := (bif L 15 then (b3, Oc (shv n (Ec.widenW p) 7) 80) else (b3, Oc (shv n (Ec.widenW p) 6) 80))) kr (by rfl) (by simp only [hL15, cond_true, cond_false] <;> rfl)), kr⟩) (fun L g hN hF => hF)
  intro L0 G11 w11 hall HL; clear H10
  have H11 : St w.heap.size w w11 [(b3, Oc (shv n (Ec.widenW p) 7) 80), (b2, Oc (uv n) 24), (b1, Oc (pv p) 26)] := by have e15 := hall 15 (Nat.le_of_ble_eq_true kr); have hS := D2.StE.st HL.1; simp only [e15, cond_true, D2.pres] at hS; exact hS
  clear HL hall
  show WP _ _ _ _ _ _
  refine g_reg0 [0, 1, 2] kr ?_
  refine s_val (some 17) (.int .i64 7) (fun w => kr) kr ?_
  refine s_val (some 18) (.int .i64 8) (fun w => kr) kr ?_
  refine s_val (some 6) (.int .i64 8) (fun w => kr) kr ?_
  refine s_nil ?_
  show WPL _ _ _ _ _ _
  refine g_next ?_
  refine g_seq kr ?_
  refine g_sreg [0, 1] kr kr ?_
  refine s_val (some 15) (.int .i64 8) (fun w => kr) kr ?_
  refine s_val (some 16) (.bool true) (fun w => kr) kr ?_
  refine s_nil ?_
  refine g_cond_t kr kr ?_
  refine g_skip kr ?_
  show WP _ _ _ _ _ _
  refine g_seq kr ?_
  refine g_block 1 kr ?_
  refine D2.g_draw0 [0, 1, 2, 3, 4, 5, 6, 7, 8, 9, 10, 11, 12, 13, 14, 15] [((some 19), fun _ => .pointer (some ⟨b3, 0, none⟩)), ((some 20), fun _ => .int .i64 8), ((some 21), fun _ => .pointer (some ⟨b3, 0, none⟩)), ((some 22), fun _ => .int .i64 8), ((some 23), fun _ => .int .i64 7), ((some 24), fun _ => .pointer (some ⟨b3, 0, none⟩)), ((some 25), fun _ => .pointer (some ⟨b3, 4, none⟩)), ((some 26), fun _ => .pointer (some ⟨b3, 95, none⟩)), ((some 27), fun _ => wv (Ec.mults (Ec.widenW p) 7)), ((some 28), fun _ => pv p), ((some 29), fun _ => wv (Ec.widenW p)), ((some 30), fun _ => wv (Ec.mults (Ec.widenW p) 8)), ((some 31), fun _ => .pointer (some ⟨b3, 0, none⟩)), ((some 32), fun _ => .pointer (some ⟨b3, 4, none⟩)), ((some 33), fun _ => .pointer (some ⟨b3, 108, none⟩)), (none, fun _ => undef)] (D2.Pre w.heap.size w (fun L g => [(true, (bif L 15 then (b3, Oc (shv n (Ec.widenW p) 8) 80) else (b3, Oc (shv n (Ec.widenW p) 7) 80))), (true, (b2, Oc (uv n) 24)), (true, (b1, Oc (pv p) 26))]) (fun L g => True)) kr kr kr ⟨D2.StE.of H11.drew _ kr, trivial⟩ ⟨?_, ?_, ?_, ?_, ?_, ?_, ?_, ?_, ?_, ?_, ?_, ?_, ?_, ?_, ?_, ?_, trivial⟩ ?_
  · exact D2.gv_val (fun _ _ _ h => h) (fun g w => kr)
  · exact D2.gv_val (fun _ _ _ h => h) (fun g w => kr)
  · exact D2.gv_val (fun _ _ _ h => h) (fun g w => kr)
  · exact D2.gv_val (fun _ _ _ h => h) (fun g w => kr)
  · exact D2.gv_val (fun _ _ _ h => h) (fun g w => kr)
  · exact D2.gv_val (fun _ _ _ h => h) (fun g w => kr)
  · exact D2.gv_val (fun _ _ _ h => h) (fun g w => kr)
  · exact D2.gv_val (fun _ _ _ h => h) (fun g w => kr)
  · exact D2.gv_loadp 51 (.tmp 26) 0 (fun g => b3) 95 13 (Value.cells (shv n (Ec.widenW p) 7)) (Value.cells (wv (Ec.mults (Ec.widenW p) 7))) 80 (0, 0) (fun _ _ _ h => h) (fun g => kr) (fun g => kr) (fun L g hN => (by have hL15 : L 15 = false := (hN.post 15 kr); exact D2.ent_get' (p := true) (e := (bif L 15 then (b3, Oc (shv n (Ec.widenW p) 8) 80) else (b3, Oc (shv n (Ec.widenW p) 7) 80))) kr (by rfl) (by simp only [hL15, cond_true, cond_false] <;> rfl))) kr (of_decide_eq_true kr) kr
  · exact D2.gv_load 26 (.tmp 2) 2 (fun g => b1) (Value.cells (pv p)) 26 (0, 0) (fun _ _ _ h => h) (fun g => kr) (fun g => kr) (fun L g hN => kr) kr
  · exact D2.gv_call 35 #[pv p] (fun _ _ _ h => h) (widen_fn p hp) (fun g w => kr)
  · exact D2.gv_call 36 #[wv (Ec.mults (Ec.widenW p) 7), wv (Ec.widenW p)] (fun _ _ _ h => h) (plusM_fn (Ec.widenW p) (Ec.widenW_ok hp) 7) (fun g w => kr)
  · exact D2.gv_val (fun _ _ _ h => h) (fun g w => kr)
  · exact D2.gv_val (fun _ _ _ h => h) (fun g w => kr)
  · exact D2.gv_val (fun _ _ _ h => h) (fun g w => kr)
  · exact D2.gv_store 0 51 (.tmp 33) (.tmp 30) (fun g => b3) (fun g => 108) (Value.cells (shv n (Ec.widenW p) 7)) (Value.cells (shv n (Ec.widenW p) 8)) 80 (wv (Ec.mults (Ec.widenW p) 8)) (fun g => kr) (fun g => kr) (fun g => kr) kr kr (fun g => (of_decide_eq_true kr)) (fun g => kr) (fun L g hN => ⟨(by have hL15 : L 15 = false := hN.1; exact D2.ent_get' (p := true) (e := (bif L 15 then (b3, Oc (shv n (Ec.widenW p) 8) 80) else (b3, Oc (shv n (Ec.widenW p) 7) 80))) kr (by rfl) (by simp only [hL15, cond_true, cond_false] <;> rfl)), kr⟩) (fun L g hN hF => hF)
  intro L0 G12 w12 hall HL; clear H11
  have H12 : St w.heap.size w w12 [(b3, Oc (shv n (Ec.widenW p) 8) 80), (b2, Oc (uv n) 24), (b1, Oc (pv p) 26)] := by have e15 := hall 15 (Nat.le_of_ble_eq_true kr); have hS := D2.StE.st HL.1; simp only [e15, cond_true, D2.pres] at hS; exact hS
  clear HL hall
  show WP _ _ _ _ _ _
  refine g_reg0 [0, 1, 2] kr ?_
  refine s_val (some 17) (.int .i64 8) (fun w => kr) kr ?_
  refine s_val (some 18) (.int .i64 9) (fun w => kr) kr ?_
  refine s_val (some 6) (.int .i64 9) (fun w => kr) kr ?_
  refine s_nil ?_
  show WPL _ _ _ _ _ _
  refine g_next ?_
  refine g_seq kr ?_
  refine g_sreg [0, 1] kr kr ?_
  refine s_val (some 15) (.int .i64 9) (fun w => kr) kr ?_
  refine s_val (some 16) (.bool true) (fun w => kr) kr ?_
  refine s_nil ?_
  refine g_cond_t kr kr ?_
  refine g_skip kr ?_
  show WP _ _ _ _ _ _
  refine g_seq kr ?_
  refine g_block 1 kr ?_
  refine D2.g_draw0 [0, 1, 2, 3, 4, 5, 6, 7, 8, 9, 10, 11, 12, 13, 14, 15] [((some 19), fun _ => .pointer (some ⟨b3, 0, none⟩)), ((some 20), fun _ => .int .i64 9), ((some 21), fun _ => .pointer (some ⟨b3, 0, none⟩)), ((some 22), fun _ => .int .i64 9), ((some 23), fun _ => .int .i64 8), ((some 24), fun _ => .pointer (some ⟨b3, 0, none⟩)), ((some 25), fun _ => .pointer (some ⟨b3, 4, none⟩)), ((some 26), fun _ => .pointer (some ⟨b3, 108, none⟩)), ((some 27), fun _ => wv (Ec.mults (Ec.widenW p) 8)), ((some 28), fun _ => pv p), ((some 29), fun _ => wv (Ec.widenW p)), ((some 30), fun _ => wv (Ec.mults (Ec.widenW p) 9)), ((some 31), fun _ => .pointer (some ⟨b3, 0, none⟩)), ((some 32), fun _ => .pointer (some ⟨b3, 4, none⟩)), ((some 33), fun _ => .pointer (some ⟨b3, 121, none⟩)), (none, fun _ => undef)] (D2.Pre w.heap.size w (fun L g => [(true, (bif L 15 then (b3, Oc (shv n (Ec.widenW p) 9) 80) else (b3, Oc (shv n (Ec.widenW p) 8) 80))), (true, (b2, Oc (uv n) 24)), (true, (b1, Oc (pv p) 26))]) (fun L g => True)) kr kr kr ⟨D2.StE.of H12.drew _ kr, trivial⟩ ⟨?_, ?_, ?_, ?_, ?_, ?_, ?_, ?_, ?_, ?_, ?_, ?_, ?_, ?_, ?_, ?_, trivial⟩ ?_
  · exact D2.gv_val (fun _ _ _ h => h) (fun g w => kr)
  · exact D2.gv_val (fun _ _ _ h => h) (fun g w => kr)
  · exact D2.gv_val (fun _ _ _ h => h) (fun g w => kr)
  · exact D2.gv_val (fun _ _ _ h => h) (fun g w => kr)
  · exact D2.gv_val (fun _ _ _ h => h) (fun g w => kr)
  · exact D2.gv_val (fun _ _ _ h => h) (fun g w => kr)
  · exact D2.gv_val (fun _ _ _ h => h) (fun g w => kr)
  · exact D2.gv_val (fun _ _ _ h => h) (fun g w => kr)
  · exact D2.gv_loadp 51 (.tmp 26) 0 (fun g => b3) 108 13 (Value.cells (shv n (Ec.widenW p) 8)) (Value.cells (wv (Ec.mults (Ec.widenW p) 8))) 80 (0, 0) (fun _ _ _ h => h) (fun g => kr) (fun g => kr) (fun L g hN => (by have hL15 : L 15 = false := (hN.post 15 kr); exact D2.ent_get' (p := true) (e := (bif L 15 then (b3, Oc (shv n (Ec.widenW p) 9) 80) else (b3, Oc (shv n (Ec.widenW p) 8) 80))) kr (by rfl) (by simp only [hL15, cond_true, cond_false] <;> rfl))) kr (of_decide_eq_true kr) kr
  · exact D2.gv_load 26 (.tmp 2) 2 (fun g => b1) (Value.cells (pv p)) 26 (0, 0) (fun _ _ _ h => h) (fun g => kr) (fun g => kr) (fun L g hN => kr) kr
  · exact D2.gv_call 35 #[pv p] (fun _ _ _ h => h) (widen_fn p hp) (fun g w => kr)
  · exact D2.gv_call 36 #[wv (Ec.mults (Ec.widenW p) 8), wv (Ec.widenW p)] (fun _ _ _ h => h) (plusM_fn (Ec.widenW p) (Ec.widenW_ok hp) 8) (fun g w => kr)
  · exact D2.gv_val (fun _ _ _ h => h) (fun g w => kr)
  · exact D2.gv_val (fun _ _ _ h => h) (fun g w => kr)
  · exact D2.gv_val (fun _ _ _ h => h) (fun g w => kr)
  · exact D2.gv_store 0 51 (.tmp 33) (.tmp 30) (fun g => b3) (fun g => 121) (Value.cells (shv n (Ec.widenW p) 8)) (Value.cells (shv n (Ec.widenW p) 9)) 80 (wv (Ec.mults (Ec.widenW p) 9)) (fun g => kr) (fun g => kr) (fun g => kr) kr kr (fun g => (of_decide_eq_true kr)) (fun g => kr) (fun L g hN => ⟨(by have hL15 : L 15 = false := hN.1; exact D2.ent_get' (p := true) (e := (bif L 15 then (b3, Oc (shv n (Ec.widenW p) 9) 80) else (b3, Oc (shv n (Ec.widenW p) 8) 80))) kr (by rfl) (by simp only [hL15, cond_true, cond_false] <;> rfl)), kr⟩) (fun L g hN hF => hF)
  intro L0 G13 w13 hall HL; clear H12
  have H13 : St w.heap.size w w13 [(b3, Oc (shv n (Ec.widenW p) 9) 80), (b2, Oc (uv n) 24), (b1, Oc (pv p) 26)] := by have e15 := hall 15 (Nat.le_of_ble_eq_true kr); have hS := D2.StE.st HL.1; simp only [e15, cond_true, D2.pres] at hS; exact hS
  clear HL hall
  show WP _ _ _ _ _ _
  refine g_reg0 [0, 1, 2] kr ?_
  refine s_val (some 17) (.int .i64 9) (fun w => kr) kr ?_
  refine s_val (some 18) (.int .i64 10) (fun w => kr) kr ?_
  refine s_val (some 6) (.int .i64 10) (fun w => kr) kr ?_
  refine s_nil ?_
  show WPL _ _ _ _ _ _
  refine g_next ?_
  refine g_seq kr ?_
  refine g_sreg [0, 1] kr kr ?_
  refine s_val (some 15) (.int .i64 10) (fun w => kr) kr ?_
  refine s_val (some 16) (.bool true) (fun w => kr) kr ?_
  refine s_nil ?_
  refine g_cond_t kr kr ?_
  refine g_skip kr ?_
  show WP _ _ _ _ _ _
  refine g_seq kr ?_
  refine g_block 1 kr ?_
  refine D2.g_draw0 [0, 1, 2, 3, 4, 5, 6, 7, 8, 9, 10, 11, 12, 13, 14, 15] [((some 19), fun _ => .pointer (some ⟨b3, 0, none⟩)), ((some 20), fun _ => .int .i64 10), ((some 21), fun _ => .pointer (some ⟨b3, 0, none⟩)), ((some 22), fun _ => .int .i64 10), ((some 23), fun _ => .int .i64 9), ((some 24), fun _ => .pointer (some ⟨b3, 0, none⟩)), ((some 25), fun _ => .pointer (some ⟨b3, 4, none⟩)), ((some 26), fun _ => .pointer (some ⟨b3, 121, none⟩)), ((some 27), fun _ => wv (Ec.mults (Ec.widenW p) 9)), ((some 28), fun _ => pv p), ((some 29), fun _ => wv (Ec.widenW p)), ((some 30), fun _ => wv (Ec.mults (Ec.widenW p) 10)), ((some 31), fun _ => .pointer (some ⟨b3, 0, none⟩)), ((some 32), fun _ => .pointer (some ⟨b3, 4, none⟩)), ((some 33), fun _ => .pointer (some ⟨b3, 134, none⟩)), (none, fun _ => undef)] (D2.Pre w.heap.size w (fun L g => [(true, (bif L 15 then (b3, Oc (shv n (Ec.widenW p) 10) 80) else (b3, Oc (shv n (Ec.widenW p) 9) 80))), (true, (b2, Oc (uv n) 24)), (true, (b1, Oc (pv p) 26))]) (fun L g => True)) kr kr kr ⟨D2.StE.of H13.drew _ kr, trivial⟩ ⟨?_, ?_, ?_, ?_, ?_, ?_, ?_, ?_, ?_, ?_, ?_, ?_, ?_, ?_, ?_, ?_, trivial⟩ ?_
  · exact D2.gv_val (fun _ _ _ h => h) (fun g w => kr)
  · exact D2.gv_val (fun _ _ _ h => h) (fun g w => kr)
  · exact D2.gv_val (fun _ _ _ h => h) (fun g w => kr)
  · exact D2.gv_val (fun _ _ _ h => h) (fun g w => kr)
  · exact D2.gv_val (fun _ _ _ h => h) (fun g w => kr)
  · exact D2.gv_val (fun _ _ _ h => h) (fun g w => kr)
  · exact D2.gv_val (fun _ _ _ h => h) (fun g w => kr)
  · exact D2.gv_val (fun _ _ _ h => h) (fun g w => kr)
  · exact D2.gv_loadp 51 (.tmp 26) 0 (fun g => b3) 121 13 (Value.cells (shv n (Ec.widenW p) 9)) (Value.cells (wv (Ec.mults (Ec.widenW p) 9))) 80 (0, 0) (fun _ _ _ h => h) (fun g => kr) (fun g => kr) (fun L g hN => (by have hL15 : L 15 = false := (hN.post 15 kr); exact D2.ent_get' (p := true) (e := (bif L 15 then (b3, Oc (shv n (Ec.widenW p) 10) 80) else (b3, Oc (shv n (Ec.widenW p) 9) 80))) kr (by rfl) (by simp only [hL15, cond_true, cond_false] <;> rfl))) kr (of_decide_eq_true kr) kr
  · exact D2.gv_load 26 (.tmp 2) 2 (fun g => b1) (Value.cells (pv p)) 26 (0, 0) (fun _ _ _ h => h) (fun g => kr) (fun g => kr) (fun L g hN => kr) kr
  · exact D2.gv_call 35 #[pv p] (fun _ _ _ h => h) (widen_fn p hp) (fun g w => kr)
  · exact D2.gv_call 36 #[wv (Ec.mults (Ec.widenW p) 9), wv (Ec.widenW p)] (fun _ _ _ h => h) (plusM_fn (Ec.widenW p) (Ec.widenW_ok hp) 9) (fun g w => kr)
  · exact D2.gv_val (fun _ _ _ h => h) (fun g w => kr)
  · exact D2.gv_val (fun _ _ _ h => h) (fun g w => kr)
  · exact D2.gv_val (fun _ _ _ h => h) (fun g w => kr)
  · exact D2.gv_store 0 51 (.tmp 33) (.tmp 30) (fun g => b3) (fun g => 134) (Value.cells (shv n (Ec.widenW p) 9)) (Value.cells (shv n (Ec.widenW p) 10)) 80 (wv (Ec.mults (Ec.widenW p) 10)) (fun g => kr) (fun g => kr) (fun g => kr) kr kr (fun g => (of_decide_eq_true kr)) (fun g => kr) (fun L g hN => ⟨(by have hL15 : L 15 = false := hN.1; exact D2.ent_get' (p := true) (e := (bif L 15 then (b3, Oc (shv n (Ec.widenW p) 10) 80) else (b3, Oc (shv n (Ec.widenW p) 9) 80))) kr (by rfl) (by simp only [hL15, cond_true, cond_false] <;> rfl)), kr⟩) (fun L g hN hF => hF)
  intro L0 G14 w14 hall HL; clear H13
  have H14 : St w.heap.size w w14 [(b3, Oc (shv n (Ec.widenW p) 10) 80), (b2, Oc (uv n) 24), (b1, Oc (pv p) 26)] := by have e15 := hall 15 (Nat.le_of_ble_eq_true kr); have hS := D2.StE.st HL.1; simp only [e15, cond_true, D2.pres] at hS; exact hS
  clear HL hall
  show WP _ _ _ _ _ _
  refine g_reg0 [0, 1, 2] kr ?_
  refine s_val (some 17) (.int .i64 10) (fun w => kr) kr ?_
  refine s_val (some 18) (.int .i64 11) (fun w => kr) kr ?_
  refine s_val (some 6) (.int .i64 11) (fun w => kr) kr ?_
  refine s_nil ?_
  show WPL _ _ _ _ _ _
  refine g_next ?_
  refine g_seq kr ?_
  refine g_sreg [0, 1] kr kr ?_
  refine s_val (some 15) (.int .i64 11) (fun w => kr) kr ?_
  refine s_val (some 16) (.bool true) (fun w => kr) kr ?_
  refine s_nil ?_
  refine g_cond_t kr kr ?_
  refine g_skip kr ?_
  show WP _ _ _ _ _ _
  refine g_seq kr ?_
  refine g_block 1 kr ?_
  refine D2.g_draw0 [0, 1, 2, 3, 4, 5, 6, 7, 8, 9, 10, 11, 12, 13, 14, 15] [((some 19), fun _ => .pointer (some ⟨b3, 0, none⟩)), ((some 20), fun _ => .int .i64 11), ((some 21), fun _ => .pointer (some ⟨b3, 0, none⟩)), ((some 22), fun _ => .int .i64 11), ((some 23), fun _ => .int .i64 10), ((some 24), fun _ => .pointer (some ⟨b3, 0, none⟩)), ((some 25), fun _ => .pointer (some ⟨b3, 4, none⟩)), ((some 26), fun _ => .pointer (some ⟨b3, 134, none⟩)), ((some 27), fun _ => wv (Ec.mults (Ec.widenW p) 10)), ((some 28), fun _ => pv p), ((some 29), fun _ => wv (Ec.widenW p)), ((some 30), fun _ => wv (Ec.mults (Ec.widenW p) 11)), ((some 31), fun _ => .pointer (some ⟨b3, 0, none⟩)), ((some 32), fun _ => .pointer (some ⟨b3, 4, none⟩)), ((some 33), fun _ => .pointer (some ⟨b3, 147, none⟩)), (none, fun _ => undef)] (D2.Pre w.heap.size w (fun L g => [(true, (bif L 15 then (b3, Oc (shv n (Ec.widenW p) 11) 80) else (b3, Oc (shv n (Ec.widenW p) 10) 80))), (true, (b2, Oc (uv n) 24)), (true, (b1, Oc (pv p) 26))]) (fun L g => True)) kr kr kr ⟨D2.StE.of H14.drew _ kr, trivial⟩ ⟨?_, ?_, ?_, ?_, ?_, ?_, ?_, ?_, ?_, ?_, ?_, ?_, ?_, ?_, ?_, ?_, trivial⟩ ?_
  · exact D2.gv_val (fun _ _ _ h => h) (fun g w => kr)
  · exact D2.gv_val (fun _ _ _ h => h) (fun g w => kr)
  · exact D2.gv_val (fun _ _ _ h => h) (fun g w => kr)
  · exact D2.gv_val (fun _ _ _ h => h) (fun g w => kr)
  · exact D2.gv_val (fun _ _ _ h => h) (fun g w => kr)
  · exact D2.gv_val (fun _ _ _ h => h) (fun g w => kr)
  · exact D2.gv_val (fun _ _ _ h => h) (fun g w => kr)
  · exact D2.gv_val (fun _ _ _ h => h) (fun g w => kr)
  · exact D2.gv_loadp 51 (.tmp 26) 0 (fun g => b3) 134 13 (Value.cells (shv n (Ec.widenW p) 10)) (Value.cells (wv (Ec.mults (Ec.widenW p) 10))) 80 (0, 0) (fun _ _ _ h => h) (fun g => kr) (fun g => kr) (fun L g hN => (by have hL15 : L 15 = false := (hN.post 15 kr); exact D2.ent_get' (p := true) (e := (bif L 15 then (b3, Oc (shv n (Ec.widenW p) 11) 80) else (b3, Oc (shv n (Ec.widenW p) 10) 80))) kr (by rfl) (by simp only [hL15, cond_true, cond_false] <;> rfl))) kr (of_decide_eq_true kr) kr
  · exact D2.gv_load 26 (.tmp 2) 2 (fun g => b1) (Value.cells (pv p)) 26 (0, 0) (fun _ _ _ h => h) (fun g => kr) (fun g => kr) (fun L g hN => kr) kr
  · exact D2.gv_call 35 #[pv p] (fun _ _ _ h => h) (widen_fn p hp) (fun g w => kr)
  · exact D2.gv_call 36 #[wv (Ec.mults (Ec.widenW p) 10), wv (Ec.widenW p)] (fun _ _ _ h => h) (plusM_fn (Ec.widenW p) (Ec.widenW_ok hp) 10) (fun g w => kr)
  · exact D2.gv_val (fun _ _ _ h => h) (fun g w => kr)
  · exact D2.gv_val (fun _ _ _ h => h) (fun g w => kr)
  · exact D2.gv_val (fun _ _ _ h => h) (fun g w => kr)
  · exact D2.gv_store 0 51 (.tmp 33) (.tmp 30) (fun g => b3) (fun g => 147) (Value.cells (shv n (Ec.widenW p) 10)) (Value.cells (shv n (Ec.widenW p) 11)) 80 (wv (Ec.mults (Ec.widenW p) 11)) (fun g => kr) (fun g => kr) (fun g => kr) kr kr (fun g => (of_decide_eq_true kr)) (fun g => kr) (fun L g hN => ⟨(by have hL15 : L 15 = false := hN.1; exact D2.ent_get' (p := true) (e := (bif L 15 then (b3, Oc (shv n (Ec.widenW p) 11) 80) else (b3, Oc (shv n (Ec.widenW p) 10) 80))) kr (by rfl) (by simp only [hL15, cond_true, cond_false] <;> rfl)), kr⟩) (fun L g hN hF => hF)
  intro L0 G15 w15 hall HL; clear H14
  have H15 : St w.heap.size w w15 [(b3, Oc (shv n (Ec.widenW p) 11) 80), (b2, Oc (uv n) 24), (b1, Oc (pv p) 26)] := by have e15 := hall 15 (Nat.le_of_ble_eq_true kr); have hS := D2.StE.st HL.1; simp only [e15, cond_true, D2.pres] at hS; exact hS
  clear HL hall
  show WP _ _ _ _ _ _
  refine g_reg0 [0, 1, 2] kr ?_
  refine s_val (some 17) (.int .i64 11) (fun w => kr) kr ?_
  refine s_val (some 18) (.int .i64 12) (fun w => kr) kr ?_
  refine s_val (some 6) (.int .i64 12) (fun w => kr) kr ?_
  refine s_nil ?_
  show WPL _ _ _ _ _ _
  refine g_next ?_
  refine g_seq kr ?_
  refine g_sreg [0, 1] kr kr ?_
  refine s_val (some 15) (.int .i64 12) (fun w => kr) kr ?_
  refine s_val (some 16) (.bool true) (fun w => kr) kr ?_
  refine s_nil ?_
  refine g_cond_t kr kr ?_
  refine g_skip kr ?_
  show WP _ _ _ _ _ _
  refine g_seq kr ?_
  refine g_block 1 kr ?_
  refine D2.g_draw0 [0, 1, 2, 3, 4, 5, 6, 7, 8, 9, 10, 11, 12, 13, 14, 15] [((some 19), fun _ => .pointer (some ⟨b3, 0, none⟩)), ((some 20), fun _ => .int .i64 12), ((some 21), fun _ => .pointer (some ⟨b3, 0, none⟩)), ((some 22), fun _ => .int .i64 12), ((some 23), fun _ => .int .i64 11), ((some 24), fun _ => .pointer (some ⟨b3, 0, none⟩)), ((some 25), fun _ => .pointer (some ⟨b3, 4, none⟩)), ((some 26), fun _ => .pointer (some ⟨b3, 147, none⟩)), ((some 27), fun _ => wv (Ec.mults (Ec.widenW p) 11)), ((some 28), fun _ => pv p), ((some 29), fun _ => wv (Ec.widenW p)), ((some 30), fun _ => wv (Ec.mults (Ec.widenW p) 12)), ((some 31), fun _ => .pointer (some ⟨b3, 0, none⟩)), ((some 32), fun _ => .pointer (some ⟨b3, 4, none⟩)), ((some 33), fun _ => .pointer (some ⟨b3, 160, none⟩)), (none, fun _ => undef)] (D2.Pre w.heap.size w (fun L g => [(true, (bif L 15 then (b3, Oc (shv n (Ec.widenW p) 12) 80) else (b3, Oc (shv n (Ec.widenW p) 11) 80))), (true, (b2, Oc (uv n) 24)), (true, (b1, Oc (pv p) 26))]) (fun L g => True)) kr kr kr ⟨D2.StE.of H15.drew _ kr, trivial⟩ ⟨?_, ?_, ?_, ?_, ?_, ?_, ?_, ?_, ?_, ?_, ?_, ?_, ?_, ?_, ?_, ?_, trivial⟩ ?_
  · exact D2.gv_val (fun _ _ _ h => h) (fun g w => kr)
  · exact D2.gv_val (fun _ _ _ h => h) (fun g w => kr)
  · exact D2.gv_val (fun _ _ _ h => h) (fun g w => kr)
  · exact D2.gv_val (fun _ _ _ h => h) (fun g w => kr)
  · exact D2.gv_val (fun _ _ _ h => h) (fun g w => kr)
  · exact D2.gv_val (fun _ _ _ h => h) (fun g w => kr)
  · exact D2.gv_val (fun _ _ _ h => h) (fun g w => kr)
  · exact D2.gv_val (fun _ _ _ h => h) (fun g w => kr)
  · exact D2.gv_loadp 51 (.tmp 26) 0 (fun g => b3) 147 13 (Value.cells (shv n (Ec.widenW p) 11)) (Value.cells (wv (Ec.mults (Ec.widenW p) 11))) 80 (0, 0) (fun _ _ _ h => h) (fun g => kr) (fun g => kr) (fun L g hN => (by have hL15 : L 15 = false := (hN.post 15 kr); exact D2.ent_get' (p := true) (e := (bif L 15 then (b3, Oc (shv n (Ec.widenW p) 12) 80) else (b3, Oc (shv n (Ec.widenW p) 11) 80))) kr (by rfl) (by simp only [hL15, cond_true, cond_false] <;> rfl))) kr (of_decide_eq_true kr) kr
  · exact D2.gv_load 26 (.tmp 2) 2 (fun g => b1) (Value.cells (pv p)) 26 (0, 0) (fun _ _ _ h => h) (fun g => kr) (fun g => kr) (fun L g hN => kr) kr
  · exact D2.gv_call 35 #[pv p] (fun _ _ _ h => h) (widen_fn p hp) (fun g w => kr)
  · exact D2.gv_call 36 #[wv (Ec.mults (Ec.widenW p) 11), wv (Ec.widenW p)] (fun _ _ _ h => h) (plusM_fn (Ec.widenW p) (Ec.widenW_ok hp) 11) (fun g w => kr)
  · exact D2.gv_val (fun _ _ _ h => h) (fun g w => kr)
  · exact D2.gv_val (fun _ _ _ h => h) (fun g w => kr)
  · exact D2.gv_val (fun _ _ _ h => h) (fun g w => kr)
  · exact D2.gv_store 0 51 (.tmp 33) (.tmp 30) (fun g => b3) (fun g => 160) (Value.cells (shv n (Ec.widenW p) 11)) (Value.cells (shv n (Ec.widenW p) 12)) 80 (wv (Ec.mults (Ec.widenW p) 12)) (fun g => kr) (fun g => kr) (fun g => kr) kr kr (fun g => (of_decide_eq_true kr)) (fun g => kr) (fun L g hN => ⟨(by have hL15 : L 15 = false := hN.1; exact D2.ent_get' (p := true) (e := (bif L 15 then (b3, Oc (shv n (Ec.widenW p) 12) 80) else (b3, Oc (shv n (Ec.widenW p) 11) 80))) kr (by rfl) (by simp only [hL15, cond_true, cond_false] <;> rfl)), kr⟩) (fun L g hN hF => hF)
  intro L0 G16 w16 hall HL; clear H15
  have H16 : St w.heap.size w w16 [(b3, Oc (shv n (Ec.widenW p) 12) 80), (b2, Oc (uv n) 24), (b1, Oc (pv p) 26)] := by have e15 := hall 15 (Nat.le_of_ble_eq_true kr); have hS := D2.StE.st HL.1; simp only [e15, cond_true, D2.pres] at hS; exact hS
  clear HL hall
  show WP _ _ _ _ _ _
  refine g_reg0 [0, 1, 2] kr ?_
  refine s_val (some 17) (.int .i64 12) (fun w => kr) kr ?_
  refine s_val (some 18) (.int .i64 13) (fun w => kr) kr ?_
  refine s_val (some 6) (.int .i64 13) (fun w => kr) kr ?_
  refine s_nil ?_
  show WPL _ _ _ _ _ _
  refine g_next ?_
  refine g_seq kr ?_
  refine g_sreg [0, 1] kr kr ?_
  refine s_val (some 15) (.int .i64 13) (fun w => kr) kr ?_
  refine s_val (some 16) (.bool true) (fun w => kr) kr ?_
  refine s_nil ?_
  refine g_cond_t kr kr ?_
  refine g_skip kr ?_
  show WP _ _ _ _ _ _
  refine g_seq kr ?_
  refine g_block 1 kr ?_
  refine D2.g_draw0 [0, 1, 2, 3, 4, 5, 6, 7, 8, 9, 10, 11, 12, 13, 14, 15] [((some 19), fun _ => .pointer (some ⟨b3, 0, none⟩)), ((some 20), fun _ => .int .i64 13), ((some 21), fun _ => .pointer (some ⟨b3, 0, none⟩)), ((some 22), fun _ => .int .i64 13), ((some 23), fun _ => .int .i64 12), ((some 24), fun _ => .pointer (some ⟨b3, 0, none⟩)), ((some 25), fun _ => .pointer (some ⟨b3, 4, none⟩)), ((some 26), fun _ => .pointer (some ⟨b3, 160, none⟩)), ((some 27), fun _ => wv (Ec.mults (Ec.widenW p) 12)), ((some 28), fun _ => pv p), ((some 29), fun _ => wv (Ec.widenW p)), ((some 30), fun _ => wv (Ec.mults (Ec.widenW p) 13)), ((some 31), fun _ => .pointer (some ⟨b3, 0, none⟩)), ((some 32), fun _ => .pointer (some ⟨b3, 4, none⟩)), ((some 33), fun _ => .pointer (some ⟨b3, 173, none⟩)), (none, fun _ => undef)] (D2.Pre w.heap.size w (fun L g => [(true, (bif L 15 then (b3, Oc (shv n (Ec.widenW p) 13) 80) else (b3, Oc (shv n (Ec.widenW p) 12) 80))), (true, (b2, Oc (uv n) 24)), (true, (b1, Oc (pv p) 26))]) (fun L g => True)) kr kr kr ⟨D2.StE.of H16.drew _ kr, trivial⟩ ⟨?_, ?_, ?_, ?_, ?_, ?_, ?_, ?_, ?_, ?_, ?_, ?_, ?_, ?_, ?_, ?_, trivial⟩ ?_
  · exact D2.gv_val (fun _ _ _ h => h) (fun g w => kr)
  · exact D2.gv_val (fun _ _ _ h => h) (fun g w => kr)
  · exact D2.gv_val (fun _ _ _ h => h) (fun g w => kr)
  · exact D2.gv_val (fun _ _ _ h => h) (fun g w => kr)
  · exact D2.gv_val (fun _ _ _ h => h) (fun g w => kr)
  · exact D2.gv_val (fun _ _ _ h => h) (fun g w => kr)
  · exact D2.gv_val (fun _ _ _ h => h) (fun g w => kr)
  · exact D2.gv_val (fun _ _ _ h => h) (fun g w => kr)
  · exact D2.gv_loadp 51 (.tmp 26) 0 (fun g => b3) 160 13 (Value.cells (shv n (Ec.widenW p) 12)) (Value.cells (wv (Ec.mults (Ec.widenW p) 12))) 80 (0, 0) (fun _ _ _ h => h) (fun g => kr) (fun g => kr) (fun L g hN => (by have hL15 : L 15 = false := (hN.post 15 kr); exact D2.ent_get' (p := true) (e := (bif L 15 then (b3, Oc (shv n (Ec.widenW p) 13) 80) else (b3, Oc (shv n (Ec.widenW p) 12) 80))) kr (by rfl) (by simp only [hL15, cond_true, cond_false] <;> rfl))) kr (of_decide_eq_true kr) kr
  · exact D2.gv_load 26 (.tmp 2) 2 (fun g => b1) (Value.cells (pv p)) 26 (0, 0) (fun _ _ _ h => h) (fun g => kr) (fun g => kr) (fun L g hN => kr) kr
  · exact D2.gv_call 35 #[pv p] (fun _ _ _ h => h) (widen_fn p hp) (fun g w => kr)
  · exact D2.gv_call 36 #[wv (Ec.mults (Ec.widenW p) 12), wv (Ec.widenW p)] (fun _ _ _ h => h) (plusM_fn (Ec.widenW p) (Ec.widenW_ok hp) 12) (fun g w => kr)
  · exact D2.gv_val (fun _ _ _ h => h) (fun g w => kr)
  · exact D2.gv_val (fun _ _ _ h => h) (fun g w => kr)
  · exact D2.gv_val (fun _ _ _ h => h) (fun g w => kr)
  · exact D2.gv_store 0 51 (.tmp 33) (.tmp 30) (fun g => b3) (fun g => 173) (Value.cells (shv n (Ec.widenW p) 12)) (Value.cells (shv n (Ec.widenW p) 13)) 80 (wv (Ec.mults (Ec.widenW p) 13)) (fun g => kr) (fun g => kr) (fun g => kr) kr kr (fun g => (of_decide_eq_true kr)) (fun g => kr) (fun L g hN => ⟨(by have hL15 : L 15 = false := hN.1; exact D2.ent_get' (p := true) (e := (bif L 15 then (b3, Oc (shv n (Ec.widenW p) 13) 80) else (b3, Oc (shv n (Ec.widenW p) 12) 80))) kr (by rfl) (by simp only [hL15, cond_true, cond_false] <;> rfl)), kr⟩) (fun L g hN hF => hF)
  intro L0 G17 w17 hall HL; clear H16
  have H17 : St w.heap.size w w17 [(b3, Oc (shv n (Ec.widenW p) 13) 80), (b2, Oc (uv n) 24), (b1, Oc (pv p) 26)] := by have e15 := hall 15 (Nat.le_of_ble_eq_true kr); have hS := D2.StE.st HL.1; simp only [e15, cond_true, D2.pres] at hS; exact hS
  clear HL hall
  show WP _ _ _ _ _ _
  refine g_reg0 [0, 1, 2] kr ?_
  refine s_val (some 17) (.int .i64 13) (fun w => kr) kr ?_
  refine s_val (some 18) (.int .i64 14) (fun w => kr) kr ?_
  refine s_val (some 6) (.int .i64 14) (fun w => kr) kr ?_
  refine s_nil ?_
  show WPL _ _ _ _ _ _
  refine g_next ?_
  refine g_seq kr ?_
  refine g_sreg [0, 1] kr kr ?_
  refine s_val (some 15) (.int .i64 14) (fun w => kr) kr ?_
  refine s_val (some 16) (.bool true) (fun w => kr) kr ?_
  refine s_nil ?_
  refine g_cond_t kr kr ?_
  refine g_skip kr ?_
  show WP _ _ _ _ _ _
  refine g_seq kr ?_
  refine g_block 1 kr ?_
  refine D2.g_draw0 [0, 1, 2, 3, 4, 5, 6, 7, 8, 9, 10, 11, 12, 13, 14, 15] [((some 19), fun _ => .pointer (some ⟨b3, 0, none⟩)), ((some 20), fun _ => .int .i64 14), ((some 21), fun _ => .pointer (some ⟨b3, 0, none⟩)), ((some 22), fun _ => .int .i64 14), ((some 23), fun _ => .int .i64 13), ((some 24), fun _ => .pointer (some ⟨b3, 0, none⟩)), ((some 25), fun _ => .pointer (some ⟨b3, 4, none⟩)), ((some 26), fun _ => .pointer (some ⟨b3, 173, none⟩)), ((some 27), fun _ => wv (Ec.mults (Ec.widenW p) 13)), ((some 28), fun _ => pv p), ((some 29), fun _ => wv (Ec.widenW p)), ((some 30), fun _ => wv (Ec.mults (Ec.widenW p) 14)), ((some 31), fun _ => .pointer (some ⟨b3, 0, none⟩)), ((some 32), fun _ => .pointer (some ⟨b3, 4, none⟩)), ((some 33), fun _ => .pointer (some ⟨b3, 186, none⟩)), (none, fun _ => undef)] (D2.Pre w.heap.size w (fun L g => [(true, (bif L 15 then (b3, Oc (shv n (Ec.widenW p) 14) 80) else (b3, Oc (shv n (Ec.widenW p) 13) 80))), (true, (b2, Oc (uv n) 24)), (true, (b1, Oc (pv p) 26))]) (fun L g => True)) kr kr kr ⟨D2.StE.of H17.drew _ kr, trivial⟩ ⟨?_, ?_, ?_, ?_, ?_, ?_, ?_, ?_, ?_, ?_, ?_, ?_, ?_, ?_, ?_, ?_, trivial⟩ ?_
  · exact D2.gv_val (fun _ _ _ h => h) (fun g w => kr)
  · exact D2.gv_val (fun _ _ _ h => h) (fun g w => kr)
  · exact D2.gv_val (fun _ _ _ h => h) (fun g w => kr)
  · exact D2.gv_val (fun _ _ _ h => h) (fun g w => kr)
  · exact D2.gv_val (fun _ _ _ h => h) (fun g w => kr)
  · exact D2.gv_val (fun _ _ _ h => h) (fun g w => kr)
  · exact D2.gv_val (fun _ _ _ h => h) (fun g w => kr)
  · exact D2.gv_val (fun _ _ _ h => h) (fun g w => kr)
  · exact D2.gv_loadp 51 (.tmp 26) 0 (fun g => b3) 173 13 (Value.cells (shv n (Ec.widenW p) 13)) (Value.cells (wv (Ec.mults (Ec.widenW p) 13))) 80 (0, 0) (fun _ _ _ h => h) (fun g => kr) (fun g => kr) (fun L g hN => (by have hL15 : L 15 = false := (hN.post 15 kr); exact D2.ent_get' (p := true) (e := (bif L 15 then (b3, Oc (shv n (Ec.widenW p) 14) 80) else (b3, Oc (shv n (Ec.widenW p) 13) 80))) kr (by rfl) (by simp only [hL15, cond_true, cond_false] <;> rfl))) kr (of_decide_eq_true kr) kr
  · exact D2.gv_load 26 (.tmp 2) 2 (fun g => b1) (Value.cells (pv p)) 26 (0, 0) (fun _ _ _ h => h) (fun g => kr) (fun g => kr) (fun L g hN => kr) kr
  · exact D2.gv_call 35 #[pv p] (fun _ _ _ h => h) (widen_fn p hp) (fun g w => kr)
  · exact D2.gv_call 36 #[wv (Ec.mults (Ec.widenW p) 13), wv (Ec.widenW p)] (fun _ _ _ h => h) (plusM_fn (Ec.widenW p) (Ec.widenW_ok hp) 13) (fun g w => kr)
  · exact D2.gv_val (fun _ _ _ h => h) (fun g w => kr)
  · exact D2.gv_val (fun _ _ _ h => h) (fun g w => kr)
  · exact D2.gv_val (fun _ _ _ h => h) (fun g w => kr)
  · exact D2.gv_store 0 51 (.tmp 33) (.tmp 30) (fun g => b3) (fun g => 186) (Value.cells (shv n (Ec.widenW p) 13)) (Value.cells (shv n (Ec.widenW p) 14)) 80 (wv (Ec.mults (Ec.widenW p) 14)) (fun g => kr) (fun g => kr) (fun g => kr) kr kr (fun g => (of_decide_eq_true kr)) (fun g => kr) (fun L g hN => ⟨(by have hL15 : L 15 = false := hN.1; exact D2.ent_get' (p := true) (e := (bif L 15 then (b3, Oc (shv n (Ec.widenW p) 14) 80) else (b3, Oc (shv n (Ec.widenW p) 13) 80))) kr (by rfl) (by simp only [hL15, cond_true, cond_false] <;> rfl)), kr⟩) (fun L g hN hF => hF)
  intro L0 G18 w18 hall HL; clear H17
  have H18 : St w.heap.size w w18 [(b3, Oc (shv n (Ec.widenW p) 14) 80), (b2, Oc (uv n) 24), (b1, Oc (pv p) 26)] := by have e15 := hall 15 (Nat.le_of_ble_eq_true kr); have hS := D2.StE.st HL.1; simp only [e15, cond_true, D2.pres] at hS; exact hS
  clear HL hall
  show WP _ _ _ _ _ _
  refine g_reg0 [0, 1, 2] kr ?_
  refine s_val (some 17) (.int .i64 14) (fun w => kr) kr ?_
  refine s_val (some 18) (.int .i64 15) (fun w => kr) kr ?_
  refine s_val (some 6) (.int .i64 15) (fun w => kr) kr ?_
  refine s_nil ?_
  show WPL _ _ _ _ _ _
  refine g_next ?_
  refine g_seq kr ?_
  refine g_sreg [0, 1] kr kr ?_
  refine s_val (some 15) (.int .i64 15) (fun w => kr) kr ?_
  refine s_val (some 16) (.bool true) (fun w => kr) kr ?_
  refine s_nil ?_
  refine g_cond_t kr kr ?_
  refine g_skip kr ?_
  show WP _ _ _ _ _ _
  refine g_seq kr ?_
  refine g_block 1 kr ?_
  refine D2.g_draw0 [0, 1, 2, 3, 4, 5, 6, 7, 8, 9, 10, 11, 12, 13, 14, 15] [((some 19), fun _ => .pointer (some ⟨b3, 0, none⟩)), ((some 20), fun _ => .int .i64 15), ((some 21), fun _ => .pointer (some ⟨b3, 0, none⟩)), ((some 22), fun _ => .int .i64 15), ((some 23), fun _ => .int .i64 14), ((some 24), fun _ => .pointer (some ⟨b3, 0, none⟩)), ((some 25), fun _ => .pointer (some ⟨b3, 4, none⟩)), ((some 26), fun _ => .pointer (some ⟨b3, 186, none⟩)), ((some 27), fun _ => wv (Ec.mults (Ec.widenW p) 14)), ((some 28), fun _ => pv p), ((some 29), fun _ => wv (Ec.widenW p)), ((some 30), fun _ => wv (Ec.mults (Ec.widenW p) 15)), ((some 31), fun _ => .pointer (some ⟨b3, 0, none⟩)), ((some 32), fun _ => .pointer (some ⟨b3, 4, none⟩)), ((some 33), fun _ => .pointer (some ⟨b3, 199, none⟩)), (none, fun _ => undef)] (D2.Pre w.heap.size w (fun L g => [(true, (bif L 15 then (b3, Oc (shv n (Ec.widenW p) 15) 80) else (b3, Oc (shv n (Ec.widenW p) 14) 80))), (true, (b2, Oc (uv n) 24)), (true, (b1, Oc (pv p) 26))]) (fun L g => True)) kr kr kr ⟨D2.StE.of H18.drew _ kr, trivial⟩ ⟨?_, ?_, ?_, ?_, ?_, ?_, ?_, ?_, ?_, ?_, ?_, ?_, ?_, ?_, ?_, ?_, trivial⟩ ?_
  · exact D2.gv_val (fun _ _ _ h => h) (fun g w => kr)
  · exact D2.gv_val (fun _ _ _ h => h) (fun g w => kr)
  · exact D2.gv_val (fun _ _ _ h => h) (fun g w => kr)
  · exact D2.gv_val (fun _ _ _ h => h) (fun g w => kr)
  · exact D2.gv_val (fun _ _ _ h => h) (fun g w => kr)
  · exact D2.gv_val (fun _ _ _ h => h) (fun g w => kr)
  · exact D2.gv_val (fun _ _ _ h => h) (fun g w => kr)
  · exact D2.gv_val (fun _ _ _ h => h) (fun g w => kr)
  · exact D2.gv_loadp 51 (.tmp 26) 0 (fun g => b3) 186 13 (Value.cells (shv n (Ec.widenW p) 14)) (Value.cells (wv (Ec.mults (Ec.widenW p) 14))) 80 (0, 0) (fun _ _ _ h => h) (fun g => kr) (fun g => kr) (fun L g hN => (by have hL15 : L 15 = false := (hN.post 15 kr); exact D2.ent_get' (p := true) (e := (bif L 15 then (b3, Oc (shv n (Ec.widenW p) 15) 80) else (b3, Oc (shv n (Ec.widenW p) 14) 80))) kr (by rfl) (by simp only [hL15, cond_true, cond_false] <;> rfl))) kr (of_decide_eq_true kr) kr
  · exact D2.gv_load 26 (.tmp 2) 2 (fun g => b1) (Value.cells (pv p)) 26 (0, 0) (fun _ _ _ h => h) (fun g => kr) (fun g => kr) (fun L g hN => kr) kr
  · exact D2.gv_call 35 #[pv p] (fun _ _ _ h => h) (widen_fn p hp) (fun g w => kr)
  · exact D2.gv_call 36 #[wv (Ec.mults (Ec.widenW p) 14), wv (Ec.widenW p)] (fun _ _ _ h => h) (plusM_fn (Ec.widenW p) (Ec.widenW_ok hp) 14) (fun g w => kr)
  · exact D2.gv_val (fun _ _ _ h => h) (fun g w => kr)
  · exact D2.gv_val (fun _ _ _ h => h) (fun g w => kr)
  · exact D2.gv_val (fun _ _ _ h => h) (fun g w => kr)
  · exact D2.gv_store 0 51 (.tmp 33) (.tmp 30) (fun g => b3) (fun g => 199) (Value.cells (shv n (Ec.widenW p) 14)) (Value.cells (shv n (Ec.widenW p) 15)) 80 (wv (Ec.mults (Ec.widenW p) 15)) (fun g => kr) (fun g => kr) (fun g => kr) kr kr (fun g => (of_decide_eq_true kr)) (fun g => kr) (fun L g hN => ⟨(by have hL15 : L 15 = false := hN.1; exact D2.ent_get' (p := true) (e := (bif L 15 then (b3, Oc (shv n (Ec.widenW p) 15) 80) else (b3, Oc (shv n (Ec.widenW p) 14) 80))) kr (by rfl) (by simp only [hL15, cond_true, cond_false] <;> rfl)), kr⟩) (fun L g hN hF => hF)
  intro L0 G19 w19 hall HL; clear H18
  have H19 : St w.heap.size w w19 [(b3, Oc (shv n (Ec.widenW p) 15) 80), (b2, Oc (uv n) 24), (b1, Oc (pv p) 26)] := by have e15 := hall 15 (Nat.le_of_ble_eq_true kr); have hS := D2.StE.st HL.1; simp only [e15, cond_true, D2.pres] at hS; exact hS
  clear HL hall
  show WP _ _ _ _ _ _
  refine g_reg0 [0, 1, 2] kr ?_
  refine s_val (some 17) (.int .i64 15) (fun w => kr) kr ?_
  refine s_val (some 18) (.int .i64 16) (fun w => kr) kr ?_
  refine s_val (some 6) (.int .i64 16) (fun w => kr) kr ?_
  refine s_nil ?_
  show WPL _ _ _ _ _ _
  refine g_next ?_
  refine g_seq kr ?_
  refine g_sreg [0, 1] kr kr ?_
  refine s_val (some 15) (.int .i64 16) (fun w => kr) kr ?_
  refine s_val (some 16) (.bool false) (fun w => kr) kr ?_
  refine s_nil ?_
  refine g_cond_f kr kr ?_
  refine g_exit 0 kr ?_
  show WP _ _ _ _ _ _
  refine g_sreg [0, 1] kr kr ?_
  refine s_val (some 34) (.pointer (some ⟨b3, 0, none⟩)) (fun w => kr) kr ?_
  refine s_val (some 4) (.pointer (some ⟨b3, 0, none⟩)) (fun w => kr) kr ?_
  refine s_nil ?_
  refine g_ret kr ?_
  show ∃ vs, Res _ _ _ _ vs ∧ _
  refine ⟨[.pointer (some ⟨b3, 0, none⟩)], (.tmp (.pointer (some ⟨b3, 0, none⟩)) kr .nil), H19.below, ?_⟩
  exact ⟨b3, rfl, H19.ge 0 (o := .cells (Value.cells (shv n (Ec.widenW p) 15)) 80 (0, 0)) kr, H19.get 0 kr⟩
end Go.Proofs.Ytljhbhhpfkmemaa
