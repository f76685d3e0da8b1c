/-
  What the laws ask: lifting.
-/
import Derived.Test.YtljhbhhpfkmemaaPtV
import Derived.Test.YtljhbhhpfkmemaaPtLb
import Derived.Test.YtljhbhhpfkmemaaPtF
namespace Go.Proofs.Ytljhbhhpfkmemaa
open Go Go.RowKit
set_option linter.unusedVariables false
theorem lift_oddP {x y : Ec.Fp} (h : Ec.Pt.On Ec.seven (.pt x y)) (ho : y.v % 2 = 1) : Ec.Pd.mk x.v (fSub 0 (rt (Ec.sqN x.v)) PR) false = Ec.ofPt (.pt x y) := by
  rw [lift_odd h ho]; rfl
theorem lift_evenP {x y : Ec.Fp} (h : Ec.Pt.On Ec.seven (.pt x y)) (ho : y.v % 2 = 0) : Ec.Pd.mk x.v (rt (Ec.sqN x.v)) false = Ec.ofPt (.pt x y) := by
  rw [lift_even h ho]; rfl
theorem neg_v (y : Ec.Fp) : (-y).v = (PR - y.v) % PR := rfl
theorem lift_oddN {x y : Ec.Fp} (h : Ec.Pt.On Ec.seven (.pt x y)) (ho : y.v % 2 = 1) : Ec.Pd.mk x.v (rt (Ec.sqN x.v)) false = Ec.ofPt (Ec.Pt.neg (.pt x y)) := by
  have h1 := Ec.Pt.neg_on h
  have h0 := y_pos h
  have h2 := pr_odd
  have h3 := y.lt
  refine lift_evenP (y := -y) h1 ?_
  rw [neg_v, Nat.mod_eq_of_lt (show PR - y.v < PR by omega)]; omega
theorem lift_evenN {x y : Ec.Fp} (h : Ec.Pt.On Ec.seven (.pt x y)) (ho : y.v % 2 = 0) : Ec.Pd.mk x.v (fSub 0 (rt (Ec.sqN x.v)) PR) false = Ec.ofPt (Ec.Pt.neg (.pt x y)) := by
  have h1 := Ec.Pt.neg_on h
  have h0 := y_pos h
  have h2 := pr_odd
  have h3 := y.lt
  refine lift_oddP (y := -y) h1 ?_
  rw [neg_v, Nat.mod_eq_of_lt (show PR - y.v < PR by omega)]; omega

set_option maxRecDepth 100000 in
set_option maxHeartbeats 2000000 in
theorem lifts_z (x : Nat) (hx : x < big) (n : Nat) (hn : n < big) (hm : Ec.mulP Ec.G n = .zero) : Fn Try.prog 7 #[uv x, uv n] (.bool true) := by
  refine Fn.intro (c := codeOf Try.f7) [.tmp 4] 156 Try.func7 kr kr kr fun w => ?_
  have H0 := St.start w
  refine g_sreg [0, 1, 2] kr kr ?_
  refine s_box H0 (some 2) 24 (.tmp 0) (uv x) kr kr kr ?_
  intro b1 w1 H1; clear H0
  refine s_box H1 (some 3) 24 (.tmp 1) (uv n) kr kr kr ?_
  intro b2 w2 H2; clear H1
  refine s_val (some 4) (.bool false) (fun w => kr) kr ?_
  refine s_nil ?_
  refine g_sreg [0, 1, 2, 3, 4, 5, 6, 7] kr kr ?_
  refine s_load H2 (some 16) 24 (.tmp 3) 0 b2 (Value.cells (uv n)) 24 (0, 0) kr kr kr kr kr ?_
  refine s_call H2 (some 17) 9 #[uv n] (.tuple #[pv (Ec.ofPt Ec.Pt.zero), .bool true]) (by have h9 := at6_fn n hn; rw [hm] at h9; exact h9) (fun w => kr) kr ?_
  intro w3 H3; clear H2
  refine s_val (some 15) (.tuple #[pv (Ec.ofPt Ec.Pt.zero), .bool true]) (fun w => kr) kr ?_
  refine s_val (some 18) (pv (Ec.ofPt Ec.Pt.zero)) (fun w => kr) kr ?_
  refine s_val (some 19) (.bool true) (fun w => kr) kr ?_
  refine s_alloc H3 (some 5) 26 (.agg Z9) kr kr kr ?_
  intro b3 w4 H4; clear H3
  refine s_store H4 0 [(b3, Oc (pv (Ec.ofPt Ec.Pt.zero)) 26), (b2, Oc (uv n) 24), (b1, Oc (uv x) 24)] 26 (.tmp 5) (.tmp 18) b3 (0) Z9 (Value.cells (pv (Ec.ofPt Ec.Pt.zero))) 26 (pv (Ec.ofPt Ec.Pt.zero)) kr kr kr kr kr kr (of_decide_eq_true kr) kr kr ?_
  intro w5 H5; clear H4
  refine s_val (some 6) (.bool true) (fun w => kr) kr ?_
  refine s_nil ?_
  refine g_seq kr ?_
  refine g_sreg [0, 1] kr kr ?_
  refine s_val (some 20) (.bool true) (fun w => kr) kr ?_
  refine s_val (some 21) (.bool false) (fun w => kr) kr ?_
  refine s_nil ?_
  refine g_cond_f kr kr ?_
  refine g_skip kr ?_
  show WP _ _ _ _ _ _
  refine g_seq kr ?_
  refine g_sreg [0, 1, 2] kr kr ?_
  refine s_val (some 22) (.pointer (some ⟨b3, 8, none⟩)) (fun w => kr) kr ?_
  refine s_load1 H5 (some 23) 4 (.tmp 22) 0 b3 8 (Value.cells (pv (Ec.ofPt Ec.Pt.zero))) 26 (0, 0) (.bool true) kr kr kr kr kr kr ?_
  refine s_val (some 24) (.bool false) (fun w => kr) kr ?_
  refine s_nil ?_
  refine g_cond_f kr kr ?_
  refine g_skip kr ?_
  show WP _ _ _ _ _ _
  refine g_sreg [0, 1, 2, 3, 4, 5, 6, 7] kr kr ?_
  by_cases hxr : x < PR
  · skip
    by_cases hs : (fMul (fpw (Ec.sqN x) QR PR) (fpw (Ec.sqN x) QR PR) PR) = (rs (Ec.sqN x) 0 PR)
    · skip
      refine s_load H5 (some 65) 24 (.tmp 2) 2 b1 (Value.cells (uv x)) 24 (0, 0) kr kr kr kr kr ?_
      refine s_call H5 (some 66) 25 #[uv x, .bool true] (.tuple #[pv (Ec.Pd.mk x (fSub 0 (rt (Ec.sqN x)) PR) false), .int .i64 0]) (lift1_fn x hx hxr hs) (fun w => kr) kr ?_
      intro w6 H6; clear H5
      refine s_val (some 64) (.tuple #[pv (Ec.Pd.mk x (fSub 0 (rt (Ec.sqN x)) PR) false), .int .i64 0]) (fun w => kr) kr ?_
      refine s_val (some 67) (pv (Ec.Pd.mk x (fSub 0 (rt (Ec.sqN x)) PR) false)) (fun w => kr) kr ?_
      refine s_val (some 68) (.int .i64 0) (fun w => kr) kr ?_
      refine s_alloc H6 (some 11) 26 (.agg Z9) kr kr kr ?_
      intro b4 w7 H7; clear H6
      refine s_store H7 0 [(b4, Oc (pv (Ec.Pd.mk x (fSub 0 (rt (Ec.sqN x)) PR) false)) 26), (b3, Oc (pv (Ec.ofPt Ec.Pt.zero)) 26), (b2, Oc (uv n) 24), (b1, Oc (uv x) 24)] 26 (.tmp 11) (.tmp 67) b4 (0) Z9 (Value.cells (pv (Ec.Pd.mk x (fSub 0 (rt (Ec.sqN x)) PR) false))) 26 (pv (Ec.Pd.mk x (fSub 0 (rt (Ec.sqN x)) PR) false)) kr kr kr kr kr kr (of_decide_eq_true kr) kr kr ?_
      intro w8 H8; clear H7
      refine s_val (some 12) (.int .i64 0) (fun w => kr) kr ?_
      refine s_nil ?_
      refine g_sreg [0, 1, 2, 3, 4, 5, 6, 7] kr kr ?_
      refine s_load H8 (some 70) 24 (.tmp 2) 3 b1 (Value.cells (uv x)) 24 (0, 0) kr kr kr kr kr ?_
      refine s_call H8 (some 71) 25 #[uv x, .bool false] (.tuple #[pv (Ec.Pd.mk x (rt (Ec.sqN x)) false), .int .i64 0]) (lift0_fn x hx hxr hs) (fun w => kr) kr ?_
      intro w9 H9; clear H8
      refine s_val (some 69) (.tuple #[pv (Ec.Pd.mk x (rt (Ec.sqN x)) false), .int .i64 0]) (fun w => kr) kr ?_
      refine s_val (some 72) (pv (Ec.Pd.mk x (rt (Ec.sqN x)) false)) (fun w => kr) kr ?_
      refine s_val (some 73) (.int .i64 0) (fun w => kr) kr ?_
      refine s_alloc H9 (some 13) 26 (.agg Z9) kr kr kr ?_
      intro b5 w10 H10; clear H9
      refine s_store H10 0 [(b5, Oc (pv (Ec.Pd.mk x (rt (Ec.sqN x)) false)) 26), (b4, Oc (pv (Ec.Pd.mk x (fSub 0 (rt (Ec.sqN x)) PR) false)) 26), (b3, Oc (pv (Ec.ofPt Ec.Pt.zero)) 26), (b2, Oc (uv n) 24), (b1, Oc (uv x) 24)] 26 (.tmp 13) (.tmp 72) b5 (0) Z9 (Value.cells (pv (Ec.Pd.mk x (rt (Ec.sqN x)) false))) 26 (pv (Ec.Pd.mk x (rt (Ec.sqN x)) false)) kr kr kr kr kr kr (of_decide_eq_true kr) kr kr ?_
      intro w11 H11; clear H10
      refine s_val (some 14) (.int .i64 0) (fun w => kr) kr ?_
      refine s_nil ?_
      refine g_seq kr ?_
      refine g_sreg [0, 1, 2] kr kr ?_
      refine s_load H11 (some 74) 24 (.tmp 2) 4 b1 (Value.cells (uv x)) 24 (0, 0) kr kr kr kr kr ?_
      refine s_call H11 (some 75) 26 #[uv x] (.bool true) (rred_yes x hx hxr) (fun w => kr) kr ?_
      intro w12 H12; clear H11
      refine s_val (some 76) (.bool false) (fun w => kr) kr ?_
      refine s_nil ?_
      refine g_cond_f kr kr ?_
      refine g_skip kr ?_
      show WP _ _ _ _ _ _
      refine g_seq kr ?_
      refine g_sreg [0, 1] kr kr ?_
      refine s_val (some 96) (.int .i64 0) (fun w => kr) kr ?_
      refine s_val (some 97) (.bool false) (fun w => kr) kr ?_
      refine s_nil ?_
      refine g_cond_f kr kr ?_
      refine g_skip kr ?_
      show WP _ _ _ _ _ _
      refine g_sreg [0, 1, 2, 3, 4, 5, 6, 7, 8, 9, 10, 11, 12, 13, 14, 15, 16, 17, 18, 19, 20, 21, 22, 23, 24, 25, 26, 27, 28, 29, 30, 31, 32, 33, 34, 35, 36, 37, 38, 39] kr kr ?_
      refine s_call H12 (some 117) 12 #[] (.bool true) alive06_fn (fun w => kr) kr ?_
      intro w13 H13; clear H12
      refine s_val (some 118) (.bool true) (fun w => kr) kr ?_
      refine s_val (some 119) (.int .i64 0) (fun w => kr) kr ?_
      refine s_val (some 120) (.bool true) (fun w => kr) kr ?_
      refine s_val (some 121) (.bool true) (fun w => kr) kr ?_
      refine s_val (some 122) (.bool true) (fun w => kr) kr ?_
      refine s_load H13 (some 123) 26 (.tmp 11) 1 b4 (Value.cells (pv (Ec.Pd.mk x (fSub 0 (rt (Ec.sqN x)) PR) false))) 26 (0, 0) kr kr kr kr kr ?_
      refine s_call H13 (some 124) 11 #[pv (Ec.Pd.mk x (fSub 0 (rt (Ec.sqN x)) PR) false)] (.bool true) (ron_yes (Ec.Pd.mk x (fSub 0 (rt (Ec.sqN x)) PR) false) (Ec.Pd.Ok.mk (p := Ec.Pd.mk x (fSub 0 (rt (Ec.sqN x)) PR) false) hx (fSub_lt pr_ok)) (odd_on hxr hs)) (fun w => kr) kr ?_
      intro w14 H14; clear H13
      refine s_val (some 125) (.bool true) (fun w => kr) kr ?_
      refine s_val (some 126) (.bool true) (fun w => kr) kr ?_
      refine s_load H14 (some 127) 26 (.tmp 13) 0 b5 (Value.cells (pv (Ec.Pd.mk x (rt (Ec.sqN x)) false))) 26 (0, 0) kr kr kr kr kr ?_
      refine s_call H14 (some 128) 11 #[pv (Ec.Pd.mk x (rt (Ec.sqN x)) false)] (.bool true) (ron_yes (Ec.Pd.mk x (rt (Ec.sqN x)) false) (Ec.Pd.Ok.mk (p := Ec.Pd.mk x (rt (Ec.sqN x)) false) hx (rt_lt _)) (even_on hxr hs)) (fun w => kr) kr ?_
      intro w15 H15; clear H14
      refine s_val (some 129) (.bool true) (fun w => kr) kr ?_
      refine s_val (some 130) (.bool true) (fun w => kr) kr ?_
      refine s_val (some 131) (.pointer (some ⟨b4, 0, none⟩)) (fun w => kr) kr ?_
      refine s_loadp H15 (some 132) 24 (.tmp 131) 1 b4 0 4 (Value.cells (pv (Ec.Pd.mk x (fSub 0 (rt (Ec.sqN x)) PR) false))) (Value.cells (uv x)) 26 (0, 0) kr kr kr kr kr (of_decide_eq_true kr) kr ?_
      refine s_load H15 (some 133) 24 (.tmp 2) 4 b1 (Value.cells (uv x)) 24 (0, 0) kr kr kr kr kr ?_
      refine s_opE (some 134) _ (.bool (decide (x = x))) (.bool true) kr (fun o w ho => eqU_run (x := (.tmp 132)) (y := (.tmp 133)) x x hx hx w ho kr kr) (by rw [decide_eq_true rfl] <;> rfl) kr ?_
      refine s_val (some 135) (.bool true) (fun w => kr) kr ?_
      refine s_val (some 136) (.bool true) (fun w => kr) kr ?_
      refine s_val (some 137) (.pointer (some ⟨b5, 0, none⟩)) (fun w => kr) kr ?_
      refine s_loadp H15 (some 138) 24 (.tmp 137) 0 b5 0 4 (Value.cells (pv (Ec.Pd.mk x (rt (Ec.sqN x)) false))) (Value.cells (uv x)) 26 (0, 0) kr kr kr kr kr (of_decide_eq_true kr) kr ?_
      refine s_load H15 (some 139) 24 (.tmp 2) 4 b1 (Value.cells (uv x)) 24 (0, 0) kr kr kr kr kr ?_
      refine s_opE (some 140) _ (.bool (decide (x = x))) (.bool true) kr (fun o w ho => eqU_run (x := (.tmp 138)) (y := (.tmp 139)) x x hx hx w ho kr kr) (by rw [decide_eq_true rfl] <;> rfl) kr ?_
      refine s_val (some 141) (.bool true) (fun w => kr) kr ?_
      refine s_val (some 142) (.bool true) (fun w => kr) kr ?_
      refine s_val (some 143) (.pointer (some ⟨b4, 4, none⟩)) (fun w => kr) kr ?_
      refine s_val (some 144) (.pointer (some ⟨b4, 4, none⟩)) (fun w => kr) kr ?_
      refine s_load1 H15 (some 145) 22 (.tmp 144) 1 b4 4 (Value.cells (pv (Ec.Pd.mk x (fSub 0 (rt (Ec.sqN x)) PR) false))) 26 (0, 0) (.int .u64 (wu0 (fSub 0 (rt (Ec.sqN x)) PR))) kr kr kr kr kr kr ?_
      refine s_valE (some 146) (.int .u64 (Go.bits .and .u64 (wu0 (fSub 0 (rt (Ec.sqN x)) PR)) 1)) (.int .u64 1) (fun w => kr) (int_eq (w0_odd (odd_odd hs))) kr ?_
      refine s_val (some 147) (.bool true) (fun w => kr) kr ?_
      refine s_val (some 148) (.bool true) (fun w => kr) kr ?_
      refine s_val (some 149) (.bool true) (fun w => kr) kr ?_
      refine s_val (some 150) (.pointer (some ⟨b5, 4, none⟩)) (fun w => kr) kr ?_
      refine s_val (some 151) (.pointer (some ⟨b5, 4, none⟩)) (fun w => kr) kr ?_
      refine s_load1 H15 (some 152) 22 (.tmp 151) 0 b5 4 (Value.cells (pv (Ec.Pd.mk x (rt (Ec.sqN x)) false))) 26 (0, 0) (.int .u64 (wu0 (rt (Ec.sqN x)))) kr kr kr kr kr kr ?_
      refine s_valE (some 153) (.int .u64 (Go.bits .and .u64 (wu0 (rt (Ec.sqN x))) 1)) (.int .u64 0) (fun w => kr) (int_eq (w0_even (rt_even _))) kr ?_
      refine s_val (some 154) (.bool true) (fun w => kr) kr ?_
      refine s_val (some 155) (.bool true) (fun w => kr) kr ?_
      refine s_val (some 4) (.bool true) (fun w => kr) kr ?_
      refine s_nil ?_
      refine g_ret kr ?_
      show ∃ vs, Res _ _ _ _ vs ∧ _
      refine ⟨[.bool true], (.tmp (.bool true) kr .nil), ?_, H15.below⟩
      rfl
    · skip
      refine s_load H5 (some 65) 24 (.tmp 2) 2 b1 (Value.cells (uv x)) 24 (0, 0) kr kr kr kr kr ?_
      refine s_call H5 (some 66) 25 #[uv x, .bool true] (.tuple #[pv (Ec.Pd.mk 0 0 false), .int .i64 6]) (liftNo_fn x hx hxr hs true) (fun w => kr) kr ?_
      intro w16 H16; clear H5
      refine s_val (some 64) (.tuple #[pv (Ec.Pd.mk 0 0 false), .int .i64 6]) (fun w => kr) kr ?_
      refine s_val (some 67) (pv (Ec.Pd.mk 0 0 false)) (fun w => kr) kr ?_
      refine s_val (some 68) (.int .i64 6) (fun w => kr) kr ?_
      refine s_alloc H16 (some 11) 26 (.agg Z9) kr kr kr ?_
      intro b6 w17 H17; clear H16
      refine s_store H17 0 [(b6, Oc (pv (Ec.Pd.mk 0 0 false)) 26), (b3, Oc (pv (Ec.ofPt Ec.Pt.zero)) 26), (b2, Oc (uv n) 24), (b1, Oc (uv x) 24)] 26 (.tmp 11) (.tmp 67) b6 (0) Z9 (Value.cells (pv (Ec.Pd.mk 0 0 false))) 26 (pv (Ec.Pd.mk 0 0 false)) kr kr kr kr kr kr (of_decide_eq_true kr) kr kr ?_
      intro w18 H18; clear H17
      refine s_val (some 12) (.int .i64 6) (fun w => kr) kr ?_
      refine s_nil ?_
      refine g_sreg [0, 1, 2, 3, 4, 5, 6, 7] kr kr ?_
      refine s_load H18 (some 70) 24 (.tmp 2) 3 b1 (Value.cells (uv x)) 24 (0, 0) kr kr kr kr kr ?_
      refine s_call H18 (some 71) 25 #[uv x, .bool false] (.tuple #[pv (Ec.Pd.mk 0 0 false), .int .i64 6]) (liftNo_fn x hx hxr hs false) (fun w => kr) kr ?_
      intro w19 H19; clear H18
      refine s_val (some 69) (.tuple #[pv (Ec.Pd.mk 0 0 false), .int .i64 6]) (fun w => kr) kr ?_
      refine s_val (some 72) (pv (Ec.Pd.mk 0 0 false)) (fun w => kr) kr ?_
      refine s_val (some 73) (.int .i64 6) (fun w => kr) kr ?_
      refine s_alloc H19 (some 13) 26 (.agg Z9) kr kr kr ?_
      intro b7 w20 H20; clear H19
      refine s_store H20 0 [(b7, Oc (pv (Ec.Pd.mk 0 0 false)) 26), (b6, Oc (pv (Ec.Pd.mk 0 0 false)) 26), (b3, Oc (pv (Ec.ofPt Ec.Pt.zero)) 26), (b2, Oc (uv n) 24), (b1, Oc (uv x) 24)] 26 (.tmp 13) (.tmp 72) b7 (0) Z9 (Value.cells (pv (Ec.Pd.mk 0 0 false))) 26 (pv (Ec.Pd.mk 0 0 false)) kr kr kr kr kr kr (of_decide_eq_true kr) kr kr ?_
      intro w21 H21; clear H20
      refine s_val (some 14) (.int .i64 6) (fun w => kr) kr ?_
      refine s_nil ?_
      refine g_seq kr ?_
      refine g_sreg [0, 1, 2] kr kr ?_
      refine s_load H21 (some 74) 24 (.tmp 2) 4 b1 (Value.cells (uv x)) 24 (0, 0) kr kr kr kr kr ?_
      refine s_call H21 (some 75) 26 #[uv x] (.bool true) (rred_yes x hx hxr) (fun w => kr) kr ?_
      intro w22 H22; clear H21
      refine s_val (some 76) (.bool false) (fun w => kr) kr ?_
      refine s_nil ?_
      refine g_cond_f kr kr ?_
      refine g_skip kr ?_
      show WP _ _ _ _ _ _
      refine g_seq kr ?_
      refine g_sreg [0, 1] kr kr ?_
      refine s_val (some 96) (.int .i64 6) (fun w => kr) kr ?_
      refine s_val (some 97) (.bool true) (fun w => kr) kr ?_
      refine s_nil ?_
      refine g_cond_t kr kr ?_
      refine g_sreg [0, 1, 2, 3, 4, 5, 6, 7, 8, 9, 10, 11, 12, 13, 14, 15, 16, 17, 18, 19] kr kr ?_
      refine s_call H22 (some 98) 12 #[] (.bool true) alive06_fn (fun w => kr) kr ?_
      intro w23 H23; clear H22
      refine s_val (some 99) (.bool true) (fun w => kr) kr ?_
      refine s_val (some 100) (.int .i64 6) (fun w => kr) kr ?_
      refine s_val (some 101) (.bool true) (fun w => kr) kr ?_
      refine s_val (some 102) (.bool true) (fun w => kr) kr ?_
      refine s_val (some 103) (.bool true) (fun w => kr) kr ?_
      refine s_val (some 104) (.int .i64 6) (fun w => kr) kr ?_
      refine s_val (some 105) (.bool true) (fun w => kr) kr ?_
      refine s_val (some 106) (.bool true) (fun w => kr) kr ?_
      refine s_val (some 107) (.bool true) (fun w => kr) kr ?_
      refine s_load H23 (some 108) 26 (.tmp 11) 1 b6 (Value.cells (pv (Ec.Pd.mk 0 0 false))) 26 (0, 0) kr kr kr kr kr ?_
      refine s_val (some 109) (pv (Ec.Pd.mk 0 0 false)) (fun w => kr) kr ?_
      refine s_opE (some 110) _ (.bool (decide ((Ec.Pd.mk 0 0 false) = (Ec.Pd.mk 0 0 false)))) (.bool true) kr (fun o w ho => eqP_run (x := (.tmp 108)) (y := (.tmp 109)) (Ec.Pd.mk 0 0 false) (Ec.Pd.mk 0 0 false) (Ec.Pd.Ok.mk (p := Ec.Pd.mk 0 0 false) Ec.big_0 Ec.big_0) (Ec.Pd.Ok.mk (p := Ec.Pd.mk 0 0 false) Ec.big_0 Ec.big_0) w ho kr kr) (by rw [decide_eq_true (p := (Ec.Pd.mk 0 0 false) = (Ec.Pd.mk 0 0 false)) rfl] <;> rfl) kr ?_
      refine s_val (some 111) (.bool true) (fun w => kr) kr ?_
      refine s_val (some 112) (.bool true) (fun w => kr) kr ?_
      refine s_load H23 (some 113) 26 (.tmp 13) 0 b7 (Value.cells (pv (Ec.Pd.mk 0 0 false))) 26 (0, 0) kr kr kr kr kr ?_
      refine s_load H23 (some 114) 26 (.tmp 11) 1 b6 (Value.cells (pv (Ec.Pd.mk 0 0 false))) 26 (0, 0) kr kr kr kr kr ?_
      refine s_opE (some 115) _ (.bool (decide ((Ec.Pd.mk 0 0 false) = (Ec.Pd.mk 0 0 false)))) (.bool true) kr (fun o w ho => eqP_run (x := (.tmp 113)) (y := (.tmp 114)) (Ec.Pd.mk 0 0 false) (Ec.Pd.mk 0 0 false) (Ec.Pd.Ok.mk (p := Ec.Pd.mk 0 0 false) Ec.big_0 Ec.big_0) (Ec.Pd.Ok.mk (p := Ec.Pd.mk 0 0 false) Ec.big_0 Ec.big_0) w ho kr kr) (by rw [decide_eq_true (p := (Ec.Pd.mk 0 0 false) = (Ec.Pd.mk 0 0 false)) rfl] <;> rfl) kr ?_
      refine s_val (some 116) (.bool true) (fun w => kr) kr ?_
      refine s_val (some 4) (.bool true) (fun w => kr) kr ?_
      refine s_nil ?_
      refine g_ret kr ?_
      show ∃ vs, Res _ _ _ _ vs ∧ _
      refine ⟨[.bool true], (.tmp (.bool true) kr .nil), ?_, H23.below⟩
      rfl
  · skip
    refine s_load H5 (some 65) 24 (.tmp 2) 2 b1 (Value.cells (uv x)) 24 (0, 0) kr kr kr kr kr ?_
    refine s_call H5 (some 66) 25 #[uv x, .bool true] (.tuple #[pv (Ec.Pd.mk 0 0 false), .int .i64 1]) (liftArg_fn x hx hxr true) (fun w => kr) kr ?_
    intro w24 H24; clear H5
    refine s_val (some 64) (.tuple #[pv (Ec.Pd.mk 0 0 false), .int .i64 1]) (fun w => kr) kr ?_
    refine s_val (some 67) (pv (Ec.Pd.mk 0 0 false)) (fun w => kr) kr ?_
    refine s_val (some 68) (.int .i64 1) (fun w => kr) kr ?_
    refine s_alloc H24 (some 11) 26 (.agg Z9) kr kr kr ?_
    intro b8 w25 H25; clear H24
    refine s_store H25 0 [(b8, Oc (pv (Ec.Pd.mk 0 0 false)) 26), (b3, Oc (pv (Ec.ofPt Ec.Pt.zero)) 26), (b2, Oc (uv n) 24), (b1, Oc (uv x) 24)] 26 (.tmp 11) (.tmp 67) b8 (0) Z9 (Value.cells (pv (Ec.Pd.mk 0 0 false))) 26 (pv (Ec.Pd.mk 0 0 false)) kr kr kr kr kr kr (of_decide_eq_true kr) kr kr ?_
    intro w26 H26; clear H25
    refine s_val (some 12) (.int .i64 1) (fun w => kr) kr ?_
    refine s_nil ?_
    refine g_sreg [0, 1, 2, 3, 4, 5, 6, 7] kr kr ?_
    refine s_load H26 (some 70) 24 (.tmp 2) 3 b1 (Value.cells (uv x)) 24 (0, 0) kr kr kr kr kr ?_
    refine s_call H26 (some 71) 25 #[uv x, .bool false] (.tuple #[pv (Ec.Pd.mk 0 0 false), .int .i64 1]) (liftArg_fn x hx hxr false) (fun w => kr) kr ?_
    intro w27 H27; clear H26
    refine s_val (some 69) (.tuple #[pv (Ec.Pd.mk 0 0 false), .int .i64 1]) (fun w => kr) kr ?_
    refine s_val (some 72) (pv (Ec.Pd.mk 0 0 false)) (fun w => kr) kr ?_
    refine s_val (some 73) (.int .i64 1) (fun w => kr) kr ?_
    refine s_alloc H27 (some 13) 26 (.agg Z9) kr kr kr ?_
    intro b9 w28 H28; clear H27
    refine s_store H28 0 [(b9, Oc (pv (Ec.Pd.mk 0 0 false)) 26), (b8, Oc (pv (Ec.Pd.mk 0 0 false)) 26), (b3, Oc (pv (Ec.ofPt Ec.Pt.zero)) 26), (b2, Oc (uv n) 24), (b1, Oc (uv x) 24)] 26 (.tmp 13) (.tmp 72) b9 (0) Z9 (Value.cells (pv (Ec.Pd.mk 0 0 false))) 26 (pv (Ec.Pd.mk 0 0 false)) kr kr kr kr kr kr (of_decide_eq_true kr) kr kr ?_
    intro w29 H29; clear H28
    refine s_val (some 14) (.int .i64 1) (fun w => kr) kr ?_
    refine s_nil ?_
    refine g_seq kr ?_
    refine g_sreg [0, 1, 2] kr kr ?_
    refine s_load H29 (some 74) 24 (.tmp 2) 4 b1 (Value.cells (uv x)) 24 (0, 0) kr kr kr kr kr ?_
    refine s_call H29 (some 75) 26 #[uv x] (.bool false) (rred_no x hx hxr) (fun w => kr) kr ?_
    intro w30 H30; clear H29
    refine s_val (some 76) (.bool true) (fun w => kr) kr ?_
    refine s_nil ?_
    refine g_cond_t kr kr ?_
    refine g_sreg [0, 1, 2, 3, 4, 5, 6, 7, 8, 9, 10, 11, 12, 13, 14, 15, 16, 17, 18, 19] kr kr ?_
    refine s_call H30 (some 77) 12 #[] (.bool true) alive06_fn (fun w => kr) kr ?_
    intro w31 H31; clear H30
    refine s_val (some 78) (.bool true) (fun w => kr) kr ?_
    refine s_val (some 79) (.int .i64 1) (fun w => kr) kr ?_
    refine s_val (some 80) (.bool true) (fun w => kr) kr ?_
    refine s_val (some 81) (.bool true) (fun w => kr) kr ?_
    refine s_val (some 82) (.bool true) (fun w => kr) kr ?_
    refine s_val (some 83) (.int .i64 1) (fun w => kr) kr ?_
    refine s_val (some 84) (.bool true) (fun w => kr) kr ?_
    refine s_val (some 85) (.bool true) (fun w => kr) kr ?_
    refine s_val (some 86) (.bool true) (fun w => kr) kr ?_
    refine s_load H31 (some 87) 26 (.tmp 11) 1 b8 (Value.cells (pv (Ec.Pd.mk 0 0 false))) 26 (0, 0) kr kr kr kr kr ?_
    refine s_val (some 88) (pv (Ec.Pd.mk 0 0 false)) (fun w => kr) kr ?_
    refine s_opE (some 89) _ (.bool (decide ((Ec.Pd.mk 0 0 false) = (Ec.Pd.mk 0 0 false)))) (.bool true) kr (fun o w ho => eqP_run (x := (.tmp 87)) (y := (.tmp 88)) (Ec.Pd.mk 0 0 false) (Ec.Pd.mk 0 0 false) (Ec.Pd.Ok.mk (p := Ec.Pd.mk 0 0 false) Ec.big_0 Ec.big_0) (Ec.Pd.Ok.mk (p := Ec.Pd.mk 0 0 false) Ec.big_0 Ec.big_0) w ho kr kr) (by rw [decide_eq_true (p := (Ec.Pd.mk 0 0 false) = (Ec.Pd.mk 0 0 false)) rfl] <;> rfl) kr ?_
    refine s_val (some 90) (.bool true) (fun w => kr) kr ?_
    refine s_val (some 91) (.bool true) (fun w => kr) kr ?_
    refine s_load H31 (some 92) 26 (.tmp 13) 0 b9 (Value.cells (pv (Ec.Pd.mk 0 0 false))) 26 (0, 0) kr kr kr kr kr ?_
    refine s_load H31 (some 93) 26 (.tmp 11) 1 b8 (Value.cells (pv (Ec.Pd.mk 0 0 false))) 26 (0, 0) kr kr kr kr kr ?_
    refine s_opE (some 94) _ (.bool (decide ((Ec.Pd.mk 0 0 false) = (Ec.Pd.mk 0 0 false)))) (.bool true) kr (fun o w ho => eqP_run (x := (.tmp 92)) (y := (.tmp 93)) (Ec.Pd.mk 0 0 false) (Ec.Pd.mk 0 0 false) (Ec.Pd.Ok.mk (p := Ec.Pd.mk 0 0 false) Ec.big_0 Ec.big_0) (Ec.Pd.Ok.mk (p := Ec.Pd.mk 0 0 false) Ec.big_0 Ec.big_0) w ho kr kr) (by rw [decide_eq_true (p := (Ec.Pd.mk 0 0 false) = (Ec.Pd.mk 0 0 false)) rfl] <;> rfl) kr ?_
    refine s_val (some 95) (.bool true) (fun w => kr) kr ?_
    refine s_val (some 4) (.bool true) (fun w => kr) kr ?_
    refine s_nil ?_
    refine g_ret kr ?_
    show ∃ vs, Res _ _ _ _ vs ∧ _
    refine ⟨[.bool true], (.tmp (.bool true) kr .nil), ?_, H31.below⟩
    rfl

set_option maxRecDepth 100000 in
set_option maxHeartbeats 2000000 in
theorem lifts_1 (x : Nat) (hx : x < big) (n : Nat) (hn : n < big) (x1 y1 : Ec.Fp) (hP : Ec.Pt.On Ec.seven (.pt x1 y1)) (ho : Zm.Zm.v y1 % 2 = 1) (hm : Ec.mulP Ec.G n = .pt x1 y1) : Fn Try.prog 7 #[uv x, uv n] (.bool true) := by
  refine Fn.intro (c := codeOf Try.f7) [.tmp 4] 156 Try.func7 kr kr kr fun w => ?_
  have H0 := St.start w
  refine g_sreg [0, 1, 2] kr kr ?_
  refine s_box H0 (some 2) 24 (.tmp 0) (uv x) kr kr kr ?_
  intro b1 w1 H1; clear H0
  refine s_box H1 (some 3) 24 (.tmp 1) (uv n) kr kr kr ?_
  intro b2 w2 H2; clear H1
  refine s_val (some 4) (.bool false) (fun w => kr) kr ?_
  refine s_nil ?_
  refine g_sreg [0, 1, 2, 3, 4, 5, 6, 7] kr kr ?_
  refine s_load H2 (some 16) 24 (.tmp 3) 0 b2 (Value.cells (uv n)) 24 (0, 0) kr kr kr kr kr ?_
  refine s_call H2 (some 17) 9 #[uv n] (.tuple #[pv (Ec.ofPt (Ec.Pt.pt x1 y1)), .bool true]) (by have h9 := at6_fn n hn; rw [hm] at h9; exact h9) (fun w => kr) kr ?_
  intro w3 H3; clear H2
  refine s_val (some 15) (.tuple #[pv (Ec.ofPt (Ec.Pt.pt x1 y1)), .bool true]) (fun w => kr) kr ?_
  refine s_val (some 18) (pv (Ec.ofPt (Ec.Pt.pt x1 y1))) (fun w => kr) kr ?_
  refine s_val (some 19) (.bool true) (fun w => kr) kr ?_
  refine s_alloc H3 (some 5) 26 (.agg Z9) kr kr kr ?_
  intro b3 w4 H4; clear H3
  refine s_store H4 0 [(b3, Oc (pv (Ec.ofPt (Ec.Pt.pt x1 y1))) 26), (b2, Oc (uv n) 24), (b1, Oc (uv x) 24)] 26 (.tmp 5) (.tmp 18) b3 (0) Z9 (Value.cells (pv (Ec.ofPt (Ec.Pt.pt x1 y1)))) 26 (pv (Ec.ofPt (Ec.Pt.pt x1 y1))) kr kr kr kr kr kr (of_decide_eq_true kr) kr kr ?_
  intro w5 H5; clear H4
  refine s_val (some 6) (.bool true) (fun w => kr) kr ?_
  refine s_nil ?_
  refine g_seq kr ?_
  refine g_sreg [0, 1] kr kr ?_
  refine s_val (some 20) (.bool true) (fun w => kr) kr ?_
  refine s_val (some 21) (.bool false) (fun w => kr) kr ?_
  refine s_nil ?_
  refine g_cond_f kr kr ?_
  refine g_skip kr ?_
  show WP _ _ _ _ _ _
  refine g_seq kr ?_
  refine g_sreg [0, 1, 2] kr kr ?_
  refine s_val (some 22) (.pointer (some ⟨b3, 8, none⟩)) (fun w => kr) kr ?_
  refine s_load1 H5 (some 23) 4 (.tmp 22) 0 b3 8 (Value.cells (pv (Ec.ofPt (Ec.Pt.pt x1 y1)))) 26 (0, 0) (.bool false) kr kr kr kr kr kr ?_
  refine s_val (some 24) (.bool true) (fun w => kr) kr ?_
  refine s_nil ?_
  refine g_cond_t kr kr ?_
  refine g_sreg [0, 1, 2, 3, 4, 5, 6, 7, 8, 9, 10, 11, 12, 13] kr kr ?_
  refine s_val (some 26) (.pointer (some ⟨b3, 0, none⟩)) (fun w => kr) kr ?_
  refine s_loadp H5 (some 27) 24 (.tmp 26) 0 b3 0 4 (Value.cells (pv (Ec.ofPt (Ec.Pt.pt x1 y1)))) (Value.cells (uv (Zm.Zm.v x1))) 26 (0, 0) kr kr kr kr kr (of_decide_eq_true kr) kr ?_
  refine s_val (some 28) (.pointer (some ⟨b3, 4, none⟩)) (fun w => kr) kr ?_
  refine s_val (some 29) (.pointer (some ⟨b3, 4, none⟩)) (fun w => kr) kr ?_
  refine s_load1 H5 (some 30) 22 (.tmp 29) 0 b3 4 (Value.cells (pv (Ec.ofPt (Ec.Pt.pt x1 y1)))) 26 (0, 0) (.int .u64 (wu0 (Zm.Zm.v y1))) kr kr kr kr kr kr ?_
  refine s_valE (some 31) (.int .u64 (Go.bits .and .u64 (wu0 (Zm.Zm.v y1)) 1)) (.int .u64 1) (fun w => kr) (int_eq (w0_odd ho)) kr ?_
  refine s_val (some 32) (.bool true) (fun w => kr) kr ?_
  refine s_call H5 (some 33) 25 #[uv (Zm.Zm.v x1), .bool true] (.tuple #[pv (Ec.Pd.mk (Zm.Zm.v x1) (fSub 0 (rt (Ec.sqN (Zm.Zm.v x1))) PR) false), .int .i64 0]) (lift1_fn (Zm.Zm.v x1) (Ec.P_big (Zm.Zm.lt x1)) (Zm.Zm.lt x1) (root_yes_pt hP)) (fun w => kr) kr ?_
  intro w6 H6; clear H5
  refine s_val (some 25) (.tuple #[pv (Ec.Pd.mk (Zm.Zm.v x1) (fSub 0 (rt (Ec.sqN (Zm.Zm.v x1))) PR) false), .int .i64 0]) (fun w => kr) kr ?_
  refine s_val (some 34) (pv (Ec.Pd.mk (Zm.Zm.v x1) (fSub 0 (rt (Ec.sqN (Zm.Zm.v x1))) PR) false)) (fun w => kr) kr ?_
  refine s_val (some 35) (.int .i64 0) (fun w => kr) kr ?_
  refine s_alloc H6 (some 7) 26 (.agg Z9) kr kr kr ?_
  intro b4 w7 H7; clear H6
  refine s_store H7 0 [(b4, Oc (pv (Ec.Pd.mk (Zm.Zm.v x1) (fSub 0 (rt (Ec.sqN (Zm.Zm.v x1))) PR) false)) 26), (b3, Oc (pv (Ec.ofPt (Ec.Pt.pt x1 y1))) 26), (b2, Oc (uv n) 24), (b1, Oc (uv x) 24)] 26 (.tmp 7) (.tmp 34) b4 (0) Z9 (Value.cells (pv (Ec.Pd.mk (Zm.Zm.v x1) (fSub 0 (rt (Ec.sqN (Zm.Zm.v x1))) PR) false))) 26 (pv (Ec.Pd.mk (Zm.Zm.v x1) (fSub 0 (rt (Ec.sqN (Zm.Zm.v x1))) PR) false)) kr kr kr kr kr kr (of_decide_eq_true kr) kr kr ?_
  intro w8 H8; clear H7
  refine s_val (some 8) (.int .i64 0) (fun w => kr) kr ?_
  refine s_nil ?_
  refine g_sreg [0, 1, 2, 3, 4, 5, 6, 7, 8, 9, 10, 11, 12, 13] kr kr ?_
  refine s_val (some 37) (.pointer (some ⟨b3, 0, none⟩)) (fun w => kr) kr ?_
  refine s_loadp H8 (some 38) 24 (.tmp 37) 1 b3 0 4 (Value.cells (pv (Ec.ofPt (Ec.Pt.pt x1 y1)))) (Value.cells (uv (Zm.Zm.v x1))) 26 (0, 0) kr kr kr kr kr (of_decide_eq_true kr) kr ?_
  refine s_val (some 39) (.pointer (some ⟨b3, 4, none⟩)) (fun w => kr) kr ?_
  refine s_val (some 40) (.pointer (some ⟨b3, 4, none⟩)) (fun w => kr) kr ?_
  refine s_load1 H8 (some 41) 22 (.tmp 40) 1 b3 4 (Value.cells (pv (Ec.ofPt (Ec.Pt.pt x1 y1)))) 26 (0, 0) (.int .u64 (wu0 (Zm.Zm.v y1))) kr kr kr kr kr kr ?_
  refine s_valE (some 42) (.int .u64 (Go.bits .and .u64 (wu0 (Zm.Zm.v y1)) 1)) (.int .u64 1) (fun w => kr) (int_eq (w0_odd ho)) kr ?_
  refine s_val (some 43) (.bool false) (fun w => kr) kr ?_
  refine s_call H8 (some 44) 25 #[uv (Zm.Zm.v x1), .bool false] (.tuple #[pv (Ec.Pd.mk (Zm.Zm.v x1) (rt (Ec.sqN (Zm.Zm.v x1))) false), .int .i64 0]) (lift0_fn (Zm.Zm.v x1) (Ec.P_big (Zm.Zm.lt x1)) (Zm.Zm.lt x1) (root_yes_pt hP)) (fun w => kr) kr ?_
  intro w9 H9; clear H8
  refine s_val (some 36) (.tuple #[pv (Ec.Pd.mk (Zm.Zm.v x1) (rt (Ec.sqN (Zm.Zm.v x1))) false), .int .i64 0]) (fun w => kr) kr ?_
  refine s_val (some 45) (pv (Ec.Pd.mk (Zm.Zm.v x1) (rt (Ec.sqN (Zm.Zm.v x1))) false)) (fun w => kr) kr ?_
  refine s_val (some 46) (.int .i64 0) (fun w => kr) kr ?_
  refine s_alloc H9 (some 9) 26 (.agg Z9) kr kr kr ?_
  intro b5 w10 H10; clear H9
  refine s_store H10 0 [(b5, Oc (pv (Ec.Pd.mk (Zm.Zm.v x1) (rt (Ec.sqN (Zm.Zm.v x1))) false)) 26), (b4, Oc (pv (Ec.Pd.mk (Zm.Zm.v x1) (fSub 0 (rt (Ec.sqN (Zm.Zm.v x1))) PR) false)) 26), (b3, Oc (pv (Ec.ofPt (Ec.Pt.pt x1 y1))) 26), (b2, Oc (uv n) 24), (b1, Oc (uv x) 24)] 26 (.tmp 9) (.tmp 45) b5 (0) Z9 (Value.cells (pv (Ec.Pd.mk (Zm.Zm.v x1) (rt (Ec.sqN (Zm.Zm.v x1))) false))) 26 (pv (Ec.Pd.mk (Zm.Zm.v x1) (rt (Ec.sqN (Zm.Zm.v x1))) false)) kr kr kr kr kr kr (of_decide_eq_true kr) kr kr ?_
  intro w11 H11; clear H10
  refine s_val (some 10) (.int .i64 0) (fun w => kr) kr ?_
  refine s_nil ?_
  refine D2.g_sdraw [0, 1, 2, 3, 4, 5, 6, 7, 8, 9, 10, 11, 12, 13, 14, 15, 16] [((some 47), fun _ => .int .i64 0), ((some 48), fun _ => .bool false), ((some 49), fun _ => .bool false), ((some 50), fun _ => .int .i64 0), ((some 51), fun _ => .bool false), ((some 52), fun _ => .bool false), ((some 53), fun _ => .bool false), ((some 54), fun _ => pv (Ec.Pd.mk (Zm.Zm.v x1) (fSub 0 (rt (Ec.sqN (Zm.Zm.v x1))) PR) false)), ((some 55), fun _ => pv (Ec.ofPt (Ec.Pt.pt x1 y1))), ((some 56), fun _ => .bool false), ((some 57), fun _ => .bool false), ((some 58), fun _ => .bool false), ((some 59), fun _ => pv (Ec.Pd.mk (Zm.Zm.v x1) (rt (Ec.sqN (Zm.Zm.v x1))) false)), ((some 60), fun _ => pv (Ec.ofPt (Ec.Pt.pt x1 y1))), ((some 61), fun _ => pv (Ec.ofPt (Ec.Pt.neg (Ec.Pt.pt x1 y1)))), ((some 62), fun _ => .bool false), ((some 63), fun _ => .bool false)] (D2.Pre w.heap.size w (fun L g => [(true, (b5, Oc (pv (Ec.Pd.mk (Zm.Zm.v x1) (rt (Ec.sqN (Zm.Zm.v x1))) false)) 26)), (true, (b4, Oc (pv (Ec.Pd.mk (Zm.Zm.v x1) (fSub 0 (rt (Ec.sqN (Zm.Zm.v x1))) PR) false)) 26)), (true, (b3, Oc (pv (Ec.ofPt (Ec.Pt.pt x1 y1))) 26)), (true, (b2, Oc (uv n) 24)), (true, (b1, Oc (uv x) 24))]) (fun L g => True)) kr kr kr kr ⟨D2.StE.of H11.drew _ kr, trivial⟩ ⟨?_, ?_, ?_, ?_, ?_, ?_, ?_, ?_, ?_, ?_, ?_, ?_, ?_, ?_, ?_, ?_, ?_, trivial⟩ ?_
  · exact D2.gv_val (fun _ _ _ h => h) (fun g w => kr)
  · exact D2.gv_val (fun _ _ _ h => h) (fun g w => kr)
  · exact D2.gv_val (fun _ _ _ h => h) (fun g w => kr)
  · exact D2.gv_val (fun _ _ _ h => h) (fun g w => kr)
  · exact D2.gv_val (fun _ _ _ h => h) (fun g w => kr)
  · exact D2.gv_val (fun _ _ _ h => h) (fun g w => kr)
  · exact D2.gv_val (fun _ _ _ h => h) (fun g w => kr)
  · exact D2.gv_load 26 (.tmp 7) 1 (fun g => b4) (Value.cells (pv (Ec.Pd.mk (Zm.Zm.v x1) (fSub 0 (rt (Ec.sqN (Zm.Zm.v x1))) PR) false))) 26 (0, 0) (fun _ _ _ h => h) (fun g => kr) (fun g => kr) (fun L g hN => kr) kr
  · exact D2.gv_load 26 (.tmp 5) 2 (fun g => b3) (Value.cells (pv (Ec.ofPt (Ec.Pt.pt x1 y1)))) 26 (0, 0) (fun _ _ _ h => h) (fun g => kr) (fun g => kr) (fun L g hN => kr) kr
  · exact D2.gv_opE (fun _ _ _ h => h) _ (V' := .bool (!decide ((Ec.Pd.mk (Zm.Zm.v x1) (fSub 0 (rt (Ec.sqN (Zm.Zm.v x1))) PR) false) = (Ec.ofPt (Ec.Pt.pt x1 y1))))) (fun g => kr) (fun g o w ho => neP_run (x := (.tmp 54)) (y := (.tmp 55)) (Ec.Pd.mk (Zm.Zm.v x1) (fSub 0 (rt (Ec.sqN (Zm.Zm.v x1))) PR) false) (Ec.ofPt (Ec.Pt.pt x1 y1)) (Ec.Pd.Ok.mk (p := Ec.Pd.mk (Zm.Zm.v x1) (fSub 0 (rt (Ec.sqN (Zm.Zm.v x1))) PR) false) (Ec.P_big (Zm.Zm.lt x1)) (fSub_lt pr_ok)) (Ec.ofPt_ok _) w ho kr kr) (by rw [decide_eq_true (p := (Ec.Pd.mk (Zm.Zm.v x1) (fSub 0 (rt (Ec.sqN (Zm.Zm.v x1))) PR) false) = (Ec.ofPt (Ec.Pt.pt x1 y1))) (lift_oddP hP ho)] <;> rfl)
  · exact D2.gv_val (fun _ _ _ h => h) (fun g w => kr)
  · exact D2.gv_val (fun _ _ _ h => h) (fun g w => kr)
  · exact D2.gv_load 26 (.tmp 9) 0 (fun g => b5) (Value.cells (pv (Ec.Pd.mk (Zm.Zm.v x1) (rt (Ec.sqN (Zm.Zm.v x1))) false))) 26 (0, 0) (fun _ _ _ h => h) (fun g => kr) (fun g => kr) (fun L g hN => kr) kr
  · exact D2.gv_load 26 (.tmp 5) 2 (fun g => b3) (Value.cells (pv (Ec.ofPt (Ec.Pt.pt x1 y1)))) 26 (0, 0) (fun _ _ _ h => h) (fun g => kr) (fun g => kr) (fun L g hN => kr) kr
  · exact D2.gv_call 15 #[pv (Ec.ofPt (Ec.Pt.pt x1 y1))] (fun _ _ _ h => h) (turned_fn (Ec.Pt.pt x1 y1) hP) (fun g w => kr)
  · exact D2.gv_opE (fun _ _ _ h => h) _ (V' := .bool (!decide ((Ec.Pd.mk (Zm.Zm.v x1) (rt (Ec.sqN (Zm.Zm.v x1))) false) = (Ec.ofPt (Ec.Pt.neg (Ec.Pt.pt x1 y1)))))) (fun g => kr) (fun g o w ho => neP_run (x := (.tmp 59)) (y := (.tmp 61)) (Ec.Pd.mk (Zm.Zm.v x1) (rt (Ec.sqN (Zm.Zm.v x1))) false) (Ec.ofPt (Ec.Pt.neg (Ec.Pt.pt x1 y1))) (Ec.Pd.Ok.mk (p := Ec.Pd.mk (Zm.Zm.v x1) (rt (Ec.sqN (Zm.Zm.v x1))) false) (Ec.P_big (Zm.Zm.lt x1)) (rt_lt _)) (Ec.ofPt_ok _) w ho kr kr) (by rw [decide_eq_true (p := (Ec.Pd.mk (Zm.Zm.v x1) (rt (Ec.sqN (Zm.Zm.v x1))) false) = (Ec.ofPt (Ec.Pt.neg (Ec.Pt.pt x1 y1)))) (lift_oddN hP ho)] <;> rfl)
  · exact D2.gv_val (fun _ _ _ h => h) (fun g w => kr)
  intro L0 G12 w12 hall HL; clear H11
  have H12 : St w.heap.size w w12 [(b5, Oc (pv (Ec.Pd.mk (Zm.Zm.v x1) (rt (Ec.sqN (Zm.Zm.v x1))) false)) 26), (b4, Oc (pv (Ec.Pd.mk (Zm.Zm.v x1) (fSub 0 (rt (Ec.sqN (Zm.Zm.v x1))) PR) false)) 26), (b3, Oc (pv (Ec.ofPt (Ec.Pt.pt x1 y1))) 26), (b2, Oc (uv n) 24), (b1, Oc (uv x) 24)] := D2.StE.st HL.1
  clear HL hall
  refine g_cond_f kr kr ?_
  refine g_skip kr ?_
  show WP _ _ _ _ _ _
  refine g_sreg [0, 1, 2, 3, 4, 5, 6, 7] kr kr ?_
  by_cases hxr : x < PR
  · skip
    by_cases hs : (fMul (fpw (Ec.sqN x) QR PR) (fpw (Ec.sqN x) QR PR) PR) = (rs (Ec.sqN x) 0 PR)
    · skip
      refine s_load H12 (some 65) 24 (.tmp 2) 4 b1 (Value.cells (uv x)) 24 (0, 0) kr kr kr kr kr ?_
      refine s_call H12 (some 66) 25 #[uv x, .bool true] (.tuple #[pv (Ec.Pd.mk x (fSub 0 (rt (Ec.sqN x)) PR) false), .int .i64 0]) (lift1_fn x hx hxr hs) (fun w => kr) kr ?_
      intro w13 H13; clear H12
      refine s_val (some 64) (.tuple #[pv (Ec.Pd.mk x (fSub 0 (rt (Ec.sqN x)) PR) false), .int .i64 0]) (fun w => kr) kr ?_
      refine s_val (some 67) (pv (Ec.Pd.mk x (fSub 0 (rt (Ec.sqN x)) PR) false)) (fun w => kr) kr ?_
      refine s_val (some 68) (.int .i64 0) (fun w => kr) kr ?_
      refine s_alloc H13 (some 11) 26 (.agg Z9) kr kr kr ?_
      intro b6 w14 H14; clear H13
      refine s_store H14 0 [(b6, Oc (pv (Ec.Pd.mk x (fSub 0 (rt (Ec.sqN x)) PR) false)) 26), (b5, Oc (pv (Ec.Pd.mk (Zm.Zm.v x1) (rt (Ec.sqN (Zm.Zm.v x1))) false)) 26), (b4, Oc (pv (Ec.Pd.mk (Zm.Zm.v x1) (fSub 0 (rt (Ec.sqN (Zm.Zm.v x1))) PR) false)) 26), (b3, Oc (pv (Ec.ofPt (Ec.Pt.pt x1 y1))) 26), (b2, Oc (uv n) 24), (b1, Oc (uv x) 24)] 26 (.tmp 11) (.tmp 67) b6 (0) Z9 (Value.cells (pv (Ec.Pd.mk x (fSub 0 (rt (Ec.sqN x)) PR) false))) 26 (pv (Ec.Pd.mk x (fSub 0 (rt (Ec.sqN x)) PR) false)) kr kr kr kr kr kr (of_decide_eq_true kr) kr kr ?_
      intro w15 H15; clear H14
      refine s_val (some 12) (.int .i64 0) (fun w => kr) kr ?_
      refine s_nil ?_
      refine g_sreg [0, 1, 2, 3, 4, 5, 6, 7] kr kr ?_
      refine s_load H15 (some 70) 24 (.tmp 2) 5 b1 (Value.cells (uv x)) 24 (0, 0) kr kr kr kr kr ?_
      refine s_call H15 (some 71) 25 #[uv x, .bool false] (.tuple #[pv (Ec.Pd.mk x (rt (Ec.sqN x)) false), .int .i64 0]) (lift0_fn x hx hxr hs) (fun w => kr) kr ?_
      intro w16 H16; clear H15
      refine s_val (some 69) (.tuple #[pv (Ec.Pd.mk x (rt (Ec.sqN x)) false), .int .i64 0]) (fun w => kr) kr ?_
      refine s_val (some 72) (pv (Ec.Pd.mk x (rt (Ec.sqN x)) false)) (fun w => kr) kr ?_
      refine s_val (some 73) (.int .i64 0) (fun w => kr) kr ?_
      refine s_alloc H16 (some 13) 26 (.agg Z9) kr kr kr ?_
      intro b7 w17 H17; clear H16
      refine s_store H17 0 [(b7, Oc (pv (Ec.Pd.mk x (rt (Ec.sqN x)) false)) 26), (b6, Oc (pv (Ec.Pd.mk x (fSub 0 (rt (Ec.sqN x)) PR) false)) 26), (b5, Oc (pv (Ec.Pd.mk (Zm.Zm.v x1) (rt (Ec.sqN (Zm.Zm.v x1))) false)) 26), (b4, Oc (pv (Ec.Pd.mk (Zm.Zm.v x1) (fSub 0 (rt (Ec.sqN (Zm.Zm.v x1))) PR) false)) 26), (b3, Oc (pv (Ec.ofPt (Ec.Pt.pt x1 y1))) 26), (b2, Oc (uv n) 24), (b1, Oc (uv x) 24)] 26 (.tmp 13) (.tmp 72) b7 (0) Z9 (Value.cells (pv (Ec.Pd.mk x (rt (Ec.sqN x)) false))) 26 (pv (Ec.Pd.mk x (rt (Ec.sqN x)) false)) kr kr kr kr kr kr (of_decide_eq_true kr) kr kr ?_
      intro w18 H18; clear H17
      refine s_val (some 14) (.int .i64 0) (fun w => kr) kr ?_
      refine s_nil ?_
      refine g_seq kr ?_
      refine g_sreg [0, 1, 2] kr kr ?_
      refine s_load H18 (some 74) 24 (.tmp 2) 6 b1 (Value.cells (uv x)) 24 (0, 0) kr kr kr kr kr ?_
      refine s_call H18 (some 75) 26 #[uv x] (.bool true) (rred_yes x hx hxr) (fun w => kr) kr ?_
      intro w19 H19; clear H18
      refine s_val (some 76) (.bool false) (fun w => kr) kr ?_
      refine s_nil ?_
      refine g_cond_f kr kr ?_
      refine g_skip kr ?_
      show WP _ _ _ _ _ _
      refine g_seq kr ?_
      refine g_sreg [0, 1] kr kr ?_
      refine s_val (some 96) (.int .i64 0) (fun w => kr) kr ?_
      refine s_val (some 97) (.bool false) (fun w => kr) kr ?_
      refine s_nil ?_
      refine g_cond_f kr kr ?_
      refine g_skip kr ?_
      show WP _ _ _ _ _ _
      refine g_sreg [0, 1, 2, 3, 4, 5, 6, 7, 8, 9, 10, 11, 12, 13, 14, 15, 16, 17, 18, 19, 20, 21, 22, 23, 24, 25, 26, 27, 28, 29, 30, 31, 32, 33, 34, 35, 36, 37, 38, 39] kr kr ?_
      refine s_call H19 (some 117) 12 #[] (.bool true) alive06_fn (fun w => kr) kr ?_
      intro w20 H20; clear H19
      refine s_val (some 118) (.bool true) (fun w => kr) kr ?_
      refine s_val (some 119) (.int .i64 0) (fun w => kr) kr ?_
      refine s_val (some 120) (.bool true) (fun w => kr) kr ?_
      refine s_val (some 121) (.bool true) (fun w => kr) kr ?_
      refine s_val (some 122) (.bool true) (fun w => kr) kr ?_
      refine s_load H20 (some 123) 26 (.tmp 11) 1 b6 (Value.cells (pv (Ec.Pd.mk x (fSub 0 (rt (Ec.sqN x)) PR) false))) 26 (0, 0) kr kr kr kr kr ?_
      refine s_call H20 (some 124) 11 #[pv (Ec.Pd.mk x (fSub 0 (rt (Ec.sqN x)) PR) false)] (.bool true) (ron_yes (Ec.Pd.mk x (fSub 0 (rt (Ec.sqN x)) PR) false) (Ec.Pd.Ok.mk (p := Ec.Pd.mk x (fSub 0 (rt (Ec.sqN x)) PR) false) hx (fSub_lt pr_ok)) (odd_on hxr hs)) (fun w => kr) kr ?_
      intro w21 H21; clear H20
      refine s_val (some 125) (.bool true) (fun w => kr) kr ?_
      refine s_val (some 126) (.bool true) (fun w => kr) kr ?_
      refine s_load H21 (some 127) 26 (.tmp 13) 0 b7 (Value.cells (pv (Ec.Pd.mk x (rt (Ec.sqN x)) false))) 26 (0, 0) kr kr kr kr kr ?_
      refine s_call H21 (some 128) 11 #[pv (Ec.Pd.mk x (rt (Ec.sqN x)) false)] (.bool true) (ron_yes (Ec.Pd.mk x (rt (Ec.sqN x)) false) (Ec.Pd.Ok.mk (p := Ec.Pd.mk x (rt (Ec.sqN x)) false) hx (rt_lt _)) (even_on hxr hs)) (fun w => kr) kr ?_
      intro w22 H22; clear H21
      refine s_val (some 129) (.bool true) (fun w => kr) kr ?_
      refine s_val (some 130) (.bool true) (fun w => kr) kr ?_
      refine s_val (some 131) (.pointer (some ⟨b6, 0, none⟩)) (fun w => kr) kr ?_
      refine s_loadp H22 (some 132) 24 (.tmp 131) 1 b6 0 4 (Value.cells (pv (Ec.Pd.mk x (fSub 0 (rt (Ec.sqN x)) PR) false))) (Value.cells (uv x)) 26 (0, 0) kr kr kr kr kr (of_decide_eq_true kr) kr ?_
      refine s_load H22 (some 133) 24 (.tmp 2) 6 b1 (Value.cells (uv x)) 24 (0, 0) kr kr kr kr kr ?_
      refine s_opE (some 134) _ (.bool (decide (x = x))) (.bool true) kr (fun o w ho => eqU_run (x := (.tmp 132)) (y := (.tmp 133)) x x hx hx w ho kr kr) (by rw [decide_eq_true rfl] <;> rfl) kr ?_
      refine s_val (some 135) (.bool true) (fun w => kr) kr ?_
      refine s_val (some 136) (.bool true) (fun w => kr) kr ?_
      refine s_val (some 137) (.pointer (some ⟨b7, 0, none⟩)) (fun w => kr) kr ?_
      refine s_loadp H22 (some 138) 24 (.tmp 137) 0 b7 0 4 (Value.cells (pv (Ec.Pd.mk x (rt (Ec.sqN x)) false))) (Value.cells (uv x)) 26 (0, 0) kr kr kr kr kr (of_decide_eq_true kr) kr ?_
      refine s_load H22 (some 139) 24 (.tmp 2) 6 b1 (Value.cells (uv x)) 24 (0, 0) kr kr kr kr kr ?_
      refine s_opE (some 140) _ (.bool (decide (x = x))) (.bool true) kr (fun o w ho => eqU_run (x := (.tmp 138)) (y := (.tmp 139)) x x hx hx w ho kr kr) (by rw [decide_eq_true rfl] <;> rfl) kr ?_
      refine s_val (some 141) (.bool true) (fun w => kr) kr ?_
      refine s_val (some 142) (.bool true) (fun w => kr) kr ?_
      refine s_val (some 143) (.pointer (some ⟨b6, 4, none⟩)) (fun w => kr) kr ?_
      refine s_val (some 144) (.pointer (some ⟨b6, 4, none⟩)) (fun w => kr) kr ?_
      refine s_load1 H22 (some 145) 22 (.tmp 144) 1 b6 4 (Value.cells (pv (Ec.Pd.mk x (fSub 0 (rt (Ec.sqN x)) PR) false))) 26 (0, 0) (.int .u64 (wu0 (fSub 0 (rt (Ec.sqN x)) PR))) kr kr kr kr kr kr ?_
      refine s_valE (some 146) (.int .u64 (Go.bits .and .u64 (wu0 (fSub 0 (rt (Ec.sqN x)) PR)) 1)) (.int .u64 1) (fun w => kr) (int_eq (w0_odd (odd_odd hs))) kr ?_
      refine s_val (some 147) (.bool true) (fun w => kr) kr ?_
      refine s_val (some 148) (.bool true) (fun w => kr) kr ?_
      refine s_val (some 149) (.bool true) (fun w => kr) kr ?_
      refine s_val (some 150) (.pointer (some ⟨b7, 4, none⟩)) (fun w => kr) kr ?_
      refine s_val (some 151) (.pointer (some ⟨b7, 4, none⟩)) (fun w => kr) kr ?_
      refine s_load1 H22 (some 152) 22 (.tmp 151) 0 b7 4 (Value.cells (pv (Ec.Pd.mk x (rt (Ec.sqN x)) false))) 26 (0, 0) (.int .u64 (wu0 (rt (Ec.sqN x)))) kr kr kr kr kr kr ?_
      refine s_valE (some 153) (.int .u64 (Go.bits .and .u64 (wu0 (rt (Ec.sqN x))) 1)) (.int .u64 0) (fun w => kr) (int_eq (w0_even (rt_even _))) kr ?_
      refine s_val (some 154) (.bool true) (fun w => kr) kr ?_
      refine s_val (some 155) (.bool true) (fun w => kr) kr ?_
      refine s_val (some 4) (.bool true) (fun w => kr) kr ?_
      refine s_nil ?_
      refine g_ret kr ?_
      show ∃ vs, Res _ _ _ _ vs ∧ _
      refine ⟨[.bool true], (.tmp (.bool true) kr .nil), ?_, H22.below⟩
      rfl
    · skip
      refine s_load H12 (some 65) 24 (.tmp 2) 4 b1 (Value.cells (uv x)) 24 (0, 0) kr kr kr kr kr ?_
      refine s_call H12 (some 66) 25 #[uv x, .bool true] (.tuple #[pv (Ec.Pd.mk 0 0 false), .int .i64 6]) (liftNo_fn x hx hxr hs true) (fun w => kr) kr ?_
      intro w23 H23; clear H12
      refine s_val (some 64) (.tuple #[pv (Ec.Pd.mk 0 0 false), .int .i64 6]) (fun w => kr) kr ?_
      refine s_val (some 67) (pv (Ec.Pd.mk 0 0 false)) (fun w => kr) kr ?_
      refine s_val (some 68) (.int .i64 6) (fun w => kr) kr ?_
      refine s_alloc H23 (some 11) 26 (.agg Z9) kr kr kr ?_
      intro b8 w24 H24; clear H23
      refine s_store H24 0 [(b8, Oc (pv (Ec.Pd.mk 0 0 false)) 26), (b5, Oc (pv (Ec.Pd.mk (Zm.Zm.v x1) (rt (Ec.sqN (Zm.Zm.v x1))) false)) 26), (b4, Oc (pv (Ec.Pd.mk (Zm.Zm.v x1) (fSub 0 (rt (Ec.sqN (Zm.Zm.v x1))) PR) false)) 26), (b3, Oc (pv (Ec.ofPt (Ec.Pt.pt x1 y1))) 26), (b2, Oc (uv n) 24), (b1, Oc (uv x) 24)] 26 (.tmp 11) (.tmp 67) b8 (0) Z9 (Value.cells (pv (Ec.Pd.mk 0 0 false))) 26 (pv (Ec.Pd.mk 0 0 false)) kr kr kr kr kr kr (of_decide_eq_true kr) kr kr ?_
      intro w25 H25; clear H24
      refine s_val (some 12) (.int .i64 6) (fun w => kr) kr ?_
      refine s_nil ?_
      refine g_sreg [0, 1, 2, 3, 4, 5, 6, 7] kr kr ?_
      refine s_load H25 (some 70) 24 (.tmp 2) 5 b1 (Value.cells (uv x)) 24 (0, 0) kr kr kr kr kr ?_
      refine s_call H25 (some 71) 25 #[uv x, .bool false] (.tuple #[pv (Ec.Pd.mk 0 0 false), .int .i64 6]) (liftNo_fn x hx hxr hs false) (fun w => kr) kr ?_
      intro w26 H26; clear H25
      refine s_val (some 69) (.tuple #[pv (Ec.Pd.mk 0 0 false), .int .i64 6]) (fun w => kr) kr ?_
      refine s_val (some 72) (pv (Ec.Pd.mk 0 0 false)) (fun w => kr) kr ?_
      refine s_val (some 73) (.int .i64 6) (fun w => kr) kr ?_
      refine s_alloc H26 (some 13) 26 (.agg Z9) kr kr kr ?_
      intro b9 w27 H27; clear H26
      refine s_store H27 0 [(b9, Oc (pv (Ec.Pd.mk 0 0 false)) 26), (b8, Oc (pv (Ec.Pd.mk 0 0 false)) 26), (b5, Oc (pv (Ec.Pd.mk (Zm.Zm.v x1) (rt (Ec.sqN (Zm.Zm.v x1))) false)) 26), (b4, Oc (pv (Ec.Pd.mk (Zm.Zm.v x1) (fSub 0 (rt (Ec.sqN (Zm.Zm.v x1))) PR) false)) 26), (b3, Oc (pv (Ec.ofPt (Ec.Pt.pt x1 y1))) 26), (b2, Oc (uv n) 24), (b1, Oc (uv x) 24)] 26 (.tmp 13) (.tmp 72) b9 (0) Z9 (Value.cells (pv (Ec.Pd.mk 0 0 false))) 26 (pv (Ec.Pd.mk 0 0 false)) kr kr kr kr kr kr (of_decide_eq_true kr) kr kr ?_
      intro w28 H28; clear H27
      refine s_val (some 14) (.int .i64 6) (fun w => kr) kr ?_
      refine s_nil ?_
      refine g_seq kr ?_
      refine g_sreg [0, 1, 2] kr kr ?_
      refine s_load H28 (some 74) 24 (.tmp 2) 6 b1 (Value.cells (uv x)) 24 (0, 0) kr kr kr kr kr ?_
      refine s_call H28 (some 75) 26 #[uv x] (.bool true) (rred_yes x hx hxr) (fun w => kr) kr ?_
      intro w29 H29; clear H28
      refine s_val (some 76) (.bool false) (fun w => kr) kr ?_
      refine s_nil ?_
      refine g_cond_f kr kr ?_
      refine g_skip kr ?_
      show WP _ _ _ _ _ _
      refine g_seq kr ?_
      refine g_sreg [0, 1] kr kr ?_
      refine s_val (some 96) (.int .i64 6) (fun w => kr) kr ?_
      refine s_val (some 97) (.bool true) (fun w => kr) kr ?_
      refine s_nil ?_
      refine g_cond_t kr kr ?_
      refine g_sreg [0, 1, 2, 3, 4, 5, 6, 7, 8, 9, 10, 11, 12, 13, 14, 15, 16, 17, 18, 19] kr kr ?_
      refine s_call H29 (some 98) 12 #[] (.bool true) alive06_fn (fun w => kr) kr ?_
      intro w30 H30; clear H29
      refine s_val (some 99) (.bool true) (fun w => kr) kr ?_
      refine s_val (some 100) (.int .i64 6) (fun w => kr) kr ?_
      refine s_val (some 101) (.bool true) (fun w => kr) kr ?_
      refine s_val (some 102) (.bool true) (fun w => kr) kr ?_
      refine s_val (some 103) (.bool true) (fun w => kr) kr ?_
      refine s_val (some 104) (.int .i64 6) (fun w => kr) kr ?_
      refine s_val (some 105) (.bool true) (fun w => kr) kr ?_
      refine s_val (some 106) (.bool true) (fun w => kr) kr ?_
      refine s_val (some 107) (.bool true) (fun w => kr) kr ?_
      refine s_load H30 (some 108) 26 (.tmp 11) 1 b8 (Value.cells (pv (Ec.Pd.mk 0 0 false))) 26 (0, 0) kr kr kr kr kr ?_
      refine s_val (some 109) (pv (Ec.Pd.mk 0 0 false)) (fun w => kr) kr ?_
      refine s_opE (some 110) _ (.bool (decide ((Ec.Pd.mk 0 0 false) = (Ec.Pd.mk 0 0 false)))) (.bool true) kr (fun o w ho => eqP_run (x := (.tmp 108)) (y := (.tmp 109)) (Ec.Pd.mk 0 0 false) (Ec.Pd.mk 0 0 false) (Ec.Pd.Ok.mk (p := Ec.Pd.mk 0 0 false) Ec.big_0 Ec.big_0) (Ec.Pd.Ok.mk (p := Ec.Pd.mk 0 0 false) Ec.big_0 Ec.big_0) w ho kr kr) (by rw [decide_eq_true (p := (Ec.Pd.mk 0 0 false) = (Ec.Pd.mk 0 0 false)) rfl] <;> rfl) kr ?_
      refine s_val (some 111) (.bool true) (fun w => kr) kr ?_
      refine s_val (some 112) (.bool true) (fun w => kr) kr ?_
      refine s_load H30 (some 113) 26 (.tmp 13) 0 b9 (Value.cells (pv (Ec.Pd.mk 0 0 false))) 26 (0, 0) kr kr kr kr kr ?_
      refine s_load H30 (some 114) 26 (.tmp 11) 1 b8 (Value.cells (pv (Ec.Pd.mk 0 0 false))) 26 (0, 0) kr kr kr kr kr ?_
      refine s_opE (some 115) _ (.bool (decide ((Ec.Pd.mk 0 0 false) = (Ec.Pd.mk 0 0 false)))) (.bool true) kr (fun o w ho => eqP_run (x := (.tmp 113)) (y := (.tmp 114)) (Ec.Pd.mk 0 0 false) (Ec.Pd.mk 0 0 false) (Ec.Pd.Ok.mk (p := Ec.Pd.mk 0 0 false) Ec.big_0 Ec.big_0) (Ec.Pd.Ok.mk (p := Ec.Pd.mk 0 0 false) Ec.big_0 Ec.big_0) w ho kr kr) (by rw [decide_eq_true (p := (Ec.Pd.mk 0 0 false) = (Ec.Pd.mk 0 0 false)) rfl] <;> rfl) kr ?_
      refine s_val (some 116) (.bool true) (fun w => kr) kr ?_
      refine s_val (some 4) (.bool true) (fun w => kr) kr ?_
      refine s_nil ?_
      refine g_ret kr ?_
      show ∃ vs, Res _ _ _ _ vs ∧ _
      refine ⟨[.bool true], (.tmp (.bool true) kr .nil), ?_, H30.below⟩
      rfl
  · skip
    refine s_load H12 (some 65) 24 (.tmp 2) 4 b1 (Value.cells (uv x)) 24 (0, 0) kr kr kr kr kr ?_
    refine s_call H12 (some 66) 25 #[uv x, .bool true] (.tuple #[pv (Ec.Pd.mk 0 0 false), .int .i64 1]) (liftArg_fn x hx hxr true) (fun w => kr) kr ?_
    intro w31 H31; clear H12
    refine s_val (some 64) (.tuple #[pv (Ec.Pd.mk 0 0 false), .int .i64 1]) (fun w => kr) kr ?_
    refine s_val (some 67) (pv (Ec.Pd.mk 0 0 false)) (fun w => kr) kr ?_
    refine s_val (some 68) (.int .i64 1) (fun w => kr) kr ?_
    refine s_alloc H31 (some 11) 26 (.agg Z9) kr kr kr ?_
    intro b10 w32 H32; clear H31
    refine s_store H32 0 [(b10, Oc (pv (Ec.Pd.mk 0 0 false)) 26), (b5, Oc (pv (Ec.Pd.mk (Zm.Zm.v x1) (rt (Ec.sqN (Zm.Zm.v x1))) false)) 26), (b4, Oc (pv (Ec.Pd.mk (Zm.Zm.v x1) (fSub 0 (rt (Ec.sqN (Zm.Zm.v x1))) PR) false)) 26), (b3, Oc (pv (Ec.ofPt (Ec.Pt.pt x1 y1))) 26), (b2, Oc (uv n) 24), (b1, Oc (uv x) 24)] 26 (.tmp 11) (.tmp 67) b10 (0) Z9 (Value.cells (pv (Ec.Pd.mk 0 0 false))) 26 (pv (Ec.Pd.mk 0 0 false)) kr kr kr kr kr kr (of_decide_eq_true kr) kr kr ?_
    intro w33 H33; clear H32
    refine s_val (some 12) (.int .i64 1) (fun w => kr) kr ?_
    refine s_nil ?_
    refine g_sreg [0, 1, 2, 3, 4, 5, 6, 7] kr kr ?_
    refine s_load H33 (some 70) 24 (.tmp 2) 5 b1 (Value.cells (uv x)) 24 (0, 0) kr kr kr kr kr ?_
    refine s_call H33 (some 71) 25 #[uv x, .bool false] (.tuple #[pv (Ec.Pd.mk 0 0 false), .int .i64 1]) (liftArg_fn x hx hxr false) (fun w => kr) kr ?_
    intro w34 H34; clear H33
    refine s_val (some 69) (.tuple #[pv (Ec.Pd.mk 0 0 false), .int .i64 1]) (fun w => kr) kr ?_
    refine s_val (some 72) (pv (Ec.Pd.mk 0 0 false)) (fun w => kr) kr ?_
    refine s_val (some 73) (.int .i64 1) (fun w => kr) kr ?_
    refine s_alloc H34 (some 13) 26 (.agg Z9) kr kr kr ?_
    intro b11 w35 H35; clear H34
    refine s_store H35 0 [(b11, Oc (pv (Ec.Pd.mk 0 0 false)) 26), (b10, Oc (pv (Ec.Pd.mk 0 0 false)) 26), (b5, Oc (pv (Ec.Pd.mk (Zm.Zm.v x1) (rt (Ec.sqN (Zm.Zm.v x1))) false)) 26), (b4, Oc (pv (Ec.Pd.mk (Zm.Zm.v x1) (fSub 0 (rt (Ec.sqN (Zm.Zm.v x1))) PR) false)) 26), (b3, Oc (pv (Ec.ofPt (Ec.Pt.pt x1 y1))) 26), (b2, Oc (uv n) 24), (b1, Oc (uv x) 24)] 26 (.tmp 13) (.tmp 72) b11 (0) Z9 (Value.cells (pv (Ec.Pd.mk 0 0 false))) 26 (pv (Ec.Pd.mk 0 0 false)) kr kr kr kr kr kr (of_decide_eq_true kr) kr kr ?_
    intro w36 H36; clear H35
    refine s_val (some 14) (.int .i64 1) (fun w => kr) kr ?_
    refine s_nil ?_
    refine g_seq kr ?_
    refine g_sreg [0, 1, 2] kr kr ?_
    refine s_load H36 (some 74) 24 (.tmp 2) 6 b1 (Value.cells (uv x)) 24 (0, 0) kr kr kr kr kr ?_
    refine s_call H36 (some 75) 26 #[uv x] (.bool false) (rred_no x hx hxr) (fun w => kr) kr ?_
    intro w37 H37; clear H36
    refine s_val (some 76) (.bool true) (fun w => kr) kr ?_
    refine s_nil ?_
    refine g_cond_t kr kr ?_
    refine g_sreg [0, 1, 2, 3, 4, 5, 6, 7, 8, 9, 10, 11, 12, 13, 14, 15, 16, 17, 18, 19] kr kr ?_
    refine s_call H37 (some 77) 12 #[] (.bool true) alive06_fn (fun w => kr) kr ?_
    intro w38 H38; clear H37
    refine s_val (some 78) (.bool true) (fun w => kr) kr ?_
    refine s_val (some 79) (.int .i64 1) (fun w => kr) kr ?_
    refine s_val (some 80) (.bool true) (fun w => kr) kr ?_
    refine s_val (some 81) (.bool true) (fun w => kr) kr ?_
    refine s_val (some 82) (.bool true) (fun w => kr) kr ?_
    refine s_val (some 83) (.int .i64 1) (fun w => kr) kr ?_
    refine s_val (some 84) (.bool true) (fun w => kr) kr ?_
    refine s_val (some 85) (.bool true) (fun w => kr) kr ?_
    refine s_val (some 86) (.bool true) (fun w => kr) kr ?_
    refine s_load H38 (some 87) 26 (.tmp 11) 1 b10 (Value.cells (pv (Ec.Pd.mk 0 0 false))) 26 (0, 0) kr kr kr kr kr ?_
    refine s_val (some 88) (pv (Ec.Pd.mk 0 0 false)) (fun w => kr) kr ?_
    refine s_opE (some 89) _ (.bool (decide ((Ec.Pd.mk 0 0 false) = (Ec.Pd.mk 0 0 false)))) (.bool true) kr (fun o w ho => eqP_run (x := (.tmp 87)) (y := (.tmp 88)) (Ec.Pd.mk 0 0 false) (Ec.Pd.mk 0 0 false) (Ec.Pd.Ok.mk (p := Ec.Pd.mk 0 0 false) Ec.big_0 Ec.big_0) (Ec.Pd.Ok.mk (p := Ec.Pd.mk 0 0 false) Ec.big_0 Ec.big_0) w ho kr kr) (by rw [decide_eq_true (p := (Ec.Pd.mk 0 0 false) = (Ec.Pd.mk 0 0 false)) rfl] <;> rfl) kr ?_
    refine s_val (some 90) (.bool true) (fun w => kr) kr ?_
    refine s_val (some 91) (.bool true) (fun w => kr) kr ?_
    refine s_load H38 (some 92) 26 (.tmp 13) 0 b11 (Value.cells (pv (Ec.Pd.mk 0 0 false))) 26 (0, 0) kr kr kr kr kr ?_
    refine s_load H38 (some 93) 26 (.tmp 11) 1 b10 (Value.cells (pv (Ec.Pd.mk 0 0 false))) 26 (0, 0) kr kr kr kr kr ?_
    refine s_opE (some 94) _ (.bool (decide ((Ec.Pd.mk 0 0 false) = (Ec.Pd.mk 0 0 false)))) (.bool true) kr (fun o w ho => eqP_run (x := (.tmp 92)) (y := (.tmp 93)) (Ec.Pd.mk 0 0 false) (Ec.Pd.mk 0 0 false) (Ec.Pd.Ok.mk (p := Ec.Pd.mk 0 0 false) Ec.big_0 Ec.big_0) (Ec.Pd.Ok.mk (p := Ec.Pd.mk 0 0 false) Ec.big_0 Ec.big_0) w ho kr kr) (by rw [decide_eq_true (p := (Ec.Pd.mk 0 0 false) = (Ec.Pd.mk 0 0 false)) rfl] <;> rfl) kr ?_
    refine s_val (some 95) (.bool true) (fun w => kr) kr ?_
    refine s_val (some 4) (.bool true) (fun w => kr) kr ?_
    refine s_nil ?_
    refine g_ret kr ?_
    show ∃ vs, Res _ _ _ _ vs ∧ _
    refine ⟨[.bool true], (.tmp (.bool true) kr .nil), ?_, H38.below⟩
    rfl

set_option maxRecDepth 100000 in
set_option maxHeartbeats 2000000 in
theorem lifts_0 (x : Nat) (hx : x < big) (n : Nat) (hn : n < big) (x1 y1 : Ec.Fp) (hP : Ec.Pt.On Ec.seven (.pt x1 y1)) (ho : Zm.Zm.v y1 % 2 = 0) (hm : Ec.mulP Ec.G n = .pt x1 y1) : Fn Try.prog 7 #[uv x, uv n] (.bool true) := by
  refine Fn.intro (c := codeOf Try.f7) [.tmp 4] 156 Try.func7 kr kr kr fun w => ?_
  have H0 := St.start w
  refine g_sreg [0, 1, 2] kr kr ?_
  refine s_box H0 (some 2) 24 (.tmp 0) (uv x) kr kr kr ?_
  intro b1 w1 H1; clear H0
  refine s_box H1 (some 3) 24 (.tmp 1) (uv n) kr kr kr ?_
  intro b2 w2 H2; clear H1
  refine s_val (some 4) (.bool false) (fun w => kr) kr ?_
  refine s_nil ?_
  refine g_sreg [0, 1, 2, 3, 4, 5, 6, 7] kr kr ?_
  refine s_load H2 (some 16) 24 (.tmp 3) 0 b2 (Value.cells (uv n)) 24 (0, 0) kr kr kr kr kr ?_
  refine s_call H2 (some 17) 9 #[uv n] (.tuple #[pv (Ec.ofPt (Ec.Pt.pt x1 y1)), .bool true]) (by have h9 := at6_fn n hn; rw [hm] at h9; exact h9) (fun w => kr) kr ?_
  intro w3 H3; clear H2
  refine s_val (some 15) (.tuple #[pv (Ec.ofPt (Ec.Pt.pt x1 y1)), .bool true]) (fun w => kr) kr ?_
  refine s_val (some 18) (pv (Ec.ofPt (Ec.Pt.pt x1 y1))) (fun w => kr) kr ?_
  refine s_val (some 19) (.bool true) (fun w => kr) kr ?_
  refine s_alloc H3 (some 5) 26 (.agg Z9) kr kr kr ?_
  intro b3 w4 H4; clear H3
  refine s_store H4 0 [(b3, Oc (pv (Ec.ofPt (Ec.Pt.pt x1 y1))) 26), (b2, Oc (uv n) 24), (b1, Oc (uv x) 24)] 26 (.tmp 5) (.tmp 18) b3 (0) Z9 (Value.cells (pv (Ec.ofPt (Ec.Pt.pt x1 y1)))) 26 (pv (Ec.ofPt (Ec.Pt.pt x1 y1))) kr kr kr kr kr kr (of_decide_eq_true kr) kr kr ?_
  intro w5 H5; clear H4
  refine s_val (some 6) (.bool true) (fun w => kr) kr ?_
  refine s_nil ?_
  refine g_seq kr ?_
  refine g_sreg [0, 1] kr kr ?_
  refine s_val (some 20) (.bool true) (fun w => kr) kr ?_
  refine s_val (some 21) (.bool false) (fun w => kr) kr ?_
  refine s_nil ?_
  refine g_cond_f kr kr ?_
  refine g_skip kr ?_
  show WP _ _ _ _ _ _
  refine g_seq kr ?_
  refine g_sreg [0, 1, 2] kr kr ?_
  refine s_val (some 22) (.pointer (some ⟨b3, 8, none⟩)) (fun w => kr) kr ?_
  refine s_load1 H5 (some 23) 4 (.tmp 22) 0 b3 8 (Value.cells (pv (Ec.ofPt (Ec.Pt.pt x1 y1)))) 26 (0, 0) (.bool false) kr kr kr kr kr kr ?_
  refine s_val (some 24) (.bool true) (fun w => kr) kr ?_
  refine s_nil ?_
  refine g_cond_t kr kr ?_
  refine g_sreg [0, 1, 2, 3, 4, 5, 6, 7, 8, 9, 10, 11, 12, 13] kr kr ?_
  refine s_val (some 26) (.pointer (some ⟨b3, 0, none⟩)) (fun w => kr) kr ?_
  refine s_loadp H5 (some 27) 24 (.tmp 26) 0 b3 0 4 (Value.cells (pv (Ec.ofPt (Ec.Pt.pt x1 y1)))) (Value.cells (uv (Zm.Zm.v x1))) 26 (0, 0) kr kr kr kr kr (of_decide_eq_true kr) kr ?_
  refine s_val (some 28) (.pointer (some ⟨b3, 4, none⟩)) (fun w => kr) kr ?_
  refine s_val (some 29) (.pointer (some ⟨b3, 4, none⟩)) (fun w => kr) kr ?_
  refine s_load1 H5 (some 30) 22 (.tmp 29) 0 b3 4 (Value.cells (pv (Ec.ofPt (Ec.Pt.pt x1 y1)))) 26 (0, 0) (.int .u64 (wu0 (Zm.Zm.v y1))) kr kr kr kr kr kr ?_
  refine s_valE (some 31) (.int .u64 (Go.bits .and .u64 (wu0 (Zm.Zm.v y1)) 1)) (.int .u64 0) (fun w => kr) (int_eq (w0_even ho)) kr ?_
  refine s_val (some 32) (.bool false) (fun w => kr) kr ?_
  refine s_call H5 (some 33) 25 #[uv (Zm.Zm.v x1), .bool false] (.tuple #[pv (Ec.Pd.mk (Zm.Zm.v x1) (rt (Ec.sqN (Zm.Zm.v x1))) false), .int .i64 0]) (lift0_fn (Zm.Zm.v x1) (Ec.P_big (Zm.Zm.lt x1)) (Zm.Zm.lt x1) (root_yes_pt hP)) (fun w => kr) kr ?_
  intro w6 H6; clear H5
  refine s_val (some 25) (.tuple #[pv (Ec.Pd.mk (Zm.Zm.v x1) (rt (Ec.sqN (Zm.Zm.v x1))) false), .int .i64 0]) (fun w => kr) kr ?_
  refine s_val (some 34) (pv (Ec.Pd.mk (Zm.Zm.v x1) (rt (Ec.sqN (Zm.Zm.v x1))) false)) (fun w => kr) kr ?_
  refine s_val (some 35) (.int .i64 0) (fun w => kr) kr ?_
  refine s_alloc H6 (some 7) 26 (.agg Z9) kr kr kr ?_
  intro b4 w7 H7; clear H6
  refine s_store H7 0 [(b4, Oc (pv (Ec.Pd.mk (Zm.Zm.v x1) (rt (Ec.sqN (Zm.Zm.v x1))) false)) 26), (b3, Oc (pv (Ec.ofPt (Ec.Pt.pt x1 y1))) 26), (b2, Oc (uv n) 24), (b1, Oc (uv x) 24)] 26 (.tmp 7) (.tmp 34) b4 (0) Z9 (Value.cells (pv (Ec.Pd.mk (Zm.Zm.v x1) (rt (Ec.sqN (Zm.Zm.v x1))) false))) 26 (pv (Ec.Pd.mk (Zm.Zm.v x1) (rt (Ec.sqN (Zm.Zm.v x1))) false)) kr kr kr kr kr kr (of_decide_eq_true kr) kr kr ?_
  intro w8 H8; clear H7
  refine s_val (some 8) (.int .i64 0) (fun w => kr) kr ?_
  refine s_nil ?_
  refine g_sreg [0, 1, 2, 3, 4, 5, 6, 7, 8, 9, 10, 11, 12, 13] kr kr ?_
  refine s_val (some 37) (.pointer (some ⟨b3, 0, none⟩)) (fun w => kr) kr ?_
  refine s_loadp H8 (some 38) 24 (.tmp 37) 1 b3 0 4 (Value.cells (pv (Ec.ofPt (Ec.Pt.pt x1 y1)))) (Value.cells (uv (Zm.Zm.v x1))) 26 (0, 0) kr kr kr kr kr (of_decide_eq_true kr) kr ?_
  refine s_val (some 39) (.pointer (some ⟨b3, 4, none⟩)) (fun w => kr) kr ?_
  refine s_val (some 40) (.pointer (some ⟨b3, 4, none⟩)) (fun w => kr) kr ?_
  refine s_load1 H8 (some 41) 22 (.tmp 40) 1 b3 4 (Value.cells (pv (Ec.ofPt (Ec.Pt.pt x1 y1)))) 26 (0, 0) (.int .u64 (wu0 (Zm.Zm.v y1))) kr kr kr kr kr kr ?_
  refine s_valE (some 42) (.int .u64 (Go.bits .and .u64 (wu0 (Zm.Zm.v y1)) 1)) (.int .u64 0) (fun w => kr) (int_eq (w0_even ho)) kr ?_
  refine s_val (some 43) (.bool true) (fun w => kr) kr ?_
  refine s_call H8 (some 44) 25 #[uv (Zm.Zm.v x1), .bool true] (.tuple #[pv (Ec.Pd.mk (Zm.Zm.v x1) (fSub 0 (rt (Ec.sqN (Zm.Zm.v x1))) PR) false), .int .i64 0]) (lift1_fn (Zm.Zm.v x1) (Ec.P_big (Zm.Zm.lt x1)) (Zm.Zm.lt x1) (root_yes_pt hP)) (fun w => kr) kr ?_
  intro w9 H9; clear H8
  refine s_val (some 36) (.tuple #[pv (Ec.Pd.mk (Zm.Zm.v x1) (fSub 0 (rt (Ec.sqN (Zm.Zm.v x1))) PR) false), .int .i64 0]) (fun w => kr) kr ?_
  refine s_val (some 45) (pv (Ec.Pd.mk (Zm.Zm.v x1) (fSub 0 (rt (Ec.sqN (Zm.Zm.v x1))) PR) false)) (fun w => kr) kr ?_
  refine s_val (some 46) (.int .i64 0) (fun w => kr) kr ?_
  refine s_alloc H9 (some 9) 26 (.agg Z9) kr kr kr ?_
  intro b5 w10 H10; clear H9
  refine s_store H10 0 [(b5, Oc (pv (Ec.Pd.mk (Zm.Zm.v x1) (fSub 0 (rt (Ec.sqN (Zm.Zm.v x1))) PR) false)) 26), (b4, Oc (pv (Ec.Pd.mk (Zm.Zm.v x1) (rt (Ec.sqN (Zm.Zm.v x1))) false)) 26), (b3, Oc (pv (Ec.ofPt (Ec.Pt.pt x1 y1))) 26), (b2, Oc (uv n) 24), (b1, Oc (uv x) 24)] 26 (.tmp 9) (.tmp 45) b5 (0) Z9 (Value.cells (pv (Ec.Pd.mk (Zm.Zm.v x1) (fSub 0 (rt (Ec.sqN (Zm.Zm.v x1))) PR) false))) 26 (pv (Ec.Pd.mk (Zm.Zm.v x1) (fSub 0 (rt (Ec.sqN (Zm.Zm.v x1))) PR) false)) kr kr kr kr kr kr (of_decide_eq_true kr) kr kr ?_
  intro w11 H11; clear H10
  refine s_val (some 10) (.int .i64 0) (fun w => kr) kr ?_
  refine s_nil ?_
  refine D2.g_sdraw [0, 1, 2, 3, 4, 5, 6, 7, 8, 9, 10, 11, 12, 13, 14, 15, 16] [((some 47), fun _ => .int .i64 0), ((some 48), fun _ => .bool false), ((some 49), fun _ => .bool false), ((some 50), fun _ => .int .i64 0), ((some 51), fun _ => .bool false), ((some 52), fun _ => .bool false), ((some 53), fun _ => .bool false), ((some 54), fun _ => pv (Ec.Pd.mk (Zm.Zm.v x1) (rt (Ec.sqN (Zm.Zm.v x1))) false)), ((some 55), fun _ => pv (Ec.ofPt (Ec.Pt.pt x1 y1))), ((some 56), fun _ => .bool false), ((some 57), fun _ => .bool false), ((some 58), fun _ => .bool false), ((some 59), fun _ => pv (Ec.Pd.mk (Zm.Zm.v x1) (fSub 0 (rt (Ec.sqN (Zm.Zm.v x1))) PR) false)), ((some 60), fun _ => pv (Ec.ofPt (Ec.Pt.pt x1 y1))), ((some 61), fun _ => pv (Ec.ofPt (Ec.Pt.neg (Ec.Pt.pt x1 y1)))), ((some 62), fun _ => .bool false), ((some 63), fun _ => .bool false)] (D2.Pre w.heap.size w (fun L g => [(true, (b5, Oc (pv (Ec.Pd.mk (Zm.Zm.v x1) (fSub 0 (rt (Ec.sqN (Zm.Zm.v x1))) PR) false)) 26)), (true, (b4, Oc (pv (Ec.Pd.mk (Zm.Zm.v x1) (rt (Ec.sqN (Zm.Zm.v x1))) false)) 26)), (true, (b3, Oc (pv (Ec.ofPt (Ec.Pt.pt x1 y1))) 26)), (true, (b2, Oc (uv n) 24)), (true, (b1, Oc (uv x) 24))]) (fun L g => True)) kr kr kr kr ⟨D2.StE.of H11.drew _ kr, trivial⟩ ⟨?_, ?_, ?_, ?_, ?_, ?_, ?_, ?_, ?_, ?_, ?_, ?_, ?_, ?_, ?_, ?_, ?_, trivial⟩ ?_
  · exact D2.gv_val (fun _ _ _ h => h) (fun g w => kr)
  · exact D2.gv_val (fun _ _ _ h => h) (fun g w => kr)
  · exact D2.gv_val (fun _ _ _ h => h) (fun g w => kr)
  · exact D2.gv_val (fun _ _ _ h => h) (fun g w => kr)
  · exact D2.gv_val (fun _ _ _ h => h) (fun g w => kr)
  · exact D2.gv_val (fun _ _ _ h => h) (fun g w => kr)
  · exact D2.gv_val (fun _ _ _ h => h) (fun g w => kr)
  · exact D2.gv_load 26 (.tmp 7) 1 (fun g => b4) (Value.cells (pv (Ec.Pd.mk (Zm.Zm.v x1) (rt (Ec.sqN (Zm.Zm.v x1))) false))) 26 (0, 0) (fun _ _ _ h => h) (fun g => kr) (fun g => kr) (fun L g hN => kr) kr
  · exact D2.gv_load 26 (.tmp 5) 2 (fun g => b3) (Value.cells (pv (Ec.ofPt (Ec.Pt.pt x1 y1)))) 26 (0, 0) (fun _ _ _ h => h) (fun g => kr) (fun g => kr) (fun L g hN => kr) kr
  · exact D2.gv_opE (fun _ _ _ h => h) _ (V' := .bool (!decide ((Ec.Pd.mk (Zm.Zm.v x1) (rt (Ec.sqN (Zm.Zm.v x1))) false) = (Ec.ofPt (Ec.Pt.pt x1 y1))))) (fun g => kr) (fun g o w ho => neP_run (x := (.tmp 54)) (y := (.tmp 55)) (Ec.Pd.mk (Zm.Zm.v x1) (rt (Ec.sqN (Zm.Zm.v x1))) false) (Ec.ofPt (Ec.Pt.pt x1 y1)) (Ec.Pd.Ok.mk (p := Ec.Pd.mk (Zm.Zm.v x1) (rt (Ec.sqN (Zm.Zm.v x1))) false) (Ec.P_big (Zm.Zm.lt x1)) (rt_lt _)) (Ec.ofPt_ok _) w ho kr kr) (by rw [decide_eq_true (p := (Ec.Pd.mk (Zm.Zm.v x1) (rt (Ec.sqN (Zm.Zm.v x1))) false) = (Ec.ofPt (Ec.Pt.pt x1 y1))) (lift_evenP hP ho)] <;> rfl)
  · exact D2.gv_val (fun _ _ _ h => h) (fun g w => kr)
  · exact D2.gv_val (fun _ _ _ h => h) (fun g w => kr)
  · exact D2.gv_load 26 (.tmp 9) 0 (fun g => b5) (Value.cells (pv (Ec.Pd.mk (Zm.Zm.v x1) (fSub 0 (rt (Ec.sqN (Zm.Zm.v x1))) PR) false))) 26 (0, 0) (fun _ _ _ h => h) (fun g => kr) (fun g => kr) (fun L g hN => kr) kr
  · exact D2.gv_load 26 (.tmp 5) 2 (fun g => b3) (Value.cells (pv (Ec.ofPt (Ec.Pt.pt x1 y1)))) 26 (0, 0) (fun _ _ _ h => h) (fun g => kr) (fun g => kr) (fun L g hN => kr) kr
  · exact D2.gv_call 15 #[pv (Ec.ofPt (Ec.Pt.pt x1 y1))] (fun _ _ _ h => h) (turned_fn (Ec.Pt.pt x1 y1) hP) (fun g w => kr)
  · exact D2.gv_opE (fun _ _ _ h => h) _ (V' := .bool (!decide ((Ec.Pd.mk (Zm.Zm.v x1) (fSub 0 (rt (Ec.sqN (Zm.Zm.v x1))) PR) false) = (Ec.ofPt (Ec.Pt.neg (Ec.Pt.pt x1 y1)))))) (fun g => kr) (fun g o w ho => neP_run (x := (.tmp 59)) (y := (.tmp 61)) (Ec.Pd.mk (Zm.Zm.v x1) (fSub 0 (rt (Ec.sqN (Zm.Zm.v x1))) PR) false) (Ec.ofPt (Ec.Pt.neg (Ec.Pt.pt x1 y1))) (Ec.Pd.Ok.mk (p := Ec.Pd.mk (Zm.Zm.v x1) (fSub 0 (rt (Ec.sqN (Zm.Zm.v x1))) PR) false) (Ec.P_big (Zm.Zm.lt x1)) (fSub_lt pr_ok)) (Ec.ofPt_ok _) w ho kr kr) (by rw [decide_eq_true (p := (Ec.Pd.mk (Zm.Zm.v x1) (fSub 0 (rt (Ec.sqN (Zm.Zm.v x1))) PR) false) = (Ec.ofPt (Ec.Pt.neg (Ec.Pt.pt x1 y1)))) (lift_evenN hP ho)] <;> rfl)
  · exact D2.gv_val (fun _ _ _ h => h) (fun g w => kr)
  intro L0 G12 w12 hall HL; clear H11
  have H12 : St w.heap.size w w12 [(b5, Oc (pv (Ec.Pd.mk (Zm.Zm.v x1) (fSub 0 (rt (Ec.sqN (Zm.Zm.v x1))) PR) false)) 26), (b4, Oc (pv (Ec.Pd.mk (Zm.Zm.v x1) (rt (Ec.sqN (Zm.Zm.v x1))) false)) 26), (b3, Oc (pv (Ec.ofPt (Ec.Pt.pt x1 y1))) 26), (b2, Oc (uv n) 24), (b1, Oc (uv x) 24)] := D2.StE.st HL.1
  clear HL hall
  refine g_cond_f kr kr ?_
  refine g_skip kr ?_
  show WP _ _ _ _ _ _
  refine g_sreg [0, 1, 2, 3, 4, 5, 6, 7] kr kr ?_
  by_cases hxr : x < PR
  · skip
    by_cases hs : (fMul (fpw (Ec.sqN x) QR PR) (fpw (Ec.sqN x) QR PR) PR) = (rs (Ec.sqN x) 0 PR)
    · skip
      refine s_load H12 (some 65) 24 (.tmp 2) 4 b1 (Value.cells (uv x)) 24 (0, 0) kr kr kr kr kr ?_
      refine s_call H12 (some 66) 25 #[uv x, .bool true] (.tuple #[pv (Ec.Pd.mk x (fSub 0 (rt (Ec.sqN x)) PR) false), .int .i64 0]) (lift1_fn x hx hxr hs) (fun w => kr) kr ?_
      intro w13 H13; clear H12
      refine s_val (some 64) (.tuple #[pv (Ec.Pd.mk x (fSub 0 (rt (Ec.sqN x)) PR) false), .int .i64 0]) (fun w => kr) kr ?_
      refine s_val (some 67) (pv (Ec.Pd.mk x (fSub 0 (rt (Ec.sqN x)) PR) false)) (fun w => kr) kr ?_
      refine s_val (some 68) (.int .i64 0) (fun w => kr) kr ?_
      refine s_alloc H13 (some 11) 26 (.agg Z9) kr kr kr ?_
      intro b6 w14 H14; clear H13
      refine s_store H14 0 [(b6, Oc (pv (Ec.Pd.mk x (fSub 0 (rt (Ec.sqN x)) PR) false)) 26), (b5, Oc (pv (Ec.Pd.mk (Zm.Zm.v x1) (fSub 0 (rt (Ec.sqN (Zm.Zm.v x1))) PR) false)) 26), (b4, Oc (pv (Ec.Pd.mk (Zm.Zm.v x1) (rt (Ec.sqN (Zm.Zm.v x1))) false)) 26), (b3, Oc (pv (Ec.ofPt (Ec.Pt.pt x1 y1))) 26), (b2, Oc (uv n) 24), (b1, Oc (uv x) 24)] 26 (.tmp 11) (.tmp 67) b6 (0) Z9 (Value.cells (pv (Ec.Pd.mk x (fSub 0 (rt (Ec.sqN x)) PR) false))) 26 (pv (Ec.Pd.mk x (fSub 0 (rt (Ec.sqN x)) PR) false)) kr kr kr kr kr kr (of_decide_eq_true kr) kr kr ?_
      intro w15 H15; clear H14
      refine s_val (some 12) (.int .i64 0) (fun w => kr) kr ?_
      refine s_nil ?_
      refine g_sreg [0, 1, 2, 3, 4, 5, 6, 7] kr kr ?_
      refine s_load H15 (some 70) 24 (.tmp 2) 5 b1 (Value.cells (uv x)) 24 (0, 0) kr kr kr kr kr ?_
      refine s_call H15 (some 71) 25 #[uv x, .bool false] (.tuple #[pv (Ec.Pd.mk x (rt (Ec.sqN x)) false), .int .i64 0]) (lift0_fn x hx hxr hs) (fun w => kr) kr ?_
      intro w16 H16; clear H15
      refine s_val (some 69) (.tuple #[pv (Ec.Pd.mk x (rt (Ec.sqN x)) false), .int .i64 0]) (fun w => kr) kr ?_
      refine s_val (some 72) (pv (Ec.Pd.mk x (rt (Ec.sqN x)) false)) (fun w => kr) kr ?_
      refine s_val (some 73) (.int .i64 0) (fun w => kr) kr ?_
      refine s_alloc H16 (some 13) 26 (.agg Z9) kr kr kr ?_
      intro b7 w17 H17; clear H16
      refine s_store H17 0 [(b7, Oc (pv (Ec.Pd.mk x (rt (Ec.sqN x)) false)) 26), (b6, Oc (pv (Ec.Pd.mk x (fSub 0 (rt (Ec.sqN x)) PR) false)) 26), (b5, Oc (pv (Ec.Pd.mk (Zm.Zm.v x1) (fSub 0 (rt (Ec.sqN (Zm.Zm.v x1))) PR) false)) 26), (b4, Oc (pv (Ec.Pd.mk (Zm.Zm.v x1) (rt (Ec.sqN (Zm.Zm.v x1))) false)) 26), (b3, Oc (pv (Ec.ofPt (Ec.Pt.pt x1 y1))) 26), (b2, Oc (uv n) 24), (b1, Oc (uv x) 24)] 26 (.tmp 13) (.tmp 72) b7 (0) Z9 (Value.cells (pv (Ec.Pd.mk x (rt (Ec.sqN x)) false))) 26 (pv (Ec.Pd.mk x (rt (Ec.sqN x)) false)) kr kr kr kr kr kr (of_decide_eq_true kr) kr kr ?_
      intro w18 H18; clear H17
      refine s_val (some 14) (.int .i64 0) (fun w => kr) kr ?_
      refine s_nil ?_
      refine g_seq kr ?_
      refine g_sreg [0, 1, 2] kr kr ?_
      refine s_load H18 (some 74) 24 (.tmp 2) 6 b1 (Value.cells (uv x)) 24 (0, 0) kr kr kr kr kr ?_
      refine s_call H18 (some 75) 26 #[uv x] (.bool true) (rred_yes x hx hxr) (fun w => kr) kr ?_
      intro w19 H19; clear H18
      refine s_val (some 76) (.bool false) (fun w => kr) kr ?_
      refine s_nil ?_
      refine g_cond_f kr kr ?_
      refine g_skip kr ?_
      show WP _ _ _ _ _ _
      refine g_seq kr ?_
      refine g_sreg [0, 1] kr kr ?_
      refine s_val (some 96) (.int .i64 0) (fun w => kr) kr ?_
      refine s_val (some 97) (.bool false) (fun w => kr) kr ?_
      refine s_nil ?_
      refine g_cond_f kr kr ?_
      refine g_skip kr ?_
      show WP _ _ _ _ _ _
      refine g_sreg [0, 1, 2, 3, 4, 5, 6, 7, 8, 9, 10, 11, 12, 13, 14, 15, 16, 17, 18, 19, 20, 21, 22, 23, 24, 25, 26, 27, 28, 29, 30, 31, 32, 33, 34, 35, 36, 37, 38, 39] kr kr ?_
      refine s_call H19 (some 117) 12 #[] (.bool true) alive06_fn (fun w => kr) kr ?_
      intro w20 H20; clear H19
      refine s_val (some 118) (.bool true) (fun w => kr) kr ?_
      refine s_val (some 119) (.int .i64 0) (fun w => kr) kr ?_
      refine s_val (some 120) (.bool true) (fun w => kr) kr ?_
      refine s_val (some 121) (.bool true) (fun w => kr) kr ?_
      refine s_val (some 122) (.bool true) (fun w => kr) kr ?_
      refine s_load H20 (some 123) 26 (.tmp 11) 1 b6 (Value.cells (pv (Ec.Pd.mk x (fSub 0 (rt (Ec.sqN x)) PR) false))) 26 (0, 0) kr kr kr kr kr ?_
      refine s_call H20 (some 124) 11 #[pv (Ec.Pd.mk x (fSub 0 (rt (Ec.sqN x)) PR) false)] (.bool true) (ron_yes (Ec.Pd.mk x (fSub 0 (rt (Ec.sqN x)) PR) false) (Ec.Pd.Ok.mk (p := Ec.Pd.mk x (fSub 0 (rt (Ec.sqN x)) PR) false) hx (fSub_lt pr_ok)) (odd_on hxr hs)) (fun w => kr) kr ?_
      intro w21 H21; clear H20
      refine s_val (some 125) (.bool true) (fun w => kr) kr ?_
      refine s_val (some 126) (.bool true) (fun w => kr) kr ?_
      refine s_load H21 (some 127) 26 (.tmp 13) 0 b7 (Value.cells (pv (Ec.Pd.mk x (rt (Ec.sqN x)) false))) 26 (0, 0) kr kr kr kr kr ?_
      refine s_call H21 (some 128) 11 #[pv (Ec.Pd.mk x (rt (Ec.sqN x)) false)] (.bool true) (ron_yes (Ec.Pd.mk x (rt (Ec.sqN x)) false) (Ec.Pd.Ok.mk (p := Ec.Pd.mk x (rt (Ec.sqN x)) false) hx (rt_lt _)) (even_on hxr hs)) (fun w => kr) kr ?_
      intro w22 H22; clear H21
      refine s_val (some 129) (.bool true) (fun w => kr) kr ?_
      refine s_val (some 130) (.bool true) (fun w => kr) kr ?_
      refine s_val (some 131) (.pointer (some ⟨b6, 0, none⟩)) (fun w => kr) kr ?_
      refine s_loadp H22 (some 132) 24 (.tmp 131) 1 b6 0 4 (Value.cells (pv (Ec.Pd.mk x (fSub 0 (rt (Ec.sqN x)) PR) false))) (Value.cells (uv x)) 26 (0, 0) kr kr kr kr kr (of_decide_eq_true kr) kr ?_
      refine s_load H22 (some 133) 24 (.tmp 2) 6 b1 (Value.cells (uv x)) 24 (0, 0) kr kr kr kr kr ?_
      refine s_opE (some 134) _ (.bool (decide (x = x))) (.bool true) kr (fun o w ho => eqU_run (x := (.tmp 132)) (y := (.tmp 133)) x x hx hx w ho kr kr) (by rw [decide_eq_true rfl] <;> rfl) kr ?_
      refine s_val (some 135) (.bool true) (fun w => kr) kr ?_
      refine s_val (some 136) (.bool true) (fun w => kr) kr ?_
      refine s_val (some 137) (.pointer (some ⟨b7, 0, none⟩)) (fun w => kr) kr ?_
      refine s_loadp H22 (some 138) 24 (.tmp 137) 0 b7 0 4 (Value.cells (pv (Ec.Pd.mk x (rt (Ec.sqN x)) false))) (Value.cells (uv x)) 26 (0, 0) kr kr kr kr kr (of_decide_eq_true kr) kr ?_
      refine s_load H22 (some 139) 24 (.tmp 2) 6 b1 (Value.cells (uv x)) 24 (0, 0) kr kr kr kr kr ?_
      refine s_opE (some 140) _ (.bool (decide (x = x))) (.bool true) kr (fun o w ho => eqU_run (x := (.tmp 138)) (y := (.tmp 139)) x x hx hx w ho kr kr) (by rw [decide_eq_true rfl] <;> rfl) kr ?_
      refine s_val (some 141) (.bool true) (fun w => kr) kr ?_
      refine s_val (some 142) (.bool true) (fun w => kr) kr ?_
      refine s_val (some 143) (.pointer (some ⟨b6, 4, none⟩)) (fun w => kr) kr ?_
      refine s_val (some 144) (.pointer (some ⟨b6, 4, none⟩)) (fun w => kr) kr ?_
      refine s_load1 H22 (some 145) 22 (.tmp 144) 1 b6 4 (Value.cells (pv (Ec.Pd.mk x (fSub 0 (rt (Ec.sqN x)) PR) false))) 26 (0, 0) (.int .u64 (wu0 (fSub 0 (rt (Ec.sqN x)) PR))) kr kr kr kr kr kr ?_
      refine s_valE (some 146) (.int .u64 (Go.bits .and .u64 (wu0 (fSub 0 (rt (Ec.sqN x)) PR)) 1)) (.int .u64 1) (fun w => kr) (int_eq (w0_odd (odd_odd hs))) kr ?_
      refine s_val (some 147) (.bool true) (fun w => kr) kr ?_
      refine s_val (some 148) (.bool true) (fun w => kr) kr ?_
      refine s_val (some 149) (.bool true) (fun w => kr) kr ?_
      refine s_val (some 150) (.pointer (some ⟨b7, 4, none⟩)) (fun w => kr) kr ?_
      refine s_val (some 151) (.pointer (some ⟨b7, 4, none⟩)) (fun w => kr) kr ?_
      refine s_load1 H22 (some 152) 22 (.tmp 151) 0 b7 4 (Value.cells (pv (Ec.Pd.mk x (rt (Ec.sqN x)) false))) 26 (0, 0) (.int .u64 (wu0 (rt (Ec.sqN x)))) kr kr kr kr kr kr ?_
      refine s_valE (some 153) (.int .u64 (Go.bits .and .u64 (wu0 (rt (Ec.sqN x))) 1)) (.int .u64 0) (fun w => kr) (int_eq (w0_even (rt_even _))) kr ?_
      refine s_val (some 154) (.bool true) (fun w => kr) kr ?_
      refine s_val (some 155) (.bool true) (fun w => kr) kr ?_
      refine s_val (some 4) (.bool true) (fun w => kr) kr ?_
      refine s_nil ?_
      refine g_ret kr ?_
      show ∃ vs, Res _ _ _ _ vs ∧ _
      refine ⟨[.bool true], (.tmp (.bool true) kr .nil), ?_, H22.below⟩
      rfl
    · skip
      refine s_load H12 (some 65) 24 (.tmp 2) 4 b1 (Value.cells (uv x)) 24 (0, 0) kr kr kr kr kr ?_
      refine s_call H12 (some 66) 25 #[uv x, .bool true] (.tuple #[pv (Ec.Pd.mk 0 0 false), .int .i64 6]) (liftNo_fn x hx hxr hs true) (fun w => kr) kr ?_
      intro w23 H23; clear H12
      refine s_val (some 64) (.tuple #[pv (Ec.Pd.mk 0 0 false), .int .i64 6]) (fun w => kr) kr ?_
      refine s_val (some 67) (pv (Ec.Pd.mk 0 0 false)) (fun w => kr) kr ?_
      refine s_val (some 68) (.int .i64 6) (fun w => kr) kr ?_
      refine s_alloc H23 (some 11) 26 (.agg Z9) kr kr kr ?_
      intro b8 w24 H24; clear H23
      refine s_store H24 0 [(b8, Oc (pv (Ec.Pd.mk 0 0 false)) 26), (b5, Oc (pv (Ec.Pd.mk (Zm.Zm.v x1) (fSub 0 (rt (Ec.sqN (Zm.Zm.v x1))) PR) false)) 26), (b4, Oc (pv (Ec.Pd.mk (Zm.Zm.v x1) (rt (Ec.sqN (Zm.Zm.v x1))) false)) 26), (b3, Oc (pv (Ec.ofPt (Ec.Pt.pt x1 y1))) 26), (b2, Oc (uv n) 24), (b1, Oc (uv x) 24)] 26 (.tmp 11) (.tmp 67) b8 (0) Z9 (Value.cells (pv (Ec.Pd.mk 0 0 false))) 26 (pv (Ec.Pd.mk 0 0 false)) kr kr kr kr kr kr (of_decide_eq_true kr) kr kr ?_
      intro w25 H25; clear H24
      refine s_val (some 12) (.int .i64 6) (fun w => kr) kr ?_
      refine s_nil ?_
      refine g_sreg [0, 1, 2, 3, 4, 5, 6, 7] kr kr ?_
      refine s_load H25 (some 70) 24 (.tmp 2) 5 b1 (Value.cells (uv x)) 24 (0, 0) kr kr kr kr kr ?_
      refine s_call H25 (some 71) 25 #[uv x, .bool false] (.tuple #[pv (Ec.Pd.mk 0 0 false), .int .i64 6]) (liftNo_fn x hx hxr hs false) (fun w => kr) kr ?_
      intro w26 H26; clear H25
      refine s_val (some 69) (.tuple #[pv (Ec.Pd.mk 0 0 false), .int .i64 6]) (fun w => kr) kr ?_
      refine s_val (some 72) (pv (Ec.Pd.mk 0 0 false)) (fun w => kr) kr ?_
      refine s_val (some 73) (.int .i64 6) (fun w => kr) kr ?_
      refine s_alloc H26 (some 13) 26 (.agg Z9) kr kr kr ?_
      intro b9 w27 H27; clear H26
      refine s_store H27 0 [(b9, Oc (pv (Ec.Pd.mk 0 0 false)) 26), (b8, Oc (pv (Ec.Pd.mk 0 0 false)) 26), (b5, Oc (pv (Ec.Pd.mk (Zm.Zm.v x1) (fSub 0 (rt (Ec.sqN (Zm.Zm.v x1))) PR) false)) 26), (b4, Oc (pv (Ec.Pd.mk (Zm.Zm.v x1) (rt (Ec.sqN (Zm.Zm.v x1))) false)) 26), (b3, Oc (pv (Ec.ofPt (Ec.Pt.pt x1 y1))) 26), (b2, Oc (uv n) 24), (b1, Oc (uv x) 24)] 26 (.tmp 13) (.tmp 72) b9 (0) Z9 (Value.cells (pv (Ec.Pd.mk 0 0 false))) 26 (pv (Ec.Pd.mk 0 0 false)) kr kr kr kr kr kr (of_decide_eq_true kr) kr kr ?_
      intro w28 H28; clear H27
      refine s_val (some 14) (.int .i64 6) (fun w => kr) kr ?_
      refine s_nil ?_
      refine g_seq kr ?_
      refine g_sreg [0, 1, 2] kr kr ?_
      refine s_load H28 (some 74) 24 (.tmp 2) 6 b1 (Value.cells (uv x)) 24 (0, 0) kr kr kr kr kr ?_
      refine s_call H28 (some 75) 26 #[uv x] (.bool true) (rred_yes x hx hxr) (fun w => kr) kr ?_
      intro w29 H29; clear H28
      refine s_val (some 76) (.bool false) (fun w => kr) kr ?_
      refine s_nil ?_
      refine g_cond_f kr kr ?_
      refine g_skip kr ?_
      show WP _ _ _ _ _ _
      refine g_seq kr ?_
      refine g_sreg [0, 1] kr kr ?_
      refine s_val (some 96) (.int .i64 6) (fun w => kr) kr ?_
      refine s_val (some 97) (.bool true) (fun w => kr) kr ?_
      refine s_nil ?_
      refine g_cond_t kr kr ?_
      refine g_sreg [0, 1, 2, 3, 4, 5, 6, 7, 8, 9, 10, 11, 12, 13, 14, 15, 16, 17, 18, 19] kr kr ?_
      refine s_call H29 (some 98) 12 #[] (.bool true) alive06_fn (fun w => kr) kr ?_
      intro w30 H30; clear H29
      refine s_val (some 99) (.bool true) (fun w => kr) kr ?_
      refine s_val (some 100) (.int .i64 6) (fun w => kr) kr ?_
      refine s_val (some 101) (.bool true) (fun w => kr) kr ?_
      refine s_val (some 102) (.bool true) (fun w => kr) kr ?_
      refine s_val (some 103) (.bool true) (fun w => kr) kr ?_
      refine s_val (some 104) (.int .i64 6) (fun w => kr) kr ?_
      refine s_val (some 105) (.bool true) (fun w => kr) kr ?_
      refine s_val (some 106) (.bool true) (fun w => kr) kr ?_
      refine s_val (some 107) (.bool true) (fun w => kr) kr ?_
      refine s_load H30 (some 108) 26 (.tmp 11) 1 b8 (Value.cells (pv (Ec.Pd.mk 0 0 false))) 26 (0, 0) kr kr kr kr kr ?_
      refine s_val (some 109) (pv (Ec.Pd.mk 0 0 false)) (fun w => kr) kr ?_
      refine s_opE (some 110) _ (.bool (decide ((Ec.Pd.mk 0 0 false) = (Ec.Pd.mk 0 0 false)))) (.bool true) kr (fun o w ho => eqP_run (x := (.tmp 108)) (y := (.tmp 109)) (Ec.Pd.mk 0 0 false) (Ec.Pd.mk 0 0 false) (Ec.Pd.Ok.mk (p := Ec.Pd.mk 0 0 false) Ec.big_0 Ec.big_0) (Ec.Pd.Ok.mk (p := Ec.Pd.mk 0 0 false) Ec.big_0 Ec.big_0) w ho kr kr) (by rw [decide_eq_true (p := (Ec.Pd.mk 0 0 false) = (Ec.Pd.mk 0 0 false)) rfl] <;> rfl) kr ?_
      refine s_val (some 111) (.bool true) (fun w => kr) kr ?_
      refine s_val (some 112) (.bool true) (fun w => kr) kr ?_
      refine s_load H30 (some 113) 26 (.tmp 13) 0 b9 (Value.cells (pv (Ec.Pd.mk 0 0 false))) 26 (0, 0) kr kr kr kr kr ?_
      refine s_load H30 (some 114) 26 (.tmp 11) 1 b8 (Value.cells (pv (Ec.Pd.mk 0 0 false))) 26 (0, 0) kr kr kr kr kr ?_
      refine s_opE (some 115) _ (.bool (decide ((Ec.Pd.mk 0 0 false) = (Ec.Pd.mk 0 0 false)))) (.bool true) kr (fun o w ho => eqP_run (x := (.tmp 113)) (y := (.tmp 114)) (Ec.Pd.mk 0 0 false) (Ec.Pd.mk 0 0 false) (Ec.Pd.Ok.mk (p := Ec.Pd.mk 0 0 false) Ec.big_0 Ec.big_0) (Ec.Pd.Ok.mk (p := Ec.Pd.mk 0 0 false) Ec.big_0 Ec.big_0) w ho kr kr) (by rw [decide_eq_true (p := (Ec.Pd.mk 0 0 false) = (Ec.Pd.mk 0 0 false)) rfl] <;> rfl) kr ?_
      refine s_val (some 116) (.bool true) (fun w => kr) kr ?_
      refine s_val (some 4) (.bool true) (fun w => kr) kr ?_
      refine s_nil ?_
      refine g_ret kr ?_
      show ∃ vs, Res _ _ _ _ vs ∧ _
      refine ⟨[.bool true], (.tmp (.bool true) kr .nil), ?_, H30.below⟩
      rfl
  · skip
    refine s_load H12 (some 65) 24 (.tmp 2) 4 b1 (Value.cells (uv x)) 24 (0, 0) kr kr kr kr kr ?_
    refine s_call H12 (some 66) 25 #[uv x, .bool true] (.tuple #[pv (Ec.Pd.mk 0 0 false), .int .i64 1]) (liftArg_fn x hx hxr true) (fun w => kr) kr ?_
    intro w31 H31; clear H12
    refine s_val (some 64) (.tuple #[pv (Ec.Pd.mk 0 0 false), .int .i64 1]) (fun w => kr) kr ?_
    refine s_val (some 67) (pv (Ec.Pd.mk 0 0 false)) (fun w => kr) kr ?_
    refine s_val (some 68) (.int .i64 1) (fun w => kr) kr ?_
    refine s_alloc H31 (some 11) 26 (.agg Z9) kr kr kr ?_
    intro b10 w32 H32; clear H31
    refine s_store H32 0 [(b10, Oc (pv (Ec.Pd.mk 0 0 false)) 26), (b5, Oc (pv (Ec.Pd.mk (Zm.Zm.v x1) (fSub 0 (rt (Ec.sqN (Zm.Zm.v x1))) PR) false)) 26), (b4, Oc (pv (Ec.Pd.mk (Zm.Zm.v x1) (rt (Ec.sqN (Zm.Zm.v x1))) false)) 26), (b3, Oc (pv (Ec.ofPt (Ec.Pt.pt x1 y1))) 26), (b2, Oc (uv n) 24), (b1, Oc (uv x) 24)] 26 (.tmp 11) (.tmp 67) b10 (0) Z9 (Value.cells (pv (Ec.Pd.mk 0 0 false))) 26 (pv (Ec.Pd.mk 0 0 false)) kr kr kr kr kr kr (of_decide_eq_true kr) kr kr ?_
    intro w33 H33; clear H32
    refine s_val (some 12) (.int .i64 1) (fun w => kr) kr ?_
    refine s_nil ?_
    refine g_sreg [0, 1, 2, 3, 4, 5, 6, 7] kr kr ?_
    refine s_load H33 (some 70) 24 (.tmp 2) 5 b1 (Value.cells (uv x)) 24 (0, 0) kr kr kr kr kr ?_
    refine s_call H33 (some 71) 25 #[uv x, .bool false] (.tuple #[pv (Ec.Pd.mk 0 0 false), .int .i64 1]) (liftArg_fn x hx hxr false) (fun w => kr) kr ?_
    intro w34 H34; clear H33
    refine s_val (some 69) (.tuple #[pv (Ec.Pd.mk 0 0 false), .int .i64 1]) (fun w => kr) kr ?_
    refine s_val (some 72) (pv (Ec.Pd.mk 0 0 false)) (fun w => kr) kr ?_
    refine s_val (some 73) (.int .i64 1) (fun w => kr) kr ?_
    refine s_alloc H34 (some 13) 26 (.agg Z9) kr kr kr ?_
    intro b11 w35 H35; clear H34
    refine s_store H35 0 [(b11, Oc (pv (Ec.Pd.mk 0 0 false)) 26), (b10, Oc (pv (Ec.Pd.mk 0 0 false)) 26), (b5, Oc (pv (Ec.Pd.mk (Zm.Zm.v x1) (fSub 0 (rt (Ec.sqN (Zm.Zm.v x1))) PR) false)) 26), (b4, Oc (pv (Ec.Pd.mk (Zm.Zm.v x1) (rt (Ec.sqN (Zm.Zm.v x1))) false)) 26), (b3, Oc (pv (Ec.ofPt (Ec.Pt.pt x1 y1))) 26), (b2, Oc (uv n) 24), (b1, Oc (uv x) 24)] 26 (.tmp 13) (.tmp 72) b11 (0) Z9 (Value.cells (pv (Ec.Pd.mk 0 0 false))) 26 (pv (Ec.Pd.mk 0 0 false)) kr kr kr kr kr kr (of_decide_eq_true kr) kr kr ?_
    intro w36 H36; clear H35
    refine s_val (some 14) (.int .i64 1) (fun w => kr) kr ?_
    refine s_nil ?_
    refine g_seq kr ?_
    refine g_sreg [0, 1, 2] kr kr ?_
    refine s_load H36 (some 74) 24 (.tmp 2) 6 b1 (Value.cells (uv x)) 24 (0, 0) kr kr kr kr kr ?_
    refine s_call H36 (some 75) 26 #[uv x] (.bool false) (rred_no x hx hxr) (fun w => kr) kr ?_
    intro w37 H37; clear H36
    refine s_val (some 76) (.bool true) (fun w => kr) kr ?_
    refine s_nil ?_
    refine g_cond_t kr kr ?_
    refine g_sreg [0, 1, 2, 3, 4, 5, 6, 7, 8, 9, 10, 11, 12, 13, 14, 15, 16, 17, 18, 19] kr kr ?_
    refine s_call H37 (some 77) 12 #[] (.bool true) alive06_fn (fun w => kr) kr ?_
    intro w38 H38; clear H37
    refine s_val (some 78) (.bool true) (fun w => kr) kr ?_
    refine s_val (some 79) (.int .i64 1) (fun w => kr) kr ?_
    refine s_val (some 80) (.bool true) (fun w => kr) kr ?_
    refine s_val (some 81) (.bool true) (fun w => kr) kr ?_
    refine s_val (some 82) (.bool true) (fun w => kr) kr ?_
    refine s_val (some 83) (.int .i64 1) (fun w => kr) kr ?_
    refine s_val (some 84) (.bool true) (fun w => kr) kr ?_
    refine s_val (some 85) (.bool true) (fun w => kr) kr ?_
    refine s_val (some 86) (.bool true) (fun w => kr) kr ?_
    refine s_load H38 (some 87) 26 (.tmp 11) 1 b10 (Value.cells (pv (Ec.Pd.mk 0 0 false))) 26 (0, 0) kr kr kr kr kr ?_
    refine s_val (some 88) (pv (Ec.Pd.mk 0 0 false)) (fun w => kr) kr ?_
    refine s_opE (some 89) _ (.bool (decide ((Ec.Pd.mk 0 0 false) = (Ec.Pd.mk 0 0 false)))) (.bool true) kr (fun o w ho => eqP_run (x := (.tmp 87)) (y := (.tmp 88)) (Ec.Pd.mk 0 0 false) (Ec.Pd.mk 0 0 false) (Ec.Pd.Ok.mk (p := Ec.Pd.mk 0 0 false) Ec.big_0 Ec.big_0) (Ec.Pd.Ok.mk (p := Ec.Pd.mk 0 0 false) Ec.big_0 Ec.big_0) w ho kr kr) (by rw [decide_eq_true (p := (Ec.Pd.mk 0 0 false) = (Ec.Pd.mk 0 0 false)) rfl] <;> rfl) kr ?_
    refine s_val (some 90) (.bool true) (fun w => kr) kr ?_
    refine s_val (some 91) (.bool true) (fun w => kr) kr ?_
    refine s_load H38 (some 92) 26 (.tmp 13) 0 b11 (Value.cells (pv (Ec.Pd.mk 0 0 false))) 26 (0, 0) kr kr kr kr kr ?_
    refine s_load H38 (some 93) 26 (.tmp 11) 1 b10 (Value.cells (pv (Ec.Pd.mk 0 0 false))) 26 (0, 0) kr kr kr kr kr ?_
    refine s_opE (some 94) _ (.bool (decide ((Ec.Pd.mk 0 0 false) = (Ec.Pd.mk 0 0 false)))) (.bool true) kr (fun o w ho => eqP_run (x := (.tmp 92)) (y := (.tmp 93)) (Ec.Pd.mk 0 0 false) (Ec.Pd.mk 0 0 false) (Ec.Pd.Ok.mk (p := Ec.Pd.mk 0 0 false) Ec.big_0 Ec.big_0) (Ec.Pd.Ok.mk (p := Ec.Pd.mk 0 0 false) Ec.big_0 Ec.big_0) w ho kr kr) (by rw [decide_eq_true (p := (Ec.Pd.mk 0 0 false) = (Ec.Pd.mk 0 0 false)) rfl] <;> rfl) kr ?_
    refine s_val (some 95) (.bool true) (fun w => kr) kr ?_
    refine s_val (some 4) (.bool true) (fun w => kr) kr ?_
    refine s_nil ?_
    refine g_ret kr ?_
    show ∃ vs, Res _ _ _ _ vs ∧ _
    refine ⟨[.bool true], (.tmp (.bool true) kr .nil), ?_, H38.below⟩
    rfl

theorem pointLifts_fn (x : Nat) (hx : x < big) (n : Nat) (hn : n < big) : Fn Try.prog 7 #[uv x, uv n] (.bool true) := by
  have hon := Ec.mulP_on Ec.good Ec.G_on n
  cases hm : Ec.mulP Ec.G n with
  | zero => exact lifts_z x hx n hn hm
  | pt x1 y1 =>
    rw [hm] at hon
    rcases Nat.mod_two_eq_zero_or_one y1.v with ho | ho
    · exact lifts_0 x hx n hn x1 y1 hon ho hm
    · exact lifts_1 x hx n hn x1 y1 hon ho hm
end Go.Proofs.Ytljhbhhpfkmemaa
