/-
  Texts of the proof, part 4.
-/
import Derived.Laws.BitsLemmas
import Derived.Laws.BitsAllLaws
import Derived.Laws.BytesArg
import Derived.Below
import Derived.Test.YtmmloghbnpfedaaDoorProg
import Derived.Laws.Bits64b
import Derived.Lib.Hide
import Derived.Test.YtmmloghbnpfedaaDoorSA2
import Derived.Test.YtmmloghbnpfedaaDoorSA3

namespace Go.Proofs.YtmmloghbnpfedaaDoor
open Go Go.RowKit
set_option linter.unusedVariables false
theorem cm_lt {A B : Nat} (h : A < B) : cm A B < 0 := by unfold cm; split <;> (try split) <;> omega
theorem cm_nlt {A B : Nat} (h : ¬ A < B) : ¬ cm A B < 0 := by unfold cm; split <;> (try split) <;> omega
set_option maxRecDepth 100000 in
set_option maxHeartbeats 2000000 in
theorem pmul_fn (A B : Nat) (hA : A < big) (hB : B < big) : Fn Tryd.prog 63 #[uv A, uv B] (uv (fMul A B PR)) := by
  refine Fn.intro (c := codeOf Tryd.f63) [.cell 4 24] 14 Tryd.func63 kr kr kr fun w => ?_
  have H0 := St.start w
  refine rS [.b, .b, .a] H0 kr fun gs1 w1 H1 => ?_
  clear H0
  refine rS [.l 0, .l 1, .c (fmul0_fn A B hA hB), .v, .v, .v, .a, .s 3, .v] H1 kr fun gs2 w2 H2 => ?_
  clear H1
  refine rS [.l 3, .s 2] H2 kr fun gs3 w3 H3 => ?_
  clear H2
  refine g_ret kr ?_
  show ∃ vs, Res _ _ _ _ vs ∧ _
  refine ⟨[uv (fMul A B PR)], (.agg (b := (gs1 2).b) (Value.cells (uv (fMul A B PR))) 24 (0, 0) kr (H3.get 2 kr) kr .nil), ?_, H3.below⟩
  rfl
set_option maxRecDepth 100000 in
set_option maxHeartbeats 2000000 in
theorem psum_fn (A B : Nat) (hA : A < big) (hB : B < big) : Fn Tryd.prog 82 #[uv A, uv B] (uv (fAdd A B PR)) := by
  refine Fn.intro (c := codeOf Tryd.f82) [.cell 4 24] 14 Tryd.func82 kr kr kr fun w => ?_
  have H0 := St.start w
  refine rS [.b, .b, .a] H0 kr fun gs1 w1 H1 => ?_
  clear H0
  refine rS [.l 0, .l 1, .c (fadd0_fn A B hA hB), .v, .v, .v, .a, .s 3, .v] H1 kr fun gs2 w2 H2 => ?_
  clear H1
  refine rS [.l 3, .s 2] H2 kr fun gs3 w3 H3 => ?_
  clear H2
  refine g_ret kr ?_
  show ∃ vs, Res _ _ _ _ vs ∧ _
  refine ⟨[uv (fAdd A B PR)], (.agg (b := (gs1 2).b) (Value.cells (uv (fAdd A B PR))) 24 (0, 0) kr (H3.get 2 kr) kr .nil), ?_, H3.below⟩
  rfl
set_option maxRecDepth 100000 in
set_option maxHeartbeats 2000000 in
theorem pless_fn (A B : Nat) (hA : A < big) (hB : B < big) : Fn Tryd.prog 51 #[uv A, uv B] (uv (fSub A B PR)) := by
  refine Fn.intro (c := codeOf Tryd.f51) [.cell 4 24] 14 Tryd.func51 kr kr kr fun w => ?_
  have H0 := St.start w
  refine rS [.b, .b, .a] H0 kr fun gs1 w1 H1 => ?_
  clear H0
  refine rS [.l 0, .l 1, .c (fsub0_fn A B hA hB), .v, .v, .v, .a, .s 3, .v] H1 kr fun gs2 w2 H2 => ?_
  clear H1
  refine rS [.l 3, .s 2] H2 kr fun gs3 w3 H3 => ?_
  clear H2
  refine g_ret kr ?_
  show ∃ vs, Res _ _ _ _ vs ∧ _
  refine ⟨[uv (fSub A B PR)], (.agg (b := (gs1 2).b) (Value.cells (uv (fSub A B PR))) 24 (0, 0) kr (H3.get 2 kr) kr .nil), ?_, H3.below⟩
  rfl
set_option maxRecDepth 100000 in
set_option maxHeartbeats 2000000 in
theorem rmul6_fn (A B : Nat) (hA : A < big) (hB : B < big) : Fn Tryd.prog 31 #[uv A, uv B] (uv (fMul A B PR)) := by
  refine Fn.intro (c := codeOf Tryd.f31) [.cell 4 24] 8 Tryd.func31 kr kr kr fun w => ?_
  have H0 := St.start w
  refine rS [.b, .b, .a] H0 kr fun gs1 w1 H1 => ?_
  clear H0
  refine rS [.l 0, .l 1, .c (rmul0_fn A B hA hB), .s 2] H1 kr fun gs2 w2 H2 => ?_
  clear H1
  refine g_ret kr ?_
  show ∃ vs, Res _ _ _ _ vs ∧ _
  refine ⟨[uv (fMul A B PR)], (.agg (b := (gs1 2).b) (Value.cells (uv (fMul A B PR))) 24 (0, 0) kr (H2.get 2 kr) kr .nil), ?_, H2.below⟩
  rfl
set_option maxRecDepth 100000 in
set_option maxHeartbeats 2000000 in
theorem radd6_fn (A B : Nat) (hA : A < big) (hB : B < big) : Fn Tryd.prog 32 #[uv A, uv B] (uv (fAdd A B PR)) := by
  refine Fn.intro (c := codeOf Tryd.f32) [.cell 4 24] 8 Tryd.func32 kr kr kr fun w => ?_
  have H0 := St.start w
  refine rS [.b, .b, .a] H0 kr fun gs1 w1 H1 => ?_
  clear H0
  refine rS [.l 0, .l 1, .c (radd0_fn A B hA hB), .s 2] H1 kr fun gs2 w2 H2 => ?_
  clear H1
  refine g_ret kr ?_
  show ∃ vs, Res _ _ _ _ vs ∧ _
  refine ⟨[uv (fAdd A B PR)], (.agg (b := (gs1 2).b) (Value.cells (uv (fAdd A B PR))) 24 (0, 0) kr (H2.get 2 kr) kr .nil), ?_, H2.below⟩
  rfl
set_option maxRecDepth 100000 in
set_option maxHeartbeats 2000000 in
theorem red_yes (A : Nat) (hA : A < big) (h : A < PR) : Fn Tryd.prog 48 #[uv A] (.bool true) := by
  refine Fn.intro (c := codeOf Tryd.f48) [.tmp 2] 13 Tryd.func48 kr kr kr fun w => ?_
  have H0 := St.start w
  refine rS [.b, .v] H0 kr fun gs1 w1 H1 => ?_
  clear H0
  refine rS [.c prime0_fn, .v, .v, .v, .a, .s 1, .v] H1 kr fun gs2 w2 H2 => ?_
  clear H1
  refine rS [.l 0, .l 1, .c (cmp_fn A PR hA pr_ok.1), .e (v := .bool (decide (cm A PR < 0))) (v' := .bool true) (bool_eq (decide_eq_true (cm_lt h))), .v] H2 kr fun gs3 w3 H3 => ?_
  clear H2
  refine g_ret kr ?_
  show ∃ vs, Res _ _ _ _ vs ∧ _
  refine ⟨[.bool true], (.tmp (.bool true) kr .nil), ?_, H3.below⟩
  rfl
set_option maxRecDepth 100000 in
set_option maxHeartbeats 2000000 in
theorem red_no (A : Nat) (hA : A < big) (h : ¬ A < PR) : Fn Tryd.prog 48 #[uv A] (.bool false) := by
  refine Fn.intro (c := codeOf Tryd.f48) [.tmp 2] 13 Tryd.func48 kr kr kr fun w => ?_
  have H0 := St.start w
  refine rS [.b, .v] H0 kr fun gs1 w1 H1 => ?_
  clear H0
  refine rS [.c prime0_fn, .v, .v, .v, .a, .s 1, .v] H1 kr fun gs2 w2 H2 => ?_
  clear H1
  refine rS [.l 0, .l 1, .c (cmp_fn A PR hA pr_ok.1), .e (v := .bool (decide (cm A PR < 0))) (v' := .bool false) (bool_eq (decide_eq_false (cm_nlt h))), .v] H2 kr fun gs3 w3 H3 => ?_
  clear H2
  refine g_ret kr ?_
  show ∃ vs, Res _ _ _ _ vs ∧ _
  refine ⟨[.bool false], (.tmp (.bool false) kr .nil), ?_, H3.below⟩
  rfl
set_option maxRecDepth 100000 in
set_option maxHeartbeats 2000000 in
theorem rred_fn (A : Nat) (hA : A < big) : Fn Tryd.prog 30 #[uv A] (.bool (decide (A < PR))) := by
  refine Fn.intro (c := codeOf Tryd.f30) [.tmp 2] 8 Tryd.func30 kr kr kr fun w => ?_
  have H0 := St.start w
  refine rS [.b, .v] H0 kr fun gs1 w1 H1 => ?_
  clear H0
  refine g_sreg [0, 1, 2, 3, 4, 5] kr kr ?_
  refine rp [.l 0] H1 kr fun gs2 w2 H2 => ?_
  show WPs _ _ _ _ [1, 2, 3, 4, 5] _ _
  clear H1
  refine s_callS H2 (some 4) 35 #[uv A] (fun _ => True) 3 1 (fun curZ capZ nZ lZ => (nZ = List.length lZ ∧ Rw 1 curZ capZ nZ (cellsD lZ) ∧ Ok lZ ∧ (lZ = dgs A 16 ∧ vl lZ = A ∧ List.length lZ = 16))) (of_fn A hA) trivial kr kr ?_
  intro b_1 cap_2 n_3 cur_4 l_5 w3 H3 hs_6; clear H2
  obtain ⟨hs_6n, hs_6r, hs_6o, hs_6s⟩ := hs_6
  obtain ⟨hs_6a, hs_6b, hs_6c⟩ := hs_6s
  refine rp [.c modulus0_fn] H3 kr fun gs4 w4 H4 => ?_
  show WPs _ _ _ _ [3, 4, 5] _ _
  clear H3
  refine s_callS H4 (some 6) 35 #[uv PR] (fun _ => True) 3 1 (fun curZ capZ nZ lZ => (nZ = List.length lZ ∧ Rw 1 curZ capZ nZ (cellsD lZ) ∧ Ok lZ ∧ (lZ = dgs PR 16 ∧ vl lZ = PR ∧ List.length lZ = 16))) (of_fn PR pr_ok.1) trivial kr kr ?_
  intro b_7 cap_8 n_9 cur_10 l_11 w5 H5 hs_12; clear H4
  obtain ⟨hs_12n, hs_12r, hs_12o, hs_12s⟩ := hs_12
  obtain ⟨hs_12a, hs_12b, hs_12c⟩ := hs_12s
  refine rp [.cp (pre := fun w => w.heap[b_1]? = some (.cells cur_4 3 (0, 0)) ∧ w.heap[b_7]? = some (.cells cur_10 3 (0, 0))) (less_fn l_5 l_11 b_1 n_3 cap_2 b_7 n_9 cap_8 cur_4 cur_10 hs_6n hs_12n hs_6r hs_12r hs_6o hs_12o (by omega) (by omega)) [(1, (b_1, Obj.cells cur_4 3 (0, 0))), (0, (b_7, Obj.cells cur_10 3 (0, 0)))] (fun w hb hd => ⟨hd.1, hd.2.1⟩), .v] H5 kr fun gs6 w6 H6 => ?_
  show WPs _ _ _ _ [] _ _
  clear H5
  refine s_nil ?_
  refine g_ret kr ?_
  show ∃ vs, Res _ _ _ _ vs ∧ _
  refine ⟨[.bool (ls l_5 l_11)], (.tmp (.bool (ls l_5 l_11)) kr .nil), ?_, H6.below⟩
  rw [show ls l_5 l_11 = decide (A < PR) by unfold ls; rw [hs_6b, hs_12b]]
  rfl
theorem rred_yes (A : Nat) (hA : A < big) (h : A < PR) : Fn Tryd.prog 30 #[uv A] (.bool true) := by have := rred_fn A hA; rwa [decide_eq_true h] at this
theorem rred_no (A : Nat) (hA : A < big) (h : ¬ A < PR) : Fn Tryd.prog 30 #[uv A] (.bool false) := by have := rred_fn A hA; rwa [decide_eq_false h] at this
set_option maxRecDepth 100000 in
set_option maxHeartbeats 2000000 in
theorem square_fn (A : Nat) (hA : A < big) : Fn Tryd.prog 50 #[uv A] (uv (Ec.sqN A)) := by
  refine Fn.intro (c := codeOf Tryd.f50) [.cell 2 24] 10 Tryd.func50 kr kr kr fun w => ?_
  have H0 := St.start w
  refine rS [.b, .a] H0 kr fun gs1 w1 H1 => ?_
  clear H0
  refine dS [.l 0, .l 0, .c (pmul_fn A A hA hA), .l 0, .c (pmul_fn (fMul A A PR) A (fMul_lt pr_ok) hA), .c (small_fn 7 (by omega)), .c (psum_fn (fMul (fMul A A PR) A PR) 7 (fMul_lt pr_ok) (by unfold big; omega)), .s 1] H1 kr fun w2 H2 => ?_
  clear H1
  refine g_ret kr ?_
  show ∃ vs, Res _ _ _ _ vs ∧ _
  refine ⟨[uv (fAdd (fMul (fMul A A PR) A PR) 7 PR)], (.agg (b := (gs1 1).b) (Value.cells (uv (fAdd (fMul (fMul A A PR) A PR) 7 PR))) 24 (0, 0) kr (H2.get 1 kr) kr .nil), ?_, H2.below⟩
  rfl
set_option maxRecDepth 100000 in
set_option maxHeartbeats 2000000 in
theorem pzero_fn  : Fn Tryd.prog 62 #[] (wv Ec.zeroW) := by
  refine Fn.intro (c := codeOf Tryd.f62) [.cell 0 65] 3 Tryd.func62 kr kr kr fun w => ?_
  have H0 := St.start w
  refine rS [.a] H0 kr fun gs1 w1 H1 => ?_
  clear H0
  refine rS [.v, .v, .s 0] H1 kr fun gs2 w2 H2 => ?_
  clear H1
  refine g_ret kr ?_
  show ∃ vs, Res _ _ _ _ vs ∧ _
  refine ⟨[wv (Ec.Wp.mk 0 0 true 0)], (.agg (b := (gs1 0).b) (Value.cells (wv (Ec.Wp.mk 0 0 true 0))) 65 (0, 0) kr (H2.get 0 kr) kr .nil), ?_, H2.below⟩
  rfl
set_option maxRecDepth 100000 in
set_option maxHeartbeats 2000000 in
theorem widen_fn (p : Ec.Pd) (hp : p.Ok) : Fn Tryd.prog 75 #[pv p] (wv (Ec.widenW p)) := by
  refine Fn.intro (c := codeOf Tryd.f75) [.cell 2 65] 6 Tryd.func75 kr kr kr fun w => ?_
  have H0 := St.start w
  refine rS [.b, .a] H0 kr fun gs1 w1 H1 => ?_
  clear H0
  refine dS [.l 0, .c (small_fn 1 (by omega)), .v, .s 1] H1 kr fun w2 H2 => ?_
  clear H1
  refine g_ret kr ?_
  show ∃ vs, Res _ _ _ _ vs ∧ _
  refine ⟨[wv (Ec.Wp.mk (Ec.Pd.X p) (Ec.Pd.Y p) (Ec.Pd.b p) 1)], (.agg (b := (gs1 1).b) (Value.cells (wv (Ec.Wp.mk (Ec.Pd.X p) (Ec.Pd.Y p) (Ec.Pd.b p) 1))) 65 (0, 0) kr (H2.get 1 kr) kr .nil), ?_, H2.below⟩
  rfl
set_option maxRecDepth 100000 in
set_option maxHeartbeats 2000000 in
theorem third_fn (r x o y z : Nat) (hr : r < big) (hx : x < big) (ho : o < big) (hy : y < big) (hz : z < big) : Fn Tryd.prog 92 #[uv r, uv x, uv o, uv y, uv z] (wv (Ec.thirdW r x o y z)) := by
  refine Fn.intro (c := codeOf Tryd.f92) [.cell 10 65] 30 Tryd.func92 kr kr kr fun w => ?_
  have H0 := St.start w
  refine rS [.b, .b, .b, .b, .b, .a] H0 kr fun gs1 w1 H1 => ?_
  clear H0
  refine dSg (fun gs2 => [.l 0, .l 0, .c (pmul_fn r r hr hr), .l 1, .c (pless_fn (fMul r r PR) x (fMul_lt pr_ok) hx), .l 2, .c (pless_fn (fSub (fMul r r PR) x PR) o (fSub_lt pr_ok) ho), .a, .s 6]) H1 kr fun gs2 w2 H2 => ?_
  clear H1
  refine dS [.l 6, .l 0, .l 1, .l 6, .c (pless_fn x (fSub (fSub (fMul r r PR) x PR) o PR) hx (fSub_lt pr_ok)), .c (pmul_fn r (fSub x (fSub (fSub (fMul r r PR) x PR) o PR) PR) hr (fSub_lt pr_ok)), .l 3, .c (pless_fn (fMul r (fSub x (fSub (fSub (fMul r r PR) x PR) o PR) PR) PR) y (fMul_lt pr_ok) hy), .v, .l 4, .v, .s 5] H2 kr fun w3 H3 => ?_
  clear H2
  refine g_ret kr ?_
  show ∃ vs, Res _ _ _ _ vs ∧ _
  refine ⟨[wv (Ec.Wp.mk (fSub (fSub (fMul r r PR) x PR) o PR) (fSub (fMul r (fSub x (fSub (fSub (fMul r r PR) x PR) o PR) PR) PR) y PR) false z)], (.agg (b := (gs1 5).b) (Value.cells (wv (Ec.Wp.mk (fSub (fSub (fMul r r PR) x PR) o PR) (fSub (fMul r (fSub x (fSub (fSub (fMul r r PR) x PR) o PR) PR) PR) y PR) false z))) 65 (0, 0) kr (H3.get 5 kr) kr .nil), ?_, H3.below⟩
  rfl
set_option maxRecDepth 100000 in
set_option maxHeartbeats 2000000 in
theorem dbl_fn (p : Ec.Wp) (hp : p.Ok) : Fn Tryd.prog 72 #[wv p] (wv (Ec.dblW p)) := by
  refine Fn.intro (c := codeOf Tryd.f72) [.cell 2 65] 57 Tryd.func72 kr kr kr fun w => ?_
  have H0 := St.start w
  refine rS [.b, .a] H0 kr fun gs1 w1 H1 => ?_
  clear H0
  refine g_seq kr ?_
  refine rS [.v, .v, .l 0] H1 kr fun gs2 w2 H2 => ?_
  clear H1
  rcases (Bool.eq_false_or_eq_true (Ec.Wp.b p)).symm with hb1 | hb1
  · skip
    refine g_now 11 (v := .bool (Ec.Wp.b p)) (v' := .bool false) (bool_eq hb1) kr ?_
    refine g_cond_f kr kr ?_
    refine g_skip kr ?_
    show WP _ _ _ _ _ _
    refine rS [.v, .v, .l 0, .v, .v, .l 0, .c (psum_fn (Ec.Wp.Y p) (Ec.Wp.Y p) hp.Y hp.Y), .a, .s 2] H2 kr fun gs3 w3 H3 => ?_
    clear H2
    refine rS [.l 2, .v, .v, .l 0, .c (pmul_fn (fAdd (Ec.Wp.Y p) (Ec.Wp.Y p) PR) (Ec.Wp.Y p) (fAdd_lt pr_ok) hp.Y), .a, .s 3] H3 kr fun gs4 w4 H4 => ?_
    clear H3
    refine g_keep [0, 1, 2, 3, 4, 11] fun ρ1 => ?_
    have HK1 := H4.keep
    clear H4
    refine rS [.l 3, .l 3, .c (psum_fn (fMul (fAdd (Ec.Wp.Y p) (Ec.Wp.Y p) PR) (Ec.Wp.Y p) PR) (fMul (fAdd (Ec.Wp.Y p) (Ec.Wp.Y p) PR) (Ec.Wp.Y p) PR) (fMul_lt pr_ok) (fMul_lt pr_ok)), .a, .s 4] HK1 kr fun gs5 w5 H5 => ?_
    clear HK1
    refine rS [.v, .v, .l 0, .v, .v, .l 0, .c (pmul_fn (Ec.Wp.X p) (Ec.Wp.X p) hp.X hp.X), .a, .s 5] H5 kr fun gs6 w6 H6 => ?_
    clear H5
    refine dS [.l 5, .l 5, .c (psum_fn (fMul (Ec.Wp.X p) (Ec.Wp.X p) PR) (fMul (Ec.Wp.X p) (Ec.Wp.X p) PR) (fMul_lt pr_ok) (fMul_lt pr_ok)), .l 5, .c (psum_fn (fAdd (fMul (Ec.Wp.X p) (Ec.Wp.X p) PR) (fMul (Ec.Wp.X p) (Ec.Wp.X p) PR) PR) (fMul (Ec.Wp.X p) (Ec.Wp.X p) PR) (fAdd_lt pr_ok) (fMul_lt pr_ok)), .s 5] H6 kr fun w7 H7 => ?_
    clear H6
    refine g_keep [0, 1, 2, 3, 4, 5, 6, 11] fun ρ2 => ?_
    have HK2 := H7.keep
    clear H7
    refine dSg (fun gs8 => [.v, .v, .l 0, .l 4, .c (pmul_fn (Ec.Wp.X p) (fAdd (fMul (fAdd (Ec.Wp.Y p) (Ec.Wp.Y p) PR) (Ec.Wp.Y p) PR) (fMul (fAdd (Ec.Wp.Y p) (Ec.Wp.Y p) PR) (Ec.Wp.Y p) PR) PR) hp.X (fAdd_lt pr_ok)), .l 4, .l 3, .c (pmul_fn (fAdd (fMul (fAdd (Ec.Wp.Y p) (Ec.Wp.Y p) PR) (Ec.Wp.Y p) PR) (fMul (fAdd (Ec.Wp.Y p) (Ec.Wp.Y p) PR) (Ec.Wp.Y p) PR) PR) (fMul (fAdd (Ec.Wp.Y p) (Ec.Wp.Y p) PR) (Ec.Wp.Y p) PR) (fAdd_lt pr_ok) (fMul_lt pr_ok)), .a, .a, .s 6, .s 7]) HK2 kr fun gs8 w8 H8 => ?_
    clear HK2
    refine dS [.l 5, .l 6, .l 6, .l 7, .l 2, .v, .l 0, .c (pmul_fn (fAdd (Ec.Wp.Y p) (Ec.Wp.Y p) PR) (Ec.Wp.Z p) (fAdd_lt pr_ok) hp.Z), .c (third_fn (fAdd (fAdd (fMul (Ec.Wp.X p) (Ec.Wp.X p) PR) (fMul (Ec.Wp.X p) (Ec.Wp.X p) PR) PR) (fMul (Ec.Wp.X p) (Ec.Wp.X p) PR) PR) (fMul (Ec.Wp.X p) (fAdd (fMul (fAdd (Ec.Wp.Y p) (Ec.Wp.Y p) PR) (Ec.Wp.Y p) PR) (fMul (fAdd (Ec.Wp.Y p) (Ec.Wp.Y p) PR) (Ec.Wp.Y p) PR) PR) PR) (fMul (Ec.Wp.X p) (fAdd (fMul (fAdd (Ec.Wp.Y p) (Ec.Wp.Y p) PR) (Ec.Wp.Y p) PR) (fMul (fAdd (Ec.Wp.Y p) (Ec.Wp.Y p) PR) (Ec.Wp.Y p) PR) PR) PR) (fMul (fAdd (fMul (fAdd (Ec.Wp.Y p) (Ec.Wp.Y p) PR) (Ec.Wp.Y p) PR) (fMul (fAdd (Ec.Wp.Y p) (Ec.Wp.Y p) PR) (Ec.Wp.Y p) PR) PR) (fMul (fAdd (Ec.Wp.Y p) (Ec.Wp.Y p) PR) (Ec.Wp.Y p) PR) PR) (fMul (fAdd (Ec.Wp.Y p) (Ec.Wp.Y p) PR) (Ec.Wp.Z p) PR) (fAdd_lt pr_ok) (fMul_lt pr_ok) (fMul_lt pr_ok) (fMul_lt pr_ok) (fMul_lt pr_ok)), .s 1] H8 kr fun w9 H9 => ?_
    clear H8
    refine g_ret kr ?_
    show ∃ vs, Res _ _ _ _ vs ∧ _
    refine ⟨[wv (Ec.thirdW (fAdd (fAdd (fMul (Ec.Wp.X p) (Ec.Wp.X p) PR) (fMul (Ec.Wp.X p) (Ec.Wp.X p) PR) PR) (fMul (Ec.Wp.X p) (Ec.Wp.X p) PR) PR) (fMul (Ec.Wp.X p) (fAdd (fMul (fAdd (Ec.Wp.Y p) (Ec.Wp.Y p) PR) (Ec.Wp.Y p) PR) (fMul (fAdd (Ec.Wp.Y p) (Ec.Wp.Y p) PR) (Ec.Wp.Y p) PR) PR) PR) (fMul (Ec.Wp.X p) (fAdd (fMul (fAdd (Ec.Wp.Y p) (Ec.Wp.Y p) PR) (Ec.Wp.Y p) PR) (fMul (fAdd (Ec.Wp.Y p) (Ec.Wp.Y p) PR) (Ec.Wp.Y p) PR) PR) PR) (fMul (fAdd (fMul (fAdd (Ec.Wp.Y p) (Ec.Wp.Y p) PR) (Ec.Wp.Y p) PR) (fMul (fAdd (Ec.Wp.Y p) (Ec.Wp.Y p) PR) (Ec.Wp.Y p) PR) PR) (fMul (fAdd (Ec.Wp.Y p) (Ec.Wp.Y p) PR) (Ec.Wp.Y p) PR) PR) (fMul (fAdd (Ec.Wp.Y p) (Ec.Wp.Y p) PR) (Ec.Wp.Z p) PR))], (.agg (b := (gs1 1).b) (Value.cells (wv (Ec.thirdW (fAdd (fAdd (fMul (Ec.Wp.X p) (Ec.Wp.X p) PR) (fMul (Ec.Wp.X p) (Ec.Wp.X p) PR) PR) (fMul (Ec.Wp.X p) (Ec.Wp.X p) PR) PR) (fMul (Ec.Wp.X p) (fAdd (fMul (fAdd (Ec.Wp.Y p) (Ec.Wp.Y p) PR) (Ec.Wp.Y p) PR) (fMul (fAdd (Ec.Wp.Y p) (Ec.Wp.Y p) PR) (Ec.Wp.Y p) PR) PR) PR) (fMul (Ec.Wp.X p) (fAdd (fMul (fAdd (Ec.Wp.Y p) (Ec.Wp.Y p) PR) (Ec.Wp.Y p) PR) (fMul (fAdd (Ec.Wp.Y p) (Ec.Wp.Y p) PR) (Ec.Wp.Y p) PR) PR) PR) (fMul (fAdd (fMul (fAdd (Ec.Wp.Y p) (Ec.Wp.Y p) PR) (Ec.Wp.Y p) PR) (fMul (fAdd (Ec.Wp.Y p) (Ec.Wp.Y p) PR) (Ec.Wp.Y p) PR) PR) (fMul (fAdd (Ec.Wp.Y p) (Ec.Wp.Y p) PR) (Ec.Wp.Y p) PR) PR) (fMul (fAdd (Ec.Wp.Y p) (Ec.Wp.Y p) PR) (Ec.Wp.Z p) PR)))) 65 (0, 0) kr (H9.get 1 kr) kr .nil), ?_, H9.below⟩
    exact congrArg wv (Ec.dblW_2 hb1).symm
  · skip
    refine g_now 11 (v := .bool (Ec.Wp.b p)) (v' := .bool true) (bool_eq hb1) kr ?_
    refine g_cond_t kr kr ?_
    refine rS [.l 0, .s 1] H2 kr fun gs10 w10 H10 => ?_
    clear H2
    refine g_ret kr ?_
    show ∃ vs, Res _ _ _ _ vs ∧ _
    refine ⟨[wv p], (.agg (b := (gs1 1).b) (Value.cells (wv p)) 65 (0, 0) kr (H10.get 1 kr) kr .nil), ?_, H10.below⟩
    exact congrArg wv (Ec.dblW_1 hb1).symm
set_option maxRecDepth 100000 in
set_option maxHeartbeats 2000000 in
theorem plus_fn (p q : Ec.Wp) (hp : p.Ok) (hq : q.Ok) : Fn Tryd.prog 73 #[wv p, wv q] (wv (Ec.plusW p q)) := by
  refine Fn.intro (c := codeOf Tryd.f73) [.cell 4 65] 99 Tryd.func73 kr kr kr fun w => ?_
  have H0 := St.start w
  refine rS [.b, .b, .a] H0 kr fun gs1 w1 H1 => ?_
  clear H0
  refine g_seq kr ?_
  refine rS [.v, .v, .l 0] H1 kr fun gs2 w2 H2 => ?_
  clear H1
  rcases (Bool.eq_false_or_eq_true (Ec.Wp.b p)).symm with hb1 | hb1
  · skip
    refine g_now 17 (v := .bool (Ec.Wp.b p)) (v' := .bool false) (bool_eq hb1) kr ?_
    refine g_cond_f kr kr ?_
    refine g_skip kr ?_
    show WP _ _ _ _ _ _
    refine g_seq kr ?_
    refine rS [.v, .v, .l 1] H2 kr fun gs3 w3 H3 => ?_
    clear H2
    rcases (Bool.eq_false_or_eq_true (Ec.Wp.b q)).symm with hb2 | hb2
    · skip
      refine g_now 21 (v := .bool (Ec.Wp.b q)) (v' := .bool false) (bool_eq hb2) kr ?_
      refine g_cond_f kr kr ?_
      refine g_skip kr ?_
      show WP _ _ _ _ _ _
      refine dSg (fun gs4 => [.v, .l 0, .v, .l 0, .c (pmul_fn (Ec.Wp.Z p) (Ec.Wp.Z p) hp.Z hp.Z), .v, .l 1, .v, .l 1, .c (pmul_fn (Ec.Wp.Z q) (Ec.Wp.Z q) hq.Z hq.Z), .a, .a, .s 3, .s 4]) H3 kr fun gs4 w4 H4 => ?_
      clear H3
      refine g_keep [0, 1, 2, 3, 4, 5, 6, 17, 21] fun ρ1 => ?_
      have HK1 := H4.keep
      clear H4
      refine dSg (fun gs5 => [.v, .v, .l 0, .l 4, .c (pmul_fn (Ec.Wp.X p) (fMul (Ec.Wp.Z q) (Ec.Wp.Z q) PR) hp.X (fMul_lt pr_ok)), .v, .v, .l 1, .l 3, .c (pmul_fn (Ec.Wp.X q) (fMul (Ec.Wp.Z p) (Ec.Wp.Z p) PR) hq.X (fMul_lt pr_ok)), .a, .a, .s 5, .s 6]) HK1 kr fun gs5 w5 H5 => ?_
      clear HK1
      refine dSg (fun gs6 => [.v, .v, .l 0, .l 4, .v, .l 1, .c (pmul_fn (fMul (Ec.Wp.Z q) (Ec.Wp.Z q) PR) (Ec.Wp.Z q) (fMul_lt pr_ok) hq.Z), .c (pmul_fn (Ec.Wp.Y p) (fMul (fMul (Ec.Wp.Z q) (Ec.Wp.Z q) PR) (Ec.Wp.Z q) PR) hp.Y (fMul_lt pr_ok)), .v, .v, .l 1, .l 3, .v, .l 0, .c (pmul_fn (fMul (Ec.Wp.Z p) (Ec.Wp.Z p) PR) (Ec.Wp.Z p) (fMul_lt pr_ok) hp.Z), .c (pmul_fn (Ec.Wp.Y q) (fMul (fMul (Ec.Wp.Z p) (Ec.Wp.Z p) PR) (Ec.Wp.Z p) PR) hq.Y (fMul_lt pr_ok)), .a, .a, .s 7, .s 8]) H5 kr fun gs6 w6 H6 => ?_
      clear H5
      refine g_keep [0, 1, 2, 3, 4, 5, 6, 7, 8, 9, 10, 17, 21] fun ρ2 => ?_
      have HK2 := H6.keep
      clear H6
      refine dSg (fun gs7 => [.l 6, .l 5, .c (pless_fn (fMul (Ec.Wp.X q) (fMul (Ec.Wp.Z p) (Ec.Wp.Z p) PR) PR) (fMul (Ec.Wp.X p) (fMul (Ec.Wp.Z q) (Ec.Wp.Z q) PR) PR) (fMul_lt pr_ok) (fMul_lt pr_ok)), .l 8, .l 7, .c (pless_fn (fMul (Ec.Wp.Y q) (fMul (fMul (Ec.Wp.Z p) (Ec.Wp.Z p) PR) (Ec.Wp.Z p) PR) PR) (fMul (Ec.Wp.Y p) (fMul (fMul (Ec.Wp.Z q) (Ec.Wp.Z q) PR) (Ec.Wp.Z q) PR) PR) (fMul_lt pr_ok) (fMul_lt pr_ok)), .a, .a, .s 9, .s 10]) HK2 kr fun gs7 w7 H7 => ?_
      clear HK2
      refine g_seq kr ?_
      refine g_sreg [0, 1, 2] kr kr ?_
      refine rp [.l 9, .v] H7 kr fun gs8 w8 H8 => ?_
      show WPs _ _ _ _ [2] _ _
      clear H7
      by_cases he3 : ((fSub (fMul (Ec.Wp.X q) (fMul (Ec.Wp.Z p) (Ec.Wp.Z p) PR) PR) (fMul (Ec.Wp.X p) (fMul (Ec.Wp.Z q) (Ec.Wp.Z q) PR) PR) PR) : Nat) = 0
      · skip
        refine rp [.oe (ins := [((.tmp 65), uv (fSub (fMul (Ec.Wp.X q) (fMul (Ec.Wp.Z p) (Ec.Wp.Z p) PR) PR) (fMul (Ec.Wp.X p) (fMul (Ec.Wp.Z q) (Ec.Wp.Z q) PR) PR) PR)), ((.tmp 66), .agg #[.int .u64 0, .int .u64 0, .int .u64 0, .int .u64 0])]) (v := .bool (!decide ((fSub (fMul (Ec.Wp.X q) (fMul (Ec.Wp.Z p) (Ec.Wp.Z p) PR) PR) (fMul (Ec.Wp.X p) (fMul (Ec.Wp.Z q) (Ec.Wp.Z q) PR) PR) PR) = 0))) (v' := .bool false) (fun ρ o w ho hi => neU_run (x := (.tmp 65)) (y := (.tmp 66)) (fSub (fMul (Ec.Wp.X q) (fMul (Ec.Wp.Z p) (Ec.Wp.Z p) PR) PR) (fMul (Ec.Wp.X p) (fMul (Ec.Wp.Z q) (Ec.Wp.Z q) PR) PR) PR) 0 (fSub_lt pr_ok) (by unfold big; omega) w ho hi.1 hi.2.1) (by rw [decide_eq_true he3] <;> rfl)] H8 kr fun gs9 w9 H9 => ?_
        show WPs _ _ _ _ [] _ _
        clear H8
        refine s_nil ?_
        refine g_cond_f kr kr ?_
        refine g_skip kr ?_
        show WP _ _ _ _ _ _
        refine g_seq kr ?_
        refine g_sreg [0, 1, 2] kr kr ?_
        refine rp [.l 10, .v] H9 kr fun gs10 w10 H10 => ?_
        show WPs _ _ _ _ [2] _ _
        clear H9
        by_cases he4 : ((fSub (fMul (Ec.Wp.Y q) (fMul (fMul (Ec.Wp.Z p) (Ec.Wp.Z p) PR) (Ec.Wp.Z p) PR) PR) (fMul (Ec.Wp.Y p) (fMul (fMul (Ec.Wp.Z q) (Ec.Wp.Z q) PR) (Ec.Wp.Z q) PR) PR) PR) : Nat) = 0
        · skip
          refine rp [.oe (ins := [((.tmp 93), uv (fSub (fMul (Ec.Wp.Y q) (fMul (fMul (Ec.Wp.Z p) (Ec.Wp.Z p) PR) (Ec.Wp.Z p) PR) PR) (fMul (Ec.Wp.Y p) (fMul (fMul (Ec.Wp.Z q) (Ec.Wp.Z q) PR) (Ec.Wp.Z q) PR) PR) PR)), ((.tmp 94), .agg #[.int .u64 0, .int .u64 0, .int .u64 0, .int .u64 0])]) (v := .bool (!decide ((fSub (fMul (Ec.Wp.Y q) (fMul (fMul (Ec.Wp.Z p) (Ec.Wp.Z p) PR) (Ec.Wp.Z p) PR) PR) (fMul (Ec.Wp.Y p) (fMul (fMul (Ec.Wp.Z q) (Ec.Wp.Z q) PR) (Ec.Wp.Z q) PR) PR) PR) = 0))) (v' := .bool false) (fun ρ o w ho hi => neU_run (x := (.tmp 93)) (y := (.tmp 94)) (fSub (fMul (Ec.Wp.Y q) (fMul (fMul (Ec.Wp.Z p) (Ec.Wp.Z p) PR) (Ec.Wp.Z p) PR) PR) (fMul (Ec.Wp.Y p) (fMul (fMul (Ec.Wp.Z q) (Ec.Wp.Z q) PR) (Ec.Wp.Z q) PR) PR) PR) 0 (fSub_lt pr_ok) (by unfold big; omega) w ho hi.1 hi.2.1) (by rw [decide_eq_true he4] <;> rfl)] H10 kr fun gs11 w11 H11 => ?_
          show WPs _ _ _ _ [] _ _
          clear H10
          refine s_nil ?_
          refine g_cond_f kr kr ?_
          refine g_skip kr ?_
          show WP _ _ _ _ _ _
          refine rS [.l 0, .c (dbl_fn p hp), .s 2] H11 kr fun gs12 w12 H12 => ?_
          clear H11
          refine g_ret kr ?_
          show ∃ vs, Res _ _ _ _ vs ∧ _
          refine ⟨[wv (Ec.dblW p)], (.agg (b := (gs1 2).b) (Value.cells (wv (Ec.dblW p))) 65 (0, 0) kr (H12.get 2 kr) kr .nil), ?_, H12.below⟩
          exact congrArg wv (Ec.plusW_5 hb1 hb2 he3 he4).symm
        · skip
          refine rp [.oe (ins := [((.tmp 93), uv (fSub (fMul (Ec.Wp.Y q) (fMul (fMul (Ec.Wp.Z p) (Ec.Wp.Z p) PR) (Ec.Wp.Z p) PR) PR) (fMul (Ec.Wp.Y p) (fMul (fMul (Ec.Wp.Z q) (Ec.Wp.Z q) PR) (Ec.Wp.Z q) PR) PR) PR)), ((.tmp 94), .agg #[.int .u64 0, .int .u64 0, .int .u64 0, .int .u64 0])]) (v := .bool (!decide ((fSub (fMul (Ec.Wp.Y q) (fMul (fMul (Ec.Wp.Z p) (Ec.Wp.Z p) PR) (Ec.Wp.Z p) PR) PR) (fMul (Ec.Wp.Y p) (fMul (fMul (Ec.Wp.Z q) (Ec.Wp.Z q) PR) (Ec.Wp.Z q) PR) PR) PR) = 0))) (v' := .bool true) (fun ρ o w ho hi => neU_run (x := (.tmp 93)) (y := (.tmp 94)) (fSub (fMul (Ec.Wp.Y q) (fMul (fMul (Ec.Wp.Z p) (Ec.Wp.Z p) PR) (Ec.Wp.Z p) PR) PR) (fMul (Ec.Wp.Y p) (fMul (fMul (Ec.Wp.Z q) (Ec.Wp.Z q) PR) (Ec.Wp.Z q) PR) PR) PR) 0 (fSub_lt pr_ok) (by unfold big; omega) w ho hi.1 hi.2.1) (by rw [decide_eq_false he4] <;> rfl)] H10 kr fun gs13 w13 H13 => ?_
          show WPs _ _ _ _ [] _ _
          clear H10
          refine s_nil ?_
          refine g_cond_t kr kr ?_
          refine rS [.c pzero_fn, .s 2] H13 kr fun gs14 w14 H14 => ?_
          clear H13
          refine g_ret kr ?_
          show ∃ vs, Res _ _ _ _ vs ∧ _
          refine ⟨[wv Ec.zeroW], (.agg (b := (gs1 2).b) (Value.cells (wv Ec.zeroW)) 65 (0, 0) kr (H14.get 2 kr) kr .nil), ?_, H14.below⟩
          exact congrArg wv (Ec.plusW_4 hb1 hb2 he3 he4).symm
      · skip
        refine rp [.oe (ins := [((.tmp 65), uv (fSub (fMul (Ec.Wp.X q) (fMul (Ec.Wp.Z p) (Ec.Wp.Z p) PR) PR) (fMul (Ec.Wp.X p) (fMul (Ec.Wp.Z q) (Ec.Wp.Z q) PR) PR) PR)), ((.tmp 66), .agg #[.int .u64 0, .int .u64 0, .int .u64 0, .int .u64 0])]) (v := .bool (!decide ((fSub (fMul (Ec.Wp.X q) (fMul (Ec.Wp.Z p) (Ec.Wp.Z p) PR) PR) (fMul (Ec.Wp.X p) (fMul (Ec.Wp.Z q) (Ec.Wp.Z q) PR) PR) PR) = 0))) (v' := .bool true) (fun ρ o w ho hi => neU_run (x := (.tmp 65)) (y := (.tmp 66)) (fSub (fMul (Ec.Wp.X q) (fMul (Ec.Wp.Z p) (Ec.Wp.Z p) PR) PR) (fMul (Ec.Wp.X p) (fMul (Ec.Wp.Z q) (Ec.Wp.Z q) PR) PR) PR) 0 (fSub_lt pr_ok) (by unfold big; omega) w ho hi.1 hi.2.1) (by rw [decide_eq_false he3] <;> rfl)] H8 kr fun gs15 w15 H15 => ?_
        show WPs _ _ _ _ [] _ _
        clear H8
        refine s_nil ?_
        refine g_cond_t kr kr ?_
        refine rS [.l 9, .l 9, .c (pmul_fn (fSub (fMul (Ec.Wp.X q) (fMul (Ec.Wp.Z p) (Ec.Wp.Z p) PR) PR) (fMul (Ec.Wp.X p) (fMul (Ec.Wp.Z q) (Ec.Wp.Z q) PR) PR) PR) (fSub (fMul (Ec.Wp.X q) (fMul (Ec.Wp.Z p) (Ec.Wp.Z p) PR) PR) (fMul (Ec.Wp.X p) (fMul (Ec.Wp.Z q) (Ec.Wp.Z q) PR) PR) PR) (fSub_lt pr_ok) (fSub_lt pr_ok)), .a, .s 11] H15 kr fun gs16 w16 H16 => ?_
        clear H15
        refine g_keep [0, 1, 2, 3, 4, 5, 6, 7, 8, 9, 10, 11, 12, 13, 17, 21, 67] fun ρ3 => ?_
        have HK5 := H16.keep
        clear H16
        refine rS [.l 11, .l 9, .c (pmul_fn (fMul (fSub (fMul (Ec.Wp.X q) (fMul (Ec.Wp.Z p) (Ec.Wp.Z p) PR) PR) (fMul (Ec.Wp.X p) (fMul (Ec.Wp.Z q) (Ec.Wp.Z q) PR) PR) PR) (fSub (fMul (Ec.Wp.X q) (fMul (Ec.Wp.Z p) (Ec.Wp.Z p) PR) PR) (fMul (Ec.Wp.X p) (fMul (Ec.Wp.Z q) (Ec.Wp.Z q) PR) PR) PR) PR) (fSub (fMul (Ec.Wp.X q) (fMul (Ec.Wp.Z p) (Ec.Wp.Z p) PR) PR) (fMul (Ec.Wp.X p) (fMul (Ec.Wp.Z q) (Ec.Wp.Z q) PR) PR) PR) (fMul_lt pr_ok) (fSub_lt pr_ok)), .a, .s 12] HK5 kr fun gs17 w17 H17 => ?_
        clear HK5
        refine rS [.l 5, .l 11, .c (pmul_fn (fMul (Ec.Wp.X p) (fMul (Ec.Wp.Z q) (Ec.Wp.Z q) PR) PR) (fMul (fSub (fMul (Ec.Wp.X q) (fMul (Ec.Wp.Z p) (Ec.Wp.Z p) PR) PR) (fMul (Ec.Wp.X p) (fMul (Ec.Wp.Z q) (Ec.Wp.Z q) PR) PR) PR) (fSub (fMul (Ec.Wp.X q) (fMul (Ec.Wp.Z p) (Ec.Wp.Z p) PR) PR) (fMul (Ec.Wp.X p) (fMul (Ec.Wp.Z q) (Ec.Wp.Z q) PR) PR) PR) PR) (fMul_lt pr_ok) (fMul_lt pr_ok)), .s 5] H17 kr fun gs18 w18 H18 => ?_
        clear H17
        refine dS [.l 10, .l 5, .l 5, .l 12, .c (psum_fn (fMul (fMul (Ec.Wp.X p) (fMul (Ec.Wp.Z q) (Ec.Wp.Z q) PR) PR) (fMul (fSub (fMul (Ec.Wp.X q) (fMul (Ec.Wp.Z p) (Ec.Wp.Z p) PR) PR) (fMul (Ec.Wp.X p) (fMul (Ec.Wp.Z q) (Ec.Wp.Z q) PR) PR) PR) (fSub (fMul (Ec.Wp.X q) (fMul (Ec.Wp.Z p) (Ec.Wp.Z p) PR) PR) (fMul (Ec.Wp.X p) (fMul (Ec.Wp.Z q) (Ec.Wp.Z q) PR) PR) PR) PR) PR) (fMul (fMul (fSub (fMul (Ec.Wp.X q) (fMul (Ec.Wp.Z p) (Ec.Wp.Z p) PR) PR) (fMul (Ec.Wp.X p) (fMul (Ec.Wp.Z q) (Ec.Wp.Z q) PR) PR) PR) (fSub (fMul (Ec.Wp.X q) (fMul (Ec.Wp.Z p) (Ec.Wp.Z p) PR) PR) (fMul (Ec.Wp.X p) (fMul (Ec.Wp.Z q) (Ec.Wp.Z q) PR) PR) PR) PR) (fSub (fMul (Ec.Wp.X q) (fMul (Ec.Wp.Z p) (Ec.Wp.Z p) PR) PR) (fMul (Ec.Wp.X p) (fMul (Ec.Wp.Z q) (Ec.Wp.Z q) PR) PR) PR) PR) (fMul_lt pr_ok) (fMul_lt pr_ok)), .l 7, .l 12, .c (pmul_fn (fMul (Ec.Wp.Y p) (fMul (fMul (Ec.Wp.Z q) (Ec.Wp.Z q) PR) (Ec.Wp.Z q) PR) PR) (fMul (fMul (fSub (fMul (Ec.Wp.X q) (fMul (Ec.Wp.Z p) (Ec.Wp.Z p) PR) PR) (fMul (Ec.Wp.X p) (fMul (Ec.Wp.Z q) (Ec.Wp.Z q) PR) PR) PR) (fSub (fMul (Ec.Wp.X q) (fMul (Ec.Wp.Z p) (Ec.Wp.Z p) PR) PR) (fMul (Ec.Wp.X p) (fMul (Ec.Wp.Z q) (Ec.Wp.Z q) PR) PR) PR) PR) (fSub (fMul (Ec.Wp.X q) (fMul (Ec.Wp.Z p) (Ec.Wp.Z p) PR) PR) (fMul (Ec.Wp.X p) (fMul (Ec.Wp.Z q) (Ec.Wp.Z q) PR) PR) PR) PR) (fMul_lt pr_ok) (fMul_lt pr_ok)), .v, .l 0, .v, .l 1, .c (pmul_fn (Ec.Wp.Z p) (Ec.Wp.Z q) hp.Z hq.Z), .l 9, .c (pmul_fn (fMul (Ec.Wp.Z p) (Ec.Wp.Z q) PR) (fSub (fMul (Ec.Wp.X q) (fMul (Ec.Wp.Z p) (Ec.Wp.Z p) PR) PR) (fMul (Ec.Wp.X p) (fMul (Ec.Wp.Z q) (Ec.Wp.Z q) PR) PR) PR) (fMul_lt pr_ok) (fSub_lt pr_ok)), .c (third_fn (fSub (fMul (Ec.Wp.Y q) (fMul (fMul (Ec.Wp.Z p) (Ec.Wp.Z p) PR) (Ec.Wp.Z p) PR) PR) (fMul (Ec.Wp.Y p) (fMul (fMul (Ec.Wp.Z q) (Ec.Wp.Z q) PR) (Ec.Wp.Z q) PR) PR) PR) (fMul (fMul (Ec.Wp.X p) (fMul (Ec.Wp.Z q) (Ec.Wp.Z q) PR) PR) (fMul (fSub (fMul (Ec.Wp.X q) (fMul (Ec.Wp.Z p) (Ec.Wp.Z p) PR) PR) (fMul (Ec.Wp.X p) (fMul (Ec.Wp.Z q) (Ec.Wp.Z q) PR) PR) PR) (fSub (fMul (Ec.Wp.X q) (fMul (Ec.Wp.Z p) (Ec.Wp.Z p) PR) PR) (fMul (Ec.Wp.X p) (fMul (Ec.Wp.Z q) (Ec.Wp.Z q) PR) PR) PR) PR) PR) (fAdd (fMul (fMul (Ec.Wp.X p) (fMul (Ec.Wp.Z q) (Ec.Wp.Z q) PR) PR) (fMul (fSub (fMul (Ec.Wp.X q) (fMul (Ec.Wp.Z p) (Ec.Wp.Z p) PR) PR) (fMul (Ec.Wp.X p) (fMul (Ec.Wp.Z q) (Ec.Wp.Z q) PR) PR) PR) (fSub (fMul (Ec.Wp.X q) (fMul (Ec.Wp.Z p) (Ec.Wp.Z p) PR) PR) (fMul (Ec.Wp.X p) (fMul (Ec.Wp.Z q) (Ec.Wp.Z q) PR) PR) PR) PR) PR) (fMul (fMul (fSub (fMul (Ec.Wp.X q) (fMul (Ec.Wp.Z p) (Ec.Wp.Z p) PR) PR) (fMul (Ec.Wp.X p) (fMul (Ec.Wp.Z q) (Ec.Wp.Z q) PR) PR) PR) (fSub (fMul (Ec.Wp.X q) (fMul (Ec.Wp.Z p) (Ec.Wp.Z p) PR) PR) (fMul (Ec.Wp.X p) (fMul (Ec.Wp.Z q) (Ec.Wp.Z q) PR) PR) PR) PR) (fSub (fMul (Ec.Wp.X q) (fMul (Ec.Wp.Z p) (Ec.Wp.Z p) PR) PR) (fMul (Ec.Wp.X p) (fMul (Ec.Wp.Z q) (Ec.Wp.Z q) PR) PR) PR) PR) PR) (fMul (fMul (Ec.Wp.Y p) (fMul (fMul (Ec.Wp.Z q) (Ec.Wp.Z q) PR) (Ec.Wp.Z q) PR) PR) (fMul (fMul (fSub (fMul (Ec.Wp.X q) (fMul (Ec.Wp.Z p) (Ec.Wp.Z p) PR) PR) (fMul (Ec.Wp.X p) (fMul (Ec.Wp.Z q) (Ec.Wp.Z q) PR) PR) PR) (fSub (fMul (Ec.Wp.X q) (fMul (Ec.Wp.Z p) (Ec.Wp.Z p) PR) PR) (fMul (Ec.Wp.X p) (fMul (Ec.Wp.Z q) (Ec.Wp.Z q) PR) PR) PR) PR) (fSub (fMul (Ec.Wp.X q) (fMul (Ec.Wp.Z p) (Ec.Wp.Z p) PR) PR) (fMul (Ec.Wp.X p) (fMul (Ec.Wp.Z q) (Ec.Wp.Z q) PR) PR) PR) PR) PR) (fMul (fMul (Ec.Wp.Z p) (Ec.Wp.Z q) PR) (fSub (fMul (Ec.Wp.X q) (fMul (Ec.Wp.Z p) (Ec.Wp.Z p) PR) PR) (fMul (Ec.Wp.X p) (fMul (Ec.Wp.Z q) (Ec.Wp.Z q) PR) PR) PR) PR) (fSub_lt pr_ok) (fMul_lt pr_ok) (fAdd_lt pr_ok) (fMul_lt pr_ok) (fMul_lt pr_ok)), .s 2] H18 kr fun w19 H19 => ?_
        clear H18
        refine g_ret kr ?_
        show ∃ vs, Res _ _ _ _ vs ∧ _
        refine ⟨[wv (Ec.thirdW (fSub (fMul (Ec.Wp.Y q) (fMul (fMul (Ec.Wp.Z p) (Ec.Wp.Z p) PR) (Ec.Wp.Z p) PR) PR) (fMul (Ec.Wp.Y p) (fMul (fMul (Ec.Wp.Z q) (Ec.Wp.Z q) PR) (Ec.Wp.Z q) PR) PR) PR) (fMul (fMul (Ec.Wp.X p) (fMul (Ec.Wp.Z q) (Ec.Wp.Z q) PR) PR) (fMul (fSub (fMul (Ec.Wp.X q) (fMul (Ec.Wp.Z p) (Ec.Wp.Z p) PR) PR) (fMul (Ec.Wp.X p) (fMul (Ec.Wp.Z q) (Ec.Wp.Z q) PR) PR) PR) (fSub (fMul (Ec.Wp.X q) (fMul (Ec.Wp.Z p) (Ec.Wp.Z p) PR) PR) (fMul (Ec.Wp.X p) (fMul (Ec.Wp.Z q) (Ec.Wp.Z q) PR) PR) PR) PR) PR) (fAdd (fMul (fMul (Ec.Wp.X p) (fMul (Ec.Wp.Z q) (Ec.Wp.Z q) PR) PR) (fMul (fSub (fMul (Ec.Wp.X q) (fMul (Ec.Wp.Z p) (Ec.Wp.Z p) PR) PR) (fMul (Ec.Wp.X p) (fMul (Ec.Wp.Z q) (Ec.Wp.Z q) PR) PR) PR) (fSub (fMul (Ec.Wp.X q) (fMul (Ec.Wp.Z p) (Ec.Wp.Z p) PR) PR) (fMul (Ec.Wp.X p) (fMul (Ec.Wp.Z q) (Ec.Wp.Z q) PR) PR) PR) PR) PR) (fMul (fMul (fSub (fMul (Ec.Wp.X q) (fMul (Ec.Wp.Z p) (Ec.Wp.Z p) PR) PR) (fMul (Ec.Wp.X p) (fMul (Ec.Wp.Z q) (Ec.Wp.Z q) PR) PR) PR) (fSub (fMul (Ec.Wp.X q) (fMul (Ec.Wp.Z p) (Ec.Wp.Z p) PR) PR) (fMul (Ec.Wp.X p) (fMul (Ec.Wp.Z q) (Ec.Wp.Z q) PR) PR) PR) PR) (fSub (fMul (Ec.Wp.X q) (fMul (Ec.Wp.Z p) (Ec.Wp.Z p) PR) PR) (fMul (Ec.Wp.X p) (fMul (Ec.Wp.Z q) (Ec.Wp.Z q) PR) PR) PR) PR) PR) (fMul (fMul (Ec.Wp.Y p) (fMul (fMul (Ec.Wp.Z q) (Ec.Wp.Z q) PR) (Ec.Wp.Z q) PR) PR) (fMul (fMul (fSub (fMul (Ec.Wp.X q) (fMul (Ec.Wp.Z p) (Ec.Wp.Z p) PR) PR) (fMul (Ec.Wp.X p) (fMul (Ec.Wp.Z q) (Ec.Wp.Z q) PR) PR) PR) (fSub (fMul (Ec.Wp.X q) (fMul (Ec.Wp.Z p) (Ec.Wp.Z p) PR) PR) (fMul (Ec.Wp.X p) (fMul (Ec.Wp.Z q) (Ec.Wp.Z q) PR) PR) PR) PR) (fSub (fMul (Ec.Wp.X q) (fMul (Ec.Wp.Z p) (Ec.Wp.Z p) PR) PR) (fMul (Ec.Wp.X p) (fMul (Ec.Wp.Z q) (Ec.Wp.Z q) PR) PR) PR) PR) PR) (fMul (fMul (Ec.Wp.Z p) (Ec.Wp.Z q) PR) (fSub (fMul (Ec.Wp.X q) (fMul (Ec.Wp.Z p) (Ec.Wp.Z p) PR) PR) (fMul (Ec.Wp.X p) (fMul (Ec.Wp.Z q) (Ec.Wp.Z q) PR) PR) PR) PR))], (.agg (b := (gs1 2).b) (Value.cells (wv (Ec.thirdW (fSub (fMul (Ec.Wp.Y q) (fMul (fMul (Ec.Wp.Z p) (Ec.Wp.Z p) PR) (Ec.Wp.Z p) PR) PR) (fMul (Ec.Wp.Y p) (fMul (fMul (Ec.Wp.Z q) (Ec.Wp.Z q) PR) (Ec.Wp.Z q) PR) PR) PR) (fMul (fMul (Ec.Wp.X p) (fMul (Ec.Wp.Z q) (Ec.Wp.Z q) PR) PR) (fMul (fSub (fMul (Ec.Wp.X q) (fMul (Ec.Wp.Z p) (Ec.Wp.Z p) PR) PR) (fMul (Ec.Wp.X p) (fMul (Ec.Wp.Z q) (Ec.Wp.Z q) PR) PR) PR) (fSub (fMul (Ec.Wp.X q) (fMul (Ec.Wp.Z p) (Ec.Wp.Z p) PR) PR) (fMul (Ec.Wp.X p) (fMul (Ec.Wp.Z q) (Ec.Wp.Z q) PR) PR) PR) PR) PR) (fAdd (fMul (fMul (Ec.Wp.X p) (fMul (Ec.Wp.Z q) (Ec.Wp.Z q) PR) PR) (fMul (fSub (fMul (Ec.Wp.X q) (fMul (Ec.Wp.Z p) (Ec.Wp.Z p) PR) PR) (fMul (Ec.Wp.X p) (fMul (Ec.Wp.Z q) (Ec.Wp.Z q) PR) PR) PR) (fSub (fMul (Ec.Wp.X q) (fMul (Ec.Wp.Z p) (Ec.Wp.Z p) PR) PR) (fMul (Ec.Wp.X p) (fMul (Ec.Wp.Z q) (Ec.Wp.Z q) PR) PR) PR) PR) PR) (fMul (fMul (fSub (fMul (Ec.Wp.X q) (fMul (Ec.Wp.Z p) (Ec.Wp.Z p) PR) PR) (fMul (Ec.Wp.X p) (fMul (Ec.Wp.Z q) (Ec.Wp.Z q) PR) PR) PR) (fSub (fMul (Ec.Wp.X q) (fMul (Ec.Wp.Z p) (Ec.Wp.Z p) PR) PR) (fMul (Ec.Wp.X p) (fMul (Ec.Wp.Z q) (Ec.Wp.Z q) PR) PR) PR) PR) (fSub (fMul (Ec.Wp.X q) (fMul (Ec.Wp.Z p) (Ec.Wp.Z p) PR) PR) (fMul (Ec.Wp.X p) (fMul (Ec.Wp.Z q) (Ec.Wp.Z q) PR) PR) PR) PR) PR) (fMul (fMul (Ec.Wp.Y p) (fMul (fMul (Ec.Wp.Z q) (Ec.Wp.Z q) PR) (Ec.Wp.Z q) PR) PR) (fMul (fMul (fSub (fMul (Ec.Wp.X q) (fMul (Ec.Wp.Z p) (Ec.Wp.Z p) PR) PR) (fMul (Ec.Wp.X p) (fMul (Ec.Wp.Z q) (Ec.Wp.Z q) PR) PR) PR) (fSub (fMul (Ec.Wp.X q) (fMul (Ec.Wp.Z p) (Ec.Wp.Z p) PR) PR) (fMul (Ec.Wp.X p) (fMul (Ec.Wp.Z q) (Ec.Wp.Z q) PR) PR) PR) PR) (fSub (fMul (Ec.Wp.X q) (fMul (Ec.Wp.Z p) (Ec.Wp.Z p) PR) PR) (fMul (Ec.Wp.X p) (fMul (Ec.Wp.Z q) (Ec.Wp.Z q) PR) PR) PR) PR) PR) (fMul (fMul (Ec.Wp.Z p) (Ec.Wp.Z q) PR) (fSub (fMul (Ec.Wp.X q) (fMul (Ec.Wp.Z p) (Ec.Wp.Z p) PR) PR) (fMul (Ec.Wp.X p) (fMul (Ec.Wp.Z q) (Ec.Wp.Z q) PR) PR) PR) PR)))) 65 (0, 0) kr (H19.get 2 kr) kr .nil), ?_, H19.below⟩
        exact congrArg wv (Ec.plusW_3 hb1 hb2 he3).symm
    · skip
      refine g_now 21 (v := .bool (Ec.Wp.b q)) (v' := .bool true) (bool_eq hb2) kr ?_
      refine g_cond_t kr kr ?_
      refine rS [.l 0, .s 2] H3 kr fun gs20 w20 H20 => ?_
      clear H3
      refine g_ret kr ?_
      show ∃ vs, Res _ _ _ _ vs ∧ _
      refine ⟨[wv p], (.agg (b := (gs1 2).b) (Value.cells (wv p)) 65 (0, 0) kr (H20.get 2 kr) kr .nil), ?_, H20.below⟩
      exact congrArg wv (Ec.plusW_2 hb1 hb2).symm
  · skip
    refine g_now 17 (v := .bool (Ec.Wp.b p)) (v' := .bool true) (bool_eq hb1) kr ?_
    refine g_cond_t kr kr ?_
    refine rS [.l 1, .s 2] H2 kr fun gs21 w21 H21 => ?_
    clear H2
    refine g_ret kr ?_
    show ∃ vs, Res _ _ _ _ vs ∧ _
    refine ⟨[wv q], (.agg (b := (gs1 2).b) (Value.cells (wv q)) 65 (0, 0) kr (H21.get 2 kr) kr .nil), ?_, H21.below⟩
    exact congrArg wv (Ec.plusW_1 hb1).symm
theorem plusM_fn (p : Ec.Wp) (hp : p.Ok) (k : Nat) : Fn Tryd.prog 73 #[wv (Ec.mults p k), wv p] (wv (Ec.mults p (k + 1))) := plus_fn (Ec.mults p k) p (Ec.mults_ok hp k) hp
set_option maxRecDepth 100000 in
set_option maxHeartbeats 2000000 in
theorem narrow_fn (p : Ec.Wp) (hp : p.Ok) (P : Ec.Pt Ec.Fp) (hs : Ec.Stands p P) : Fn Tryd.prog 40 #[wv p] (pv (Ec.ofPt P)) := by
  refine Fn.intro (c := codeOf Tryd.f40) [.cell 2 26] 33 Tryd.func40 kr kr kr fun w => ?_
  have H0 := St.start w
  refine rS [.b, .a] H0 kr fun gs1 w1 H1 => ?_
  clear H0
  refine g_seq kr ?_
  refine rS [.v, .v, .l 0] H1 kr fun gs2 w2 H2 => ?_
  clear H1
  rcases (Bool.eq_false_or_eq_true (Ec.Wp.b p)).symm with hb1 | hb1
  · skip
    refine g_now 8 (v := .bool (Ec.Wp.b p)) (v' := .bool false) (bool_eq hb1) kr ?_
    refine g_cond_f kr kr ?_
    refine g_skip kr ?_
    show WP _ _ _ _ _ _
    refine rS [.v, .l 0, .c (inv0_fn (Ec.Wp.Z p) hp.Z (Ec.stands_nz hs hb1)), .v, .v, .v, .a, .s 2, .v] H2 kr fun gs3 w3 H3 => ?_
    clear H2
    refine rS [.l 2, .l 2, .c (pmul_fn (finv (Ec.Wp.Z p) PR) (finv (Ec.Wp.Z p) PR) (fpw_lt pr_ok) (fpw_lt pr_ok)), .a, .s 3] H3 kr fun gs4 w4 H4 => ?_
    clear H3
    refine g_keep [0, 1, 2, 3, 5, 8] fun ρ1 => ?_
    have HK1 := H4.keep
    clear H4
    refine dS [.v, .v, .l 0, .l 3, .c (pmul_fn (Ec.Wp.X p) (fMul (finv (Ec.Wp.Z p) PR) (finv (Ec.Wp.Z p) PR) PR) hp.X (fMul_lt pr_ok)), .v, .v, .l 0, .l 3, .l 2, .c (pmul_fn (fMul (finv (Ec.Wp.Z p) PR) (finv (Ec.Wp.Z p) PR) PR) (finv (Ec.Wp.Z p) PR) (fMul_lt pr_ok) (fpw_lt pr_ok)), .c (pmul_fn (Ec.Wp.Y p) (fMul (fMul (finv (Ec.Wp.Z p) PR) (finv (Ec.Wp.Z p) PR) PR) (finv (Ec.Wp.Z p) PR) PR) hp.Y (fMul_lt pr_ok)), .v, .s 1] HK1 kr fun w5 H5 => ?_
    clear HK1
    refine g_ret kr ?_
    show ∃ vs, Res _ _ _ _ vs ∧ _
    refine ⟨[pv (Ec.Pd.mk (fMul (Ec.Wp.X p) (fMul (finv (Ec.Wp.Z p) PR) (finv (Ec.Wp.Z p) PR) PR) PR) (fMul (Ec.Wp.Y p) (fMul (fMul (finv (Ec.Wp.Z p) PR) (finv (Ec.Wp.Z p) PR) PR) (finv (Ec.Wp.Z p) PR) PR) PR) false)], (.agg (b := (gs1 1).b) (Value.cells (pv (Ec.Pd.mk (fMul (Ec.Wp.X p) (fMul (finv (Ec.Wp.Z p) PR) (finv (Ec.Wp.Z p) PR) PR) PR) (fMul (Ec.Wp.Y p) (fMul (fMul (finv (Ec.Wp.Z p) PR) (finv (Ec.Wp.Z p) PR) PR) (finv (Ec.Wp.Z p) PR) PR) PR) false))) 26 (0, 0) kr (H5.get 1 kr) kr .nil), ?_, H5.below⟩
    have e : Ec.narrowW p = Ec.narrowF p := by unfold Ec.narrowW; rw [hb1]; rfl
    rw [← Ec.narrow_rep hs, e]; rfl
  · skip
    refine g_now 8 (v := .bool (Ec.Wp.b p)) (v' := .bool true) (bool_eq hb1) kr ?_
    refine g_cond_t kr kr ?_
    refine rS [.v, .l 0, .s 1] H2 kr fun gs6 w6 H6 => ?_
    clear H2
    refine g_ret kr ?_
    show ∃ vs, Res _ _ _ _ vs ∧ _
    refine ⟨[pv (Ec.Pd.mk (Ec.Wp.X p) (Ec.Wp.Y p) (Ec.Wp.b p))], (.agg (b := (gs1 1).b) (Value.cells (pv (Ec.Pd.mk (Ec.Wp.X p) (Ec.Wp.Y p) (Ec.Wp.b p)))) 26 (0, 0) kr (H6.get 1 kr) kr .nil), ?_, H6.below⟩
    have e : Ec.narrowW p = Ec.Pd.mk p.X p.Y p.b := by unfold Ec.narrowW; rw [hb1]; rfl
    rw [← Ec.narrow_rep hs, e]; rfl
end Go.Proofs.YtmmloghbnpfedaaDoor

namespace Go.Proofs.YtmmloghbnpfedaaDoor
open Go Go.RowKit
set_option linter.unusedVariables false
end Go.Proofs.YtmmloghbnpfedaaDoor

namespace Go.Proofs.YtmmloghbnpfedaaDoor
set_option linter.unusedVariables false
/-! ### Roots: of any prime that leaves 3, divided by 4 -/
section
variable {p H Q : Nat}
end
/-- Half of what is below the prime. -/
def HR : Nat := 57896044618658097711785492504343953926634992332820282019728792003954417335831
/-- Is A a square? 1 or -1. -/
def sgn (A : Nat) : Nat := veil A (A ^ HR % PR)
end Go.Proofs.YtmmloghbnpfedaaDoor

namespace Go.Proofs.YtmmloghbnpfedaaDoor
open Go Go.RowKit Go.Proofs.Zm
set_option linter.unusedVariables false
/-! ### Shares -/
def zeroC : List Value := [.int .u64 0, .int .u64 0, .int .u64 0, .int .u64 0, .int .u64 0, .int .u64 0, .int .u64 0, .int .u64 0, .bool false, .int .u64 0, .int .u64 0, .int .u64 0, .int .u64 0]
def slotC (p : Ec.Wp) (k i : Nat) : List Value := bif Nat.ble i k then (Value.cells (wv (Ec.mults p i))).toList else zeroC
/-- A share with its first k + 1 multiples. -/
def shv (n : Nat) (p : Ec.Wp) (k : Nat) : Value := .agg ([Value.int .u64 (w0 n), .int .u64 (w1 n), .int .u64 (w2 n), .int .u64 (w3 n)] ++ (slotC p k 0 ++ (slotC p k 1 ++ (slotC p k 2 ++ (slotC p k 3 ++ (slotC p k 4 ++ (slotC p k 5 ++ (slotC p k 6 ++ (slotC p k 7 ++ (slotC p k 8 ++ (slotC p k 9 ++ (slotC p k 10 ++ (slotC p k 11 ++ (slotC p k 12 ++ (slotC p k 13 ++ (slotC p k 14 ++ slotC p k 15)))))))))))))))).toArray
def shw (n q : Nat) : Nat := n / 2 ^ (64 * q) % 18446744073709551616
theorem shw_at (n : Nat) (p : Ec.Wp) {q off : Nat} (ho : off = 0 + q * 1) (hq : q < 4) : (Value.cells (shv n p 15))[off]? = some (.int .u64 ((shw n q : Nat) : Int)) := by
  subst ho
  unfold shw
  have h : q = 0 ∨ q = 1 ∨ q = 2 ∨ q = 3 := by omega
  rcases h with rfl | rfl | rfl | rfl
  · show some (Value.int .u64 (w0 n)) = _; unfold w0; rw [show 2 ^ (64 * 0) = 1 from rfl, Nat.div_one]
  · show some (Value.int .u64 (w1 n)) = _; unfold w1; rfl
  · show some (Value.int .u64 (w2 n)) = _; unfold w2; rfl
  · show some (Value.int .u64 (w3 n)) = _; unfold w3; rfl
theorem shm_at (n : Nat) (p : Ec.Wp) {q off : Nat} (ho : off = 4 + q * 13) (hq : q < 16) : (Value.cells (shv n p 15)).extract off (off + 13) = Value.cells (wv (Ec.mults p q)) := by
  subst ho
  have h : q = 0 ∨ q = 1 ∨ q = 2 ∨ q = 3 ∨ q = 4 ∨ q = 5 ∨ q = 6 ∨ q = 7 ∨ q = 8 ∨ q = 9 ∨ q = 10 ∨ q = 11 ∨ q = 12 ∨ q = 13 ∨ q = 14 ∨ q = 15 := by omega
  rcases h with rfl | rfl | rfl | rfl | rfl | rfl | rfl | rfl | rfl | rfl | rfl | rfl | rfl | rfl | rfl | rfl <;> (show _ = _; kernel_rfl)
theorem sh_size (n : Nat) (p : Ec.Wp) : (Value.cells (shv n p 15)).size = 212 := kr
theorem dig_bits (n d : Nat) : shw n (d * 4 / 64) / 2 ^ (d * 4 % 64) % 16 = n / 16 ^ d % 16 := by
  unfold shw
  have h16 : (16 : Nat) ^ d = 2 ^ (64 * (d * 4 / 64)) * 2 ^ (d * 4 % 64) := by
    rw [← Nat.pow_add, show (16 : Nat) = 2 ^ 4 from rfl, ← Nat.pow_mul]; congr 1; omega
  rw [h16, ← Nat.div_div_eq_div_mul]
  generalize n / 2 ^ (64 * (d * 4 / 64)) = X
  have hm : d * 4 % 64 ≤ 60 := by omega
  generalize d * 4 % 64 = m at hm
  have e : 18446744073709551616 = 2 ^ m * 2 ^ (64 - m) := by rw [← Nat.pow_add, show m + (64 - m) = 64 by omega]
  rw [e, Nat.mod_mul_right_div_self, Nat.mod_mod_of_dvd]
  exact ⟨2 ^ (60 - m), by rw [show (16 : Nat) = 2 ^ 4 from rfl, ← Nat.pow_add]; congr 1; omega⟩
theorem tog_next {n : Nat} {p : Ec.Wp} {j : Nat} (h1 : 1 ≤ j) (h2 : j ≤ 64) : Ec.plusW (Ec.dblW (Ec.dblW (Ec.dblW (Ec.dblW (Ec.tog n p (64 - j)))))) (Ec.mults p (n / 16 ^ (j - 1) % 16)) = Ec.tog n p (64 - (j - 1)) := by
  rw [show 64 - (j - 1) = (64 - j) + 1 by omega]
  show _ = Ec.plusW (Ec.quad _) (Ec.mults p (n / 16 ^ (63 - (64 - j)) % 16))
  rw [show 63 - (64 - j) = j - 1 by omega]; rfl
/-! ### Roots -/
/-! ### Sums, told by multiplying back -/
end Go.Proofs.YtmmloghbnpfedaaDoor

namespace Go.Proofs.YtmmloghbnpfedaaDoor
open Go Go.RowKit
set_option linter.unusedVariables false
set_option maxRecDepth 100000 in
set_option maxHeartbeats 2000000 in
theorem on_fn (p : Ec.Pd) (hp : p.Ok) : Fn Tryd.prog 27 #[pv p] (.bool (Ec.onB p)) := by
  refine Fn.intro (c := codeOf Tryd.f27) [.tmp 2] 28 Tryd.func27 kr kr kr fun w => ?_
  have H0 := St.start w
  refine rS [.b, .v] H0 kr fun gs1 w1 H1 => ?_
  clear H0
  refine g_seq kr ?_
  refine rS [.v, .l 0] H1 kr fun gs2 w2 H2 => ?_
  clear H1
  rcases (Bool.eq_false_or_eq_true (Ec.Pd.b p)).symm with hb1 | hb1
  · skip
    refine g_now 4 (v := .bool (Ec.Pd.b p)) (v' := .bool false) (bool_eq hb1) kr ?_
    refine g_cond_f kr kr ?_
    refine g_skip kr ?_
    show WP _ _ _ _ _ _
    by_cases hx1 : (Ec.Pd.X p) < PR
    · skip
      by_cases hx2 : (Ec.Pd.Y p) < PR
      · skip
        refine dS [.v, .l 0, .c (red_yes (Ec.Pd.X p) hp.X (by omega)), .v, .v, .l 0, .c (red_yes (Ec.Pd.Y p) hp.Y (by omega)), .v, .v, .v, .l 0, .v, .l 0, .c (pmul_fn (Ec.Pd.Y p) (Ec.Pd.Y p) hp.Y hp.Y), .v, .l 0, .c (square_fn (Ec.Pd.X p) hp.X), .o (ins := [((.tmp 22), uv (fMul (Ec.Pd.Y p) (Ec.Pd.Y p) PR)), ((.tmp 25), uv (Ec.sqN (Ec.Pd.X p)))]) (v := .bool (decide ((fMul (Ec.Pd.Y p) (Ec.Pd.Y p) PR) = (Ec.sqN (Ec.Pd.X p))))) (fun ρ o w ho hi => eqU_run (x := (.tmp 22)) (y := (.tmp 25)) (fMul (Ec.Pd.Y p) (Ec.Pd.Y p) PR) (Ec.sqN (Ec.Pd.X p)) (fMul_lt pr_ok) (Ec.P_big (Ec.sqN_lt _)) w ho hi.1 hi.2.1), .v, .v] H2 kr fun w3 H3 => ?_
        clear H2
        refine g_ret kr ?_
        show ∃ vs, Res _ _ _ _ vs ∧ _
        refine ⟨[.bool (decide ((fMul (Ec.Pd.Y p) (Ec.Pd.Y p) PR) = (Ec.sqN (Ec.Pd.X p))))], (.tmp (.bool (decide ((fMul (Ec.Pd.Y p) (Ec.Pd.Y p) PR) = (Ec.sqN (Ec.Pd.X p))))) kr .nil), ?_, H3.below⟩
        exact congrArg Value.bool (Ec.onB_e hb1 (by omega) (by omega)).symm
      · skip
        refine dS [.v, .l 0, .c (red_yes (Ec.Pd.X p) hp.X (by omega)), .v, .v, .l 0, .c (red_no (Ec.Pd.Y p) hp.Y (by omega)), .v, .v, .n, .n, .n, .n, .n, .n, .n, .n, .n, .v, .v] H2 kr fun w4 H4 => ?_
        clear H2
        refine g_ret kr ?_
        show ∃ vs, Res _ _ _ _ vs ∧ _
        refine ⟨[.bool false], (.tmp (.bool false) kr .nil), ?_, H4.below⟩
        exact congrArg Value.bool (Ec.onB_y hb1 (by omega) (by omega)).symm
    · skip
      by_cases hx3 : (Ec.Pd.Y p) < PR
      · skip
        refine dS [.v, .l 0, .c (red_no (Ec.Pd.X p) hp.X (by omega)), .v, .n, .n, .n, .v, .v, .n, .n, .n, .n, .n, .n, .n, .n, .n, .v, .v] H2 kr fun w5 H5 => ?_
        clear H2
        refine g_ret kr ?_
        show ∃ vs, Res _ _ _ _ vs ∧ _
        refine ⟨[.bool false], (.tmp (.bool false) kr .nil), ?_, H5.below⟩
        exact congrArg Value.bool (Ec.onB_x hb1 (by omega)).symm
      · skip
        refine dS [.v, .l 0, .c (red_no (Ec.Pd.X p) hp.X (by omega)), .v, .n, .n, .n, .v, .v, .n, .n, .n, .n, .n, .n, .n, .n, .n, .v, .v] H2 kr fun w6 H6 => ?_
        clear H2
        refine g_ret kr ?_
        show ∃ vs, Res _ _ _ _ vs ∧ _
        refine ⟨[.bool false], (.tmp (.bool false) kr .nil), ?_, H6.below⟩
        exact congrArg Value.bool (Ec.onB_x hb1 (by omega)).symm
  · skip
    refine g_now 4 (v := .bool (Ec.Pd.b p)) (v' := .bool true) (bool_eq hb1) kr ?_
    refine g_cond_t kr kr ?_
    refine dS [.l 0, .c pzero_fn, .v, .o (ins := [((.tmp 5), pv p), ((.tmp 7), pv (Ec.Pd.mk 0 0 true))]) (v := .bool (decide (p = (Ec.Pd.mk 0 0 true)))) (fun ρ o w ho hi => eqP_run (x := (.tmp 5)) (y := (.tmp 7)) p (Ec.Pd.mk 0 0 true) hp (Ec.Pd.Ok.mk (p := Ec.Pd.mk 0 0 true) Ec.big_0 Ec.big_0) w ho hi.1 hi.2.1), .v] H2 kr fun w7 H7 => ?_
    clear H2
    refine g_ret kr ?_
    show ∃ vs, Res _ _ _ _ vs ∧ _
    refine ⟨[.bool (decide (p = (Ec.Pd.mk 0 0 true)))], (.tmp (.bool (decide (p = (Ec.Pd.mk 0 0 true)))) kr .nil), ?_, H7.below⟩
    exact congrArg Value.bool (Ec.onB_1 hb1).symm
set_option maxRecDepth 100000 in
set_option maxHeartbeats 2000000 in
theorem ron_fn (p : Ec.Pd) (hp : p.Ok) : Fn Tryd.prog 8 #[pv p] (.bool (Ec.onB p)) := by
  refine Fn.intro (c := codeOf Tryd.f8) [.tmp 2] 34 Tryd.func8 kr kr kr fun w => ?_
  have H0 := St.start w
  refine rS [.b, .v] H0 kr fun gs1 w1 H1 => ?_
  clear H0
  refine g_seq kr ?_
  refine rS [.v, .l 0] H1 kr fun gs2 w2 H2 => ?_
  clear H1
  rcases (Bool.eq_false_or_eq_true (Ec.Pd.b p)).symm with hb1 | hb1
  · skip
    refine g_now 4 (v := .bool (Ec.Pd.b p)) (v' := .bool false) (bool_eq hb1) kr ?_
    refine g_cond_f kr kr ?_
    refine g_skip kr ?_
    show WP _ _ _ _ _ _
    by_cases hx1 : (Ec.Pd.X p) < PR
    · skip
      by_cases hx2 : (Ec.Pd.Y p) < PR
      · skip
        refine dS [.v, .l 0, .c (rred_yes (Ec.Pd.X p) hp.X (by omega)), .v, .v, .l 0, .c (rred_yes (Ec.Pd.Y p) hp.Y (by omega)), .v, .v, .v, .l 0, .v, .l 0, .c (rmul6_fn (Ec.Pd.Y p) (Ec.Pd.Y p) hp.Y hp.Y), .v, .l 0, .v, .l 0, .c (rmul6_fn (Ec.Pd.X p) (Ec.Pd.X p) hp.X hp.X), .v, .l 0, .c (rmul6_fn (fMul (Ec.Pd.X p) (Ec.Pd.X p) PR) (Ec.Pd.X p) (fMul_lt pr_ok) hp.X), .v, .c (radd6_fn (fMul (fMul (Ec.Pd.X p) (Ec.Pd.X p) PR) (Ec.Pd.X p) PR) 7 (fMul_lt pr_ok) (by unfold big; omega)), .o (ins := [((.tmp 21), uv (fMul (Ec.Pd.Y p) (Ec.Pd.Y p) PR)), ((.tmp 31), uv (fAdd (fMul (fMul (Ec.Pd.X p) (Ec.Pd.X p) PR) (Ec.Pd.X p) PR) 7 PR))]) (v := .bool (decide ((fMul (Ec.Pd.Y p) (Ec.Pd.Y p) PR) = (fAdd (fMul (fMul (Ec.Pd.X p) (Ec.Pd.X p) PR) (Ec.Pd.X p) PR) 7 PR)))) (fun ρ o w ho hi => eqU_run (x := (.tmp 21)) (y := (.tmp 31)) (fMul (Ec.Pd.Y p) (Ec.Pd.Y p) PR) (fAdd (fMul (fMul (Ec.Pd.X p) (Ec.Pd.X p) PR) (Ec.Pd.X p) PR) 7 PR) (fMul_lt pr_ok) (fAdd_lt pr_ok) w ho hi.1 hi.2.1), .v, .v] H2 kr fun w3 H3 => ?_
        clear H2
        refine g_ret kr ?_
        show ∃ vs, Res _ _ _ _ vs ∧ _
        refine ⟨[.bool (decide ((fMul (Ec.Pd.Y p) (Ec.Pd.Y p) PR) = (fAdd (fMul (fMul (Ec.Pd.X p) (Ec.Pd.X p) PR) (Ec.Pd.X p) PR) 7 PR)))], (.tmp (.bool (decide ((fMul (Ec.Pd.Y p) (Ec.Pd.Y p) PR) = (fAdd (fMul (fMul (Ec.Pd.X p) (Ec.Pd.X p) PR) (Ec.Pd.X p) PR) 7 PR)))) kr .nil), ?_, H3.below⟩
        exact congrArg Value.bool (Ec.onB_e hb1 (by omega) (by omega)).symm
      · skip
        refine dS [.v, .l 0, .c (rred_yes (Ec.Pd.X p) hp.X (by omega)), .v, .v, .l 0, .c (rred_no (Ec.Pd.Y p) hp.Y (by omega)), .v, .v, .n, .n, .n, .n, .n, .n, .n, .n, .n, .n, .n, .n, .n, .n, .n, .n, .v, .v] H2 kr fun w4 H4 => ?_
        clear H2
        refine g_ret kr ?_
        show ∃ vs, Res _ _ _ _ vs ∧ _
        refine ⟨[.bool false], (.tmp (.bool false) kr .nil), ?_, H4.below⟩
        exact congrArg Value.bool (Ec.onB_y hb1 (by omega) (by omega)).symm
    · skip
      by_cases hx3 : (Ec.Pd.Y p) < PR
      · skip
        refine dS [.v, .l 0, .c (rred_no (Ec.Pd.X p) hp.X (by omega)), .v, .n, .n, .n, .v, .v, .n, .n, .n, .n, .n, .n, .n, .n, .n, .n, .n, .n, .n, .n, .n, .n, .v, .v] H2 kr fun w5 H5 => ?_
        clear H2
        refine g_ret kr ?_
        show ∃ vs, Res _ _ _ _ vs ∧ _
        refine ⟨[.bool false], (.tmp (.bool false) kr .nil), ?_, H5.below⟩
        exact congrArg Value.bool (Ec.onB_x hb1 (by omega)).symm
      · skip
        refine dS [.v, .l 0, .c (rred_no (Ec.Pd.X p) hp.X (by omega)), .v, .n, .n, .n, .v, .v, .n, .n, .n, .n, .n, .n, .n, .n, .n, .n, .n, .n, .n, .n, .n, .n, .v, .v] H2 kr fun w6 H6 => ?_
        clear H2
        refine g_ret kr ?_
        show ∃ vs, Res _ _ _ _ vs ∧ _
        refine ⟨[.bool false], (.tmp (.bool false) kr .nil), ?_, H6.below⟩
        exact congrArg Value.bool (Ec.onB_x hb1 (by omega)).symm
  · skip
    refine g_now 4 (v := .bool (Ec.Pd.b p)) (v' := .bool true) (bool_eq hb1) kr ?_
    refine g_cond_t kr kr ?_
    refine rS [.l 0, .v, .o (ins := [((.tmp 5), pv p), ((.tmp 6), pv (Ec.Pd.mk 0 0 true))]) (v := .bool (decide (p = (Ec.Pd.mk 0 0 true)))) (fun ρ o w ho hi => eqP_run (x := (.tmp 5)) (y := (.tmp 6)) p (Ec.Pd.mk 0 0 true) hp (Ec.Pd.Ok.mk (p := Ec.Pd.mk 0 0 true) Ec.big_0 Ec.big_0) w ho hi.1 hi.2.1), .v] H2 kr fun gs7 w7 H7 => ?_
    clear H2
    refine g_ret kr ?_
    show ∃ vs, Res _ _ _ _ vs ∧ _
    refine ⟨[.bool (decide (p = (Ec.Pd.mk 0 0 true)))], (.tmp (.bool (decide (p = (Ec.Pd.mk 0 0 true)))) kr .nil), ?_, H7.below⟩
    exact congrArg Value.bool (Ec.onB_1 hb1).symm
theorem on_yes (p : Ec.Pd) (hp : p.Ok) (h : Ec.onB p = true) : Fn Tryd.prog 27 #[pv p] (.bool true) := by have := on_fn p hp; rwa [h] at this
theorem on_no (p : Ec.Pd) (hp : p.Ok) (h : Ec.onB p = false) : Fn Tryd.prog 27 #[pv p] (.bool false) := by have := on_fn p hp; rwa [h] at this
theorem ron_yes (p : Ec.Pd) (hp : p.Ok) (h : Ec.onB p = true) : Fn Tryd.prog 8 #[pv p] (.bool true) := by have := ron_fn p hp; rwa [h] at this
theorem ron_no (p : Ec.Pd) (hp : p.Ok) (h : Ec.onB p = false) : Fn Tryd.prog 8 #[pv p] (.bool false) := by have := ron_fn p hp; rwa [h] at this
set_option maxRecDepth 100000 in
set_option maxHeartbeats 2000000 in
theorem base_fn  : Fn Tryd.prog 13 #[] (pv (Ec.ofPt Ec.G)) := by
  refine Fn.intro (c := codeOf Tryd.f13) [.cell 0 26] 4 Tryd.func13 kr kr kr fun w => ?_
  have H0 := St.start w
  refine rS [.a] H0 kr fun gs1 w1 H1 => ?_
  clear H0
  refine rS [.v, .v, .v, .s 0] H1 kr fun gs2 w2 H2 => ?_
  clear H1
  refine g_ret kr ?_
  show ∃ vs, Res _ _ _ _ vs ∧ _
  refine ⟨[pv (Ec.Pd.mk 55066263022277343669578718895168534326250603453777594175500187360389116729240 32670510020758816978083085130507043184471273380659243275938904335757337482424 false)], (.agg (b := (gs1 0).b) (Value.cells (pv (Ec.Pd.mk 55066263022277343669578718895168534326250603453777594175500187360389116729240 32670510020758816978083085130507043184471273380659243275938904335757337482424 false))) 26 (0, 0) kr (H2.get 0 kr) kr .nil), ?_, H2.below⟩
  kernel_rfl
set_option maxRecDepth 100000 in
set_option maxHeartbeats 2000000 in
theorem often_fn (p : Ec.Pd) (hp : p.Ok) (n : Nat) (hn : n < big) : FnR Tryd.prog 39 #[pv p, uv n] (fun _ => True) (RetP 99 (Value.cells (shv n (Ec.widenW p) 15))) := by
  refine FnR.intro (c := codeOf Tryd.f39) [.tmp 4] 35 Tryd.func39 kr kr kr fun w hpre => ?_
  have H0 := St.start w
  refine rS [.b, .b, .v] H0 kr fun gs1 w1 H1 => ?_
  clear H0
  refine rS [.l 1, .v, .b, .v] H1 kr fun gs2 w2 H2 => ?_
  clear H1
  refine dS [.v, .c pzero_fn, .v, .v, .v, .s 2] H2 kr fun w3 H3 => ?_
  clear H2
  refine g_seq kr ?_
  refine rS [.v] H3 kr fun gs4 w4 H4 => ?_
  clear H3
  refine g_block 0 kr ?_
  have HL1 : St w.heap.size w w4 [((gs1 0).b, Obj.cells (Value.cells (pv p)) 26 (0, 0)), ((gs1 1).b, Obj.cells (Value.cells (uv n)) 24 (0, 0)), ((gs2 2).b, Obj.cells (Value.cells (shv n (Ec.widenW p) 0)) 99 (0, 0))] := H4.as kr
  clear H4
  refine g_first kr ?_
  refine g_seq kr ?_
  refine rS [.v, .v] HL1 kr fun gs5 w5 H5 => ?_
  clear HL1
  refine g_cond_t kr kr ?_
  refine g_skip kr ?_
  show WP _ _ _ _ _ _
  refine g_seq kr ?_
  refine g_block 1 kr ?_
  refine dL [.v, .v, .v, .v, .v, .v, .v, .v, .l 2, .l 0, .c (widen_fn p hp), .c (plusM_fn (Ec.widenW p) (Ec.widenW_ok hp) 0), .v, .v, .v, .s 2] H5 kr fun w6 H6 => ?_
  clear H5
  show WP _ _ _ _ _ _
  refine g_keep [0, 1, 2, 3, 4, 5, 6, 16] fun ρ1 => ?_
  have HK2 := H6.keep
  clear H6
  refine rL [.v, .v, .v] HK2 kr fun gs7 w7 H7 => ?_
  clear HK2
  show WPL _ _ _ _ _ _
  refine g_next ?_
  refine g_seq kr ?_
  refine rS [.v, .v] H7 kr fun gs8 w8 H8 => ?_
  clear H7
  refine g_cond_t kr kr ?_
  refine g_skip kr ?_
  show WP _ _ _ _ _ _
  refine g_seq kr ?_
  refine g_block 1 kr ?_
  refine dL [.v, .v, .v, .v, .v, .v, .v, .v, .l 2, .l 0, .c (widen_fn p hp), .c (plusM_fn (Ec.widenW p) (Ec.widenW_ok hp) 1), .v, .v, .v, .s 2] H8 kr fun w9 H9 => ?_
  clear H8
  show WP _ _ _ _ _ _
  refine g_keep [0, 1, 2, 3, 4, 5, 6, 16] fun ρ2 => ?_
  have HK3 := H9.keep
  clear H9
  refine rL [.v, .v, .v] HK3 kr fun gs10 w10 H10 => ?_
  clear HK3
  show WPL _ _ _ _ _ _
  refine g_next ?_
  refine g_seq kr ?_
  refine rS [.v, .v] H10 kr fun gs11 w11 H11 => ?_
  clear H10
  refine g_cond_t kr kr ?_
  refine g_skip kr ?_
  show WP _ _ _ _ _ _
  refine g_seq kr ?_
  refine g_block 1 kr ?_
  refine dL [.v, .v, .v, .v, .v, .v, .v, .v, .l 2, .l 0, .c (widen_fn p hp), .c (plusM_fn (Ec.widenW p) (Ec.widenW_ok hp) 2), .v, .v, .v, .s 2] H11 kr fun w12 H12 => ?_
  clear H11
  show WP _ _ _ _ _ _
  refine g_keep [0, 1, 2, 3, 4, 5, 6, 16] fun ρ3 => ?_
  have HK4 := H12.keep
  clear H12
  refine rL [.v, .v, .v] HK4 kr fun gs13 w13 H13 => ?_
  clear HK4
  show WPL _ _ _ _ _ _
  refine g_next ?_
  refine g_seq kr ?_
  refine rS [.v, .v] H13 kr fun gs14 w14 H14 => ?_
  clear H13
  refine g_cond_t kr kr ?_
  refine g_skip kr ?_
  show WP _ _ _ _ _ _
  refine g_seq kr ?_
  refine g_block 1 kr ?_
  refine dL [.v, .v, .v, .v, .v, .v, .v, .v, .l 2, .l 0, .c (widen_fn p hp), .c (plusM_fn (Ec.widenW p) (Ec.widenW_ok hp) 3), .v, .v, .v, .s 2] H14 kr fun w15 H15 => ?_
  clear H14
  show WP _ _ _ _ _ _
  refine g_keep [0, 1, 2, 3, 4, 5, 6, 16] fun ρ4 => ?_
  have HK5 := H15.keep
  clear H15
  refine rL [.v, .v, .v] HK5 kr fun gs16 w16 H16 => ?_
  clear HK5
  show WPL _ _ _ _ _ _
  refine g_next ?_
  refine g_seq kr ?_
  refine rS [.v, .v] H16 kr fun gs17 w17 H17 => ?_
  clear H16
  refine g_cond_t kr kr ?_
  refine g_skip kr ?_
  show WP _ _ _ _ _ _
  refine g_seq kr ?_
  refine g_block 1 kr ?_
  refine dL [.v, .v, .v, .v, .v, .v, .v, .v, .l 2, .l 0, .c (widen_fn p hp), .c (plusM_fn (Ec.widenW p) (Ec.widenW_ok hp) 4), .v, .v, .v, .s 2] H17 kr fun w18 H18 => ?_
  clear H17
  show WP _ _ _ _ _ _
  refine g_keep [0, 1, 2, 3, 4, 5, 6, 16] fun ρ5 => ?_
  have HK6 := H18.keep
  clear H18
  refine rL [.v, .v, .v] HK6 kr fun gs19 w19 H19 => ?_
  clear HK6
  show WPL _ _ _ _ _ _
  refine g_next ?_
  refine g_seq kr ?_
  refine rS [.v, .v] H19 kr fun gs20 w20 H20 => ?_
  clear H19
  refine g_cond_t kr kr ?_
  refine g_skip kr ?_
  show WP _ _ _ _ _ _
  refine g_seq kr ?_
  refine g_block 1 kr ?_
  refine dL [.v, .v, .v, .v, .v, .v, .v, .v, .l 2, .l 0, .c (widen_fn p hp), .c (plusM_fn (Ec.widenW p) (Ec.widenW_ok hp) 5), .v, .v, .v, .s 2] H20 kr fun w21 H21 => ?_
  clear H20
  show WP _ _ _ _ _ _
  refine g_keep [0, 1, 2, 3, 4, 5, 6, 16] fun ρ6 => ?_
  have HK7 := H21.keep
  clear H21
  refine rL [.v, .v, .v] HK7 kr fun gs22 w22 H22 => ?_
  clear HK7
  show WPL _ _ _ _ _ _
  refine g_next ?_
  refine g_seq kr ?_
  refine rS [.v, .v] H22 kr fun gs23 w23 H23 => ?_
  clear H22
  refine g_cond_t kr kr ?_
  refine g_skip kr ?_
  show WP _ _ _ _ _ _
  refine g_seq kr ?_
  refine g_block 1 kr ?_
  refine dL [.v, .v, .v, .v, .v, .v, .v, .v, .l 2, .l 0, .c (widen_fn p hp), .c (plusM_fn (Ec.widenW p) (Ec.widenW_ok hp) 6), .v, .v, .v, .s 2] H23 kr fun w24 H24 => ?_
  clear H23
  show WP _ _ _ _ _ _
  refine g_keep [0, 1, 2, 3, 4, 5, 6, 16] fun ρ7 => ?_
  have HK8 := H24.keep
  clear H24
  refine rL [.v, .v, .v] HK8 kr fun gs25 w25 H25 => ?_
  clear HK8
  show WPL _ _ _ _ _ _
  refine g_next ?_
  refine g_seq kr ?_
  refine rS [.v, .v] H25 kr fun gs26 w26 H26 => ?_
  clear H25
  refine g_cond_t kr kr ?_
  refine g_skip kr ?_
  show WP _ _ _ _ _ _
  refine g_seq kr ?_
  refine g_block 1 kr ?_
  refine dL [.v, .v, .v, .v, .v, .v, .v, .v, .l 2, .l 0, .c (widen_fn p hp), .c (plusM_fn (Ec.widenW p) (Ec.widenW_ok hp) 7), .v, .v, .v, .s 2] H26 kr fun w27 H27 => ?_
  clear H26
  show WP _ _ _ _ _ _
  refine g_keep [0, 1, 2, 3, 4, 5, 6, 16] fun ρ8 => ?_
  have HK9 := H27.keep
  clear H27
  refine rL [.v, .v, .v] HK9 kr fun gs28 w28 H28 => ?_
  clear HK9
  show WPL _ _ _ _ _ _
  refine g_next ?_
  refine g_seq kr ?_
  refine rS [.v, .v] H28 kr fun gs29 w29 H29 => ?_
  clear H28
  refine g_cond_t kr kr ?_
  refine g_skip kr ?_
  show WP _ _ _ _ _ _
  refine g_seq kr ?_
  refine g_block 1 kr ?_
  refine dL [.v, .v, .v, .v, .v, .v, .v, .v, .l 2, .l 0, .c (widen_fn p hp), .c (plusM_fn (Ec.widenW p) (Ec.widenW_ok hp) 8), .v, .v, .v, .s 2] H29 kr fun w30 H30 => ?_
  clear H29
  show WP _ _ _ _ _ _
  refine g_keep [0, 1, 2, 3, 4, 5, 6, 16] fun ρ9 => ?_
  have HK10 := H30.keep
  clear H30
  refine rL [.v, .v, .v] HK10 kr fun gs31 w31 H31 => ?_
  clear HK10
  show WPL _ _ _ _ _ _
  refine g_next ?_
  refine g_seq kr ?_
  refine rS [.v, .v] H31 kr fun gs32 w32 H32 => ?_
  clear H31
  refine g_cond_t kr kr ?_
  refine g_skip kr ?_
  show WP _ _ _ _ _ _
  refine g_seq kr ?_
  refine g_block 1 kr ?_
  refine dL [.v, .v, .v, .v, .v, .v, .v, .v, .l 2, .l 0, .c (widen_fn p hp), .c (plusM_fn (Ec.widenW p) (Ec.widenW_ok hp) 9), .v, .v, .v, .s 2] H32 kr fun w33 H33 => ?_
  clear H32
  show WP _ _ _ _ _ _
  refine g_keep [0, 1, 2, 3, 4, 5, 6, 16] fun ρ10 => ?_
  have HK11 := H33.keep
  clear H33
  refine rL [.v, .v, .v] HK11 kr fun gs34 w34 H34 => ?_
  clear HK11
  show WPL _ _ _ _ _ _
  refine g_next ?_
  refine g_seq kr ?_
  refine rS [.v, .v] H34 kr fun gs35 w35 H35 => ?_
  clear H34
  refine g_cond_t kr kr ?_
  refine g_skip kr ?_
  show WP _ _ _ _ _ _
  refine g_seq kr ?_
  refine g_block 1 kr ?_
  refine dL [.v, .v, .v, .v, .v, .v, .v, .v, .l 2, .l 0, .c (widen_fn p hp), .c (plusM_fn (Ec.widenW p) (Ec.widenW_ok hp) 10), .v, .v, .v, .s 2] H35 kr fun w36 H36 => ?_
  clear H35
  show WP _ _ _ _ _ _
  refine g_keep [0, 1, 2, 3, 4, 5, 6, 16] fun ρ11 => ?_
  have HK12 := H36.keep
  clear H36
  refine rL [.v, .v, .v] HK12 kr fun gs37 w37 H37 => ?_
  clear HK12
  show WPL _ _ _ _ _ _
  refine g_next ?_
  refine g_seq kr ?_
  refine rS [.v, .v] H37 kr fun gs38 w38 H38 => ?_
  clear H37
  refine g_cond_t kr kr ?_
  refine g_skip kr ?_
  show WP _ _ _ _ _ _
  refine g_seq kr ?_
  refine g_block 1 kr ?_
  refine dL [.v, .v, .v, .v, .v, .v, .v, .v, .l 2, .l 0, .c (widen_fn p hp), .c (plusM_fn (Ec.widenW p) (Ec.widenW_ok hp) 11), .v, .v, .v, .s 2] H38 kr fun w39 H39 => ?_
  clear H38
  show WP _ _ _ _ _ _
  refine g_keep [0, 1, 2, 3, 4, 5, 6, 16] fun ρ12 => ?_
  have HK13 := H39.keep
  clear H39
  refine rL [.v, .v, .v] HK13 kr fun gs40 w40 H40 => ?_
  clear HK13
  show WPL _ _ _ _ _ _
  refine g_next ?_
  refine g_seq kr ?_
  refine rS [.v, .v] H40 kr fun gs41 w41 H41 => ?_
  clear H40
  refine g_cond_t kr kr ?_
  refine g_skip kr ?_
  show WP _ _ _ _ _ _
  refine g_seq kr ?_
  refine g_block 1 kr ?_
  refine dL [.v, .v, .v, .v, .v, .v, .v, .v, .l 2, .l 0, .c (widen_fn p hp), .c (plusM_fn (Ec.widenW p) (Ec.widenW_ok hp) 12), .v, .v, .v, .s 2] H41 kr fun w42 H42 => ?_
  clear H41
  show WP _ _ _ _ _ _
  refine g_keep [0, 1, 2, 3, 4, 5, 6, 16] fun ρ13 => ?_
  have HK14 := H42.keep
  clear H42
  refine rL [.v, .v, .v] HK14 kr fun gs43 w43 H43 => ?_
  clear HK14
  show WPL _ _ _ _ _ _
  refine g_next ?_
  refine g_seq kr ?_
  refine rS [.v, .v] H43 kr fun gs44 w44 H44 => ?_
  clear H43
  refine g_cond_t kr kr ?_
  refine g_skip kr ?_
  show WP _ _ _ _ _ _
  refine g_seq kr ?_
  refine g_block 1 kr ?_
  refine dL [.v, .v, .v, .v, .v, .v, .v, .v, .l 2, .l 0, .c (widen_fn p hp), .c (plusM_fn (Ec.widenW p) (Ec.widenW_ok hp) 13), .v, .v, .v, .s 2] H44 kr fun w45 H45 => ?_
  clear H44
  show WP _ _ _ _ _ _
  refine g_keep [0, 1, 2, 3, 4, 5, 6, 16] fun ρ14 => ?_
  have HK15 := H45.keep
  clear H45
  refine rL [.v, .v, .v] HK15 kr fun gs46 w46 H46 => ?_
  clear HK15
  show WPL _ _ _ _ _ _
  refine g_next ?_
  refine g_seq kr ?_
  refine rS [.v, .v] H46 kr fun gs47 w47 H47 => ?_
  clear H46
  refine g_cond_t kr kr ?_
  refine g_skip kr ?_
  show WP _ _ _ _ _ _
  refine g_seq kr ?_
  refine g_block 1 kr ?_
  refine dL [.v, .v, .v, .v, .v, .v, .v, .v, .l 2, .l 0, .c (widen_fn p hp), .c (plusM_fn (Ec.widenW p) (Ec.widenW_ok hp) 14), .v, .v, .v, .s 2] H47 kr fun w48 H48 => ?_
  clear H47
  show WP _ _ _ _ _ _
  refine g_keep [0, 1, 2, 3, 4, 5, 6, 16] fun ρ15 => ?_
  have HK16 := H48.keep
  clear H48
  refine rL [.v, .v, .v] HK16 kr fun gs49 w49 H49 => ?_
  clear HK16
  show WPL _ _ _ _ _ _
  refine g_next ?_
  refine g_seq kr ?_
  refine rS [.v, .v] H49 kr fun gs50 w50 H50 => ?_
  clear H49
  refine g_cond_f kr kr ?_
  refine g_exit 0 kr ?_
  show WP _ _ _ _ _ _
  refine rS [.v, .v] H50 kr fun gs51 w51 H51 => ?_
  clear H50
  refine g_ret kr ?_
  show ∃ vs, Res _ _ _ _ vs ∧ _
  refine ⟨[.pointer (some ⟨(gs2 2).b, 0, none⟩)], (.tmp (.pointer (some ⟨(gs2 2).b, 0, none⟩)) kr .nil), H51.below, ?_⟩
  exact ⟨(gs2 2).b, rfl, H51.ge 2 (o := .cells (Value.cells (shv n (Ec.widenW p) 15)) 99 (0, 0)) kr, H51.get 2 kr⟩
end Go.Proofs.YtmmloghbnpfedaaDoor

namespace Go.Proofs.YtmmloghbnpfedaaDoor
open Go Go.RowKit
set_option linter.unusedVariables false
end Go.Proofs.YtmmloghbnpfedaaDoor

namespace Go.Proofs.YtmmloghbnpfedaaDoor
open Go Go.RowKit
set_option linter.unusedVariables false
set_option maxRecDepth 100000 in
set_option maxHeartbeats 2000000 in
theorem at_fn (n : Nat) (p : Ec.Wp) (hp : p.Ok) (hn : n < big) (bs d : Nat) (hd : d < 64) : FnP Tryd.prog 74 #[.pointer (some ⟨bs, 0, none⟩), .int .i64 ((d : Nat) : Int)] (fun w => w.heap[bs]? = some (.cells (Value.cells (shv n p 15)) 99 (0, 0))) (wv (Ec.mults p (n / 16 ^ d % 16))) := by
  have hl : shw n (d * 4 / 64) < 18446744073709551616 := Nat.mod_lt _ (by decide)
  refine FnP.intro (c := codeOf Tryd.f74) [.cell 4 65] 26 Tryd.func74 kr kr kr fun w hpre => ?_
  have H0 := St.start w
  refine rS [.a] H0 kr fun gs1 w1 H1 => ?_
  clear H0
  refine rS [.v, .e (v := .int .i64 (IntKind.i64.wrap (((d : Nat) : Int) * 4))) (v' := .int .i64 ((d * 4 : Nat) : Int)) (int_eq (wrapMul_i64 (a := d) (b := 4) (by omega))), .v] H1 kr fun gs2 w2 H2 => ?_
  clear H1
  refine rS [.v, .v, .e (v := .int .i64 (IntKind.i64.wrap (((d * 4 : Nat) : Int).tdiv 64))) (v' := .int .i64 (((d * 4) / 64 : Nat) : Int)) (int_eq (quoN_i64 (a := d * 4) (b := 64) (by omega))), .v, .v, .o (ins := [((.tmp 13), .pointer (some ⟨bs, 0, none⟩)), ((.tmp 11), .int .i64 (((d * 4) / 64 : Nat) : Int))]) (v := .pointer (some ⟨bs, 0 + ((d * 4) / 64) * 1, none⟩)) (fun ρ o w ho hi => idxA_run (kd := .i64) (t := 24) (n := 4) (size := 1) kr (x := (.tmp 13)) (y := (.tmp 11)) bs 0 ((d * 4) / 64) ho hi.1 hi.2.1 (by omega) w), .fs (off := 0 + ((d * 4) / 64) * 1) (v := .int .u64 ((shw n ((d * 4) / 64) : Nat) : Int)) hpre (lt_of_heap hpre) (shw_at n p (q := ((d * 4) / 64)) (by omega) (by omega)), .v, .e (v := .int .i64 (Int.tmod ((d * 4 : Nat) : Int) 64)) (v' := .int .i64 (((d * 4) % 64 : Nat) : Int)) (int_eq (remN (d * 4) 64)), .e (v := .int .u64 (Int.fdiv ((shw n ((d * 4) / 64) : Nat) : Int) (2 ^ (min ((d * 4) % 64) 64)))) (v' := .int .u64 (((shw n ((d * 4) / 64)) / 2 ^ ((d * 4) % 64) : Nat) : Int)) (int_eq (shr_min (shw n ((d * 4) / 64)) ((d * 4) % 64) 64 (by omega))), .v] H2 kr fun gs3 w3 H3 => ?_
  clear H2
  refine g_sreg [0, 1, 2, 3, 4, 5, 6, 7] kr kr ?_
  refine rp [.v, .v, .e (v := .int .u64 (Int.tmod (((shw n ((d * 4) / 64)) / 2 ^ ((d * 4) % 64) : Nat) : Int) 16)) (v' := .int .u64 ((((shw n ((d * 4) / 64)) / 2 ^ ((d * 4) % 64)) % 16 : Nat) : Int)) (int_eq (remN ((shw n ((d * 4) / 64)) / 2 ^ ((d * 4) % 64)) 16)), .v, .v, .o (ins := [((.tmp 23), .pointer (some ⟨bs, 4, none⟩)), ((.tmp 21), .int .u64 ((((shw n ((d * 4) / 64)) / 2 ^ ((d * 4) % 64)) % 16 : Nat) : Int))]) (v := .pointer (some ⟨bs, 4 + (((shw n ((d * 4) / 64)) / 2 ^ ((d * 4) % 64)) % 16) * 13, none⟩)) (fun ρ o w ho hi => idxA_run (kd := .u64) (t := 97) (n := 16) (size := 13) kr (x := (.tmp 23)) (y := (.tmp 21)) bs 4 (((shw n ((d * 4) / 64)) / 2 ^ ((d * 4) % 64)) % 16) ho hi.1 hi.2.1 (by omega) w)] H3 kr fun gs4 w4 H4 => ?_
  show WPs _ _ _ _ [6, 7] _ _
  clear H3
  refine s_loadpF H4 (some 25) 65 (.tmp 24) bs (4 + (((shw n ((d * 4) / 64)) / 2 ^ ((d * 4) % 64)) % 16) * 13) 13 (Value.cells (shv n p 15)) (Value.cells (wv (Ec.mults p (n / 16 ^ d % 16)))) 99 (0, 0) kr kr kr hpre (lt_of_heap hpre) kr (by rw [sh_size]; omega) ((shm_at n p (q := shw n (d * 4 / 64) / 2 ^ (d * 4 % 64) % 16) rfl (Nat.mod_lt _ (by decide))).trans (by rw [dig_bits])) ?_
  refine rp [.s 0] H4 kr fun gs5 w5 H5 => ?_
  show WPs _ _ _ _ [] _ _
  clear H4
  refine s_nil ?_
  refine g_ret kr ?_
  show ∃ vs, Res _ _ _ _ vs ∧ _
  refine ⟨[wv (Ec.mults p (n / 16 ^ d % 16))], (.agg (b := (gs1 0).b) (Value.cells (wv (Ec.mults p (n / 16 ^ d % 16)))) 65 (0, 0) kr (H5.get 0 kr) kr .nil), ?_, H5.below⟩
  rfl
set_option maxRecDepth 100000 in
set_option maxHeartbeats 2000000 in
theorem together1_fn (n : Nat) (p : Ec.Wp) (hp : p.Ok) (hn : n < big) (ba sa : Nat) : FnP Tryd.prog 38 #[.slice (some ⟨ba, 0, none⟩) 1 1] (fun w => w.heap[ba]? = some (.cells #[Value.pointer (some ⟨sa, 0, none⟩)] 67 (0, 0)) ∧ w.heap[sa]? = some (.cells (Value.cells (shv n p 15)) 99 (0, 0))) (wv (Ec.tog n p 64)) := by
  refine FnP.intro (c := codeOf Tryd.f38) [.cell 2 65] 30 Tryd.func38 kr kr kr fun w hpre => ?_
  have H0 := St.start w
  refine rS [.a] H0 kr fun gs1 w1 H1 => ?_
  clear H0
  refine rS [.c pzero_fn, .a, .s 1] H1 kr fun gs2 w2 H2 => ?_
  clear H1
  refine g_seq kr ?_
  refine rS [.v] H2 kr fun gs3 w3 H3 => ?_
  clear H2
  refine g_block 0 kr ?_
  have HL1 : St w.heap.size w w3 [((gs1 0).b, Obj.cells #[.int .u64 0, .int .u64 0, .int .u64 0, .int .u64 0, .int .u64 0, .int .u64 0, .int .u64 0, .int .u64 0, .bool false, .int .u64 0, .int .u64 0, .int .u64 0, .int .u64 0] 65 (0, 0)), ((gs2 1).b, Obj.cells (Value.cells (wv Ec.zeroW)) 65 (0, 0))] := H3.as kr
  clear H3
  rw [show Ec.zeroW = Ec.tog n p (64 - 64) from rfl] at HL1
  have HF2 : St w.heap.size w w3 [((gs1 0).b, Obj.cells #[.int .u64 0, .int .u64 0, .int .u64 0, .int .u64 0, .int .u64 0, .int .u64 0, .int .u64 0, .int .u64 0, .bool false, .int .u64 0, .int .u64 0, .int .u64 0, .int .u64 0] 65 (0, 0)), ((gs2 1).b, Obj.cells (Value.cells (wv (Ec.tog n p (64 - 64)))) 65 (0, 0))] := HL1.front 0 kr kr
  have HF3 : St w.heap.size w w3 [((gs2 1).b, Obj.cells (Value.cells (wv (Ec.tog n p (64 - 64)))) 65 (0, 0)), ((gs1 0).b, Obj.cells #[.int .u64 0, .int .u64 0, .int .u64 0, .int .u64 0, .int .u64 0, .int .u64 0, .int .u64 0, .int .u64 0, .bool false, .int .u64 0, .int .u64 0, .int .u64 0, .int .u64 0] 65 (0, 0))] := HF2.front 1 kr kr
  refine g_loop kr (fun mz ρ ww => ∃ (j : Nat), j = mz ∧ (j ≤ 64) ∧ St w.heap.size w ww [((gs2 1).b, Obj.cells (Value.cells (wv (Ec.tog n p (64 - j)))) 65 (0, 0)), ((gs1 0).b, Obj.cells #[.int .u64 0, .int .u64 0, .int .u64 0, .int .u64 0, .int .u64 0, .int .u64 0, .int .u64 0, .int .u64 0, .bool false, .int .u64 0, .int .u64 0, .int .u64 0, .int .u64 0] 65 (0, 0))] ∧ Is [(0, .slice (some ⟨ba, 0, none⟩) 1 1), (2, .pointer (some ⟨(gs1 0).b, 0, none⟩)), (3, .pointer (some ⟨(gs2 1).b, 0, none⟩)), (4, .int .i64 (((j : Nat) : Int) - 1))] ρ) 64 ⟨64, rfl, (by omega), HF3, (Is.of ⟨kr, kr, kr, kr, trivial⟩)⟩ ?_
  clear HF3
  rintro _ _ w4 ⟨j, rfl, hj, H4, _, rfl⟩
  refine g_seq kr ?_
  refine g_sreg [0, 1] kr kr ?_
  refine rp [.v] H4 kr fun gs5 w5 H5 => ?_
  show WPs _ _ _ _ [1] _ _
  clear H4
  by_cases hc4 : (((j : Nat) : Int) - 1 : Int) ≥ 0
  · skip
    refine rp [.e (v := .bool (decide (0 ≤ ((j : Nat) : Int) - 1))) (v' := .bool true) (bool_eq (decide_eq_true (by omega)))] H5 kr fun gs6 w6 H6 => ?_
    show WPs _ _ _ _ [] _ _
    clear H5
    refine s_nil ?_
    refine g_cond_t kr kr ?_
    refine g_skip kr ?_
    show WP _ _ _ _ _ _
    refine g_seq kr ?_
    refine g_block 1 kr ?_
    refine g_seq kr ?_
    refine g_now 4 (v := .int .i64 (((j : Nat) : Int) - 1)) (v' := .int .i64 ((j - 1 : Nat) : Int)) (int_eq (show (((j : Nat) : Int) - 1) = ((j - 1 : Nat) : Int) from by omega)) kr ?_
    refine g_now 8 (v := .int .i64 (((j : Nat) : Int) - 1)) (v' := .int .i64 ((j - 1 : Nat) : Int)) (int_eq (show (((j : Nat) : Int) - 1) = ((j - 1 : Nat) : Int) from by omega)) kr ?_
    refine rS [.v] H6 kr fun gs7 w7 H7 => ?_
    clear H6
    refine g_block 2 kr ?_
    have HL5 : St w.heap.size w w7 [((gs2 1).b, Obj.cells (Value.cells (wv (Ec.tog n p (64 - j)))) 65 (0, 0)), ((gs1 0).b, Obj.cells #[.int .u64 0, .int .u64 0, .int .u64 0, .int .u64 0, .int .u64 0, .int .u64 0, .int .u64 0, .int .u64 0, .bool false, .int .u64 0, .int .u64 0, .int .u64 0, .int .u64 0] 65 (0, 0))] := H7.as kr
    clear H7
    refine g_first kr ?_
    refine rS [.v] HL5 kr fun gs8 w8 H8 => ?_
    clear HL5
    refine g_seq kr ?_
    refine g_cond_t kr kr ?_
    refine g_skip kr ?_
    show WP _ _ _ _ _ _
    refine g_seq kr ?_
    refine g_block 3 kr ?_
    refine rL [.l 0, .c (dbl_fn (Ec.tog n p (64 - j)) (Ec.tog_ok hp _)), .s 0] H8 kr fun gs9 w9 H9 => ?_
    clear H8
    show WP _ _ _ _ _ _
    refine rL [.v, .v] H9 kr fun gs10 w10 H10 => ?_
    clear H9
    show WPL _ _ _ _ _ _
    refine g_next ?_
    refine rS [.v] H10 kr fun gs11 w11 H11 => ?_
    clear H10
    refine g_seq kr ?_
    refine g_cond_t kr kr ?_
    refine g_skip kr ?_
    show WP _ _ _ _ _ _
    refine g_seq kr ?_
    refine g_block 3 kr ?_
    refine rL [.l 0, .c (dbl_fn (Ec.dblW (Ec.tog n p (64 - j))) (Ec.dblW_ok (Ec.tog_ok hp _))), .s 0] H11 kr fun gs12 w12 H12 => ?_
    clear H11
    show WP _ _ _ _ _ _
    refine g_keep [0, 2, 3, 4, 9, 12, 13] fun ρ1 => ?_
    have HK6 := H12.keep
    clear H12
    refine rL [.v, .v] HK6 kr fun gs13 w13 H13 => ?_
    clear HK6
    show WPL _ _ _ _ _ _
    refine g_next ?_
    refine rS [.v] H13 kr fun gs14 w14 H14 => ?_
    clear H13
    refine g_seq kr ?_
    refine g_cond_t kr kr ?_
    refine g_skip kr ?_
    show WP _ _ _ _ _ _
    refine g_seq kr ?_
    refine g_block 3 kr ?_
    refine rL [.l 0, .c (dbl_fn (Ec.dblW (Ec.dblW (Ec.tog n p (64 - j)))) (Ec.dblW_ok (Ec.dblW_ok (Ec.tog_ok hp _)))), .s 0] H14 kr fun gs15 w15 H15 => ?_
    clear H14
    show WP _ _ _ _ _ _
    refine rL [.v, .v] H15 kr fun gs16 w16 H16 => ?_
    clear H15
    show WPL _ _ _ _ _ _
    refine g_next ?_
    refine rS [.v] H16 kr fun gs17 w17 H17 => ?_
    clear H16
    refine g_seq kr ?_
    refine g_cond_t kr kr ?_
    refine g_skip kr ?_
    show WP _ _ _ _ _ _
    refine g_seq kr ?_
    refine g_block 3 kr ?_
    refine rL [.l 0, .c (dbl_fn (Ec.dblW (Ec.dblW (Ec.dblW (Ec.tog n p (64 - j))))) (Ec.dblW_ok (Ec.dblW_ok (Ec.dblW_ok (Ec.tog_ok hp _))))), .s 0] H17 kr fun gs18 w18 H18 => ?_
    clear H17
    show WP _ _ _ _ _ _
    refine rL [.v, .v] H18 kr fun gs19 w19 H19 => ?_
    clear H18
    show WPL _ _ _ _ _ _
    refine g_next ?_
    refine rS [.v] H19 kr fun gs20 w20 H20 => ?_
    clear H19
    refine g_seq kr ?_
    refine g_cond_f kr kr ?_
    refine g_exit 2 kr ?_
    show WP _ _ _ _ _ _
    refine rS [.v, .v, .v] H20 kr fun gs21 w21 H21 => ?_
    clear H20
    refine g_keep [0, 2, 3, 4, 9, 12, 13, 17, 18, 19] fun ρ2 => ?_
    have HK7 := H21.keep
    clear H21
    refine g_block 4 kr ?_
    have HL8 : St w.heap.size w w21 [((gs2 1).b, Obj.cells (Value.cells (wv (Ec.dblW (Ec.dblW (Ec.dblW (Ec.dblW (Ec.tog n p (64 - j)))))))) 65 (0, 0)), ((gs1 0).b, Obj.cells #[.int .u64 0, .int .u64 0, .int .u64 0, .int .u64 0, .int .u64 0, .int .u64 0, .int .u64 0, .int .u64 0, .bool false, .int .u64 0, .int .u64 0, .int .u64 0, .int .u64 0] 65 (0, 0))] := HK7.as kr
    clear HK7
    refine g_first kr ?_
    refine rS [.v] HL8 kr fun gs22 w22 H22 => ?_
    clear HL8
    refine g_seq kr ?_
    refine g_cond_t kr kr ?_
    refine g_skip kr ?_
    show WP _ _ _ _ _ _
    refine g_seq kr ?_
    refine g_block 5 kr ?_
    refine rS [.o (ins := [((.tmp 17), .slice (some ⟨ba, 0, none⟩) 1 1), ((.tmp 19), .int .i64 0)]) (v := .pointer (some ⟨ba, 0 + 0 * 1, none⟩)) (fun ρ o w ho hi => idxS_run (kd := .i64) (t := 94) (e := 67) (size := 1) (bytes := 8) kr (x := (.tmp 17)) (y := (.tmp 19)) ba 0 1 1 0 ho hi.1 hi.2.1 (by omega) w), .fs (off := 0 + 0 * 1) (v := .pointer (some ⟨sa, 0, none⟩)) hpre.1 (lt_of_heap hpre.1) kr, .v] H22 kr fun gs23 w23 H23 => ?_
    clear H22
    refine dL [.l 0, .v, .v, .cp (pre := fun w => w.heap[sa]? = some (.cells (Value.cells (shv n p 15)) 99 (0, 0))) (at_fn n p hp hn sa (j - 1) (by omega)) [] (fun w hb hd => ((hb.block _ (lt_of_heap hpre.2)).trans hpre.2)), .c (plus_fn (Ec.dblW (Ec.dblW (Ec.dblW (Ec.dblW (Ec.tog n p (64 - j)))))) (Ec.mults p (n / 16 ^ (j - 1) % 16)) (Ec.dblW_ok (Ec.dblW_ok (Ec.dblW_ok (Ec.dblW_ok (Ec.tog_ok hp _))))) (Ec.mults_ok hp _)), .s 0] H23 kr fun w24 H24 => ?_
    clear H23
    show WP _ _ _ _ _ _
    refine rL [.v, .v] H24 kr fun gs25 w25 H25 => ?_
    clear H24
    show WPL _ _ _ _ _ _
    refine g_next ?_
    refine rS [.v] H25 kr fun gs26 w26 H26 => ?_
    clear H25
    refine g_seq kr ?_
    refine g_cond_f kr kr ?_
    refine g_exit 4 kr ?_
    show WP _ _ _ _ _ _
    refine rL [.v, .e (v := .int .i64 (IntKind.i64.wrap (((j - 1 : Nat) : Int) - 1))) (v' := .int .i64 (((j - 1 : Nat) : Int) - 1)) (int_eq (wrap_i64 (by omega) (by omega))), .v] H26 kr fun gs27 w27 H27 => ?_
    clear H26
    have HL9 : St w.heap.size w w27 [((gs2 1).b, Obj.cells (Value.cells (wv (Ec.plusW (Ec.dblW (Ec.dblW (Ec.dblW (Ec.dblW (Ec.tog n p (64 - j)))))) (Ec.mults p (n / 16 ^ (j - 1) % 16))))) 65 (0, 0)), ((gs1 0).b, Obj.cells #[.int .u64 0, .int .u64 0, .int .u64 0, .int .u64 0, .int .u64 0, .int .u64 0, .int .u64 0, .int .u64 0, .bool false, .int .u64 0, .int .u64 0, .int .u64 0, .int .u64 0] 65 (0, 0))] := H27.as kr
    clear H27
    rw [show (Ec.plusW (Ec.dblW (Ec.dblW (Ec.dblW (Ec.dblW (Ec.tog n p (64 - j)))))) (Ec.mults p (n / 16 ^ (j - 1) % 16))) = Ec.tog n p (64 - (j - 1)) from tog_next (by omega) hj] at HL9
    show ∃ m, _ ∧ _
    exact ⟨_, (by omega), (j - 1), rfl, (by omega), HL9, (Is.of ⟨kr, kr, kr, kr, trivial⟩)⟩
  · skip
    refine rp [.e (v := .bool (decide (0 ≤ ((j : Nat) : Int) - 1))) (v' := .bool false) (bool_eq (decide_eq_false (by omega)))] H5 kr fun gs28 w28 H28 => ?_
    show WPs _ _ _ _ [] _ _
    clear H5
    refine s_nil ?_
    refine g_cond_f kr kr ?_
    refine g_exit 0 kr ?_
    show WP _ _ _ _ _ _
    refine rS [.l 0, .s 1] H28 kr fun gs29 w29 H29 => ?_
    clear H28
    refine g_ret kr ?_
    show ∃ vs, Res _ _ _ _ vs ∧ _
    refine ⟨[wv (Ec.tog n p (64 - j))], (.agg (b := (gs1 0).b) (Value.cells (wv (Ec.tog n p (64 - j)))) 65 (0, 0) kr (H29.get 1 kr) kr .nil), ?_, H29.below⟩
    obtain rfl : j = 0 := by omega
    rfl
end Go.Proofs.YtmmloghbnpfedaaDoor

namespace Go.Proofs.YtmmloghbnpfedaaDoor
open Go Go.RowKit
set_option linter.unusedVariables false
set_option maxRecDepth 100000 in
set_option maxHeartbeats 2000000 in
theorem times_pt_fn (P : Ec.Pt Ec.Fp) (hP : P.On Ec.seven) (n : Nat) (hn : n < big) : Fn Tryd.prog 12 #[pv (Ec.ofPt P), uv n] (.tuple #[pv (Ec.ofPt (Ec.mulP P n)), .int .i64 0]) := by
  refine Fn.intro (c := codeOf Tryd.f12) [.cell 4 26, .tmp 5] 16 Tryd.func12 kr kr kr fun w => ?_
  have H0 := St.start w
  refine rS [.b, .b, .a, .v] H0 kr fun gs1 w1 H1 => ?_
  clear H0
  refine g_seq kr ?_
  refine rS [.l 0, .c (on_yes (Ec.ofPt P) (Ec.ofPt_ok _) (Ec.onB_pt hP)), .v] H1 kr fun gs2 w2 H2 => ?_
  clear H1
  refine g_cond_f kr kr ?_
  refine g_skip kr ?_
  show WP _ _ _ _ _ _
  refine g_sreg [0, 1, 2, 3, 4, 5, 6, 7] kr kr ?_
  refine rp [.l 0, .l 1] H2 kr fun gs3 w3 H3 => ?_
  show WPs _ _ _ _ [2, 3, 4, 5, 6, 7] _ _
  clear H2
  refine s_callN H3 (some 12) 39 #[pv (Ec.ofPt P), uv n] (fun _ => True) 99 (Value.cells (shv n (Ec.widenW (Ec.ofPt P)) 15)) (often_fn (Ec.ofPt P) (Ec.ofPt_ok _) n hn) trivial kr kr ?_
  intro b_1 w4 H4; clear H3
  refine rp [.nw (fun b => .slice (some ⟨b, 0, none⟩) 1 1) #[.pointer (some ⟨b_1, 0, none⟩)] 67, .w fun nn => .cp (pre := fun w => w.heap[(nn 4)]? = some (.cells #[Value.pointer (some ⟨b_1, 0, none⟩)] 67 (0, 0)) ∧ w.heap[b_1]? = some (.cells (Value.cells (shv n (Ec.widenW (Ec.ofPt P)) 15)) 99 (0, 0))) (together1_fn n (Ec.widenW (Ec.ofPt P)) (Ec.widenW_ok (Ec.ofPt_ok _)) hn ((nn 4)) b_1) [(4, ((nn 4), Obj.cells #[.pointer (some ⟨b_1, 0, none⟩)] 67 (0, 0))), (0, (b_1, Obj.cells (Value.cells (shv n (Ec.widenW (Ec.ofPt P)) 15)) 99 (0, 0)))] (fun w hb hd => ⟨hd.1, hd.2.1⟩), .c (narrow_fn (Ec.tog n (Ec.widenW (Ec.ofPt P)) 64) (Ec.tog_ok (Ec.widenW_ok (Ec.ofPt_ok _)) 64) (Ec.mulP P n) (Ec.tog_end hn hP)), .s 3, .v] H4 kr fun gs5 w5 H5 => ?_
  show WPs _ _ _ _ [] _ _
  clear H4
  refine s_nil ?_
  refine g_ret kr ?_
  show ∃ vs, Res _ _ _ _ vs ∧ _
  refine ⟨[pv (Ec.ofPt (Ec.mulP P n)), .int .i64 0], (.agg (b := (gs1 2).b) (Value.cells (pv (Ec.ofPt (Ec.mulP P n)))) 26 (0, 0) kr (H5.get 3 kr) kr (.tmp (.int .i64 0) kr .nil)), ?_, H5.below⟩
  rfl
end Go.Proofs.YtmmloghbnpfedaaDoor

namespace Go.Proofs.YtmmloghbnpfedaaDoor
open Go.ChangeShapes Go.WideShapes Go.ChangeAt Go.RowKit
set_option linter.unusedVariables false
/-- A number's 32 bytes, the highest first. -/
def bn (A : Nat) : List Int := [w3 A / 72057594037927936 % 256, w3 A / 281474976710656 % 256, w3 A / 1099511627776 % 256, w3 A / 4294967296 % 256, w3 A / 16777216 % 256, w3 A / 65536 % 256, w3 A / 256 % 256, w3 A % 256, w2 A / 72057594037927936 % 256, w2 A / 281474976710656 % 256, w2 A / 1099511627776 % 256, w2 A / 4294967296 % 256, w2 A / 16777216 % 256, w2 A / 65536 % 256, w2 A / 256 % 256, w2 A % 256, w1 A / 72057594037927936 % 256, w1 A / 281474976710656 % 256, w1 A / 1099511627776 % 256, w1 A / 4294967296 % 256, w1 A / 16777216 % 256, w1 A / 65536 % 256, w1 A / 256 % 256, w1 A % 256, w0 A / 72057594037927936 % 256, w0 A / 281474976710656 % 256, w0 A / 1099511627776 % 256, w0 A / 4294967296 % 256, w0 A / 16777216 % 256, w0 A / 65536 % 256, w0 A / 256 % 256, w0 A % 256]
def bs (A : Nat) : ByteArray := strOfNums (bn A)
theorem conv_row (w : World) (O : Obj) (xs : List Int) (n : Nat) (hn : xs.length = n) (C : Array Value) (hC : C = (xs.map (Value.int .u8)).toArray) :
    (convert 69 9 (.slice (some ⟨w.heap.size + 1, 0, none⟩) n n)).run Tryd.prog ((w.alloc O).alloc (.cells C 90)) = .ok (.string (strOfNums xs)) ((w.alloc O).alloc (.cells C 90)) := by
  subst hC
  refine run_convert_bytes_arg _ 69 5 Tryd.underlying69 Tryd.underlying5 _ 0 n n xs hn ?_ 9 Tryd.underlying9
  intro i hi
  have h := heap_alloc2_new w O (.cells (xs.map (Value.int .u8)).toArray 90)
  rw [cell_of_row _ _ _ _ _ _ h]
  have hi' : i < xs.length := by omega
  simp [hi']
set_option maxHeartbeats 4000000 in
set_option maxRecDepth 100000 in
theorem bytes_any (A : Nat) (hA : A < big) (w : World) : Calls Tryd.prog 29 #[uv A] w fun e w' => e = .returned (.string (bs A)) ∧ Below w.heap.size w w' := by
  have hc := fun (O : Obj) => conv_row w O (bn A) 32 rfl _ rfl
  simp only [bn, List.map_cons, List.map_nil] at hc
  unfold uv
  go_enter Tryd.func29, Tryd.ntmps29
  go_wp2
  go_rounds 33
  go_ret
  exact ⟨rfl, by go_grown⟩
theorem bs_size (A : Nat) : (bs A).size = 32 := rfl
end Go.Proofs.YtmmloghbnpfedaaDoor

namespace Go.Proofs.YtmmloghbnpfedaaDoor
open Go Go.RowKit
set_option linter.unusedVariables false
/-- 1 to n - 1. -/
def inN (a : Nat) : Bool := !decide (a = 0) && decide (a < NR)
def highB (a : Nat) : Bool := decide (NR < a + a)
def lowB (a : Nat) : Bool := decide (a < fSub 0 a NR)
theorem inN_n {a : Nat} (h : ¬ a = 0) : inN a = decide (a < NR) := by unfold inN; rw [decide_eq_false h]; rfl
def mayB (r s : Nat) (v : Int) : Bool := inN r && lowB s && (decide (v = 0) || decide (v = 1))
def sgv (r s : Nat) (v : Int) : Value := .agg #[.int .u64 (w0 r), .int .u64 (w1 r), .int .u64 (w2 r), .int .u64 (w3 r), .int .u64 (w0 s), .int .u64 (w1 s), .int .u64 (w2 s), .int .u64 (w3 s), .int .i64 v]
def sbs (r s : Nat) (v : Int) : ByteArray := (bs r ++ bs s) ++ strOfNums [IntKind.u8.wrap v]
theorem sizes_add (a b : ByteArray) : (a ++ b).size = a.size + b.size := ByteArray.size_append
end Go.Proofs.YtmmloghbnpfedaaDoor

namespace Go.Proofs.YtmmloghbnpfedaaDoor
open Go Go.RowKit
set_option linter.unusedVariables false
set_option maxRecDepth 100000 in
set_option maxHeartbeats 2000000 in
theorem within_z (a : Nat) (ha : a < big) (h : a = 0) : Fn Tryd.prog 26 #[uv a] (.bool false) := by
  refine Fn.intro (c := codeOf Tryd.f26) [.tmp 2] 18 Tryd.func26 kr kr kr fun w => ?_
  have H0 := St.start w
  refine rS [.b, .v] H0 kr fun gs1 w1 H1 => ?_
  clear H0
  refine rS [.c prime1_fn, .v, .v, .v, .a, .s 1, .v] H1 kr fun gs2 w2 H2 => ?_
  clear H1
  refine rS [.l 0, .v, .oe (ins := [((.tmp 9), uv a), ((.tmp 10), .agg #[.int .u64 0, .int .u64 0, .int .u64 0, .int .u64 0])]) (v := .bool (!decide (a = 0))) (v' := .bool false) (fun ρ o w ho hi => neU_run (x := (.tmp 9)) (y := (.tmp 10)) a 0 ha (by unfold big; omega) w ho hi.1 hi.2.1) (by rw [decide_eq_true h] <;> rfl), .v, .n, .n, .n, .n, .v, .v] H2 kr fun gs3 w3 H3 => ?_
  clear H2
  refine g_ret kr ?_
  show ∃ vs, Res _ _ _ _ vs ∧ _
  refine ⟨[.bool false], (.tmp (.bool false) kr .nil), ?_, H3.below⟩
  rfl
set_option maxRecDepth 100000 in
set_option maxHeartbeats 2000000 in
theorem within_n (a : Nat) (ha : a < big) (h : ¬ a = 0) (h2 : ¬ a < NR) : Fn Tryd.prog 26 #[uv a] (.bool false) := by
  refine Fn.intro (c := codeOf Tryd.f26) [.tmp 2] 18 Tryd.func26 kr kr kr fun w => ?_
  have H0 := St.start w
  refine rS [.b, .v] H0 kr fun gs1 w1 H1 => ?_
  clear H0
  refine rS [.c prime1_fn, .v, .v, .v, .a, .s 1, .v] H1 kr fun gs2 w2 H2 => ?_
  clear H1
  refine rS [.l 0, .v, .oe (ins := [((.tmp 9), uv a), ((.tmp 10), .agg #[.int .u64 0, .int .u64 0, .int .u64 0, .int .u64 0])]) (v := .bool (!decide (a = 0))) (v' := .bool true) (fun ρ o w ho hi => neU_run (x := (.tmp 9)) (y := (.tmp 10)) a 0 ha (by unfold big; omega) w ho hi.1 hi.2.1) (by rw [decide_eq_false h] <;> rfl), .v, .l 0, .l 1, .c (cmp_fn a NR ha nr_ok.1), .e (v := .bool (decide (cm a NR < 0))) (v' := .bool false) (bool_eq (decide_eq_false (cm_nlt h2))), .v, .v] H2 kr fun gs3 w3 H3 => ?_
  clear H2
  refine g_ret kr ?_
  show ∃ vs, Res _ _ _ _ vs ∧ _
  refine ⟨[.bool false], (.tmp (.bool false) kr .nil), ?_, H3.below⟩
  rfl
set_option maxRecDepth 100000 in
set_option maxHeartbeats 2000000 in
theorem within_y (a : Nat) (ha : a < big) (h : ¬ a = 0) (h2 : a < NR) : Fn Tryd.prog 26 #[uv a] (.bool true) := by
  refine Fn.intro (c := codeOf Tryd.f26) [.tmp 2] 18 Tryd.func26 kr kr kr fun w => ?_
  have H0 := St.start w
  refine rS [.b, .v] H0 kr fun gs1 w1 H1 => ?_
  clear H0
  refine rS [.c prime1_fn, .v, .v, .v, .a, .s 1, .v] H1 kr fun gs2 w2 H2 => ?_
  clear H1
  refine rS [.l 0, .v, .oe (ins := [((.tmp 9), uv a), ((.tmp 10), .agg #[.int .u64 0, .int .u64 0, .int .u64 0, .int .u64 0])]) (v := .bool (!decide (a = 0))) (v' := .bool true) (fun ρ o w ho hi => neU_run (x := (.tmp 9)) (y := (.tmp 10)) a 0 ha (by unfold big; omega) w ho hi.1 hi.2.1) (by rw [decide_eq_false h] <;> rfl), .v, .l 0, .l 1, .c (cmp_fn a NR ha nr_ok.1), .e (v := .bool (decide (cm a NR < 0))) (v' := .bool true) (bool_eq (decide_eq_true (cm_lt h2))), .v, .v] H2 kr fun gs3 w3 H3 => ?_
  clear H2
  refine g_ret kr ?_
  show ∃ vs, Res _ _ _ _ vs ∧ _
  refine ⟨[.bool true], (.tmp (.bool true) kr .nil), ?_, H3.below⟩
  rfl
theorem within_fn (a : Nat) (ha : a < big) : Fn Tryd.prog 26 #[uv a] (.bool (inN a)) := by
  by_cases h : a = 0
  · have := within_z a ha h; subst h; exact this
  · rw [inN_n h]
    by_cases h2 : a < NR
    · rw [decide_eq_true h2]; exact within_y a ha h h2
    · rw [decide_eq_false h2]; exact within_n a ha h h2
set_option maxRecDepth 100000 in
set_option maxHeartbeats 2000000 in
theorem issec_fn (a : Nat) (ha : a < big) : Fn Tryd.prog 10 #[uv a] (.bool (inN a)) := by
  refine Fn.intro (c := codeOf Tryd.f10) [.tmp 2] 15 Tryd.func10 kr kr kr fun w => ?_
  have H0 := St.start w
  refine rS [.b, .v] H0 kr fun gs1 w1 H1 => ?_
  clear H0
  refine g_sreg [0, 1, 2] kr kr ?_
  refine rp [.c modulus1_fn] H1 kr fun gs2 w2 H2 => ?_
  show WPs _ _ _ _ [1, 2] _ _
  clear H1
  refine s_callS H2 (some 5) 35 #[uv NR] (fun _ => True) 3 1 (fun curZ capZ nZ lZ => (nZ = List.length lZ ∧ Rw 1 curZ capZ nZ (cellsD lZ) ∧ Ok lZ ∧ (lZ = dgs NR 16 ∧ vl lZ = NR ∧ List.length lZ = 16))) (of_fn NR nr_ok.1) trivial kr kr ?_
  intro b_1 cap_2 n_3 cur_4 l_5 w3 H3 hs_6; clear H2
  obtain ⟨hs_6n, hs_6r, hs_6o, hs_6s⟩ := hs_6
  obtain ⟨hs_6a, hs_6b, hs_6c⟩ := hs_6s
  refine rp [.v] H3 kr fun gs4 w4 H4 => ?_
  show WPs _ _ _ _ [] _ _
  clear H3
  refine s_nil ?_
  refine g_sreg [0, 1, 2, 3, 4, 5, 6, 7, 8, 9] kr kr ?_
  refine rp [.l 1, .v] H4 kr fun gs5 w5 H5 => ?_
  show WPs _ _ _ _ [2, 3, 4, 5, 6, 7, 8, 9] _ _
  clear H4
  by_cases he1 : (a : Nat) = 0
  · skip
    refine rp [.oe (ins := [((.tmp 6), uv a), ((.tmp 7), .agg #[.int .u64 0, .int .u64 0, .int .u64 0, .int .u64 0])]) (v := .bool (!decide (a = 0))) (v' := .bool false) (fun ρ o w ho hi => neU_run (x := (.tmp 6)) (y := (.tmp 7)) a 0 ha (by unfold big; omega) w ho hi.1 hi.2.1) (by rw [decide_eq_true he1] <;> rfl), .v, .n, .n, .n, .n, .v, .v] H5 kr fun gs6 w6 H6 => ?_
    show WPs _ _ _ _ [] _ _
    clear H5
    refine s_nil ?_
    refine g_ret kr ?_
    show ∃ vs, Res _ _ _ _ vs ∧ _
    refine ⟨[.bool false], (.tmp (.bool false) kr .nil), ?_, H6.below⟩
    exact congrArg Value.bool (show false = inN a by rw [he1]; rfl)
  · skip
    refine rp [.oe (ins := [((.tmp 6), uv a), ((.tmp 7), .agg #[.int .u64 0, .int .u64 0, .int .u64 0, .int .u64 0])]) (v := .bool (!decide (a = 0))) (v' := .bool true) (fun ρ o w ho hi => neU_run (x := (.tmp 6)) (y := (.tmp 7)) a 0 ha (by unfold big; omega) w ho hi.1 hi.2.1) (by rw [decide_eq_false he1] <;> rfl), .v, .l 1] H5 kr fun gs7 w7 H7 => ?_
    show WPs _ _ _ _ [5, 6, 7, 8, 9] _ _
    clear H5
    refine s_callS H7 (some 11) 35 #[uv a] (fun _ => True) 3 1 (fun curZ capZ nZ lZ => (nZ = List.length lZ ∧ Rw 1 curZ capZ nZ (cellsD lZ) ∧ Ok lZ ∧ (lZ = dgs a 16 ∧ vl lZ = a ∧ List.length lZ = 16))) (of_fn a ha) trivial kr kr ?_
    intro b_7 cap_8 n_9 cur_10 l_11 w8 H8 hs_12; clear H7
    obtain ⟨hs_12n, hs_12r, hs_12o, hs_12s⟩ := hs_12
    obtain ⟨hs_12a, hs_12b, hs_12c⟩ := hs_12s
    refine rp [.v, .cp (pre := fun w => w.heap[b_7]? = some (.cells cur_10 3 (0, 0)) ∧ w.heap[b_1]? = some (.cells cur_4 3 (0, 0))) (less_fn l_11 l_5 b_7 n_9 cap_8 b_1 n_3 cap_2 cur_10 cur_4 hs_12n hs_6n hs_12r hs_6r hs_12o hs_6o (by omega) (by omega)) [(0, (b_7, Obj.cells cur_10 3 (0, 0))), (1, (b_1, Obj.cells cur_4 3 (0, 0)))] (fun w hb hd => ⟨hd.1, hd.2.1⟩), .v, .v] H8 kr fun gs9 w9 H9 => ?_
    show WPs _ _ _ _ [] _ _
    clear H8
    refine s_nil ?_
    refine g_ret kr ?_
    show ∃ vs, Res _ _ _ _ vs ∧ _
    refine ⟨[.bool (ls l_11 l_5)], (.tmp (.bool (ls l_11 l_5)) kr .nil), ?_, H9.below⟩
    exact congrArg Value.bool (show ls l_11 l_5 = inN a by rw [inN_n he1]; unfold ls; rw [hs_12b, hs_6b])
end Go.Proofs.YtmmloghbnpfedaaDoor

namespace Go.Proofs.Kec
set_option linter.unusedVariables false
set_option maxRecDepth 10000
abbrev B64 := BitVec 64
def nth (s : List B64) (k : Nat) : B64 := s.getD k 0
def rl (x : B64) (n : Nat) : B64 := x.rotateLeft n
def rowX (v w x : B64) : B64 := v ^^^ (x &&& ~~~ w)
def cC (s : List B64) (x : Nat) : B64 := nth s x ^^^ nth s (x + 5) ^^^ nth s (x + 10) ^^^ nth s (x + 15) ^^^ nth s (x + 20)
def dD (c : Nat → B64) (x : Nat) : B64 := c ((x + 4) % 5) ^^^ rl (c ((x + 1) % 5)) 1
def srcT : List Nat := [0,6,12,18,24, 3,9,10,16,22, 1,7,13,19,20, 4,5,11,17,23, 2,8,14,15,21]
def rotT : List Nat := [0,44,43,21,14, 28,20,3,45,61, 1,6,25,8,18, 27,36,10,15,56, 62,55,39,41,2]
def th (s : List B64) (i : Nat) : B64 := nth s i ^^^ dD (cC s) (i % 5)
def pI (s : List B64) (k : Nat) : B64 := rl (th s (srcT.getD k 0)) (rotT.getD k 0)
def xI (b : Nat → B64) (k : Nat) : B64 := rowX (b k) (b (k / 5 * 5 + (k % 5 + 1) % 5)) (b (k / 5 * 5 + (k % 5 + 2) % 5))
def rnd (s : List B64) : List B64 := (List.range 25).map (xI (pI s))
/-! ### turning -/
theorem rl_bit (a : B64) (n i : Nat) (hi : i < 64) : (rl a n).getLsbD i = a.getLsbD ((i + 64 - n % 64) % 64) := by
  unfold rl
  rw [BitVec.getLsbD_rotateLeft]
  by_cases h : i < n % 64
  · rw [decide_eq_true h, cond_true]; congr 1; omega
  · rw [decide_eq_false h, cond_false, decide_eq_true hi, Bool.true_and]; congr 1; omega
theorem rl_xor (a b : B64) (n : Nat) : rl (a ^^^ b) n = rl a n ^^^ rl b n := by
  apply BitVec.eq_of_getLsbD_eq
  intro i hi
  rw [BitVec.getLsbD_xor, rl_bit _ _ _ hi, rl_bit _ _ _ hi, rl_bit _ _ _ hi, BitVec.getLsbD_xor]
theorem rl_rl (a : B64) (m n : Nat) : rl (rl a m) n = rl a (m + n) := by
  apply BitVec.eq_of_getLsbD_eq
  intro i hi
  rw [rl_bit _ _ _ hi, rl_bit _ _ _ (by omega), rl_bit _ _ _ hi]
  congr 1; omega
theorem rl_64 (a : B64) : rl a 64 = a := by
  apply BitVec.eq_of_getLsbD_eq
  intro i hi
  rw [rl_bit _ _ _ hi]
  congr 1; omega
theorem rl_inj {a b : B64} {n : Nat} (h : rl a n = rl b n) : a = b := by
  have h2 : rl (rl a n) (64 - n % 64) = rl (rl b n) (64 - n % 64) := by rw [h]
  have k : ∀ c : B64, rl (rl c n) (64 - n % 64) = c := fun c => by
    rw [rl_rl]
    apply BitVec.eq_of_getLsbD_eq
    intro i hi
    rw [rl_bit _ _ _ hi]
    congr 1; omega
  rwa [k, k] at h2
/-! ### bits that cancel -/
theorem x9 (a b c d e f : B64) : (a ^^^ b ^^^ c) ^^^ (b ^^^ d ^^^ e) ^^^ (c ^^^ e ^^^ f) = a ^^^ d ^^^ f := by
  apply BitVec.eq_of_getLsbD_eq
  intro i hi
  simp only [BitVec.getLsbD_xor]
  generalize a.getLsbD i = a, b.getLsbD i = b, c.getLsbD i = c, d.getLsbD i = d, e.getLsbD i = e, f.getLsbD i = f
  revert a b c d e f; decide
def L (j : Nat) (c : Nat → B64) (x : Nat) : B64 := c x ^^^ c ((x + 4 * j) % 5) ^^^ rl (c ((x + j) % 5)) j
theorem L_double (j : Nat) (c : Nat → B64) (x : Nat) (hx : x < 5) : L (2 * j) c x = L j c x ^^^ L j c ((x + 4 * j) % 5) ^^^ rl (L j c ((x + j) % 5)) j := by
  unfold L
  rw [rl_xor, rl_xor, rl_rl]
  rw [show ((x + 4 * j) % 5 + j) % 5 = x by omega, show ((x + j) % 5 + 4 * j) % 5 = x by omega, show ((x + 4 * j) % 5 + 4 * j) % 5 = (x + 4 * (2 * j)) % 5 by omega,
    show ((x + j) % 5 + j) % 5 = (x + 2 * j) % 5 by omega, show j + j = 2 * j by omega, x9]
theorem L_step {j : Nat} {c c' : Nat → B64} (h : ∀ x, x < 5 → L j c x = L j c' x) : ∀ x, x < 5 → L (2 * j) c x = L (2 * j) c' x := fun x hx => by
  rw [L_double _ _ _ hx, L_double _ _ _ hx, h x hx, h _ (Nat.mod_lt _ (by decide)), h _ (Nat.mod_lt _ (by decide))]
theorem x27 (a b c d e : B64) :
    ((a ^^^ b ^^^ e) ^^^ (b ^^^ c ^^^ a) ^^^ (e ^^^ a ^^^ d)) ^^^ ((b ^^^ c ^^^ a) ^^^ (c ^^^ d ^^^ b) ^^^ (a ^^^ b ^^^ e)) ^^^ ((e ^^^ a ^^^ d) ^^^ (a ^^^ b ^^^ e) ^^^ (d ^^^ e ^^^ c)) = a := by
  apply BitVec.eq_of_getLsbD_eq
  intro i hi
  simp only [BitVec.getLsbD_xor]
  generalize a.getLsbD i = a, b.getLsbD i = b, c.getLsbD i = c, d.getLsbD i = d, e.getLsbD i = e
  revert a b c d e; decide
def M (c : Nat → B64) (x : Nat) : B64 := c x ^^^ c ((x + 1) % 5) ^^^ c ((x + 4) % 5)
theorem M3 (c : Nat → B64) (x : Nat) (hx : x < 5) : M (M (M c)) x = c x := by
  unfold M
  have e : x = 0 ∨ x = 1 ∨ x = 2 ∨ x = 3 ∨ x = 4 := by omega
  rcases e with rfl | rfl | rfl | rfl | rfl <;> exact x27 _ _ _ _ _
theorem L64 (c : Nat → B64) (x : Nat) (hx : x < 5) : L 64 c x = M c x := by
  unfold L M
  rw [rl_64]
  have e : x = 0 ∨ x = 1 ∨ x = 2 ∨ x = 3 ∨ x = 4 := by omega
  rcases e with rfl | rfl | rfl | rfl | rfl <;> rfl
theorem M_cong {c c' : Nat → B64} (h : ∀ x, x < 5 → c x = c' x) : ∀ x, x < 5 → M c x = M c' x := fun x hx => by
  unfold M
  rw [h x hx, h _ (Nat.mod_lt _ (by decide)), h _ (Nat.mod_lt _ (by decide))]
theorem L_inj {c c' : Nat → B64} (h : ∀ x, x < 5 → L 1 c x = L 1 c' x) : ∀ x, x < 5 → c x = c' x := by
  have h64 : ∀ x, x < 5 → L 64 c x = L 64 c' x := L_step (j := 32) (L_step (j := 16) (L_step (j := 8) (L_step (j := 4) (L_step (j := 2) (L_step (j := 1) h)))))
  have hm : ∀ x, x < 5 → M c x = M c' x := fun x hx => by rw [← L64 c x hx, ← L64 c' x hx, h64 x hx]
  intro x hx
  rw [← M3 c x hx, ← M3 c' x hx]
  exact M_cong (M_cong hm) x hx
/-! ### a row -/
theorem row_bits : ∀ a b c d e a' b' c' d' e' : Bool, (a ^^ (c && !b)) = (a' ^^ (c' && !b')) → (b ^^ (d && !c)) = (b' ^^ (d' && !c')) → (c ^^ (e && !d)) = (c' ^^ (e' && !d')) → (d ^^ (a && !e)) = (d' ^^ (a' && !e')) → (e ^^ (b && !a)) = (e' ^^ (b' && !a')) →
    a = a' ∧ b = b' ∧ c = c' ∧ d = d' ∧ e = e' := by
  intro a b c d e a' b' c' d' e'
  cases a <;> cases b <;> cases c <;> cases d <;> cases e <;> revert a' b' c' d' e' <;> decide
theorem rowX_bit (v w x : B64) (i : Nat) (hi : i < 64) : (rowX v w x).getLsbD i = (v.getLsbD i ^^ (x.getLsbD i && !w.getLsbD i)) := by
  unfold rowX; simp [hi]
theorem row_inj {a b c d e a' b' c' d' e' : B64} (h0 : rowX a b c = rowX a' b' c') (h1 : rowX b c d = rowX b' c' d') (h2 : rowX c d e = rowX c' d' e') (h3 : rowX d e a = rowX d' e' a') (h4 : rowX e a b = rowX e' a' b') :
    a = a' ∧ b = b' ∧ c = c' ∧ d = d' ∧ e = e' := by
  have key : ∀ i, i < 64 → a.getLsbD i = a'.getLsbD i ∧ b.getLsbD i = b'.getLsbD i ∧ c.getLsbD i = c'.getLsbD i ∧ d.getLsbD i = d'.getLsbD i ∧ e.getLsbD i = e'.getLsbD i := fun i hi => by
    have g : ∀ {x y : B64}, x = y → x.getLsbD i = y.getLsbD i := fun h => by rw [h]
    have k0 := g h0; have k1 := g h1; have k2 := g h2; have k3 := g h3; have k4 := g h4
    rw [rowX_bit _ _ _ _ hi, rowX_bit _ _ _ _ hi] at k0 k1 k2 k3 k4
    exact row_bits _ _ _ _ _ _ _ _ _ _ k0 k1 k2 k3 k4
  exact ⟨BitVec.eq_of_getLsbD_eq fun i hi => (key i hi).1, BitVec.eq_of_getLsbD_eq fun i hi => (key i hi).2.1, BitVec.eq_of_getLsbD_eq fun i hi => (key i hi).2.2.1,
    BitVec.eq_of_getLsbD_eq fun i hi => (key i hi).2.2.2.1, BitVec.eq_of_getLsbD_eq fun i hi => (key i hi).2.2.2.2⟩
theorem xI_inj {b b' : Nat → B64} (h : ∀ k, k < 25 → xI b k = xI b' k) : ∀ k, k < 25 → b k = b' k := by
  have row : ∀ y, y < 5 → b (y * 5) = b' (y * 5) ∧ b (y * 5 + 1) = b' (y * 5 + 1) ∧ b (y * 5 + 2) = b' (y * 5 + 2) ∧ b (y * 5 + 3) = b' (y * 5 + 3) ∧ b (y * 5 + 4) = b' (y * 5 + 4) := fun y hy => by
    have e : ∀ (c : Nat → B64) x, x < 5 → xI c (y * 5 + x) = rowX (c (y * 5 + x)) (c (y * 5 + (x + 1) % 5)) (c (y * 5 + (x + 2) % 5)) := fun c x hx => by
      unfold xI; rw [show (y * 5 + x) / 5 * 5 = y * 5 by omega, show (y * 5 + x) % 5 = x by omega]
    have k : ∀ x, x < 5 → rowX (b (y * 5 + x)) (b (y * 5 + (x + 1) % 5)) (b (y * 5 + (x + 2) % 5)) = rowX (b' (y * 5 + x)) (b' (y * 5 + (x + 1) % 5)) (b' (y * 5 + (x + 2) % 5)) := fun x hx => by
      rw [← e b x hx, ← e b' x hx]; exact h _ (by omega)
    exact row_inj (k 0 (by decide)) (k 1 (by decide)) (k 2 (by decide)) (k 3 (by decide)) (k 4 (by decide))
  intro k hk
  have r := row (k / 5) (by omega)
  have e : k % 5 = 0 ∨ k % 5 = 1 ∨ k % 5 = 2 ∨ k % 5 = 3 ∨ k % 5 = 4 := by omega
  rcases e with e | e | e | e | e
  · rw [show k = k / 5 * 5 by omega]; exact r.1
  · rw [show k = k / 5 * 5 + 1 by omega]; exact r.2.1
  · rw [show k = k / 5 * 5 + 2 by omega]; exact r.2.2.1
  · rw [show k = k / 5 * 5 + 3 by omega]; exact r.2.2.2.1
  · rw [show k = k / 5 * 5 + 4 by omega]; exact r.2.2.2.2
/-! ### a round -/
theorem x_col (a b c d e f : B64) : (a ^^^ f) ^^^ (b ^^^ f) ^^^ (c ^^^ f) ^^^ (d ^^^ f) ^^^ (e ^^^ f) = (a ^^^ b ^^^ c ^^^ d ^^^ e) ^^^ f := by
  apply BitVec.eq_of_getLsbD_eq
  intro i hi
  simp only [BitVec.getLsbD_xor]
  generalize a.getLsbD i = a, b.getLsbD i = b, c.getLsbD i = c, d.getLsbD i = d, e.getLsbD i = e, f.getLsbD i = f
  revert a b c d e f; decide
theorem th_col (s : List B64) (x : Nat) (hx : x < 5) : th s x ^^^ th s (x + 5) ^^^ th s (x + 10) ^^^ th s (x + 15) ^^^ th s (x + 20) = L 1 (cC s) x := by
  unfold th
  rw [show (x + 5) % 5 = x % 5 by omega, show (x + 10) % 5 = x % 5 by omega, show (x + 15) % 5 = x % 5 by omega, show (x + 20) % 5 = x % 5 by omega, x_col, show x % 5 = x by omega]
  show cC s x ^^^ dD (cC s) x = _
  unfold dD L
  rw [BitVec.xor_assoc]
theorem src_all : ∀ j, j < 25 → ∃ k, k < 25 ∧ srcT.getD k 0 = j := by
  have : ∀ j : Fin 25, ∃ k : Fin 25, srcT.getD k 0 = j := by decide
  intro j hj
  obtain ⟨k, hk⟩ := this ⟨j, hj⟩
  exact ⟨k, k.2, hk⟩
theorem xor_right_inj {a b c : B64} (h : a ^^^ c = b ^^^ c) : a = b := by
  have : (a ^^^ c) ^^^ c = (b ^^^ c) ^^^ c := by rw [h]
  rwa [BitVec.xor_assoc, BitVec.xor_assoc, BitVec.xor_self, BitVec.xor_zero, BitVec.xor_zero] at this
theorem rnd_get (s : List B64) (k : Nat) (hk : k < 25) : (rnd s)[k]? = some (xI (pI s) k) := by
  unfold rnd; simp [hk]
theorem rnd_len (s : List B64) : (rnd s).length = 25 := by unfold rnd; simp
theorem rnd_inj {s t : List B64} (hs : s.length = 25) (ht : t.length = 25) (h : rnd s = rnd t) : s = t := by
  have hx : ∀ k, k < 25 → xI (pI s) k = xI (pI t) k := fun k hk => by
    have e1 := rnd_get s k hk
    rw [h, rnd_get t k hk] at e1
    exact (Option.some.inj e1).symm
  have hp := xI_inj hx
  have hth : ∀ j, j < 25 → th s j = th t j := fun j hj => by
    obtain ⟨k, hk, rfl⟩ := src_all j hj
    exact rl_inj (hp k hk)
  have hc : ∀ x, x < 5 → cC s x = cC t x := L_inj fun x hx => by
    rw [← th_col s x hx, ← th_col t x hx, hth x (by omega), hth (x + 5) (by omega), hth (x + 10) (by omega), hth (x + 15) (by omega), hth (x + 20) (by omega)]
  have hd : ∀ x, x < 5 → dD (cC s) x = dD (cC t) x := fun x hx => by
    unfold dD; rw [hc _ (Nat.mod_lt _ (by decide)), hc _ (Nat.mod_lt _ (by decide))]
  apply List.ext_getElem (by rw [hs, ht])
  intro j h1 h2
  have e := hth j (by omega)
  unfold th at e
  rw [hd _ (Nat.mod_lt _ (by decide))] at e
  have := xor_right_inj e
  simpa [nth, h1, h2] using this
/-! ### all rounds -/
def markX (m : B64) (s : List B64) : List B64 := (nth s 0 ^^^ m) :: s.drop 1
def rm (s : List B64) (m : B64) : List B64 := markX m (rnd s)
def marks : List B64 := [0x0000000000000001, 0x0000000000008082, 0x800000000000808A, 0x8000000080008000,
  0x000000000000808B, 0x0000000080000001, 0x8000000080008081, 0x8000000000008009,
  0x000000000000008A, 0x0000000000000088, 0x0000000080008009, 0x000000008000000A,
  0x000000008000808B, 0x800000000000008B, 0x8000000000008089, 0x8000000000008003,
  0x8000000000008002, 0x8000000000000080, 0x000000000000800A, 0x800000008000000A,
  0x8000000080008081, 0x8000000000008080, 0x0000000080000001, 0x8000000080008008]
def mix (s : List B64) : List B64 := marks.foldl rm s
theorem markX_len (m : B64) {s : List B64} (h : s.length = 25) : (markX m s).length = 25 := by unfold markX; simp [h]
theorem markX_inj {m : B64} {s t : List B64} (hs : s.length = 25) (ht : t.length = 25) (h : markX m s = markX m t) : s = t := by
  match s, t, hs, ht with
  | a :: s, b :: t, _, _ =>
    unfold markX nth at h
    simp at h
    obtain ⟨h1, h2⟩ := h
    rw [h1, h2]
theorem rm_len (s : List B64) (m : B64) : (rm s m).length = 25 := markX_len m (rnd_len s)
theorem foldl_rm_len : ∀ (ms : List B64) {s : List B64}, s.length = 25 → (ms.foldl rm s).length = 25
  | [], _, h => h
  | m :: ms, s, _ => foldl_rm_len ms (rm_len s m)
theorem mix_len {s : List B64} (h : s.length = 25) : (mix s).length = 25 := foldl_rm_len _ h
theorem foldl_rm_inj : ∀ (ms : List B64) {s t : List B64}, s.length = 25 → t.length = 25 → ms.foldl rm s = ms.foldl rm t → s = t
  | [], _, _, _, _, h => h
  | m :: ms, s, t, hs, ht, h => rnd_inj hs ht (markX_inj (rnd_len s) (rnd_len t) (foldl_rm_inj ms (rm_len s m) (rm_len t m) h))
/-! ### sums -/
def byteB (b : UInt8) : B64 := BitVec.ofNat 64 b.toNat
def liftB (b : B64) (i : Nat) : B64 := b <<< (i % 8 * 8)
/-- The state with a byte laid at a place. -/
def lay (s : List B64) (n : Nat) (b : B64) : List B64 := s.set (n / 8) (nth s (n / 8) ^^^ liftB b n)
def step1 (st : List B64 × Nat) (b : UInt8) : List B64 × Nat :=
  if st.2 + 1 = 136 then (mix (lay st.1 st.2 (byteB b)), 0) else (lay st.1 st.2 (byteB b), st.2 + 1)
def takeB (st : List B64 × Nat) (l : List UInt8) : List B64 × Nat := l.foldl step1 st
def endB (st : List B64 × Nat) : List B64 := lay (lay st.1 st.2 1) 135 0x80
def firstB (s : List B64) : List UInt8 := (List.range 32).map fun i => UInt8.ofNat ((nth s (i / 8)).toNat / 2 ^ (i % 8 * 8))
def zeroS : List B64 := List.replicate 25 0
def sumB (l : List UInt8) : List UInt8 := firstB (mix (endB (takeB (zeroS, 0) l)))
theorem lay_len {s : List B64} (n : Nat) (b : B64) (h : s.length = 25) : (lay s n b).length = 25 := by unfold lay; simp [h]
structure StOK (st : List B64 × Nat) : Prop where
  len : st.1.length = 25
  lt : st.2 < 136
theorem step1_ok {st : List B64 × Nat} (b : UInt8) (h : StOK st) : StOK (step1 st b) := by
  unfold step1
  split
  · exact ⟨mix_len (lay_len _ _ h.len), (by decide : 0 < 136)⟩
  · exact ⟨lay_len _ _ h.len, by have := h.lt; simp only; omega⟩
theorem takeB_ok : ∀ (l : List UInt8) {st : List B64 × Nat}, StOK st → StOK (takeB st l)
  | [], _, h => h
  | b :: l, st, h => takeB_ok l (step1_ok b h)
theorem takeB_append (st : List B64 × Nat) (l m : List UInt8) : takeB st (l ++ m) = takeB (takeB st l) m := by unfold takeB; exact List.foldl_append
theorem takeB_snoc (st : List B64 × Nat) (l : List UInt8) (b : UInt8) : takeB st (l ++ [b]) = step1 (takeB st l) b := by rw [takeB_append]; rfl
theorem zero_ok : StOK (zeroS, 0) := ⟨by decide, by decide⟩
theorem firstB_len (s : List B64) : (firstB s).length = 32 := by unfold firstB; simp
theorem sumB_len (l : List UInt8) : (sumB l).length = 32 := firstB_len _
end Go.Proofs.Kec

namespace Go.Proofs.YtmmloghbnpfedaaDoor.Ke
open Go Go.RowKit Go.Proofs.Kec
set_option linter.unusedVariables false
theorem rl_of (x : BitVec 64) (n : Nat) (h : n < 64) : x <<< n ||| x >>> (64 - n) = rl x n := by
  unfold rl BitVec.rotateLeft BitVec.rotateLeftAux; rw [Nat.mod_eq_of_lt h]
theorem and63 (n : Nat) (h : n < 64) : Value.int .u64 (Go.bits .and .u64 ((n : Nat) : Int) 63) = .int .u64 ((n : Nat) : Int) := by
  rw [show (63 : Int) = ((63 : Nat) : Int) from rfl, u64_and_nat n 63 (by omega) (by omega), show (63 : Nat) = 2 ^ 6 - 1 from rfl, Nat.and_two_pow_sub_one_eq_mod, Nat.mod_eq_of_lt (by omega)]
set_option maxRecDepth 100000 in
set_option maxHeartbeats 2000000 in
theorem rotl_fn (x : BitVec 64) (n : Nat) (hn : n < 64) : Fn Tryd.prog 103 #[.int .u64 ((BitVec.toNat x : Nat) : Int), .int .i64 ((n : Nat) : Int)] (.int .u64 ((BitVec.toNat (rl x n) : Nat) : Int)) := by
  refine Fn.intro (c := codeOf Tryd.f103) [.tmp 4] 17 Tryd.func103 kr kr kr fun w => ?_
  have H0 := St.start w
  refine rS [.v] H0 kr fun gs1 w1 H1 => ?_
  clear H0
  refine rS [.v, .e (v := .int .u64 (IntKind.u64.wrap (((n : Nat) : Int)))) (v' := .int .u64 ((n : Nat) : Int)) (int_eq (wrapN_u64 (a := n) (by omega))), .e (v := .int .u64 (Go.bits .and .u64 ((n : Nat) : Int) 63)) (v' := .int .u64 ((n : Nat) : Int)) (and63 n hn), .v] H1 kr fun gs2 w2 H2 => ?_
  clear H1
  refine rS [.v, .v, .e (v := .int .u64 (IntKind.u64.wrap ((((BitVec.toNat x : Nat) : Int)) * 2 ^ (min n 64)))) (v' := .int .u64 ((BitVec.toNat (x <<< n) : Nat) : Int)) (bv_shl_u64 x n), .v, .v, .e (v := .int .u64 (IntKind.u64.wrap (64 - ((n : Nat) : Int)))) (v' := .int .u64 ((64 - n : Nat) : Int)) (int_eq (wrapSub_u64 (a := 64) (b := n) (by omega))), .e (v := .int .u64 (Int.fdiv (((BitVec.toNat x : Nat) : Int)) (2 ^ (min (64 - n) 64)))) (v' := .int .u64 ((BitVec.toNat (x >>> (64 - n)) : Nat) : Int)) (bv_shr_u64 x (64 - n)), .e (v := .int .u64 (Go.bits .or .u64 (((BitVec.toNat (x <<< n) : Nat) : Int)) (((BitVec.toNat (x >>> (64 - n)) : Nat) : Int)))) (v' := .int .u64 ((BitVec.toNat ((x <<< n) ||| (x >>> (64 - n))) : Nat) : Int)) (bv_or_u64 (x <<< n) (x >>> (64 - n))), .v] H2 kr fun gs3 w3 H3 => ?_
  clear H2
  refine g_ret kr ?_
  show ∃ vs, Res _ _ _ _ vs ∧ _
  refine ⟨[.int .u64 ((BitVec.toNat ((x <<< n) ||| (x >>> (64 - n))) : Nat) : Int)], (.tmp (.int .u64 ((BitVec.toNat ((x <<< n) ||| (x >>> (64 - n))) : Nat) : Int)) kr .nil), ?_, H3.below⟩
  rw [← rl_of x n hn]; rfl
set_option maxRecDepth 100000 in
set_option maxHeartbeats 2000000 in
theorem turn_fn (x : BitVec 64) (n : Nat) (hn : n < 64) : Fn Tryd.prog 97 #[.int .u64 ((BitVec.toNat x : Nat) : Int), .int .i64 ((n : Nat) : Int)] (.int .u64 ((BitVec.toNat (rl x n) : Nat) : Int)) := by
  refine Fn.intro (c := codeOf Tryd.f97) [.tmp 4] 8 Tryd.func97 kr kr kr fun w => ?_
  have H0 := St.start w
  refine rS [.v] H0 kr fun gs1 w1 H1 => ?_
  clear H0
  refine rS [.v, .v, .c (rotl_fn x n (by omega)), .v] H1 kr fun gs2 w2 H2 => ?_
  clear H1
  refine g_ret kr ?_
  show ∃ vs, Res _ _ _ _ vs ∧ _
  refine ⟨[.int .u64 ((BitVec.toNat (rl x n) : Nat) : Int)], (.tmp (.int .u64 ((BitVec.toNat (rl x n) : Nat) : Int)) kr .nil), ?_, H2.below⟩
  rfl
set_option maxRecDepth 100000 in
set_option maxHeartbeats 2000000 in
theorem row_fn (xa xb xc xd xe : BitVec 64) : Fn Tryd.prog 98 #[.int .u64 ((BitVec.toNat xa : Nat) : Int), .int .u64 ((BitVec.toNat xb : Nat) : Int), .int .u64 ((BitVec.toNat xc : Nat) : Int), .int .u64 ((BitVec.toNat xd : Nat) : Int), .int .u64 ((BitVec.toNat xe : Nat) : Int)] (.tuple #[.int .u64 ((BitVec.toNat (rowX xa xb xc) : Nat) : Int), .int .u64 ((BitVec.toNat (rowX xb xc xd) : Nat) : Int), .int .u64 ((BitVec.toNat (rowX xc xd xe) : Nat) : Int), .int .u64 ((BitVec.toNat (rowX xd xe xa) : Nat) : Int), .int .u64 ((BitVec.toNat (rowX xe xa xb) : Nat) : Int)]) := by
  refine Fn.intro (c := codeOf Tryd.f98) [.tmp 10, .tmp 11, .tmp 12, .tmp 13, .tmp 14] 40 Tryd.func98 kr kr kr fun w => ?_
  have H0 := St.start w
  refine rS [.v, .v, .v, .v, .v] H0 kr fun gs1 w1 H1 => ?_
  clear H0
  refine rS [.v, .v, .v, .e (v := .int .u64 (Go.bits .andNot .u64 (((BitVec.toNat xc : Nat) : Int)) (((BitVec.toNat xb : Nat) : Int)))) (v' := .int .u64 ((BitVec.toNat (xc &&& ~~~xb) : Nat) : Int)) (bv_andNot_u64 xc xb), .e (v := .int .u64 (Go.bits .xor .u64 (((BitVec.toNat xa : Nat) : Int)) (((BitVec.toNat (xc &&& ~~~xb) : Nat) : Int)))) (v' := .int .u64 ((BitVec.toNat (xa ^^^ (xc &&& ~~~xb)) : Nat) : Int)) (bv_xor_u64 xa (xc &&& ~~~xb)), .v, .v, .v, .e (v := .int .u64 (Go.bits .andNot .u64 (((BitVec.toNat xd : Nat) : Int)) (((BitVec.toNat xc : Nat) : Int)))) (v' := .int .u64 ((BitVec.toNat (xd &&& ~~~xc) : Nat) : Int)) (bv_andNot_u64 xd xc), .e (v := .int .u64 (Go.bits .xor .u64 (((BitVec.toNat xb : Nat) : Int)) (((BitVec.toNat (xd &&& ~~~xc) : Nat) : Int)))) (v' := .int .u64 ((BitVec.toNat (xb ^^^ (xd &&& ~~~xc)) : Nat) : Int)) (bv_xor_u64 xb (xd &&& ~~~xc)), .v, .v, .v, .e (v := .int .u64 (Go.bits .andNot .u64 (((BitVec.toNat xe : Nat) : Int)) (((BitVec.toNat xd : Nat) : Int)))) (v' := .int .u64 ((BitVec.toNat (xe &&& ~~~xd) : Nat) : Int)) (bv_andNot_u64 xe xd), .e (v := .int .u64 (Go.bits .xor .u64 (((BitVec.toNat xc : Nat) : Int)) (((BitVec.toNat (xe &&& ~~~xd) : Nat) : Int)))) (v' := .int .u64 ((BitVec.toNat (xc ^^^ (xe &&& ~~~xd)) : Nat) : Int)) (bv_xor_u64 xc (xe &&& ~~~xd)), .v, .v, .v, .e (v := .int .u64 (Go.bits .andNot .u64 (((BitVec.toNat xa : Nat) : Int)) (((BitVec.toNat xe : Nat) : Int)))) (v' := .int .u64 ((BitVec.toNat (xa &&& ~~~xe) : Nat) : Int)) (bv_andNot_u64 xa xe), .e (v := .int .u64 (Go.bits .xor .u64 (((BitVec.toNat xd : Nat) : Int)) (((BitVec.toNat (xa &&& ~~~xe) : Nat) : Int)))) (v' := .int .u64 ((BitVec.toNat (xd ^^^ (xa &&& ~~~xe)) : Nat) : Int)) (bv_xor_u64 xd (xa &&& ~~~xe)), .v, .v, .v, .e (v := .int .u64 (Go.bits .andNot .u64 (((BitVec.toNat xb : Nat) : Int)) (((BitVec.toNat xa : Nat) : Int)))) (v' := .int .u64 ((BitVec.toNat (xb &&& ~~~xa) : Nat) : Int)) (bv_andNot_u64 xb xa), .e (v := .int .u64 (Go.bits .xor .u64 (((BitVec.toNat xe : Nat) : Int)) (((BitVec.toNat (xb &&& ~~~xa) : Nat) : Int)))) (v' := .int .u64 ((BitVec.toNat (xe ^^^ (xb &&& ~~~xa)) : Nat) : Int)) (bv_xor_u64 xe (xb &&& ~~~xa)), .v, .v, .v, .v, .v] H1 kr fun gs2 w2 H2 => ?_
  clear H1
  refine g_ret kr ?_
  show ∃ vs, Res _ _ _ _ vs ∧ _
  refine ⟨[.int .u64 ((BitVec.toNat (xa ^^^ (xc &&& ~~~xb)) : Nat) : Int), .int .u64 ((BitVec.toNat (xb ^^^ (xd &&& ~~~xc)) : Nat) : Int), .int .u64 ((BitVec.toNat (xc ^^^ (xe &&& ~~~xd)) : Nat) : Int), .int .u64 ((BitVec.toNat (xd ^^^ (xa &&& ~~~xe)) : Nat) : Int), .int .u64 ((BitVec.toNat (xe ^^^ (xb &&& ~~~xa)) : Nat) : Int)], (.tmp (.int .u64 ((BitVec.toNat (xa ^^^ (xc &&& ~~~xb)) : Nat) : Int)) kr (.tmp (.int .u64 ((BitVec.toNat (xb ^^^ (xd &&& ~~~xc)) : Nat) : Int)) kr (.tmp (.int .u64 ((BitVec.toNat (xc ^^^ (xe &&& ~~~xd)) : Nat) : Int)) kr (.tmp (.int .u64 ((BitVec.toNat (xd ^^^ (xa &&& ~~~xe)) : Nat) : Int)) kr (.tmp (.int .u64 ((BitVec.toNat (xe ^^^ (xb &&& ~~~xa)) : Nat) : Int)) kr .nil))))), ?_, H2.below⟩
  rfl
def svn (s : List (BitVec 64)) : Value := .agg #[.int .u64 ((BitVec.toNat (nth s 0) : Nat) : Int), .int .u64 ((BitVec.toNat (nth s 1) : Nat) : Int), .int .u64 ((BitVec.toNat (nth s 2) : Nat) : Int), .int .u64 ((BitVec.toNat (nth s 3) : Nat) : Int), .int .u64 ((BitVec.toNat (nth s 4) : Nat) : Int), .int .u64 ((BitVec.toNat (nth s 5) : Nat) : Int), .int .u64 ((BitVec.toNat (nth s 6) : Nat) : Int), .int .u64 ((BitVec.toNat (nth s 7) : Nat) : Int), .int .u64 ((BitVec.toNat (nth s 8) : Nat) : Int), .int .u64 ((BitVec.toNat (nth s 9) : Nat) : Int), .int .u64 ((BitVec.toNat (nth s 10) : Nat) : Int), .int .u64 ((BitVec.toNat (nth s 11) : Nat) : Int), .int .u64 ((BitVec.toNat (nth s 12) : Nat) : Int), .int .u64 ((BitVec.toNat (nth s 13) : Nat) : Int), .int .u64 ((BitVec.toNat (nth s 14) : Nat) : Int), .int .u64 ((BitVec.toNat (nth s 15) : Nat) : Int), .int .u64 ((BitVec.toNat (nth s 16) : Nat) : Int), .int .u64 ((BitVec.toNat (nth s 17) : Nat) : Int), .int .u64 ((BitVec.toNat (nth s 18) : Nat) : Int), .int .u64 ((BitVec.toNat (nth s 19) : Nat) : Int), .int .u64 ((BitVec.toNat (nth s 20) : Nat) : Int), .int .u64 ((BitVec.toNat (nth s 21) : Nat) : Int), .int .u64 ((BitVec.toNat (nth s 22) : Nat) : Int), .int .u64 ((BitVec.toNat (nth s 23) : Nat) : Int), .int .u64 ((BitVec.toNat (nth s 24) : Nat) : Int)]
theorem rl0 (x : BitVec 64) : rl x 0 = x := by
  apply BitVec.eq_of_getLsbD_eq
  intro i hi
  rw [rl_bit _ _ _ hi]; congr 1; omega
theorem pI0 (s : List (BitVec 64)) : pI s 0 = th s 0 := rl0 _
theorem row0_fn (s : List (BitVec 64)) : Fn Tryd.prog 98 #[.int .u64 ((BitVec.toNat (th s 0) : Nat) : Int), .int .u64 ((BitVec.toNat (pI s 1) : Nat) : Int), .int .u64 ((BitVec.toNat (pI s 2) : Nat) : Int), .int .u64 ((BitVec.toNat (pI s 3) : Nat) : Int), .int .u64 ((BitVec.toNat (pI s 4) : Nat) : Int)] (.tuple #[.int .u64 ((BitVec.toNat (xI (pI s) 0) : Nat) : Int), .int .u64 ((BitVec.toNat (xI (pI s) 1) : Nat) : Int), .int .u64 ((BitVec.toNat (xI (pI s) 2) : Nat) : Int), .int .u64 ((BitVec.toNat (xI (pI s) 3) : Nat) : Int), .int .u64 ((BitVec.toNat (xI (pI s) 4) : Nat) : Int)]) := by
  rw [← pI0 s]; exact row_fn (pI s 0) (pI s 1) (pI s 2) (pI s 3) (pI s 4)
set_option maxRecDepth 100000 in
set_option maxHeartbeats 2000000 in
theorem round_fn (s : List (BitVec 64)) : Fn Tryd.prog 90 #[svn s] (svn (rnd s)) := by
  refine Fn.intro (c := codeOf Tryd.f90) [.cell 2 84] 288 Tryd.func90 kr kr kr fun w => ?_
  have H0 := St.start w
  refine rS [.b, .a] H0 kr fun gs1 w1 H1 => ?_
  clear H0
  refine rS [.v, .l 0, .v, .l 0, .e (v := .int .u64 (Go.bits .xor .u64 (((BitVec.toNat (nth s 0) : Nat) : Int)) (((BitVec.toNat (nth s 5) : Nat) : Int)))) (v' := .int .u64 ((BitVec.toNat ((nth s 0) ^^^ (nth s 5)) : Nat) : Int)) (bv_xor_u64 (nth s 0) (nth s 5)), .v, .l 0, .e (v := .int .u64 (Go.bits .xor .u64 (((BitVec.toNat ((nth s 0) ^^^ (nth s 5)) : Nat) : Int)) (((BitVec.toNat (nth s 10) : Nat) : Int)))) (v' := .int .u64 ((BitVec.toNat (((nth s 0) ^^^ (nth s 5)) ^^^ (nth s 10)) : Nat) : Int)) (bv_xor_u64 ((nth s 0) ^^^ (nth s 5)) (nth s 10)), .v, .l 0, .e (v := .int .u64 (Go.bits .xor .u64 (((BitVec.toNat (((nth s 0) ^^^ (nth s 5)) ^^^ (nth s 10)) : Nat) : Int)) (((BitVec.toNat (nth s 15) : Nat) : Int)))) (v' := .int .u64 ((BitVec.toNat ((((nth s 0) ^^^ (nth s 5)) ^^^ (nth s 10)) ^^^ (nth s 15)) : Nat) : Int)) (bv_xor_u64 (((nth s 0) ^^^ (nth s 5)) ^^^ (nth s 10)) (nth s 15)), .v, .l 0, .e (v := .int .u64 (Go.bits .xor .u64 (((BitVec.toNat ((((nth s 0) ^^^ (nth s 5)) ^^^ (nth s 10)) ^^^ (nth s 15)) : Nat) : Int)) (((BitVec.toNat (nth s 20) : Nat) : Int)))) (v' := .int .u64 ((BitVec.toNat (cC s 0) : Nat) : Int)) (bv_xor_u64 ((((nth s 0) ^^^ (nth s 5)) ^^^ (nth s 10)) ^^^ (nth s 15)) (nth s 20)), .v] H1 kr fun gs2 w2 H2 => ?_
  clear H1
  refine g_keep [0, 1, 2, 3] fun ρ1 => ?_
  have HK1 := H2.keep
  clear H2
  refine rS [.v, .l 0, .v, .l 0, .e (v := .int .u64 (Go.bits .xor .u64 (((BitVec.toNat (nth s 1) : Nat) : Int)) (((BitVec.toNat (nth s 6) : Nat) : Int)))) (v' := .int .u64 ((BitVec.toNat ((nth s 1) ^^^ (nth s 6)) : Nat) : Int)) (bv_xor_u64 (nth s 1) (nth s 6)), .v, .l 0, .e (v := .int .u64 (Go.bits .xor .u64 (((BitVec.toNat ((nth s 1) ^^^ (nth s 6)) : Nat) : Int)) (((BitVec.toNat (nth s 11) : Nat) : Int)))) (v' := .int .u64 ((BitVec.toNat (((nth s 1) ^^^ (nth s 6)) ^^^ (nth s 11)) : Nat) : Int)) (bv_xor_u64 ((nth s 1) ^^^ (nth s 6)) (nth s 11)), .v, .l 0, .e (v := .int .u64 (Go.bits .xor .u64 (((BitVec.toNat (((nth s 1) ^^^ (nth s 6)) ^^^ (nth s 11)) : Nat) : Int)) (((BitVec.toNat (nth s 16) : Nat) : Int)))) (v' := .int .u64 ((BitVec.toNat ((((nth s 1) ^^^ (nth s 6)) ^^^ (nth s 11)) ^^^ (nth s 16)) : Nat) : Int)) (bv_xor_u64 (((nth s 1) ^^^ (nth s 6)) ^^^ (nth s 11)) (nth s 16)), .v, .l 0, .e (v := .int .u64 (Go.bits .xor .u64 (((BitVec.toNat ((((nth s 1) ^^^ (nth s 6)) ^^^ (nth s 11)) ^^^ (nth s 16)) : Nat) : Int)) (((BitVec.toNat (nth s 21) : Nat) : Int)))) (v' := .int .u64 ((BitVec.toNat (cC s 1) : Nat) : Int)) (bv_xor_u64 ((((nth s 1) ^^^ (nth s 6)) ^^^ (nth s 11)) ^^^ (nth s 16)) (nth s 21)), .v] HK1 kr fun gs3 w3 H3 => ?_
  clear HK1
  refine rS [.v, .l 0, .v, .l 0, .e (v := .int .u64 (Go.bits .xor .u64 (((BitVec.toNat (nth s 2) : Nat) : Int)) (((BitVec.toNat (nth s 7) : Nat) : Int)))) (v' := .int .u64 ((BitVec.toNat ((nth s 2) ^^^ (nth s 7)) : Nat) : Int)) (bv_xor_u64 (nth s 2) (nth s 7)), .v, .l 0, .e (v := .int .u64 (Go.bits .xor .u64 (((BitVec.toNat ((nth s 2) ^^^ (nth s 7)) : Nat) : Int)) (((BitVec.toNat (nth s 12) : Nat) : Int)))) (v' := .int .u64 ((BitVec.toNat (((nth s 2) ^^^ (nth s 7)) ^^^ (nth s 12)) : Nat) : Int)) (bv_xor_u64 ((nth s 2) ^^^ (nth s 7)) (nth s 12)), .v, .l 0, .e (v := .int .u64 (Go.bits .xor .u64 (((BitVec.toNat (((nth s 2) ^^^ (nth s 7)) ^^^ (nth s 12)) : Nat) : Int)) (((BitVec.toNat (nth s 17) : Nat) : Int)))) (v' := .int .u64 ((BitVec.toNat ((((nth s 2) ^^^ (nth s 7)) ^^^ (nth s 12)) ^^^ (nth s 17)) : Nat) : Int)) (bv_xor_u64 (((nth s 2) ^^^ (nth s 7)) ^^^ (nth s 12)) (nth s 17)), .v, .l 0, .e (v := .int .u64 (Go.bits .xor .u64 (((BitVec.toNat ((((nth s 2) ^^^ (nth s 7)) ^^^ (nth s 12)) ^^^ (nth s 17)) : Nat) : Int)) (((BitVec.toNat (nth s 22) : Nat) : Int)))) (v' := .int .u64 ((BitVec.toNat (cC s 2) : Nat) : Int)) (bv_xor_u64 ((((nth s 2) ^^^ (nth s 7)) ^^^ (nth s 12)) ^^^ (nth s 17)) (nth s 22)), .v] H3 kr fun gs4 w4 H4 => ?_
  clear H3
  refine g_keep [0, 1, 2, 3, 4, 5] fun ρ2 => ?_
  have HK2 := H4.keep
  clear H4
  refine rS [.v, .l 0, .v, .l 0, .e (v := .int .u64 (Go.bits .xor .u64 (((BitVec.toNat (nth s 3) : Nat) : Int)) (((BitVec.toNat (nth s 8) : Nat) : Int)))) (v' := .int .u64 ((BitVec.toNat ((nth s 3) ^^^ (nth s 8)) : Nat) : Int)) (bv_xor_u64 (nth s 3) (nth s 8)), .v, .l 0, .e (v := .int .u64 (Go.bits .xor .u64 (((BitVec.toNat ((nth s 3) ^^^ (nth s 8)) : Nat) : Int)) (((BitVec.toNat (nth s 13) : Nat) : Int)))) (v' := .int .u64 ((BitVec.toNat (((nth s 3) ^^^ (nth s 8)) ^^^ (nth s 13)) : Nat) : Int)) (bv_xor_u64 ((nth s 3) ^^^ (nth s 8)) (nth s 13)), .v, .l 0, .e (v := .int .u64 (Go.bits .xor .u64 (((BitVec.toNat (((nth s 3) ^^^ (nth s 8)) ^^^ (nth s 13)) : Nat) : Int)) (((BitVec.toNat (nth s 18) : Nat) : Int)))) (v' := .int .u64 ((BitVec.toNat ((((nth s 3) ^^^ (nth s 8)) ^^^ (nth s 13)) ^^^ (nth s 18)) : Nat) : Int)) (bv_xor_u64 (((nth s 3) ^^^ (nth s 8)) ^^^ (nth s 13)) (nth s 18)), .v, .l 0, .e (v := .int .u64 (Go.bits .xor .u64 (((BitVec.toNat ((((nth s 3) ^^^ (nth s 8)) ^^^ (nth s 13)) ^^^ (nth s 18)) : Nat) : Int)) (((BitVec.toNat (nth s 23) : Nat) : Int)))) (v' := .int .u64 ((BitVec.toNat (cC s 3) : Nat) : Int)) (bv_xor_u64 ((((nth s 3) ^^^ (nth s 8)) ^^^ (nth s 13)) ^^^ (nth s 18)) (nth s 23)), .v] HK2 kr fun gs5 w5 H5 => ?_
  clear HK2
  refine rS [.v, .l 0, .v, .l 0, .e (v := .int .u64 (Go.bits .xor .u64 (((BitVec.toNat (nth s 4) : Nat) : Int)) (((BitVec.toNat (nth s 9) : Nat) : Int)))) (v' := .int .u64 ((BitVec.toNat ((nth s 4) ^^^ (nth s 9)) : Nat) : Int)) (bv_xor_u64 (nth s 4) (nth s 9)), .v, .l 0, .e (v := .int .u64 (Go.bits .xor .u64 (((BitVec.toNat ((nth s 4) ^^^ (nth s 9)) : Nat) : Int)) (((BitVec.toNat (nth s 14) : Nat) : Int)))) (v' := .int .u64 ((BitVec.toNat (((nth s 4) ^^^ (nth s 9)) ^^^ (nth s 14)) : Nat) : Int)) (bv_xor_u64 ((nth s 4) ^^^ (nth s 9)) (nth s 14)), .v, .l 0, .e (v := .int .u64 (Go.bits .xor .u64 (((BitVec.toNat (((nth s 4) ^^^ (nth s 9)) ^^^ (nth s 14)) : Nat) : Int)) (((BitVec.toNat (nth s 19) : Nat) : Int)))) (v' := .int .u64 ((BitVec.toNat ((((nth s 4) ^^^ (nth s 9)) ^^^ (nth s 14)) ^^^ (nth s 19)) : Nat) : Int)) (bv_xor_u64 (((nth s 4) ^^^ (nth s 9)) ^^^ (nth s 14)) (nth s 19)), .v, .l 0, .e (v := .int .u64 (Go.bits .xor .u64 (((BitVec.toNat ((((nth s 4) ^^^ (nth s 9)) ^^^ (nth s 14)) ^^^ (nth s 19)) : Nat) : Int)) (((BitVec.toNat (nth s 24) : Nat) : Int)))) (v' := .int .u64 ((BitVec.toNat (cC s 4) : Nat) : Int)) (bv_xor_u64 ((((nth s 4) ^^^ (nth s 9)) ^^^ (nth s 14)) ^^^ (nth s 19)) (nth s 24)), .v] H5 kr fun gs6 w6 H6 => ?_
  clear H5
  refine g_keep [0, 1, 2, 3, 4, 5, 6, 7] fun ρ3 => ?_
  have HK3 := H6.keep
  clear H6
  refine rS [.v, .v, .c (turn_fn (cC s 1) 1 (by omega)), .e (v := .int .u64 (Go.bits .xor .u64 (((BitVec.toNat (cC s 4) : Nat) : Int)) (((BitVec.toNat (rl (cC s 1) 1) : Nat) : Int)))) (v' := .int .u64 ((BitVec.toNat (dD (cC s) 0) : Nat) : Int)) (bv_xor_u64 (cC s 4) (rl (cC s 1) 1)), .v] HK3 kr fun gs7 w7 H7 => ?_
  clear HK3
  refine rS [.v, .v, .c (turn_fn (cC s 2) 1 (by omega)), .e (v := .int .u64 (Go.bits .xor .u64 (((BitVec.toNat (cC s 0) : Nat) : Int)) (((BitVec.toNat (rl (cC s 2) 1) : Nat) : Int)))) (v' := .int .u64 ((BitVec.toNat (dD (cC s) 1) : Nat) : Int)) (bv_xor_u64 (cC s 0) (rl (cC s 2) 1)), .v] H7 kr fun gs8 w8 H8 => ?_
  clear H7
  refine rS [.v, .v, .c (turn_fn (cC s 3) 1 (by omega)), .e (v := .int .u64 (Go.bits .xor .u64 (((BitVec.toNat (cC s 1) : Nat) : Int)) (((BitVec.toNat (rl (cC s 3) 1) : Nat) : Int)))) (v' := .int .u64 ((BitVec.toNat (dD (cC s) 2) : Nat) : Int)) (bv_xor_u64 (cC s 1) (rl (cC s 3) 1)), .v] H8 kr fun gs9 w9 H9 => ?_
  clear H8
  refine rS [.v, .v, .c (turn_fn (cC s 4) 1 (by omega)), .e (v := .int .u64 (Go.bits .xor .u64 (((BitVec.toNat (cC s 2) : Nat) : Int)) (((BitVec.toNat (rl (cC s 4) 1) : Nat) : Int)))) (v' := .int .u64 ((BitVec.toNat (dD (cC s) 3) : Nat) : Int)) (bv_xor_u64 (cC s 2) (rl (cC s 4) 1)), .v] H9 kr fun gs10 w10 H10 => ?_
  clear H9
  refine g_keep [0, 1, 2, 3, 4, 5, 6, 7, 8, 9, 10, 11] fun ρ4 => ?_
  have HK4 := H10.keep
  clear H10
  refine rS [.v, .v, .c (turn_fn (cC s 0) 1 (by omega)), .e (v := .int .u64 (Go.bits .xor .u64 (((BitVec.toNat (cC s 3) : Nat) : Int)) (((BitVec.toNat (rl (cC s 0) 1) : Nat) : Int)))) (v' := .int .u64 ((BitVec.toNat (dD (cC s) 4) : Nat) : Int)) (bv_xor_u64 (cC s 3) (rl (cC s 0) 1)), .v] HK4 kr fun gs11 w11 H11 => ?_
  clear HK4
  refine dS [.v, .l 0, .v, .e (v := .int .u64 (Go.bits .xor .u64 (((BitVec.toNat (nth s 0) : Nat) : Int)) (((BitVec.toNat (dD (cC s) 0) : Nat) : Int)))) (v' := .int .u64 ((BitVec.toNat (th s 0) : Nat) : Int)) (bv_xor_u64 (nth s 0) (dD (cC s) 0)), .v, .l 0, .v, .e (v := .int .u64 (Go.bits .xor .u64 (((BitVec.toNat (nth s 6) : Nat) : Int)) (((BitVec.toNat (dD (cC s) 1) : Nat) : Int)))) (v' := .int .u64 ((BitVec.toNat (th s 6) : Nat) : Int)) (bv_xor_u64 (nth s 6) (dD (cC s) 1)), .c (turn_fn (th s 6) 44 (by omega)), .v, .l 0, .v, .e (v := .int .u64 (Go.bits .xor .u64 (((BitVec.toNat (nth s 12) : Nat) : Int)) (((BitVec.toNat (dD (cC s) 2) : Nat) : Int)))) (v' := .int .u64 ((BitVec.toNat (th s 12) : Nat) : Int)) (bv_xor_u64 (nth s 12) (dD (cC s) 2)), .c (turn_fn (th s 12) 43 (by omega)), .v, .l 0, .v, .e (v := .int .u64 (Go.bits .xor .u64 (((BitVec.toNat (nth s 18) : Nat) : Int)) (((BitVec.toNat (dD (cC s) 3) : Nat) : Int)))) (v' := .int .u64 ((BitVec.toNat (th s 18) : Nat) : Int)) (bv_xor_u64 (nth s 18) (dD (cC s) 3)), .c (turn_fn (th s 18) 21 (by omega)), .v, .l 0, .v, .e (v := .int .u64 (Go.bits .xor .u64 (((BitVec.toNat (nth s 24) : Nat) : Int)) (((BitVec.toNat (dD (cC s) 4) : Nat) : Int)))) (v' := .int .u64 ((BitVec.toNat (th s 24) : Nat) : Int)) (bv_xor_u64 (nth s 24) (dD (cC s) 4)), .c (turn_fn (th s 24) 14 (by omega)), .c (row0_fn s), .v, .v, .v, .v, .v, .v, .v, .s 1, .v, .s 1, .v, .s 1, .v, .s 1, .v, .s 1] H11 kr fun w12 H12 => ?_
  clear H11
  refine g_keep [0, 1, 2, 3, 4, 5, 6, 7, 8, 9, 10, 11, 12] fun ρ5 => ?_
  have HK5 := H12.keep
  clear H12
  refine dS [.v, .l 0, .v, .e (v := .int .u64 (Go.bits .xor .u64 (((BitVec.toNat (nth s 3) : Nat) : Int)) (((BitVec.toNat (dD (cC s) 3) : Nat) : Int)))) (v' := .int .u64 ((BitVec.toNat (th s 3) : Nat) : Int)) (bv_xor_u64 (nth s 3) (dD (cC s) 3)), .c (turn_fn (th s 3) 28 (by omega)), .v, .l 0, .v, .e (v := .int .u64 (Go.bits .xor .u64 (((BitVec.toNat (nth s 9) : Nat) : Int)) (((BitVec.toNat (dD (cC s) 4) : Nat) : Int)))) (v' := .int .u64 ((BitVec.toNat (th s 9) : Nat) : Int)) (bv_xor_u64 (nth s 9) (dD (cC s) 4)), .c (turn_fn (th s 9) 20 (by omega)), .v, .l 0, .v, .e (v := .int .u64 (Go.bits .xor .u64 (((BitVec.toNat (nth s 10) : Nat) : Int)) (((BitVec.toNat (dD (cC s) 0) : Nat) : Int)))) (v' := .int .u64 ((BitVec.toNat (th s 10) : Nat) : Int)) (bv_xor_u64 (nth s 10) (dD (cC s) 0)), .c (turn_fn (th s 10) 3 (by omega)), .v, .l 0, .v, .e (v := .int .u64 (Go.bits .xor .u64 (((BitVec.toNat (nth s 16) : Nat) : Int)) (((BitVec.toNat (dD (cC s) 1) : Nat) : Int)))) (v' := .int .u64 ((BitVec.toNat (th s 16) : Nat) : Int)) (bv_xor_u64 (nth s 16) (dD (cC s) 1)), .c (turn_fn (th s 16) 45 (by omega)), .v, .l 0, .v, .e (v := .int .u64 (Go.bits .xor .u64 (((BitVec.toNat (nth s 22) : Nat) : Int)) (((BitVec.toNat (dD (cC s) 2) : Nat) : Int)))) (v' := .int .u64 ((BitVec.toNat (th s 22) : Nat) : Int)) (bv_xor_u64 (nth s 22) (dD (cC s) 2)), .c (turn_fn (th s 22) 61 (by omega)), .c (row_fn (pI s 5) (pI s 6) (pI s 7) (pI s 8) (pI s 9)), .v, .v, .v, .v, .v, .v, .v, .s 1, .v, .s 1, .v, .s 1, .v, .s 1, .v, .s 1] HK5 kr fun w13 H13 => ?_
  clear HK5
  refine g_keep [0, 1, 2, 3, 4, 5, 6, 7, 8, 9, 10, 11, 12] fun ρ6 => ?_
  have HK6 := H13.keep
  clear H13
  refine dS [.v, .l 0, .v, .e (v := .int .u64 (Go.bits .xor .u64 (((BitVec.toNat (nth s 1) : Nat) : Int)) (((BitVec.toNat (dD (cC s) 1) : Nat) : Int)))) (v' := .int .u64 ((BitVec.toNat (th s 1) : Nat) : Int)) (bv_xor_u64 (nth s 1) (dD (cC s) 1)), .c (turn_fn (th s 1) 1 (by omega)), .v, .l 0, .v, .e (v := .int .u64 (Go.bits .xor .u64 (((BitVec.toNat (nth s 7) : Nat) : Int)) (((BitVec.toNat (dD (cC s) 2) : Nat) : Int)))) (v' := .int .u64 ((BitVec.toNat (th s 7) : Nat) : Int)) (bv_xor_u64 (nth s 7) (dD (cC s) 2)), .c (turn_fn (th s 7) 6 (by omega)), .v, .l 0, .v, .e (v := .int .u64 (Go.bits .xor .u64 (((BitVec.toNat (nth s 13) : Nat) : Int)) (((BitVec.toNat (dD (cC s) 3) : Nat) : Int)))) (v' := .int .u64 ((BitVec.toNat (th s 13) : Nat) : Int)) (bv_xor_u64 (nth s 13) (dD (cC s) 3)), .c (turn_fn (th s 13) 25 (by omega)), .v, .l 0, .v, .e (v := .int .u64 (Go.bits .xor .u64 (((BitVec.toNat (nth s 19) : Nat) : Int)) (((BitVec.toNat (dD (cC s) 4) : Nat) : Int)))) (v' := .int .u64 ((BitVec.toNat (th s 19) : Nat) : Int)) (bv_xor_u64 (nth s 19) (dD (cC s) 4)), .c (turn_fn (th s 19) 8 (by omega)), .v, .l 0, .v, .e (v := .int .u64 (Go.bits .xor .u64 (((BitVec.toNat (nth s 20) : Nat) : Int)) (((BitVec.toNat (dD (cC s) 0) : Nat) : Int)))) (v' := .int .u64 ((BitVec.toNat (th s 20) : Nat) : Int)) (bv_xor_u64 (nth s 20) (dD (cC s) 0)), .c (turn_fn (th s 20) 18 (by omega)), .c (row_fn (pI s 10) (pI s 11) (pI s 12) (pI s 13) (pI s 14)), .v, .v, .v, .v, .v, .v, .v, .s 1, .v, .s 1, .v, .s 1, .v, .s 1, .v, .s 1] HK6 kr fun w14 H14 => ?_
  clear HK6
  refine g_keep [0, 1, 2, 3, 4, 5, 6, 7, 8, 9, 10, 11, 12] fun ρ7 => ?_
  have HK7 := H14.keep
  clear H14
  refine dS [.v, .l 0, .v, .e (v := .int .u64 (Go.bits .xor .u64 (((BitVec.toNat (nth s 4) : Nat) : Int)) (((BitVec.toNat (dD (cC s) 4) : Nat) : Int)))) (v' := .int .u64 ((BitVec.toNat (th s 4) : Nat) : Int)) (bv_xor_u64 (nth s 4) (dD (cC s) 4)), .c (turn_fn (th s 4) 27 (by omega)), .v, .l 0, .v, .e (v := .int .u64 (Go.bits .xor .u64 (((BitVec.toNat (nth s 5) : Nat) : Int)) (((BitVec.toNat (dD (cC s) 0) : Nat) : Int)))) (v' := .int .u64 ((BitVec.toNat (th s 5) : Nat) : Int)) (bv_xor_u64 (nth s 5) (dD (cC s) 0)), .c (turn_fn (th s 5) 36 (by omega)), .v, .l 0, .v, .e (v := .int .u64 (Go.bits .xor .u64 (((BitVec.toNat (nth s 11) : Nat) : Int)) (((BitVec.toNat (dD (cC s) 1) : Nat) : Int)))) (v' := .int .u64 ((BitVec.toNat (th s 11) : Nat) : Int)) (bv_xor_u64 (nth s 11) (dD (cC s) 1)), .c (turn_fn (th s 11) 10 (by omega)), .v, .l 0, .v, .e (v := .int .u64 (Go.bits .xor .u64 (((BitVec.toNat (nth s 17) : Nat) : Int)) (((BitVec.toNat (dD (cC s) 2) : Nat) : Int)))) (v' := .int .u64 ((BitVec.toNat (th s 17) : Nat) : Int)) (bv_xor_u64 (nth s 17) (dD (cC s) 2)), .c (turn_fn (th s 17) 15 (by omega)), .v, .l 0, .v, .e (v := .int .u64 (Go.bits .xor .u64 (((BitVec.toNat (nth s 23) : Nat) : Int)) (((BitVec.toNat (dD (cC s) 3) : Nat) : Int)))) (v' := .int .u64 ((BitVec.toNat (th s 23) : Nat) : Int)) (bv_xor_u64 (nth s 23) (dD (cC s) 3)), .c (turn_fn (th s 23) 56 (by omega)), .c (row_fn (pI s 15) (pI s 16) (pI s 17) (pI s 18) (pI s 19)), .v, .v, .v, .v, .v, .v, .v, .s 1, .v, .s 1, .v, .s 1, .v, .s 1, .v, .s 1] HK7 kr fun w15 H15 => ?_
  clear HK7
  refine g_keep [0, 1, 2, 3, 4, 5, 6, 7, 8, 9, 10, 11, 12] fun ρ8 => ?_
  have HK8 := H15.keep
  clear H15
  refine dS [.v, .l 0, .v, .e (v := .int .u64 (Go.bits .xor .u64 (((BitVec.toNat (nth s 2) : Nat) : Int)) (((BitVec.toNat (dD (cC s) 2) : Nat) : Int)))) (v' := .int .u64 ((BitVec.toNat (th s 2) : Nat) : Int)) (bv_xor_u64 (nth s 2) (dD (cC s) 2)), .c (turn_fn (th s 2) 62 (by omega)), .v, .l 0, .v, .e (v := .int .u64 (Go.bits .xor .u64 (((BitVec.toNat (nth s 8) : Nat) : Int)) (((BitVec.toNat (dD (cC s) 3) : Nat) : Int)))) (v' := .int .u64 ((BitVec.toNat (th s 8) : Nat) : Int)) (bv_xor_u64 (nth s 8) (dD (cC s) 3)), .c (turn_fn (th s 8) 55 (by omega)), .v, .l 0, .v, .e (v := .int .u64 (Go.bits .xor .u64 (((BitVec.toNat (nth s 14) : Nat) : Int)) (((BitVec.toNat (dD (cC s) 4) : Nat) : Int)))) (v' := .int .u64 ((BitVec.toNat (th s 14) : Nat) : Int)) (bv_xor_u64 (nth s 14) (dD (cC s) 4)), .c (turn_fn (th s 14) 39 (by omega)), .v, .l 0, .v, .e (v := .int .u64 (Go.bits .xor .u64 (((BitVec.toNat (nth s 15) : Nat) : Int)) (((BitVec.toNat (dD (cC s) 0) : Nat) : Int)))) (v' := .int .u64 ((BitVec.toNat (th s 15) : Nat) : Int)) (bv_xor_u64 (nth s 15) (dD (cC s) 0)), .c (turn_fn (th s 15) 41 (by omega)), .v, .l 0, .v, .e (v := .int .u64 (Go.bits .xor .u64 (((BitVec.toNat (nth s 21) : Nat) : Int)) (((BitVec.toNat (dD (cC s) 1) : Nat) : Int)))) (v' := .int .u64 ((BitVec.toNat (th s 21) : Nat) : Int)) (bv_xor_u64 (nth s 21) (dD (cC s) 1)), .c (turn_fn (th s 21) 2 (by omega)), .c (row_fn (pI s 20) (pI s 21) (pI s 22) (pI s 23) (pI s 24)), .v, .v, .v, .v, .v, .v, .v, .s 1, .v, .s 1, .v, .s 1, .v, .s 1, .v, .s 1] HK8 kr fun w16 H16 => ?_
  clear HK8
  refine g_keep [0, 1, 2, 3, 4, 5, 6, 7, 8, 9, 10, 11, 12] fun ρ9 => ?_
  have HK9 := H16.keep
  clear H16
  refine rS [.l 1, .s 1] HK9 kr fun gs17 w17 H17 => ?_
  clear HK9
  refine g_ret kr ?_
  show ∃ vs, Res _ _ _ _ vs ∧ _
  refine ⟨[.agg #[.int .u64 ((BitVec.toNat (xI (pI s) 0) : Nat) : Int), .int .u64 ((BitVec.toNat (xI (pI s) 1) : Nat) : Int), .int .u64 ((BitVec.toNat (xI (pI s) 2) : Nat) : Int), .int .u64 ((BitVec.toNat (xI (pI s) 3) : Nat) : Int), .int .u64 ((BitVec.toNat (xI (pI s) 4) : Nat) : Int), .int .u64 ((BitVec.toNat (xI (pI s) 5) : Nat) : Int), .int .u64 ((BitVec.toNat (xI (pI s) 6) : Nat) : Int), .int .u64 ((BitVec.toNat (xI (pI s) 7) : Nat) : Int), .int .u64 ((BitVec.toNat (xI (pI s) 8) : Nat) : Int), .int .u64 ((BitVec.toNat (xI (pI s) 9) : Nat) : Int), .int .u64 ((BitVec.toNat (xI (pI s) 10) : Nat) : Int), .int .u64 ((BitVec.toNat (xI (pI s) 11) : Nat) : Int), .int .u64 ((BitVec.toNat (xI (pI s) 12) : Nat) : Int), .int .u64 ((BitVec.toNat (xI (pI s) 13) : Nat) : Int), .int .u64 ((BitVec.toNat (xI (pI s) 14) : Nat) : Int), .int .u64 ((BitVec.toNat (xI (pI s) 15) : Nat) : Int), .int .u64 ((BitVec.toNat (xI (pI s) 16) : Nat) : Int), .int .u64 ((BitVec.toNat (xI (pI s) 17) : Nat) : Int), .int .u64 ((BitVec.toNat (xI (pI s) 18) : Nat) : Int), .int .u64 ((BitVec.toNat (xI (pI s) 19) : Nat) : Int), .int .u64 ((BitVec.toNat (xI (pI s) 20) : Nat) : Int), .int .u64 ((BitVec.toNat (xI (pI s) 21) : Nat) : Int), .int .u64 ((BitVec.toNat (xI (pI s) 22) : Nat) : Int), .int .u64 ((BitVec.toNat (xI (pI s) 23) : Nat) : Int), .int .u64 ((BitVec.toNat (xI (pI s) 24) : Nat) : Int)]], (.agg (b := (gs1 1).b) #[.int .u64 ((BitVec.toNat (xI (pI s) 0) : Nat) : Int), .int .u64 ((BitVec.toNat (xI (pI s) 1) : Nat) : Int), .int .u64 ((BitVec.toNat (xI (pI s) 2) : Nat) : Int), .int .u64 ((BitVec.toNat (xI (pI s) 3) : Nat) : Int), .int .u64 ((BitVec.toNat (xI (pI s) 4) : Nat) : Int), .int .u64 ((BitVec.toNat (xI (pI s) 5) : Nat) : Int), .int .u64 ((BitVec.toNat (xI (pI s) 6) : Nat) : Int), .int .u64 ((BitVec.toNat (xI (pI s) 7) : Nat) : Int), .int .u64 ((BitVec.toNat (xI (pI s) 8) : Nat) : Int), .int .u64 ((BitVec.toNat (xI (pI s) 9) : Nat) : Int), .int .u64 ((BitVec.toNat (xI (pI s) 10) : Nat) : Int), .int .u64 ((BitVec.toNat (xI (pI s) 11) : Nat) : Int), .int .u64 ((BitVec.toNat (xI (pI s) 12) : Nat) : Int), .int .u64 ((BitVec.toNat (xI (pI s) 13) : Nat) : Int), .int .u64 ((BitVec.toNat (xI (pI s) 14) : Nat) : Int), .int .u64 ((BitVec.toNat (xI (pI s) 15) : Nat) : Int), .int .u64 ((BitVec.toNat (xI (pI s) 16) : Nat) : Int), .int .u64 ((BitVec.toNat (xI (pI s) 17) : Nat) : Int), .int .u64 ((BitVec.toNat (xI (pI s) 18) : Nat) : Int), .int .u64 ((BitVec.toNat (xI (pI s) 19) : Nat) : Int), .int .u64 ((BitVec.toNat (xI (pI s) 20) : Nat) : Int), .int .u64 ((BitVec.toNat (xI (pI s) 21) : Nat) : Int), .int .u64 ((BitVec.toNat (xI (pI s) 22) : Nat) : Int), .int .u64 ((BitVec.toNat (xI (pI s) 23) : Nat) : Int), .int .u64 ((BitVec.toNat (xI (pI s) 24) : Nat) : Int)] 84 (0, 0) kr (H17.get 1 kr) kr .nil), ?_, H17.below⟩
  rfl
end Go.Proofs.YtmmloghbnpfedaaDoor.Ke

namespace Go.Proofs.YtmmloghbnpfedaaDoor.Ke
open Go Go.RowKit Go.Proofs.Kec
set_option linter.unusedVariables false
def marksC : Array Value := (Kec.marks.map fun m => Value.int .u64 ((BitVec.toNat m : Nat) : Int)).toArray
def Marks (w : World) : Prop := ∃ T fz, w.heap[0]? = some (.cells marksC T fz)
theorem marks_at (k q : Nat) (hq : q = k) (h : k < 24) : marksC[q]? = some (Value.int .u64 ((BitVec.toNat (Kec.marks.getD k 0) : Nat) : Int)) := by
  subst hq
  have hl : Kec.marks.length = 24 := rfl
  unfold marksC; simp [hl, h]
def mixK (s : List (BitVec 64)) (j : Nat) : List (BitVec 64) := (Kec.marks.take j).foldl rm s
theorem mixK_succ (s : List (BitVec 64)) (j : Nat) (h : j < 24) : mixK s (j + 1) = rm (mixK s j) (Kec.marks.getD j 0) := by
  have hl : Kec.marks.length = 24 := rfl
  unfold mixK
  rw [List.take_add_one, List.foldl_append, List.getElem?_eq_getElem (by omega)]
  simp [hl, h]
theorem mixK_all (s : List (BitVec 64)) : mixK s 24 = mix s := by
  unfold mixK mix; rw [List.take_of_length_le (by decide)]
theorem nth_rmS (s : List (BitVec 64)) (m : BitVec 64) (k : Nat) : nth (rm s m) (k + 1) = nth (rnd s) (k + 1) := by
  unfold rm markX nth; simp
theorem svn_rm (s : List (BitVec 64)) (m : BitVec 64) : ((Value.cells (svn (rnd s))).toList.take 0 ++ (Value.cells (.int .u64 ((BitVec.toNat (nth (rnd s) 0 ^^^ m) : Nat) : Int))).toList ++ (Value.cells (svn (rnd s))).toList.drop (0 + 1)).toArray = Value.cells (svn (rm s m)) := by
  have e1 : nth (rm s m) 1 = nth (rnd s) 1 := nth_rmS s m 0
  have e2 : nth (rm s m) 2 = nth (rnd s) 2 := nth_rmS s m 1
  have e3 : nth (rm s m) 3 = nth (rnd s) 3 := nth_rmS s m 2
  have e4 : nth (rm s m) 4 = nth (rnd s) 4 := nth_rmS s m 3
  have e5 : nth (rm s m) 5 = nth (rnd s) 5 := nth_rmS s m 4
  have e6 : nth (rm s m) 6 = nth (rnd s) 6 := nth_rmS s m 5
  have e7 : nth (rm s m) 7 = nth (rnd s) 7 := nth_rmS s m 6
  have e8 : nth (rm s m) 8 = nth (rnd s) 8 := nth_rmS s m 7
  have e9 : nth (rm s m) 9 = nth (rnd s) 9 := nth_rmS s m 8
  have e10 : nth (rm s m) 10 = nth (rnd s) 10 := nth_rmS s m 9
  have e11 : nth (rm s m) 11 = nth (rnd s) 11 := nth_rmS s m 10
  have e12 : nth (rm s m) 12 = nth (rnd s) 12 := nth_rmS s m 11
  have e13 : nth (rm s m) 13 = nth (rnd s) 13 := nth_rmS s m 12
  have e14 : nth (rm s m) 14 = nth (rnd s) 14 := nth_rmS s m 13
  have e15 : nth (rm s m) 15 = nth (rnd s) 15 := nth_rmS s m 14
  have e16 : nth (rm s m) 16 = nth (rnd s) 16 := nth_rmS s m 15
  have e17 : nth (rm s m) 17 = nth (rnd s) 17 := nth_rmS s m 16
  have e18 : nth (rm s m) 18 = nth (rnd s) 18 := nth_rmS s m 17
  have e19 : nth (rm s m) 19 = nth (rnd s) 19 := nth_rmS s m 18
  have e20 : nth (rm s m) 20 = nth (rnd s) 20 := nth_rmS s m 19
  have e21 : nth (rm s m) 21 = nth (rnd s) 21 := nth_rmS s m 20
  have e22 : nth (rm s m) 22 = nth (rnd s) 22 := nth_rmS s m 21
  have e23 : nth (rm s m) 23 = nth (rnd s) 23 := nth_rmS s m 22
  have e24 : nth (rm s m) 24 = nth (rnd s) 24 := nth_rmS s m 23
  have e0 : nth (rm s m) 0 = nth (rnd s) 0 ^^^ m := rfl
  unfold svn
  rw [e0, e1, e2, e3, e4, e5, e6, e7, e8, e9, e10, e11, e12, e13, e14, e15, e16, e17, e18, e19, e20, e21, e22, e23, e24]; rfl
set_option maxRecDepth 100000 in
set_option maxHeartbeats 2000000 in
theorem mix_fnT (s : List (BitVec 64)) (T : TypeId) (fz : Nat × Nat) : FnP Tryd.prog 66 #[svn s] (fun w => w.heap[0]? = some (.cells marksC T fz)) (svn (mix s)) := by
  refine FnP.intro (c := codeOf Tryd.f66) [.cell 2 84] 18 Tryd.func66 kr kr kr fun w hpre => ?_
  have H0 := St.start w
  refine rS [.b, .a] H0 kr fun gs1 w1 H1 => ?_
  clear H0
  refine g_seq kr ?_
  refine rS [.f hpre (lt_of_heap hpre), .v] H1 kr fun gs2 w2 H2 => ?_
  clear H1
  refine g_block 0 kr ?_
  have HL1 : St w.heap.size w w2 [((gs1 0).b, Obj.cells (Value.cells (svn s)) 84 (0, 0)), ((gs1 1).b, Obj.cells #[.int .u64 0, .int .u64 0, .int .u64 0, .int .u64 0, .int .u64 0, .int .u64 0, .int .u64 0, .int .u64 0, .int .u64 0, .int .u64 0, .int .u64 0, .int .u64 0, .int .u64 0, .int .u64 0, .int .u64 0, .int .u64 0, .int .u64 0, .int .u64 0, .int .u64 0, .int .u64 0, .int .u64 0, .int .u64 0, .int .u64 0, .int .u64 0, .int .u64 0] 84 (0, 0))] := H2.as kr
  clear H2
  have HM2 : St w.heap.size w w2 [((gs1 0).b, Obj.cells (Value.cells (svn (mixK s 0))) 84 (0, 0)), ((gs1 1).b, Obj.cells #[.int .u64 0, .int .u64 0, .int .u64 0, .int .u64 0, .int .u64 0, .int .u64 0, .int .u64 0, .int .u64 0, .int .u64 0, .int .u64 0, .int .u64 0, .int .u64 0, .int .u64 0, .int .u64 0, .int .u64 0, .int .u64 0, .int .u64 0, .int .u64 0, .int .u64 0, .int .u64 0, .int .u64 0, .int .u64 0, .int .u64 0, .int .u64 0, .int .u64 0] 84 (0, 0))] := HL1
  refine g_loop kr (fun mz ρ ww => ∃ (j : Nat), 24 - j = mz ∧ (j ≤ 24) ∧ St w.heap.size w ww [((gs1 0).b, Obj.cells (Value.cells (svn (mixK s j))) 84 (0, 0)), ((gs1 1).b, Obj.cells #[.int .u64 0, .int .u64 0, .int .u64 0, .int .u64 0, .int .u64 0, .int .u64 0, .int .u64 0, .int .u64 0, .int .u64 0, .int .u64 0, .int .u64 0, .int .u64 0, .int .u64 0, .int .u64 0, .int .u64 0, .int .u64 0, .int .u64 0, .int .u64 0, .int .u64 0, .int .u64 0, .int .u64 0, .int .u64 0, .int .u64 0, .int .u64 0, .int .u64 0] 84 (0, 0))] ∧ Is [(0, svn s), (1, .pointer (some ⟨(gs1 0).b, 0, none⟩)), (2, .pointer (some ⟨(gs1 1).b, 0, none⟩)), (5, .agg marksC), (6, .int .i64 ((j : Nat) : Int))] ρ) (24 - 0) ⟨0, rfl, (by omega), HM2, (Is.of ⟨kr, kr, kr, kr, kr, trivial⟩)⟩ ?_
  clear HM2
  rintro _ _ w3 ⟨j, rfl, hj, H3, _, rfl⟩
  by_cases hc3 : (j : Nat) < 24
  · skip
    refine rS [.e (v := .bool (decide (((j : Nat) : Int) < 24))) (v' := .bool true) (bool_eq (decide_eq_true (by omega)))] H3 kr fun gs4 w4 H4 => ?_
    clear H3
    refine g_seq kr ?_
    refine g_cond_t kr kr ?_
    refine g_skip kr ?_
    show WP _ _ _ _ _ _
    refine g_seq kr ?_
    refine g_block 1 kr ?_
    refine rS [.o (ins := [((.tmp 5), .agg marksC), ((.tmp 6), .int .i64 ((j : Nat) : Int))]) (v := .int .u64 ((BitVec.toNat (List.getD Kec.marks j 0) : Nat) : Int)) (fun ρ o w ho hi => arr_index (t := 109) (e := 22) (kd := .i64) (n := 24) kr kr kr (x := (.tmp 5)) (y := (.tmp 6)) (Value.cells (.agg marksC)) j (.int .u64 ((BitVec.toNat (List.getD Kec.marks j 0) : Nat) : Int)) ho hi.1 hi.2.1 (by omega) (marks_at j _ (by omega) (by omega)) w), .v] H4 kr fun gs5 w5 H5 => ?_
    clear H4
    refine rS [.l 0, .c (round_fn (mixK s j)), .s 0] H5 kr fun gs6 w6 H6 => ?_
    clear H5
    refine rL [.v, .l 0, .v, .e (v := .int .u64 (Go.bits .xor .u64 (((BitVec.toNat (nth (rnd (mixK s j)) 0) : Nat) : Int)) (((BitVec.toNat (List.getD Kec.marks j 0) : Nat) : Int)))) (v' := .int .u64 ((BitVec.toNat ((nth (rnd (mixK s j)) 0) ^^^ (List.getD Kec.marks j 0)) : Nat) : Int)) (bv_xor_u64 (nth (rnd (mixK s j)) 0) (List.getD Kec.marks j 0)), .v, .se (C := (Value.cells (svn (rnd (mixK s j))))) (C' := (Value.cells (svn (rm (mixK s j) (List.getD Kec.marks j 0))))) (off := 0) (v := .int .u64 ((BitVec.toNat ((nth (rnd (mixK s j)) 0) ^^^ (List.getD Kec.marks j 0)) : Nat) : Int)) 0 (of_decide_eq_true kr) (svn_rm (mixK s j) (List.getD Kec.marks j 0))] H6 kr fun gs7 w7 H7 => ?_
    clear H6
    show WP _ _ _ _ _ _
    refine rL [.e (v := .int .i64 (IntKind.i64.wrap (((j : Nat) : Int) + 1))) (v' := .int .i64 ((j + 1 : Nat) : Int)) (int_eq (wrapAdd_i64 (a := j) (b := 1) (by omega))), .v] H7 kr fun gs8 w8 H8 => ?_
    clear H7
    have HL4 : St w.heap.size w w8 [((gs1 0).b, Obj.cells (Value.cells (svn (rm (mixK s j) (List.getD Kec.marks j 0)))) 84 (0, 0)), ((gs1 1).b, Obj.cells #[.int .u64 0, .int .u64 0, .int .u64 0, .int .u64 0, .int .u64 0, .int .u64 0, .int .u64 0, .int .u64 0, .int .u64 0, .int .u64 0, .int .u64 0, .int .u64 0, .int .u64 0, .int .u64 0, .int .u64 0, .int .u64 0, .int .u64 0, .int .u64 0, .int .u64 0, .int .u64 0, .int .u64 0, .int .u64 0, .int .u64 0, .int .u64 0, .int .u64 0] 84 (0, 0))] := H8.as kr
    clear H8
    have HM5 : St w.heap.size w w8 [((gs1 0).b, Obj.cells (Value.cells (svn (mixK s (j + 1)))) 84 (0, 0)), ((gs1 1).b, Obj.cells #[.int .u64 0, .int .u64 0, .int .u64 0, .int .u64 0, .int .u64 0, .int .u64 0, .int .u64 0, .int .u64 0, .int .u64 0, .int .u64 0, .int .u64 0, .int .u64 0, .int .u64 0, .int .u64 0, .int .u64 0, .int .u64 0, .int .u64 0, .int .u64 0, .int .u64 0, .int .u64 0, .int .u64 0, .int .u64 0, .int .u64 0, .int .u64 0, .int .u64 0] 84 (0, 0))] := by rw [mixK_succ s j (by omega)]; exact HL4
    show ∃ m, _ ∧ _
    exact ⟨_, (by omega), (j + 1), rfl, (by omega), HM5, (Is.of ⟨kr, kr, kr, kr, kr, trivial⟩)⟩
  · skip
    refine rS [.e (v := .bool (decide (((j : Nat) : Int) < 24))) (v' := .bool false) (bool_eq (decide_eq_false (by omega)))] H3 kr fun gs9 w9 H9 => ?_
    clear H3
    refine g_seq kr ?_
    refine g_cond_f kr kr ?_
    refine g_exit 0 kr ?_
    show WP _ _ _ _ _ _
    refine rS [.l 0, .s 1] H9 kr fun gs10 w10 H10 => ?_
    clear H9
    refine g_ret kr ?_
    show ∃ vs, Res _ _ _ _ vs ∧ _
    refine ⟨[svn (mixK s j)], (.agg (b := (gs1 1).b) (Value.cells (svn (mixK s j))) 84 (0, 0) kr (H10.get 1 kr) kr .nil), ?_, H10.below⟩
    obtain rfl : j = 24 := by omega
    exact congrArg svn (mixK_all s)
theorem mix_fn (s : List (BitVec 64)) : FnP Tryd.prog 66 #[svn s] Marks (svn (mix s)) := fun w ⟨T, fz, h⟩ => mix_fnT s T fz w h
end Go.Proofs.YtmmloghbnpfedaaDoor.Ke

namespace Go.Proofs.YtmmloghbnpfedaaDoor.Ke
open Go Go.RowKit Go.Proofs.Kec
set_option linter.unusedVariables false
theorem tcd {α : Type} (L : List α) (q : Nat) (x : α) (h : q < L.length) : L.take q ++ [x] ++ L.drop (q + 1) = L.set q x := by
  rw [List.set_eq_take_append_cons_drop, if_pos h, List.append_assoc]; rfl
theorem svn_list (s : List (BitVec 64)) : Value.cells (svn s) = ((List.range 25).map fun k => Value.int .u64 ((BitVec.toNat (nth s k) : Nat) : Int)).toArray := rfl
theorem svn_at (s : List (BitVec 64)) (k q : Nat) (hq : q = k) (hk : k < 25) : (Value.cells (svn s))[q]? = some (Value.int .u64 ((BitVec.toNat (nth s k) : Nat) : Int)) := by
  subst hq; rw [svn_list]; simp [hk]
theorem nth_set (s : List (BitVec 64)) (k j : Nat) (x : BitVec 64) (hk : k < s.length) : nth (s.set k x) j = if j = k then x else nth s j := by
  unfold nth
  rw [List.getD_eq_getElem?_getD, List.getD_eq_getElem?_getD, List.getElem?_set]
  by_cases h : k = j
  · subst h; simp [hk]
  · rw [if_neg h, if_neg (fun e => h e.symm)]
theorem svn_put (s : List (BitVec 64)) (k q : Nat) (x : BitVec 64) (hs : s.length = 25) (hq : q = k) (hk : k < 25) :
    ((Value.cells (svn s)).toList.take q ++ (Value.cells (.int .u64 ((BitVec.toNat x : Nat) : Int))).toList ++ (Value.cells (svn s)).toList.drop (q + (Value.cells (.int .u64 ((BitVec.toNat x : Nat) : Int))).size)).toArray = Value.cells (svn (s.set k x)) := by
  subst hq
  rw [svn_list, svn_list]
  congr 1
  show List.take q _ ++ [Value.int .u64 ((BitVec.toNat x : Nat) : Int)] ++ List.drop (q + 1) _ = _
  rw [tcd _ q _ (by simpa using hk)]
  apply List.ext_getElem?
  intro j
  rw [List.toList_toArray]
  rw [List.getElem?_set]
  by_cases h : q = j
  · subst h; simp [hk, nth_set s q q x (by omega)]
  · by_cases hj : j < 25
    · simp [h, hj, nth_set s q j x (by omega), show ¬ j = q from fun e => h e.symm]
    · simp [h, hj]
theorem Marks.old {B : Nat} {w0 w : World} {l : List (Nat × Obj)} (HS : St B w0 w l) (hB : B = w0.heap.size) (h : Marks w0) : Marks w := by
  obtain ⟨T, fz, h⟩ := h; exact ⟨T, fz, HS.old h (by rw [hB]; exact lt_of_heap h)⟩
theorem Marks.oldB {B : Nat} {w0 w : World} (HS : Below B w0 w) (hB : B = w0.heap.size) (h : Marks w0) : Marks w := by
  obtain ⟨T, fz, h⟩ := h; exact ⟨T, fz, by rw [HS.block 0 (by rw [hB]; exact lt_of_heap h)]; exact h⟩
theorem Marks.oldE {B : Nat} {w0 w : World} {E : List D2.Ent} (HS : D2.StE B w0 w E) (hB : B = w0.heap.size) (h : Marks w0) : Marks w := by
  obtain ⟨T, fz, h⟩ := h; exact ⟨T, fz, D2.StE.old HS h (by rw [hB]; exact lt_of_heap h)⟩
theorem take_step {s s1 : List (BitVec 64)} {n n1 k : Nat} {t : ByteArray} (h : takeB (s, n) ((tl t).take k) = (s1, n1)) (hk : k < ByteArray.size t) :
    takeB (s, n) ((tl t).take (k + 1)) = (if n1 + 1 = 136 then (mix (lay s1 n1 (BitVec.ofNat 64 (by_ t k))), 0) else (lay s1 n1 (BitVec.ofNat 64 (by_ t k)), n1 + 1)) := by
  have hk' : k < (tl t).length := hk
  rw [List.take_add_one, List.getElem?_eq_getElem hk', Option.toList_some, takeB_snoc, h]
  unfold step1 byteB by_
  rw [List.getD_eq_getElem?_getD, List.getElem?_eq_getElem hk', Option.getD_some]
set_option maxRecDepth 100000 in
set_option maxHeartbeats 2000000 in
theorem lift_fn (b i : Nat) (hi : i < 1000) : Fn Tryd.prog 89 #[.int .u8 ((b : Nat) : Int), .int .i64 ((i : Nat) : Int)] (.int .u64 ((BitVec.toNat (liftB (BitVec.ofNat 64 b) i) : Nat) : Int)) := by
  refine Fn.intro (c := codeOf Tryd.f89) [.tmp 4] 11 Tryd.func89 kr kr kr fun w => ?_
  have H0 := St.start w
  refine rS [.v] H0 kr fun gs1 w1 H1 => ?_
  clear H0
  refine rS [.v, .e (v := .int .u64 (IntKind.u64.wrap ((b : Nat) : Int))) (v' := .int .u64 ((BitVec.toNat (BitVec.ofNat 64 b) : Nat) : Int)) (bv_ofNat_u64 b), .v, .e (v := .int .i64 (Int.tmod ((i : Nat) : Int) 8)) (v' := .int .i64 ((i % 8 : Nat) : Int)) (int_eq (remN i 8)), .e (v := .int .i64 (IntKind.i64.wrap (((i % 8 : Nat) : Int) * 8))) (v' := .int .i64 (((i % 8) * 8 : Nat) : Int)) (int_eq (wrapMul_i64 (a := i % 8) (b := 8) (by omega))), .e (v := .int .u64 (IntKind.u64.wrap ((((BitVec.toNat (BitVec.ofNat 64 b) : Nat) : Int)) * 2 ^ (min ((i % 8) * 8) 64)))) (v' := .int .u64 ((BitVec.toNat ((BitVec.ofNat 64 b) <<< ((i % 8) * 8)) : Nat) : Int)) (bv_shl_u64 (BitVec.ofNat 64 b) ((i % 8) * 8)), .v] H1 kr fun gs2 w2 H2 => ?_
  clear H1
  refine g_ret kr ?_
  show ∃ vs, Res _ _ _ _ vs ∧ _
  refine ⟨[.int .u64 ((BitVec.toNat ((BitVec.ofNat 64 b) <<< ((i % 8) * 8)) : Nat) : Int)], (.tmp (.int .u64 ((BitVec.toNat ((BitVec.ofNat 64 b) <<< ((i % 8) * 8)) : Nat) : Int)) kr .nil), ?_, H2.below⟩
  rfl
set_option maxRecDepth 100000 in
set_option maxHeartbeats 2000000 in
theorem take_fn (s : List (BitVec 64)) (n : Nat) (t : ByteArray) (hs : s.length = 25) (hn : n < 136) (ht : ByteArray.size t < 4611686018427387904) : FnP Tryd.prog 64 #[svn s, .int .i64 ((n : Nat) : Int), .string t] (Marks) (.tuple #[svn (takeB (s, n) (tl t)).1, .int .i64 (((takeB (s, n) (tl t)).2 : Nat) : Int)]) := by
  refine FnP.intro (c := codeOf Tryd.f64) [.cell 6 84, .tmp 7] 34 Tryd.func64 kr kr kr fun w hpre => ?_
  have H0 := St.start w
  refine rS [.b, .a, .v] H0 kr fun gs1 w1 H1 => ?_
  clear H0
  refine g_seq kr ?_
  refine rS [.v, .v, .v] H1 kr fun gs2 w2 H2 => ?_
  clear H1
  refine g_block 0 kr ?_
  have HL1 : St w.heap.size w w2 [((gs1 0).b, Obj.cells (Value.cells (svn s)) 84 (0, 0)), ((gs1 1).b, Obj.cells #[.int .u64 0, .int .u64 0, .int .u64 0, .int .u64 0, .int .u64 0, .int .u64 0, .int .u64 0, .int .u64 0, .int .u64 0, .int .u64 0, .int .u64 0, .int .u64 0, .int .u64 0, .int .u64 0, .int .u64 0, .int .u64 0, .int .u64 0, .int .u64 0, .int .u64 0, .int .u64 0, .int .u64 0, .int .u64 0, .int .u64 0, .int .u64 0, .int .u64 0] 84 (0, 0))] := H2.as kr
  clear H2
  refine g_loop kr (fun mz ρ ww => ∃ (s1 : List (BitVec 64)) (n1 : Nat) (k : Nat), ByteArray.size t - k = mz ∧ (s1.length = 25) ∧ (n1 < 136) ∧ (k ≤ ByteArray.size t) ∧ (takeB (s, n) ((tl t).take k) = (s1, n1)) ∧ St w.heap.size w ww [((gs1 0).b, Obj.cells (Value.cells (svn s1)) 84 (0, 0)), ((gs1 1).b, Obj.cells #[.int .u64 0, .int .u64 0, .int .u64 0, .int .u64 0, .int .u64 0, .int .u64 0, .int .u64 0, .int .u64 0, .int .u64 0, .int .u64 0, .int .u64 0, .int .u64 0, .int .u64 0, .int .u64 0, .int .u64 0, .int .u64 0, .int .u64 0, .int .u64 0, .int .u64 0, .int .u64 0, .int .u64 0, .int .u64 0, .int .u64 0, .int .u64 0, .int .u64 0] 84 (0, 0))] ∧ Is [(0, svn s), (1, .int .i64 ((n1 : Nat) : Int)), (2, .string t), (3, .pointer (some ⟨(gs1 0).b, 0, none⟩)), (6, .pointer (some ⟨(gs1 1).b, 0, none⟩)), (7, .int .i64 0), (10, .int .i64 ((ByteArray.size t : Nat) : Int)), (11, .int .i64 ((k : Nat) : Int))] ρ) (ByteArray.size t - 0) ⟨s, n, 0, rfl, hs, hn, (by omega), rfl, HL1, (Is.of ⟨kr, kr, kr, kr, kr, kr, kr, kr, trivial⟩)⟩ ?_
  clear HL1
  rintro _ _ w3 ⟨s1, n1, k, rfl, hs1, hn1, hk, htk, H3, _, rfl⟩
  have hbl := by_lt t k
  by_cases hc2 : (k : Nat) < ByteArray.size t
  · skip
    refine rS [.e (v := .bool (decide (((k : Nat) : Int) < ((ByteArray.size t : Nat) : Int)))) (v' := .bool true) (bool_eq (decide_eq_true (by omega)))] H3 kr fun gs4 w4 H4 => ?_
    clear H3
    refine g_seq kr ?_
    refine g_cond_t kr kr ?_
    refine g_skip kr ?_
    show WP _ _ _ _ _ _
    refine g_seq kr ?_
    refine g_block 1 kr ?_
    refine rS [.v, .v] H4 kr fun gs5 w5 H5 => ?_
    clear H4
    refine dS [.v, .e (v := .int .i64 (IntKind.i64.wrap (((n1 : Nat) : Int).tdiv 8))) (v' := .int .i64 ((n1 / 8 : Nat) : Int)) (int_eq (quoN_i64 (a := n1) (b := 8) (by omega))), .o (ins := [((.tmp 3), .pointer (some ⟨(gs1 0).b, 0, none⟩)), ((.tmp 15), .int .i64 ((n1 / 8 : Nat) : Int))]) (v := .pointer (some ⟨(gs1 0).b, 0 + (n1 / 8) * 1, none⟩)) (fun ρ o w ho hi => idxA_run (kd := .i64) (t := 84) (n := 25) (size := 1) kr (x := (.tmp 3)) (y := (.tmp 15)) (gs1 0).b 0 (n1 / 8) ho hi.1 hi.2.1 (by omega) w), .ls (C := (Value.cells (svn s1))) (off := 0 + (n1 / 8) * 1) (v := .int .u64 ((BitVec.toNat (nth s1 (n1 / 8)) : Nat) : Int)) 0 (svn_at s1 (n1 / 8) _ (by omega) (by omega)), .v, .v, .o (ins := [((.tmp 18), .string t), ((.tmp 19), .int .i64 ((k : Nat) : Int))]) (v := .int .u8 ((by_ t k : Nat) : Int)) (fun ρ o w ho hi => sindex_run (t := 9) (kd := .i64) kr (x := (.tmp 18)) (y := (.tmp 19)) t k ho hi.1 hi.2.1 (by omega) w), .v, .c (lift_fn (by_ t k) n1 (by omega)), .e (v := .int .u64 (Go.bits .xor .u64 (((BitVec.toNat (nth s1 (n1 / 8)) : Nat) : Int)) (((BitVec.toNat (liftB (BitVec.ofNat 64 (by_ t k)) n1) : Nat) : Int)))) (v' := .int .u64 ((BitVec.toNat ((nth s1 (n1 / 8)) ^^^ (liftB (BitVec.ofNat 64 (by_ t k)) n1)) : Nat) : Int)) (bv_xor_u64 (nth s1 (n1 / 8)) (liftB (BitVec.ofNat 64 (by_ t k)) n1)), .o (ins := [((.tmp 3), .pointer (some ⟨(gs1 0).b, 0, none⟩)), ((.tmp 15), .int .i64 ((n1 / 8 : Nat) : Int))]) (v := .pointer (some ⟨(gs1 0).b, 0 + (n1 / 8) * 1, none⟩)) (fun ρ o w ho hi => idxA_run (kd := .i64) (t := 84) (n := 25) (size := 1) kr (x := (.tmp 3)) (y := (.tmp 15)) (gs1 0).b 0 (n1 / 8) ho hi.1 hi.2.1 (by omega) w), .se (C := (Value.cells (svn s1))) (C' := (Value.cells (svn (lay s1 n1 (BitVec.ofNat 64 (by_ t k)))))) (off := 0 + (n1 / 8) * 1) (v := .int .u64 ((BitVec.toNat ((nth s1 (n1 / 8)) ^^^ (liftB (BitVec.ofNat 64 (by_ t k)) n1)) : Nat) : Int)) 0 (by show _ + 1 ≤ 25; omega) (svn_put s1 (n1 / 8) _ ((nth s1 (n1 / 8)) ^^^ (liftB (BitVec.ofNat 64 (by_ t k)) n1)) hs1 (by omega) (by omega))] H5 kr fun w6 H6 => ?_
    clear H5
    refine g_keep [0, 1, 2, 3, 6, 7, 8, 10, 11, 12] fun ρ1 => ?_
    have HK3 := H6.keep
    clear H6
    refine rS [.v, .e (v := .int .i64 (IntKind.i64.wrap (((n1 : Nat) : Int) + 1))) (v' := .int .i64 ((n1 + 1 : Nat) : Int)) (int_eq (wrapAdd_i64 (a := n1) (b := 1) (by omega))), .v] HK3 kr fun gs7 w7 H7 => ?_
    clear HK3
    refine g_sreg [0, 1] kr kr ?_
    refine rp [.v] H7 kr fun gs8 w8 H8 => ?_
    show WPs _ _ _ _ [1] _ _
    clear H7
    by_cases hc4 : (n1 + 1 : Nat) = 136
    · skip
      refine rp [.e (v := .bool (((n1 + 1 : Nat) : Int) == 136)) (v' := .bool true) (bool_eq (beq_iff_eq.2 (by omega)))] H8 kr fun gs9 w9 H9 => ?_
      show WPs _ _ _ _ [] _ _
      clear H8
      refine s_nil ?_
      refine g_cond_t kr kr ?_
      refine rL [.l 0, .cp (pre := Marks) (mix_fn (lay s1 n1 (BitVec.ofNat 64 (by_ t k)))) [] (fun w hb hd => (Marks.oldB hb rfl hpre)), .s 0, .v] H9 kr fun gs10 w10 H10 => ?_
      clear H9
      show WP _ _ _ _ _ _
      refine rL [.e (v := .int .i64 (IntKind.i64.wrap (((k : Nat) : Int) + 1))) (v' := .int .i64 ((k + 1 : Nat) : Int)) (int_eq (wrapAdd_i64 (a := k) (b := 1) (by omega))), .v] H10 kr fun gs11 w11 H11 => ?_
      clear H10
      have HL5 : St w.heap.size w w11 [((gs1 0).b, Obj.cells (Value.cells (svn (mix (lay s1 n1 (BitVec.ofNat 64 (by_ t k)))))) 84 (0, 0)), ((gs1 1).b, Obj.cells #[.int .u64 0, .int .u64 0, .int .u64 0, .int .u64 0, .int .u64 0, .int .u64 0, .int .u64 0, .int .u64 0, .int .u64 0, .int .u64 0, .int .u64 0, .int .u64 0, .int .u64 0, .int .u64 0, .int .u64 0, .int .u64 0, .int .u64 0, .int .u64 0, .int .u64 0, .int .u64 0, .int .u64 0, .int .u64 0, .int .u64 0, .int .u64 0, .int .u64 0] 84 (0, 0))] := H11.as kr
      clear H11
      show ∃ m, _ ∧ _
      exact ⟨_, (by omega), (mix (lay s1 n1 (BitVec.ofNat 64 (by_ t k)))), 0, (k + 1), rfl, (mix_len (lay_len _ _ hs1)), (by omega), (by omega), ((take_step htk (by omega)).trans (if_pos (by omega))), HL5, (Is.of ⟨kr, kr, kr, kr, kr, kr, kr, kr, trivial⟩)⟩
    · skip
      refine rp [.e (v := .bool (((n1 + 1 : Nat) : Int) == 136)) (v' := .bool false) (bool_eq (beq_eq_false_iff_ne.2 (by omega)))] H8 kr fun gs12 w12 H12 => ?_
      show WPs _ _ _ _ [] _ _
      clear H8
      refine s_nil ?_
      refine g_cond_f kr kr ?_
      refine g_skip kr ?_
      show WP _ _ _ _ _ _
      refine rL [.e (v := .int .i64 (IntKind.i64.wrap (((k : Nat) : Int) + 1))) (v' := .int .i64 ((k + 1 : Nat) : Int)) (int_eq (wrapAdd_i64 (a := k) (b := 1) (by omega))), .v] H12 kr fun gs13 w13 H13 => ?_
      clear H12
      have HL6 : St w.heap.size w w13 [((gs1 0).b, Obj.cells (Value.cells (svn (lay s1 n1 (BitVec.ofNat 64 (by_ t k))))) 84 (0, 0)), ((gs1 1).b, Obj.cells #[.int .u64 0, .int .u64 0, .int .u64 0, .int .u64 0, .int .u64 0, .int .u64 0, .int .u64 0, .int .u64 0, .int .u64 0, .int .u64 0, .int .u64 0, .int .u64 0, .int .u64 0, .int .u64 0, .int .u64 0, .int .u64 0, .int .u64 0, .int .u64 0, .int .u64 0, .int .u64 0, .int .u64 0, .int .u64 0, .int .u64 0, .int .u64 0, .int .u64 0] 84 (0, 0))] := H13.as kr
      clear H13
      show ∃ m, _ ∧ _
      exact ⟨_, (by omega), (lay s1 n1 (BitVec.ofNat 64 (by_ t k))), (n1 + 1), (k + 1), rfl, (lay_len _ _ hs1), (by omega), (by omega), ((take_step htk (by omega)).trans (if_neg (by omega))), HL6, (Is.of ⟨kr, kr, kr, kr, kr, kr, kr, kr, trivial⟩)⟩
  · skip
    refine rS [.e (v := .bool (decide (((k : Nat) : Int) < ((ByteArray.size t : Nat) : Int)))) (v' := .bool false) (bool_eq (decide_eq_false (by omega)))] H3 kr fun gs14 w14 H14 => ?_
    clear H3
    refine g_seq kr ?_
    refine g_cond_f kr kr ?_
    refine g_exit 0 kr ?_
    show WP _ _ _ _ _ _
    refine rS [.l 0, .v, .s 1, .v] H14 kr fun gs15 w15 H15 => ?_
    clear H14
    refine g_ret kr ?_
    show ∃ vs, Res _ _ _ _ vs ∧ _
    refine ⟨[svn s1, .int .i64 ((n1 : Nat) : Int)], (.agg (b := (gs1 1).b) (Value.cells (svn s1)) 84 (0, 0) kr (H15.get 1 kr) kr (.tmp (.int .i64 ((n1 : Nat) : Int)) kr .nil)), ?_, H15.below⟩
    rw [List.take_of_length_le (show (tl t).length ≤ k by rw [tl_len]; omega)] at htk; rw [htk]; rfl
set_option maxRecDepth 100000 in
set_option maxHeartbeats 2000000 in
theorem end_fn (s : List (BitVec 64)) (n : Nat) (hs : s.length = 25) (hn : n < 136) : Fn Tryd.prog 67 #[svn s, .int .i64 ((n : Nat) : Int)] (svn (endB (s, n))) := by
  refine Fn.intro (c := codeOf Tryd.f67) [.cell 4 84] 19 Tryd.func67 kr kr kr fun w => ?_
  have H0 := St.start w
  refine rS [.b, .a] H0 kr fun gs1 w1 H1 => ?_
  clear H0
  refine dS [.v, .e (v := .int .i64 (IntKind.i64.wrap (((n : Nat) : Int).tdiv 8))) (v' := .int .i64 ((n / 8 : Nat) : Int)) (int_eq (quoN_i64 (a := n) (b := 8) (by omega))), .o (ins := [((.tmp 2), .pointer (some ⟨(gs1 0).b, 0, none⟩)), ((.tmp 6), .int .i64 ((n / 8 : Nat) : Int))]) (v := .pointer (some ⟨(gs1 0).b, 0 + (n / 8) * 1, none⟩)) (fun ρ o w ho hi => idxA_run (kd := .i64) (t := 84) (n := 25) (size := 1) kr (x := (.tmp 2)) (y := (.tmp 6)) (gs1 0).b 0 (n / 8) ho hi.1 hi.2.1 (by omega) w), .ls (C := (Value.cells (svn s))) (off := 0 + (n / 8) * 1) (v := .int .u64 ((BitVec.toNat (nth s (n / 8)) : Nat) : Int)) 0 (svn_at s (n / 8) _ (by omega) (by omega)), .v, .c (lift_fn 1 n (by omega)), .e (v := .int .u64 (Go.bits .xor .u64 (((BitVec.toNat (nth s (n / 8)) : Nat) : Int)) (((BitVec.toNat (liftB (BitVec.ofNat 64 1) n) : Nat) : Int)))) (v' := .int .u64 ((BitVec.toNat ((nth s (n / 8)) ^^^ (liftB (BitVec.ofNat 64 1) n)) : Nat) : Int)) (bv_xor_u64 (nth s (n / 8)) (liftB (BitVec.ofNat 64 1) n)), .o (ins := [((.tmp 2), .pointer (some ⟨(gs1 0).b, 0, none⟩)), ((.tmp 6), .int .i64 ((n / 8 : Nat) : Int))]) (v := .pointer (some ⟨(gs1 0).b, 0 + (n / 8) * 1, none⟩)) (fun ρ o w ho hi => idxA_run (kd := .i64) (t := 84) (n := 25) (size := 1) kr (x := (.tmp 2)) (y := (.tmp 6)) (gs1 0).b 0 (n / 8) ho hi.1 hi.2.1 (by omega) w), .se (C := (Value.cells (svn s))) (C' := (Value.cells (svn (lay s n 1)))) (off := 0 + (n / 8) * 1) (v := .int .u64 ((BitVec.toNat ((nth s (n / 8)) ^^^ (liftB (BitVec.ofNat 64 1) n)) : Nat) : Int)) 0 (by show _ + 1 ≤ 25; omega) (svn_put s (n / 8) _ ((nth s (n / 8)) ^^^ (liftB (BitVec.ofNat 64 1) n)) hs (by omega) (by omega))] H1 kr fun w2 H2 => ?_
  clear H1
  refine dS [.v, .l 0, .c (lift_fn 128 135 (by omega)), .e (v := .int .u64 (Go.bits .xor .u64 (((BitVec.toNat (nth (lay s n 1) 16) : Nat) : Int)) (((BitVec.toNat (liftB (BitVec.ofNat 64 128) 135) : Nat) : Int)))) (v' := .int .u64 ((BitVec.toNat ((nth (lay s n 1) 16) ^^^ (liftB (BitVec.ofNat 64 128) 135)) : Nat) : Int)) (bv_xor_u64 (nth (lay s n 1) 16) (liftB (BitVec.ofNat 64 128) 135)), .v, .se (C := (Value.cells (svn (lay s n 1)))) (C' := (Value.cells (svn (lay (lay s n 1) 135 128)))) (off := 16) (v := .int .u64 ((BitVec.toNat ((nth (lay s n 1) 16) ^^^ (liftB (BitVec.ofNat 64 128) 135)) : Nat) : Int)) 0 (of_decide_eq_true kr) (svn_put (lay s n 1) 16 16 _ (lay_len _ _ hs) rfl (by omega))] H2 kr fun w3 H3 => ?_
  clear H2
  refine g_keep [0, 1, 2, 4] fun ρ1 => ?_
  have HK1 := H3.keep
  clear H3
  refine rS [.l 0, .s 1] HK1 kr fun gs4 w4 H4 => ?_
  clear HK1
  refine g_ret kr ?_
  show ∃ vs, Res _ _ _ _ vs ∧ _
  refine ⟨[svn (lay (lay s n 1) 135 128)], (.agg (b := (gs1 1).b) (Value.cells (svn (lay (lay s n 1) 135 128))) 84 (0, 0) kr (H4.get 1 kr) kr .nil), ?_, H4.below⟩
  rfl
end Go.Proofs.YtmmloghbnpfedaaDoor.Ke

namespace Go.Proofs.YtmmloghbnpfedaaDoor.Ke
open Go Go.RowKit Go.Proofs.Kec
set_option linter.unusedVariables false
theorem b8 (x : BitVec 64) (sh : Nat) : UInt8.ofNat (Int.toNat (((BitVec.toNat (BitVec.setWidth 8 (x >>> sh)) : Nat) : Int))) = UInt8.ofNat (BitVec.toNat x / 2 ^ sh) := by
  apply UInt8.toNat_inj.1
  rw [Int.toNat_natCast, BitVec.toNat_setWidth, BitVec.toNat_ushiftRight, Nat.shiftRight_eq_div_pow]
  simp
theorem take_fnq (q : List (BitVec 64) × Nat) (hq : StOK q) (t : ByteArray) (ht : ByteArray.size t < 4611686018427387904) :
    FnP Tryd.prog 64 #[svn q.1, .int .i64 ((q.2 : Nat) : Int), .string t] Marks (.tuple #[svn (takeB q (tl t)).1, .int .i64 (((takeB q (tl t)).2 : Nat) : Int)]) := take_fn q.1 q.2 t hq.len hq.lt ht
theorem end_fnq (q : List (BitVec 64) × Nat) (hq : StOK q) : Fn Tryd.prog 67 #[svn q.1, .int .i64 ((q.2 : Nat) : Int)] (svn (endB q)) := end_fn q.1 q.2 hq.len hq.lt
def kF (s : List (BitVec 64)) (i j : Nat) : BitVec 8 := if j < i then BitVec.setWidth 8 (nth s (j / 8) >>> (j % 8 * 8)) else 0
theorem kF_put (s : List (BitVec 64)) (i j : Nat) : kF s (i + 1) j = if j = i then BitVec.setWidth 8 (nth s (i / 8) >>> (i % 8 * 8)) else kF s i j := by
  unfold kF
  by_cases h : j = i
  · subst h; rw [if_pos (by omega), if_pos rfl]
  · rw [if_neg h]
    by_cases h2 : j < i
    · rw [if_pos (by omega), if_pos h2]
    · rw [if_neg (by omega), if_neg h2]
theorem kF_done (s : List (BitVec 64)) : ((List.range 32).map fun i => UInt8.ofBitVec (kF s 32 i)) = firstB s := by
  unfold firstB
  refine List.map_congr_left fun i hi => ?_
  unfold kF; rw [if_pos (by simpa using hi)]
  have h := b8 (nth s (i / 8)) (i % 8 * 8)
  rw [Int.toNat_natCast] at h
  rw [← h]
  apply UInt8.toNat_inj.1
  have := (BitVec.setWidth 8 (nth s (i / 8) >>> (i % 8 * 8))).isLt
  rw [UInt8.toNat_ofNat_of_lt' (by simpa using this)]; rfl
set_option maxRecDepth 100000 in
set_option maxHeartbeats 2000000 in
theorem first_fn (s : List (BitVec 64)) : Fn Tryd.prog 65 #[svn s] (.string (strB (firstB s))) := by
  refine Fn.intro (c := codeOf Tryd.f65) [.tmp 2] 22 Tryd.func65 kr kr kr fun w => ?_
  have H0 := St.start w
  refine rS [.b, .v] H0 kr fun gs1 w1 H1 => ?_
  clear H0
  refine rS [.a] H1 kr fun gs2 w2 H2 => ?_
  clear H1
  refine g_seq kr ?_
  refine rS [.v] H2 kr fun gs3 w3 H3 => ?_
  clear H2
  refine g_block 0 kr ?_
  have HL1 : St w.heap.size w w3 [((gs1 0).b, Obj.cells (Value.cells (svn s)) 84 (0, 0)), ((gs2 0).b, Obj.cells (Value.cells (zeroV .u8 32)) 90 (0, 0))] := H3.as kr
  clear H3
  have HM2 : St w.heap.size w w3 [((gs1 0).b, Obj.cells (Value.cells (svn s)) 84 (0, 0)), ((gs2 0).b, Obj.cells (Value.cells (arrB 32 (kF s 0))) 90 (0, 0))] := HL1
  refine g_loop kr (fun mz ρ ww => ∃ (i : Nat), 32 - i = mz ∧ (i ≤ 32) ∧ St w.heap.size w ww [((gs1 0).b, Obj.cells (Value.cells (svn s)) 84 (0, 0)), ((gs2 0).b, Obj.cells (Value.cells (arrB 32 (kF s i))) 90 (0, 0))] ∧ Is [(0, svn s), (1, .pointer (some ⟨(gs1 0).b, 0, none⟩)), (2, .string (⟨#[]⟩)), (3, .pointer (some ⟨(gs2 0).b, 0, none⟩)), (5, .int .i64 ((i : Nat) : Int))] ρ) (32 - 0) ⟨0, rfl, (by omega), HM2, (Is.of ⟨kr, kr, kr, kr, kr, trivial⟩)⟩ ?_
  clear HM2
  rintro _ _ w4 ⟨i, rfl, hi, H4, _, rfl⟩
  by_cases hc3 : (i : Nat) < 32
  · skip
    refine rS [.e (v := .bool (decide (((i : Nat) : Int) < 32))) (v' := .bool true) (bool_eq (decide_eq_true (by omega)))] H4 kr fun gs5 w5 H5 => ?_
    clear H4
    refine g_seq kr ?_
    refine g_cond_t kr kr ?_
    refine g_skip kr ?_
    show WP _ _ _ _ _ _
    refine g_seq kr ?_
    refine g_block 1 kr ?_
    refine rS [.v, .v] H5 kr fun gs6 w6 H6 => ?_
    clear H5
    refine rL [.v, .v, .e (v := .int .i64 (IntKind.i64.wrap (((i : Nat) : Int).tdiv 8))) (v' := .int .i64 ((i / 8 : Nat) : Int)) (int_eq (quoN_i64 (a := i) (b := 8) (by omega))), .o (ins := [((.tmp 1), .pointer (some ⟨(gs1 0).b, 0, none⟩)), ((.tmp 10), .int .i64 ((i / 8 : Nat) : Int))]) (v := .pointer (some ⟨(gs1 0).b, 0 + (i / 8) * 1, none⟩)) (fun ρ o w ho hi => idxA_run (kd := .i64) (t := 84) (n := 25) (size := 1) kr (x := (.tmp 1)) (y := (.tmp 10)) (gs1 0).b 0 (i / 8) ho hi.1 hi.2.1 (by omega) w), .ls (C := (Value.cells (svn s))) (off := 0 + (i / 8) * 1) (v := .int .u64 ((BitVec.toNat (nth s (i / 8)) : Nat) : Int)) 0 (svn_at s (i / 8) _ (by omega) (by omega)), .v, .e (v := .int .i64 (Int.tmod ((i : Nat) : Int) 8)) (v' := .int .i64 ((i % 8 : Nat) : Int)) (int_eq (remN i 8)), .e (v := .int .i64 (IntKind.i64.wrap (((i % 8 : Nat) : Int) * 8))) (v' := .int .i64 (((i % 8) * 8 : Nat) : Int)) (int_eq (wrapMul_i64 (a := i % 8) (b := 8) (by omega))), .e (v := .int .u64 (Int.fdiv (((BitVec.toNat (nth s (i / 8)) : Nat) : Int)) (2 ^ (min ((i % 8) * 8) 64)))) (v' := .int .u64 ((BitVec.toNat ((nth s (i / 8)) >>> ((i % 8) * 8)) : Nat) : Int)) (bv_shr_u64 (nth s (i / 8)) ((i % 8) * 8)), .e (v := .int .u8 (IntKind.u8.wrap (((BitVec.toNat ((nth s (i / 8)) >>> ((i % 8) * 8)) : Nat) : Int)))) (v' := .int .u8 ((BitVec.toNat (BitVec.setWidth 8 ((nth s (i / 8)) >>> ((i % 8) * 8))) : Nat) : Int)) (bv_conv_u8 ((nth s (i / 8)) >>> ((i % 8) * 8))), .o (ins := [((.tmp 3), .pointer (some ⟨(gs2 0).b, 0, none⟩)), ((.tmp 8), .int .i64 ((i : Nat) : Int))]) (v := .pointer (some ⟨(gs2 0).b, 0 + i * 1, none⟩)) (fun ρ o w ho hi => idxA_run (kd := .i64) (t := 90) (n := 32) (size := 1) kr (x := (.tmp 3)) (y := (.tmp 8)) (gs2 0).b 0 i ho hi.1 hi.2.1 (by omega) w), .se (C := (Value.cells (arrB 32 (kF s i)))) (C' := (Value.cells (arrB 32 (kF s (i + 1))))) (off := 0 + i * 1) (v := .int .u8 ((BitVec.toNat (BitVec.setWidth 8 ((nth s (i / 8)) >>> ((i % 8) * 8))) : Nat) : Int)) 1 (by show _ + 1 ≤ 32; omega) (arrB_put (k := i) (x := BitVec.setWidth 8 ((nth s (i / 8)) >>> ((i % 8) * 8))) (by omega) (by omega) (fun j _ => kF_put s i j))] H6 kr fun gs7 w7 H7 => ?_
    clear H6
    show WP _ _ _ _ _ _
    refine g_keep [0, 1, 2, 3, 4, 5, 6] fun ρ1 => ?_
    have HK4 := H7.keep
    clear H7
    refine rL [.e (v := .int .i64 (IntKind.i64.wrap (((i : Nat) : Int) + 1))) (v' := .int .i64 ((i + 1 : Nat) : Int)) (int_eq (wrapAdd_i64 (a := i) (b := 1) (by omega))), .v] HK4 kr fun gs8 w8 H8 => ?_
    clear HK4
    have HL5 : St w.heap.size w w8 [((gs1 0).b, Obj.cells (Value.cells (svn s)) 84 (0, 0)), ((gs2 0).b, Obj.cells (Value.cells (arrB 32 (kF s (i + 1)))) 90 (0, 0))] := H8.as kr
    clear H8
    show ∃ m, _ ∧ _
    exact ⟨_, (by omega), (i + 1), rfl, (by omega), HL5, (Is.of ⟨kr, kr, kr, kr, kr, trivial⟩)⟩
  · skip
    refine rS [.e (v := .bool (decide (((i : Nat) : Int) < 32))) (v' := .bool false) (bool_eq (decide_eq_false (by omega)))] H4 kr fun gs9 w9 H9 => ?_
    clear H4
    refine g_seq kr ?_
    refine g_cond_f kr kr ?_
    refine g_exit 0 kr ?_
    show WP _ _ _ _ _ _
    refine g_sreg [0, 1, 2] kr kr ?_
    refine rp [.o (ins := [((.tmp 3), .pointer (some ⟨(gs2 0).b, 0, none⟩))]) (v := .slice (some ⟨(gs2 0).b, 0, none⟩) 32 32) (fun ρ o w ho hi => slArr_run (t := 90) (n := 32) (e := 5) (z := 1) kr kr (x := (.tmp 3)) ((gs2 0).b) ho hi.1 w)] H9 kr fun gs10 w10 H10 => ?_
    show WPs _ _ _ _ [1, 2] _ _
    clear H9
    have hi32 : i = 32 := by omega
    have hrow := arrB_rw 32 (kF s i) (by unfold maxLen; omega)
    rw [show ((List.range 32).map fun j => UInt8.ofBitVec (kF s i j)) = firstB s by rw [hi32]; exact kF_done _] at hrow
    refine s_bytesStrB H10 (some 21) 69 9 5 (.tmp 20) 1 ((gs2 0).b) 32 32 (Value.cells (arrB 32 (kF s i))) 90 (0, 0) (firstB s) kr kr kr kr kr kr kr hrow ?_
    refine rp [.v] H10 kr fun gs11 w11 H11 => ?_
    show WPs _ _ _ _ [] _ _
    clear H10
    refine s_nil ?_
    refine g_ret kr ?_
    show ∃ vs, Res _ _ _ _ vs ∧ _
    refine ⟨[.string (strB (firstB s))], (.tmp (.string (strB (firstB s))) kr .nil), ?_, H11.below⟩
    rfl
set_option maxRecDepth 100000 in
set_option maxHeartbeats 2000000 in
theorem of_fn2 (b : Nat) (s1 s2 : ByteArray) (h1 : ByteArray.size s1 < 4611686018427387904) (h2 : ByteArray.size s2 < 4611686018427387904) : FnP Tryd.prog 28 #[.slice (some ⟨b, 0, none⟩) 2 2] (fun w => Marks w ∧ w.heap[b]? = some (.cells #[.string s1, .string s2] 9 (0, 0))) (.string (strB (sumB (tl s1 ++ tl s2)))) := by
  refine FnP.intro (c := codeOf Tryd.f28) [.tmp 2] 26 Tryd.func28 kr kr kr fun w hpre => ?_
  have H0 := St.start w
  refine rS [.v] H0 kr fun gs1 w1 H1 => ?_
  clear H0
  refine rS [.a] H1 kr fun gs2 w2 H2 => ?_
  clear H1
  refine rS [.v] H2 kr fun gs3 w3 H3 => ?_
  clear H2
  refine g_seq kr ?_
  refine rS [.v, .v, .v] H3 kr fun gs4 w4 H4 => ?_
  clear H3
  refine g_block 0 kr ?_
  have HL1 : St w.heap.size w w4 [((gs2 0).b, Obj.cells #[.int .u64 0, .int .u64 0, .int .u64 0, .int .u64 0, .int .u64 0, .int .u64 0, .int .u64 0, .int .u64 0, .int .u64 0, .int .u64 0, .int .u64 0, .int .u64 0, .int .u64 0, .int .u64 0, .int .u64 0, .int .u64 0, .int .u64 0, .int .u64 0, .int .u64 0, .int .u64 0, .int .u64 0, .int .u64 0, .int .u64 0, .int .u64 0, .int .u64 0] 84 (0, 0))] := H4.as kr
  clear H4
  refine g_first kr ?_
  refine rS [.v] HL1 kr fun gs5 w5 H5 => ?_
  clear HL1
  refine g_seq kr ?_
  refine g_cond_t kr kr ?_
  refine g_skip kr ?_
  show WP _ _ _ _ _ _
  refine g_seq kr ?_
  refine g_block 1 kr ?_
  refine rS [.o (ins := [((.tmp 7), .slice (some ⟨b, 0, none⟩) 2 2), ((.tmp 9), .int .i64 0)]) (v := .pointer (some ⟨b, 0 + 0 * 1, none⟩)) (fun ρ o w ho hi => idxS_run (kd := .i64) (t := 83) (e := 9) (size := 1) (bytes := 16) kr (x := (.tmp 7)) (y := (.tmp 9)) b 0 2 2 0 ho hi.1 hi.2.1 (by omega) w), .fs (off := 0 + 0 * 1) (v := .string s1) hpre.2 (lt_of_heap hpre.2) (by rfl), .v] H5 kr fun gs6 w6 H6 => ?_
  clear H5
  refine rL [.l 0, .v, .v, .cp (pre := Marks) (take_fnq (zeroS, 0) zero_ok s1 (by assumption)) [] (fun w hb hd => (Marks.oldB hb rfl hpre.1)), .v, .v, .v, .s 0, .v] H6 kr fun gs7 w7 H7 => ?_
  clear H6
  show WP _ _ _ _ _ _
  refine g_keep [0, 2, 3, 4, 6, 7, 8, 9, 10] fun ρ1 => ?_
  have HK2 := H7.keep
  clear H7
  refine rL [.v, .v] HK2 kr fun gs8 w8 H8 => ?_
  clear HK2
  show WPL _ _ _ _ _ _
  refine g_next ?_
  refine rS [.v] H8 kr fun gs9 w9 H9 => ?_
  clear H8
  refine g_seq kr ?_
  refine g_cond_t kr kr ?_
  refine g_skip kr ?_
  show WP _ _ _ _ _ _
  refine g_seq kr ?_
  refine g_block 1 kr ?_
  refine rS [.o (ins := [((.tmp 7), .slice (some ⟨b, 0, none⟩) 2 2), ((.tmp 9), .int .i64 1)]) (v := .pointer (some ⟨b, 0 + 1 * 1, none⟩)) (fun ρ o w ho hi => idxS_run (kd := .i64) (t := 83) (e := 9) (size := 1) (bytes := 16) kr (x := (.tmp 7)) (y := (.tmp 9)) b 0 2 2 1 ho hi.1 hi.2.1 (by omega) w), .fs (off := 0 + 1 * 1) (v := .string s2) hpre.2 (lt_of_heap hpre.2) (by rfl), .v] H9 kr fun gs10 w10 H10 => ?_
  clear H9
  refine rL [.l 0, .v, .v, .cp (pre := Marks) (take_fnq (takeB (zeroS, 0) (tl s1)) (takeB_ok _ zero_ok) s2 (by assumption)) [] (fun w hb hd => (Marks.oldB hb rfl hpre.1)), .v, .v, .v, .s 0, .v] H10 kr fun gs11 w11 H11 => ?_
  clear H10
  show WP _ _ _ _ _ _
  refine rL [.v, .v] H11 kr fun gs12 w12 H12 => ?_
  clear H11
  show WPL _ _ _ _ _ _
  refine g_next ?_
  refine g_keep [0, 2, 3, 4, 6, 7, 8, 9, 10] fun ρ2 => ?_
  have HK3 := H12.keep
  clear H12
  refine rS [.v] HK3 kr fun gs13 w13 H13 => ?_
  clear HK3
  refine g_seq kr ?_
  refine g_cond_f kr kr ?_
  refine g_exit 0 kr ?_
  show WP _ _ _ _ _ _
  refine rS [.l 0, .v, .c (end_fnq (takeB (takeB (zeroS, 0) (tl s1)) (tl s2)) (takeB_ok _ (takeB_ok _ zero_ok))), .cp (pre := Marks) (mix_fn (endB (takeB (takeB (zeroS, 0) (tl s1)) (tl s2)))) [] (fun w hb hd => (Marks.oldB hb rfl hpre.1)), .c (first_fn (mix (endB (takeB (takeB (zeroS, 0) (tl s1)) (tl s2))))), .v] H13 kr fun gs14 w14 H14 => ?_
  clear H13
  refine g_ret kr ?_
  show ∃ vs, Res _ _ _ _ vs ∧ _
  refine ⟨[.string (strB (firstB (mix (endB (takeB (takeB (zeroS, 0) (tl s1)) (tl s2))))))], (.tmp (.string (strB (firstB (mix (endB (takeB (takeB (zeroS, 0) (tl s1)) (tl s2))))))) kr .nil), ?_, H14.below⟩
  rw [show sumB (tl s1 ++ tl s2) = firstB (mix (endB (takeB (takeB (zeroS, 0) (tl s1)) (tl s2)))) by unfold sumB; rw [takeB_append]]; rfl
end Go.Proofs.YtmmloghbnpfedaaDoor.Ke

namespace Go.Proofs.YtmmloghbnpfedaaDoor
open Go.Proofs.Kec
set_option maxRecDepth 100000
def kg0 : List B64 := [12446784959294127737, 507648704348594261, 15647983601658403586, 10959500993137603161, 7333165478880885320, 12107946354257142877, 1825230698222721021, 13318288670677026716, 1, 0, 0, 0, 0, 0, 0, 0, 9223372036854775808, 0, 0, 0, 0, 0, 0, 0, 0]
def kg1 : List B64 := [6147971067010992689, 1876153753126214278, 11687062968877581082, 17750475127143040403, 1364682289028149339, 1027244746182266560, 3150245938057466390, 16886574177629905641, 6801149347803128144, 313691013372951397, 10719973574864325803, 16805296323909071301, 13468913885800402523, 8098377563087180416, 13179556767843239086, 15585664471952107018, 6407783409991285683, 3407303225009728413, 9827768119413240126, 1021865858411123001, 9652356509403333293, 11951718323505581892, 5540211513624755404, 3349618883719306652, 2245310120953577523]
def kg2 : List B64 := [9545368450931707425, 6103372658215168530, 7763591259973919506, 17848246576876516643, 12947006784223601021, 5505958432284116247, 2018212747768846420, 8447910178675968831, 15101621917694966059, 159939953062725845, 6064315107748091666, 9120501678261838620, 1651067134317061638, 11896695035590222660, 14673522992868187909, 11407096183005478742, 12687687913063921994, 6308545391313956332, 10294446521914786389, 8132747113889628817, 12665506115741070870, 5481670591257031969, 6959126744159306184, 16862145795090028173, 1693413769624635400]
def kg3 : List B64 := [4267680060616796381, 579814908073199446, 13791422340505577077, 4812296360446488545, 706710581062528071, 1271596614307356765, 11752830566704005059, 16762047622692872806, 5478091182564988854, 12300848449997010808, 5008977000257078002, 3871043231972770140, 7633546833167738716, 5532015364872513692, 7165461145452843687, 14083097586322905112, 484177406022666024, 3228067398285052987, 14623191040636660016, 17178877281466522028, 11173616120886968902, 12563382713311594488, 17422959636601913414, 748172302641650029, 6442387590352047615]
def kg4 : List B64 := [11837680179835353509, 13410646769476190334, 4952104528092970989, 1277989282364619929, 7047691804931419402, 5342080017024537996, 12493632100243897395, 11574884222087161430, 10055621988896330210, 18165963603145537309, 17487306100669846078, 18119694806115350196, 9618717773767475380, 12825705048106922506, 5527631064903321271, 9002700491634594573, 1303087153295520743, 14024905377583470358, 10187605913754835402, 14556652007414753711, 4021238888784077478, 10026775072947815113, 16782994756348503350, 4749223681402529788, 17593480719839225540]
def kg5 : List B64 := [15058388053019221123, 9974640622492302870, 8723369104006252492, 17886918876202208039, 14050617480229670164, 12483290973113457777, 15930457174237073020, 8551516979707312727, 2365711919889953607, 11109191870527486081, 14368473327293248273, 5587541537406898950, 3789619646445963886, 18394813622038995130, 11862182497780370241, 16555824809559328481, 5412517034377761979, 7838744382045772683, 17771373447938391051, 6694972750624542577, 3266019767555548540, 12208565774212995082, 15248425339155570907, 9452177465067154405, 12259306221190545071]
def kg6 : List B64 := [10013278077612867761, 1474259117612355964, 2879183728813378546, 4148321736889135143, 12626595382835406416, 9293618296869397405, 4938129218782373532, 16664402468043493161, 15681752965807490247, 10226721186221201007, 9743597131668940838, 1852918534640912642, 3450560585401044087, 1011300051746069993, 6899631175538953180, 16704795931792727434, 234975023581710291, 13825457614871906661, 11891675625821231111, 6058124696498741224, 5580821739077533620, 15813398562387544400, 15492403653148091095, 2606924993814857282, 18193002710699230399]
def kg7 : List B64 := [17827615796375011906, 15391292426169837866, 6249362430162252556, 9710251416279846582, 10105912379249709577, 2650823036450594119, 15664387409857930322, 1662177558731048463, 7334746813663443739, 5344349277605330821, 16404032918086284602, 2714828603363454990, 11511462880717494872, 9204587968020011070, 3039720999628762020, 9367911649924092033, 15015623358785985977, 14161256907096502116, 13580755754158028805, 6706815580275343004, 9092003422247875906, 4680058580954471423, 7166209016848120547, 7537872251933034799, 14960328169997702102]
def kg8 : List B64 := [4346157385650240285, 12747278687979473800, 3961466678184963067, 1226740751023409601, 17409835424652035951, 18118317986929652408, 2423471940579465391, 6193589401598264539, 14617452826383948483, 3011110326659342099, 15356859773637796445, 10332624466522692422, 13952365950720710612, 10772327730834177540, 6604526622933835094, 6572223820726321970, 12184520449208502169, 18342003984771950954, 11609127758758902949, 10944988614007186857, 10804558890251926615, 16572010099335580323, 11065538473118167171, 17148339691171097690, 18417427264340804677]
def kg9 : List B64 := [8311848369386851567, 3230369989570986678, 13081493150349318572, 7434478931272561067, 15369978940703765400, 3470470700861193646, 2249687778378918720, 9313084128945660265, 153966631549696496, 6118983537052511125, 14977980535898290196, 18177565235984922020, 14924189921399902730, 15876903356041657148, 7094217940934814543, 1583378852536698098, 16321296331298992044, 14177497292578464099, 16553325849587323095, 648459780626778444, 11254275351218238802, 17957596676216042993, 289859803151954995, 13895570894519165226, 16749880478013190335]
def kg10 : List B64 := [13273112571084993025, 9721218316213618435, 7824170422330108613, 8107343850455108834, 1032921731793673868, 18399178888865308163, 7934429767556016305, 2141953109194568018, 575593999526914918, 4397453199245880949, 1407101242017024730, 4760322799491398725, 7812580022732182880, 2803358680990760564, 11917978172376795409, 11125129958775343160, 14948216858779419195, 5040337628865093567, 3973591364729081967, 12893413016423199688, 17257522768735559333, 9664548231428163547, 9178157335604473256, 17125141530137873823, 3086001205950466466]
def kg11 : List B64 := [3558824827103517856, 11571718876325132530, 11622592850317408742, 11451969422274649614, 7748472094946007775, 11708971041613666165, 15194888609098468909, 356585898603786203, 1114503999738702362, 9862786600993572479, 1263754907628321736, 1074634268687110450, 9705722904114278002, 11178441218769045114, 4916578521287547311, 11727595293308849208, 1284664860691755635, 17780436577107051558, 8647777739289450528, 7116046839887150837, 8650581182815156850, 114598025308178617, 13787433734616184716, 11081932096594241469, 11662678542997502451]
def kg12 : List B64 := [14904032757431871081, 1833367409297251611, 10017274157448560410, 2565622001502473760, 14045034576029116318, 7915295257839387862, 8298107784104063204, 7015881885816143476, 9905722942461894066, 1344909847083554569, 1812622167082365918, 13635919833101455094, 6329735965916182372, 4775292262716237883, 4110210121577861853, 6413457930787679200, 12066042808624618022, 9140075296723726086, 3647307869590857955, 17027383216867295599, 9717427822941613517, 18083647396905638099, 15260861372150040278, 5366806573868552890, 4884586890848314528]
def kg13 : List B64 := [11525420944026756391, 18214196730449270852, 16800459377548193, 11560628052597248771, 6265811172570832472, 10533518685195787741, 7726347921332555985, 8102971164141328786, 14849296198520950841, 730792256244643001, 13519574209307208262, 17224902856140070007, 15990674751894835706, 14976057936773525297, 11246247402535995241, 5902052041245227697, 8934381382493077539, 12180751395560369125, 1916218345209719657, 4816456847919208520, 10281050804854773104, 12180863626829662534, 9754408195920163773, 11477169766461609764, 14546999400930527400]
def kg14 : List B64 := [19053535572813391, 3254051246563625587, 659083417359583494, 6811129456922046764, 3418024805626189822, 14100825555534820255, 12190553255631085462, 16427050095616155725, 869054706934327455, 16771147328648398294, 2368125158103282750, 9444193741055805136, 15316860623166084929, 12045208517887612069, 17521819835406632750, 7633891305081537305, 11005095080216094945, 9332182169786266629, 7619752011440268517, 17694609612799368934, 17951520926239439274, 4486714420226338035, 9066495453831349264, 4308744824697230123, 2001970315205741107]
def kg15 : List B64 := [652529623428270178, 17280104991395114182, 7007206083772549446, 7741229147703988740, 6448935170842353916, 11013809384219108563, 16400734725861116728, 10341095433006776725, 11058702026384810582, 12777209949380924920, 11951139618199245599, 17041423964292953794, 7216355067642355390, 207515968366616245, 1901061013279155703, 8599781125096371868, 15795751314943543212, 14138459405122963919, 3315967806219200930, 1398910219540554142, 4438407371450813028, 15250803631669692762, 11728431483141932951, 6413419354055774522, 11827282418758221653]
def kg16 : List B64 := [2094324497629059468, 18410952481960957365, 16998304749590217317, 10472165452090246182, 2957324439160666018, 11571218197299437198, 10884245048476333031, 14222447518032019201, 3951467359830295629, 5600569637552148405, 15218276486119930487, 3973585765572339826, 14890164401722076945, 1342608030262973757, 12623147848651941794, 3322497216572940071, 11951459963232749422, 12503682638979366249, 16300721124851136151, 13752709708348952717, 15247005133059479192, 5547289112688542651, 13306898888049496214, 6092884065202787358, 16049924118934415550]
def kg17 : List B64 := [8910310858846878695, 1336314419790737403, 10693316814692799935, 6542397894220716213, 13006074077733845705, 2259420849075044304, 5119086992943463354, 12576841053068198003, 17243829523025335896, 11612152736619845273, 383844063022455255, 4006692605074657292, 13728196051602548078, 3273366119087763354, 9906580987388778484, 1680054105485861071, 3453069422874564879, 2445652586356073816, 14164153117556706949, 8168539158903213924, 901711995758321870, 7316122978914772712, 17086048163525799525, 9605845784660679421, 13117633953147762592]
def kg18 : List B64 := [3928262691071299283, 1825779283928386589, 16117989046544885133, 3991199164750354166, 3467299420957931229, 4432177862723599763, 11358991721456225845, 9095440129232165448, 12060666814550608555, 1044957007450258942, 11814458915802680441, 12010980000818125249, 1655513237225870257, 11784137439362558749, 14110185025029303704, 17415060416690423902, 529664923344494531, 12450465908267372407, 11626351226785062331, 11834094352327133990, 16994420149643952424, 9271207796368776981, 15602893061487868717, 14641683616207151565, 4315750413167832587]
def kg19 : List B64 := [2104031709389910310, 14738801326702933344, 6802142155068579670, 7137316528851226856, 9086556789983446272, 11916693453768624479, 4881231900193264915, 9313447982761345159, 3394093884336321260, 10474177048825784559, 17371057877526256670, 4740340113041605954, 12216639345813621796, 15347236007256038288, 15444483364815817398, 4299768620770362377, 5023964618276179751, 9544900469916855909, 10207604521930120530, 10078274342904233802, 10481368004061407778, 5776659037760175816, 7134133881635865801, 14401152220392620418, 10763325800383934934]
def kg20 : List B64 := [612344474104722813, 11590833022060788176, 11072834976406496541, 9385776222077155930, 2141808173806412478, 11978092556803861355, 12570321765401777987, 9509547776701424480, 8280740594698023816, 11234988926224570323, 2408306135397045118, 14249712112678810543, 8764307970830112783, 7765937589232241792, 5245578492655674593, 16887635652617528453, 4357957631484519025, 15459167334733117100, 87758573240896788, 4907018245667702475, 579560492342551185, 1006755977026394382, 5304323144621126173, 6489373177897975058, 6339236642932280530]
def kg21 : List B64 := [11597546057742254830, 12005282741731989367, 195670314949206852, 6657866423513679341, 12256623533632225988, 16854991480178193290, 17982640710881986741, 14575357283352355434, 8795935212429922005, 16604140825544672254, 7545804711227691862, 16110388991371485924, 5225150021780061988, 11026287904518793994, 5800002214672294434, 14355833416585153643, 8315235467183314836, 13674218171206826069, 9821310629384017487, 14580916750094659268, 4520376952911183229, 3584425990944671759, 13135653121694848148, 2104640822699963469, 7289638768227246036]
def kg22 : List B64 := [6286240025342736281, 13745111842840629545, 7392041947598255469, 14890298487628900405, 9420990692771067897, 1479255071804271313, 5146600945701750318, 18141473291710640994, 17591338002926922935, 7442291661101979235, 5152579487721739168, 153165356671926743, 1692654426060755285, 4946229325953040208, 9574254826078407096, 3113411579334602112, 13778208479528151927, 13535202115647067203, 3133359169298806084, 286673899484045105, 15365947002241303175, 1152814135981554710, 6020169162900646241, 2274385874519417967, 18111774317694436075]
def kg23 : List B64 := [12985457897057534354, 266370476577644034, 16607233548730408584, 17765841099381523301, 12635634046860480280, 518019492209386289, 7793729894236376637, 4913239630937532274, 6762527185600229709, 2405973505345037220, 12815094650699368655, 4908010728896454485, 18390943308343599329, 5837469124899805113, 6612102576462588155, 3224490175415626262, 8093782937661960536, 15269540748214020566, 15504321565339717650, 13118621657035987053, 14884958655455242563, 11489967232403887828, 3609923983723131244, 2893145274369606729, 15406614195748271792]
def kg24 : List B64 := [12562634669738469056, 5928249483024958272, 13257574057394117129, 16094520544017629880, 14979511871581324652, 5658247198910444907, 12095304490324344827, 13371193797678042564, 3702659389917089387, 9131219029868206035, 1449777034409982508, 2025719396696261666, 6973059317260079475, 9387780226299198499, 14282461711030732716, 7462661846291167221, 13385766764523110248, 833643460064714359, 10464762274677988957, 15389302551230459728, 9816374635301549375, 17024903306643033914, 6080338986015629281, 14176032724109458222, 9088842648982976696]
theorem kg0_next : rm kg0 1 = kg1 := by decide +kernel
theorem kg1_next : rm kg1 32898 = kg2 := by decide +kernel
theorem kg2_next : rm kg2 9223372036854808714 = kg3 := by decide +kernel
theorem kg3_next : rm kg3 9223372039002292224 = kg4 := by decide +kernel
theorem kg4_next : rm kg4 32907 = kg5 := by decide +kernel
theorem kg5_next : rm kg5 2147483649 = kg6 := by decide +kernel
theorem kg6_next : rm kg6 9223372039002292353 = kg7 := by decide +kernel
theorem kg7_next : rm kg7 9223372036854808585 = kg8 := by decide +kernel
theorem kg8_next : rm kg8 138 = kg9 := by decide +kernel
theorem kg9_next : rm kg9 136 = kg10 := by decide +kernel
theorem kg10_next : rm kg10 2147516425 = kg11 := by decide +kernel
theorem kg11_next : rm kg11 2147483658 = kg12 := by decide +kernel
theorem kg12_next : rm kg12 2147516555 = kg13 := by decide +kernel
theorem kg13_next : rm kg13 9223372036854775947 = kg14 := by decide +kernel
theorem kg14_next : rm kg14 9223372036854808713 = kg15 := by decide +kernel
theorem kg15_next : rm kg15 9223372036854808579 = kg16 := by decide +kernel
theorem kg16_next : rm kg16 9223372036854808578 = kg17 := by decide +kernel
theorem kg17_next : rm kg17 9223372036854775936 = kg18 := by decide +kernel
theorem kg18_next : rm kg18 32778 = kg19 := by decide +kernel
theorem kg19_next : rm kg19 9223372039002259466 = kg20 := by decide +kernel
theorem kg20_next : rm kg20 9223372039002292353 = kg21 := by decide +kernel
theorem kg21_next : rm kg21 9223372036854808704 = kg22 := by decide +kernel
theorem kg22_next : rm kg22 2147483649 = kg23 := by decide +kernel
theorem kg23_next : rm kg23 9223372039002292232 = kg24 := by decide +kernel
theorem mix_kg : mix kg0 = kg24 := by
  show rm (rm (rm (rm (rm (rm (rm (rm (rm (rm (rm (rm (rm (rm (rm (rm (rm (rm (rm (rm (rm (rm (rm (rm kg0 1) 32898) 9223372036854808714) 9223372039002292224) 32907) 2147483649) 9223372039002292353) 9223372036854808585) 138) 136) 2147516425) 2147483658) 2147516555) 9223372036854775947) 9223372036854808713) 9223372036854808579) 9223372036854808578) 9223372036854775936) 32778) 9223372039002259466) 9223372039002292353) 9223372036854808704) 2147483649) 9223372039002292232 = kg24
  rw [kg0_next, kg1_next, kg2_next, kg3_next, kg4_next, kg5_next, kg6_next, kg7_next, kg8_next, kg9_next, kg10_next, kg11_next, kg12_next, kg13_next, kg14_next, kg15_next, kg16_next, kg17_next, kg18_next, kg19_next, kg20_next, kg21_next, kg22_next, kg23_next]
theorem end_kg : endB (takeB (zeroS, 0) (tl (bs Ec.gX) ++ tl (bs Ec.gY))) = kg0 := by decide +kernel
theorem sumG : ((sumB (tl (bs Ec.gX) ++ tl (bs Ec.gY))).drop 12).take 4 = [126, 95, 69, 82] := by
  show ((firstB (mix (endB (takeB (zeroS, 0) (tl (bs Ec.gX) ++ tl (bs Ec.gY)))))).drop 12).take 4 = _
  rw [end_kg, mix_kg]; decide +kernel
end Go.Proofs.YtmmloghbnpfedaaDoor

namespace Go.Proofs.YtmmloghbnpfedaaDoor
open Go Go.RowKit
set_option linter.unusedVariables false
open Go.Proofs.Kec Ke
theorem bytes_fn (A : Nat) (hA : A < big) : Fn Tryd.prog 29 #[uv A] (.string (bs A)) := bytes_any A hA
def adrB (X Y : Nat) : ByteArray := ByteArray.extract (strB (sumB (tl (bs X) ++ tl (bs Y)))) (ByteArray.size (strB (sumB (tl (bs X) ++ tl (bs Y)))) - 20) (ByteArray.size (strB (sumB (tl (bs X) ++ tl (bs Y)))))
theorem ksum_size (l : List UInt8) : ByteArray.size (strB (sumB l)) = 32 := sumB_len l
theorem inN_1 : inN 1 = true := by decide +kernel
theorem mulP1 : Ec.mulP Ec.G 1 = Ec.G := by
  have h := Ec.mulP_add Ec.good Ec.G_on 0 1
  first | rfl | (show Ec.Pt.add (Ec.mulP Ec.G 0) Ec.G = Ec.G; rw [Ec.mulP_zero0]; rfl)
set_option maxRecDepth 100000 in
set_option maxHeartbeats 2000000 in
theorem of_z (X Y : Nat) (hX : X < big) (hY : Y < big) : Fn Tryd.prog 7 #[pv (Ec.Pd.mk X Y true)] (.tuple #[.string ⟨#[]⟩, .int .i64 1]) := by
  refine Fn.intro (c := codeOf Tryd.f7) [.tmp 2, .tmp 3] 25 Tryd.func7 kr kr kr fun w => ?_
  have H0 := St.start w
  refine rS [.b, .v, .v] H0 kr fun gs1 w1 H1 => ?_
  clear H0
  refine g_seq kr ?_
  refine rS [.v, .l 0, .v, .n, .n, .n, .v] H1 kr fun gs2 w2 H2 => ?_
  clear H1
  refine g_cond_t kr kr ?_
  refine rS [.v, .v] H2 kr fun gs3 w3 H3 => ?_
  clear H2
  refine g_ret kr ?_
  show ∃ vs, Res _ _ _ _ vs ∧ _
  refine ⟨[.string (⟨#[]⟩), .int .i64 1], (.tmp (.string (⟨#[]⟩)) kr (.tmp (.int .i64 1) kr .nil)), ?_, H3.below⟩
  rfl
set_option maxRecDepth 100000 in
set_option maxHeartbeats 2000000 in
theorem of_no (X Y : Nat) (hX : X < big) (hY : Y < big) (h : Ec.onB (Ec.Pd.mk X Y false) = false) : Fn Tryd.prog 7 #[pv (Ec.Pd.mk X Y false)] (.tuple #[.string ⟨#[]⟩, .int .i64 1]) := by
  refine Fn.intro (c := codeOf Tryd.f7) [.tmp 2, .tmp 3] 25 Tryd.func7 kr kr kr fun w => ?_
  have H0 := St.start w
  refine rS [.b, .v, .v] H0 kr fun gs1 w1 H1 => ?_
  clear H0
  refine g_seq kr ?_
  refine rS [.v, .l 0, .v, .l 0, .c (on_no (Ec.Pd.mk X Y false) (Ec.Pd.Ok.mk (p := Ec.Pd.mk X Y false) hX hY) h), .v, .v] H1 kr fun gs2 w2 H2 => ?_
  clear H1
  refine g_cond_t kr kr ?_
  refine rS [.v, .v] H2 kr fun gs3 w3 H3 => ?_
  clear H2
  refine g_ret kr ?_
  show ∃ vs, Res _ _ _ _ vs ∧ _
  refine ⟨[.string (⟨#[]⟩), .int .i64 1], (.tmp (.string (⟨#[]⟩)) kr (.tmp (.int .i64 1) kr .nil)), ?_, H3.below⟩
  rfl
set_option maxRecDepth 100000 in
set_option maxHeartbeats 2000000 in
theorem of_yes (X Y : Nat) (hX : X < big) (hY : Y < big) (h : Ec.onB (Ec.Pd.mk X Y false) = true) : FnP Tryd.prog 7 #[pv (Ec.Pd.mk X Y false)] (Marks) (.tuple #[.string (adrB X Y), .int .i64 0]) := by
  refine FnP.intro (c := codeOf Tryd.f7) [.tmp 2, .tmp 3] 25 Tryd.func7 kr kr kr fun w hpre => ?_
  have H0 := St.start w
  refine rS [.b, .v, .v] H0 kr fun gs1 w1 H1 => ?_
  clear H0
  refine g_seq kr ?_
  refine rS [.v, .l 0, .v, .l 0, .c (on_yes (Ec.Pd.mk X Y false) (Ec.Pd.Ok.mk (p := Ec.Pd.mk X Y false) hX hY) h), .v, .v] H1 kr fun gs2 w2 H2 => ?_
  clear H1
  refine g_cond_f kr kr ?_
  refine g_skip kr ?_
  show WP _ _ _ _ _ _
  refine dSg (fun gs3 => [.v, .l 0, .c (f := 29) (args := #[uv X]) (v := .string (bs X)) (bytes_fn X hX), .v, .l 0, .c (f := 29) (args := #[uv Y]) (v := .string (bs Y)) (bytes_fn Y hY), .nw (fun b => .slice (some ⟨b, 0, none⟩) 2 2) #[.string (bs X), .string (bs Y)] 9, .cp (pre := fun w => Marks w ∧ w.heap[(gs3 6).b]? = some (.cells #[.string (bs X), .string (bs Y)] 9 (0, 0))) (of_fn2 ((gs3 6).b) (bs X) (bs Y) (by rw [bs_size]; omega) (by rw [bs_size]; omega)) [(1, ((gs3 6).b, Obj.cells #[.string (bs X), .string (bs Y)] 9 (0, 0)))] (fun w hb hd => ⟨(Marks.oldB hb rfl hpre), hd.1⟩), .v]) H2 kr fun gs3 w3 H3 => ?_
  clear H2
  refine g_keep [0, 1, 2, 3, 4, 11] fun ρ1 => ?_
  have HK1 := H3.keep
  clear H3
  have hz := ksum_size (tl (bs X) ++ tl (bs Y))
  refine rS [.v, .v, .v, .e (v := .int .i64 (IntKind.i64.wrap (((ByteArray.size (strB (sumB (tl (bs X) ++ tl (bs Y)))) : Nat) : Int) - 20))) (v' := .int .i64 (((ByteArray.size (strB (sumB (tl (bs X) ++ tl (bs Y))))) - 20 : Nat) : Int)) (int_eq (wrapSub_i64 (a := ByteArray.size (strB (sumB (tl (bs X) ++ tl (bs Y))))) (b := 20) (by omega))), .o (ins := [((.tmp 20), .string (strB (sumB (tl (bs X) ++ tl (bs Y))))), ((.tmp 23), .int .i64 (((ByteArray.size (strB (sumB (tl (bs X) ++ tl (bs Y))))) - 20 : Nat) : Int))]) (v := .string (ByteArray.extract (strB (sumB (tl (bs X) ++ tl (bs Y)))) ((ByteArray.size (strB (sumB (tl (bs X) ++ tl (bs Y))))) - 20) (ByteArray.size (strB (sumB (tl (bs X) ++ tl (bs Y))))))) (fun ρ o w ho hi => scut3_run (t := 9) (kz := .i64) kr (x := (.tmp 20)) (z := (.tmp 23)) (strB (sumB (tl (bs X) ++ tl (bs Y)))) ((ByteArray.size (strB (sumB (tl (bs X) ++ tl (bs Y))))) - 20) ho hi.1 hi.2.1 (by omega) w), .v, .v] HK1 kr fun gs4 w4 H4 => ?_
  clear HK1
  refine g_ret kr ?_
  show ∃ vs, Res _ _ _ _ vs ∧ _
  refine ⟨[.string (ByteArray.extract (strB (sumB (tl (bs X) ++ tl (bs Y)))) ((ByteArray.size (strB (sumB (tl (bs X) ++ tl (bs Y))))) - 20) (ByteArray.size (strB (sumB (tl (bs X) ++ tl (bs Y)))))), .int .i64 0], (.tmp (.string (ByteArray.extract (strB (sumB (tl (bs X) ++ tl (bs Y)))) ((ByteArray.size (strB (sumB (tl (bs X) ++ tl (bs Y))))) - 20) (ByteArray.size (strB (sumB (tl (bs X) ++ tl (bs Y))))))) kr (.tmp (.int .i64 0) kr .nil)), ?_, H4.below⟩
  rfl
set_option maxRecDepth 100000 in
set_option maxHeartbeats 2000000 in
theorem address1_fn  : FnP Tryd.prog 6 #[uv 1] (Marks) (.tuple #[.string (adrB Ec.gX Ec.gY), .int .i64 0]) := by
  refine FnP.intro (c := codeOf Tryd.f6) [.tmp 2, .tmp 3] 19 Tryd.func6 kr kr kr fun w hpre => ?_
  have H0 := St.start w
  refine rS [.b, .v, .v] H0 kr fun gs1 w1 H1 => ?_
  clear H0
  refine g_seq kr ?_
  refine g_sreg [0, 1, 2] kr kr ?_
  refine rp [.l 0, .c (within_fn 1 (by unfold big; omega))] H1 kr fun gs2 w2 H2 => ?_
  show WPs _ _ _ _ [2] _ _
  clear H1
  refine s_now 7 (v := .bool (inN 1)) (v' := .bool true) (bool_eq inN_1) kr ?_
  refine rp [.v] H2 kr fun gs3 w3 H3 => ?_
  show WPs _ _ _ _ [] _ _
  clear H2
  refine s_nil ?_
  refine g_cond_f kr kr ?_
  refine g_skip kr ?_
  show WP _ _ _ _ _ _
  refine dSg (fun gs4 => [.c base_fn, .l 0, .c (f := 12) (args := #[pv (Ec.ofPt Ec.G), uv 1]) (v := .tuple #[pv (Ec.ofPt Ec.G), .int .i64 0]) (by have h9 := times_pt_fn Ec.G Ec.G_on 1 (by unfold big; omega); rw [mulP1] at h9; exact h9), .v, .v, .v, .a, .s 1, .v]) H3 kr fun gs4 w4 H4 => ?_
  clear H3
  refine rS [.l 1, .cp (pre := Marks) (of_yes Ec.gX Ec.gY (by decide +kernel) (by decide +kernel) (Ec.onB_pt Ec.G_on)) [] (fun w hb hd => (Marks.oldB hb rfl hpre)), .v, .v, .v, .v] H4 kr fun gs5 w5 H5 => ?_
  clear H4
  refine g_ret kr ?_
  show ∃ vs, Res _ _ _ _ vs ∧ _
  refine ⟨[.string (adrB Ec.gX Ec.gY), .int .i64 0], (.tmp (.string (adrB Ec.gX Ec.gY)) kr (.tmp (.int .i64 0) kr .nil)), ?_, H5.below⟩
  rfl
theorem adr_tl (X Y : Nat) : tl (adrB X Y) = (sumB (tl (bs X) ++ tl (bs Y))).drop 12 := by
  unfold adrB
  rw [tl_extract, ksum_size, tl_strB, List.take_of_length_le (Nat.le_of_eq (sumB_len _))]
theorem adr_size (X Y : Nat) : ByteArray.size (adrB X Y) = 20 := by rw [← tl_len, adr_tl, List.length_drop, sumB_len]
theorem aliveG : (ByteArray.toList (ByteArray.extract (adrB Ec.gX Ec.gY) 0 4) == ByteArray.toList ⟨#[126, 95, 69, 82]⟩) = true := by
  have h : ByteArray.extract (adrB Ec.gX Ec.gY) 0 4 = ⟨#[126, 95, 69, 82]⟩ := by
    rw [← strB_tl (ByteArray.extract _ _ _), tl_extract, List.drop_zero, adr_tl, sumG]; rfl
  rw [h]; exact str_self _
set_option maxRecDepth 100000 in
set_option maxHeartbeats 2000000 in
theorem alive7_fn  : FnP Tryd.prog 11 #[] (Marks) (.bool true) := by
  refine FnP.intro (c := codeOf Tryd.f11) [.tmp 0] 20 Tryd.func11 kr kr kr fun w hpre => ?_
  have H0 := St.start w
  refine rS [.v] H0 kr fun gs1 w1 H1 => ?_
  clear H0
  refine rS [.v, .cp (pre := Marks) address1_fn [] (fun w hb hd => (Marks.oldB hb rfl hpre)), .v, .v, .v, .v, .v] H1 kr fun gs2 w2 H2 => ?_
  clear H1
  have hz := (adr_size Ec.gX Ec.gY)
  refine rS [.v, .v, .v, .v, .v, .e (v := .bool (((ByteArray.size (adrB Ec.gX Ec.gY) : Nat) : Int) == 20)) (v' := .bool true) (bool_eq (beq_iff_eq.2 (by rw [adr_size]; rfl))), .v, .v, .v, .o (ins := [((.tmp 16), .string (adrB Ec.gX Ec.gY)), ((.const (.int .i64 4)), .int .i64 4)]) (v := .string (ByteArray.extract (adrB Ec.gX Ec.gY) 0 4)) (fun ρ o w ho hi => scut_run (t := 9) (kd := .i64) kr (x := (.tmp 16)) (y := (.const (.int .i64 4))) (adrB Ec.gX Ec.gY) 4 ho hi.1 hi.2.1 (by omega) w), .e (v := .bool (ByteArray.toList (ByteArray.extract (adrB Ec.gX Ec.gY) 0 4) == ByteArray.toList (⟨#[126, 95, 69, 82]⟩))) (v' := .bool true) (bool_eq aliveG), .v, .v] H2 kr fun gs3 w3 H3 => ?_
  clear H2
  refine g_ret kr ?_
  show ∃ vs, Res _ _ _ _ vs ∧ _
  refine ⟨[.bool true], (.tmp (.bool true) kr .nil), ?_, H3.below⟩
  rfl
end Go.Proofs.YtmmloghbnpfedaaDoor

namespace Go.Proofs.YtmmloghbnpfedaaDoor
open Go.RowKit
/-- The number that bytes make, the highest first. -/
def sv (l : List UInt8) : Nat := l.foldl (fun n b => 256 * n + b.toNat) 0
theorem foldl_lt : ∀ (l : List UInt8) (n : Nat), l.foldl (fun n b => 256 * n + b.toNat) n < (n + 1) * 256 ^ l.length
  | [], n => by simp
  | b :: l, n => by
    rw [List.foldl_cons, List.length_cons, Nat.pow_succ]
    have h := foldl_lt l (256 * n + b.toNat)
    have hb : b.toNat < 256 := b.toNat_lt
    have h2 : (256 * n + b.toNat + 1) * 256 ^ l.length ≤ ((n + 1) * 256) * 256 ^ l.length := Nat.mul_le_mul_right _ (by omega)
    have e : (n + 1) * (256 ^ l.length * 256) = (n + 1) * 256 * 256 ^ l.length := by rw [Nat.mul_assoc (n + 1) 256, Nat.mul_comm 256]
    omega
/-- Word q of a number. -/
def wi (n q : Nat) : Nat := n / 18446744073709551616 ^ q % 18446744073709551616
end Go.Proofs.YtmmloghbnpfedaaDoor

namespace Go.Proofs.YtmmloghbnpfedaaDoor
open Go.ChangeShapes Go.WideShapes Go.ChangeAt Go.RowKit
set_option linter.unusedVariables false
/-- The number behind k bytes. -/
def fromN (s : ByteArray) (k : Nat) : Nat := sv (s.data.toList.take k) * 256 ^ (s.size - k)
def Holds4 (wr : World) (b : Nat) (n : Nat) : Prop :=
  (wr.cell? ⟨b, 0, none⟩ = some (.int .u64 (w0 n)) ∧ wr.cell? ⟨b, 1, none⟩ = some (.int .u64 (w1 n)) ∧ wr.cell? ⟨b, 2, none⟩ = some (.int .u64 (w2 n)) ∧ wr.cell? ⟨b, 3, none⟩ = some (.int .u64 (w3 n))) ∧
  (wr.frozen? ⟨b, 0, none⟩ = false ∧ wr.frozen? ⟨b, 1, none⟩ = false ∧ wr.frozen? ⟨b, 2, none⟩ = false ∧ wr.frozen? ⟨b, 3, none⟩ = false)
def FInv (w : World) (s : ByteArray) (k : Nat) (wr : World) : Prop := Below w.heap.size w wr ∧ Holds4 wr (w.heap.size + 1) (fromN s k) ∧ Holds4 wr w.heap.size 0
end Go.Proofs.YtmmloghbnpfedaaDoor

namespace Go.Proofs.YtmmloghbnpfedaaDoor
open Go Go.RowKit
set_option linter.unusedVariables false
theorem dAt_dgs (A q : Nat) (h : q < 16) : (dgs A 16).getD q 0 = dg A q := by
  unfold dgs
  simp [List.getD, List.getElem?_map, List.getElem?_range h]
end Go.Proofs.YtmmloghbnpfedaaDoor

namespace Go.Proofs.YtmmloghbnpfedaaDoor
open Go Go.RowKit
set_option linter.unusedVariables false
theorem byte0 (A : Nat) : IntKind.u8.wrap (((dg A 15 / 256 : Nat)) : Int) = Go.Proofs.YtmmloghbnpfedaaDoor.w3 A / 72057594037927936 % 256 := by
  unfold dg w3; rw [wr_u8]; simp only [Nat.reducePow]; omega
theorem byte1 (A : Nat) : IntKind.u8.wrap (((dg A 15 % 256 : Nat)) : Int) = Go.Proofs.YtmmloghbnpfedaaDoor.w3 A / 281474976710656 % 256 := by
  unfold dg w3; rw [wr_u8]; simp only [Nat.reducePow]; omega
theorem byte2 (A : Nat) : IntKind.u8.wrap (((dg A 14 / 256 : Nat)) : Int) = Go.Proofs.YtmmloghbnpfedaaDoor.w3 A / 1099511627776 % 256 := by
  unfold dg w3; rw [wr_u8]; simp only [Nat.reducePow]; omega
theorem byte3 (A : Nat) : IntKind.u8.wrap (((dg A 14 % 256 : Nat)) : Int) = Go.Proofs.YtmmloghbnpfedaaDoor.w3 A / 4294967296 % 256 := by
  unfold dg w3; rw [wr_u8]; simp only [Nat.reducePow]; omega
theorem byte4 (A : Nat) : IntKind.u8.wrap (((dg A 13 / 256 : Nat)) : Int) = Go.Proofs.YtmmloghbnpfedaaDoor.w3 A / 16777216 % 256 := by
  unfold dg w3; rw [wr_u8]; simp only [Nat.reducePow]; omega
theorem byte5 (A : Nat) : IntKind.u8.wrap (((dg A 13 % 256 : Nat)) : Int) = Go.Proofs.YtmmloghbnpfedaaDoor.w3 A / 65536 % 256 := by
  unfold dg w3; rw [wr_u8]; simp only [Nat.reducePow]; omega
theorem byte6 (A : Nat) : IntKind.u8.wrap (((dg A 12 / 256 : Nat)) : Int) = Go.Proofs.YtmmloghbnpfedaaDoor.w3 A / 256 % 256 := by
  unfold dg w3; rw [wr_u8]; simp only [Nat.reducePow]; omega
theorem byte7 (A : Nat) : IntKind.u8.wrap (((dg A 12 % 256 : Nat)) : Int) = Go.Proofs.YtmmloghbnpfedaaDoor.w3 A % 256 := by
  unfold dg w3; rw [wr_u8]; simp only [Nat.reducePow]; omega
theorem byte8 (A : Nat) : IntKind.u8.wrap (((dg A 11 / 256 : Nat)) : Int) = Go.Proofs.YtmmloghbnpfedaaDoor.w2 A / 72057594037927936 % 256 := by
  unfold dg w2; rw [wr_u8]; simp only [Nat.reducePow]; omega
theorem byte9 (A : Nat) : IntKind.u8.wrap (((dg A 11 % 256 : Nat)) : Int) = Go.Proofs.YtmmloghbnpfedaaDoor.w2 A / 281474976710656 % 256 := by
  unfold dg w2; rw [wr_u8]; simp only [Nat.reducePow]; omega
theorem byte10 (A : Nat) : IntKind.u8.wrap (((dg A 10 / 256 : Nat)) : Int) = Go.Proofs.YtmmloghbnpfedaaDoor.w2 A / 1099511627776 % 256 := by
  unfold dg w2; rw [wr_u8]; simp only [Nat.reducePow]; omega
theorem byte11 (A : Nat) : IntKind.u8.wrap (((dg A 10 % 256 : Nat)) : Int) = Go.Proofs.YtmmloghbnpfedaaDoor.w2 A / 4294967296 % 256 := by
  unfold dg w2; rw [wr_u8]; simp only [Nat.reducePow]; omega
theorem byte12 (A : Nat) : IntKind.u8.wrap (((dg A 9 / 256 : Nat)) : Int) = Go.Proofs.YtmmloghbnpfedaaDoor.w2 A / 16777216 % 256 := by
  unfold dg w2; rw [wr_u8]; simp only [Nat.reducePow]; omega
theorem byte13 (A : Nat) : IntKind.u8.wrap (((dg A 9 % 256 : Nat)) : Int) = Go.Proofs.YtmmloghbnpfedaaDoor.w2 A / 65536 % 256 := by
  unfold dg w2; rw [wr_u8]; simp only [Nat.reducePow]; omega
theorem byte14 (A : Nat) : IntKind.u8.wrap (((dg A 8 / 256 : Nat)) : Int) = Go.Proofs.YtmmloghbnpfedaaDoor.w2 A / 256 % 256 := by
  unfold dg w2; rw [wr_u8]; simp only [Nat.reducePow]; omega
theorem byte15 (A : Nat) : IntKind.u8.wrap (((dg A 8 % 256 : Nat)) : Int) = Go.Proofs.YtmmloghbnpfedaaDoor.w2 A % 256 := by
  unfold dg w2; rw [wr_u8]; simp only [Nat.reducePow]; omega
theorem byte16 (A : Nat) : IntKind.u8.wrap (((dg A 7 / 256 : Nat)) : Int) = Go.Proofs.YtmmloghbnpfedaaDoor.w1 A / 72057594037927936 % 256 := by
  unfold dg w1; rw [wr_u8]; simp only [Nat.reducePow]; omega
theorem byte17 (A : Nat) : IntKind.u8.wrap (((dg A 7 % 256 : Nat)) : Int) = Go.Proofs.YtmmloghbnpfedaaDoor.w1 A / 281474976710656 % 256 := by
  unfold dg w1; rw [wr_u8]; simp only [Nat.reducePow]; omega
theorem byte18 (A : Nat) : IntKind.u8.wrap (((dg A 6 / 256 : Nat)) : Int) = Go.Proofs.YtmmloghbnpfedaaDoor.w1 A / 1099511627776 % 256 := by
  unfold dg w1; rw [wr_u8]; simp only [Nat.reducePow]; omega
theorem byte19 (A : Nat) : IntKind.u8.wrap (((dg A 6 % 256 : Nat)) : Int) = Go.Proofs.YtmmloghbnpfedaaDoor.w1 A / 4294967296 % 256 := by
  unfold dg w1; rw [wr_u8]; simp only [Nat.reducePow]; omega
theorem byte20 (A : Nat) : IntKind.u8.wrap (((dg A 5 / 256 : Nat)) : Int) = Go.Proofs.YtmmloghbnpfedaaDoor.w1 A / 16777216 % 256 := by
  unfold dg w1; rw [wr_u8]; simp only [Nat.reducePow]; omega
theorem byte21 (A : Nat) : IntKind.u8.wrap (((dg A 5 % 256 : Nat)) : Int) = Go.Proofs.YtmmloghbnpfedaaDoor.w1 A / 65536 % 256 := by
  unfold dg w1; rw [wr_u8]; simp only [Nat.reducePow]; omega
theorem byte22 (A : Nat) : IntKind.u8.wrap (((dg A 4 / 256 : Nat)) : Int) = Go.Proofs.YtmmloghbnpfedaaDoor.w1 A / 256 % 256 := by
  unfold dg w1; rw [wr_u8]; simp only [Nat.reducePow]; omega
theorem byte23 (A : Nat) : IntKind.u8.wrap (((dg A 4 % 256 : Nat)) : Int) = Go.Proofs.YtmmloghbnpfedaaDoor.w1 A % 256 := by
  unfold dg w1; rw [wr_u8]; simp only [Nat.reducePow]; omega
theorem byte24 (A : Nat) : IntKind.u8.wrap (((dg A 3 / 256 : Nat)) : Int) = Go.Proofs.YtmmloghbnpfedaaDoor.w0 A / 72057594037927936 % 256 := by
  unfold dg w0; rw [wr_u8]; simp only [Nat.reducePow]; omega
theorem byte25 (A : Nat) : IntKind.u8.wrap (((dg A 3 % 256 : Nat)) : Int) = Go.Proofs.YtmmloghbnpfedaaDoor.w0 A / 281474976710656 % 256 := by
  unfold dg w0; rw [wr_u8]; simp only [Nat.reducePow]; omega
theorem byte26 (A : Nat) : IntKind.u8.wrap (((dg A 2 / 256 : Nat)) : Int) = Go.Proofs.YtmmloghbnpfedaaDoor.w0 A / 1099511627776 % 256 := by
  unfold dg w0; rw [wr_u8]; simp only [Nat.reducePow]; omega
theorem byte27 (A : Nat) : IntKind.u8.wrap (((dg A 2 % 256 : Nat)) : Int) = Go.Proofs.YtmmloghbnpfedaaDoor.w0 A / 4294967296 % 256 := by
  unfold dg w0; rw [wr_u8]; simp only [Nat.reducePow]; omega
theorem byte28 (A : Nat) : IntKind.u8.wrap (((dg A 1 / 256 : Nat)) : Int) = Go.Proofs.YtmmloghbnpfedaaDoor.w0 A / 16777216 % 256 := by
  unfold dg w0; rw [wr_u8]; simp only [Nat.reducePow]; omega
theorem byte29 (A : Nat) : IntKind.u8.wrap (((dg A 1 % 256 : Nat)) : Int) = Go.Proofs.YtmmloghbnpfedaaDoor.w0 A / 65536 % 256 := by
  unfold dg w0; rw [wr_u8]; simp only [Nat.reducePow]; omega
theorem byte30 (A : Nat) : IntKind.u8.wrap (((dg A 0 / 256 : Nat)) : Int) = Go.Proofs.YtmmloghbnpfedaaDoor.w0 A / 256 % 256 := by
  unfold dg w0; rw [wr_u8]; simp only [Nat.reducePow]; omega
theorem byte31 (A : Nat) : IntKind.u8.wrap (((dg A 0 % 256 : Nat)) : Int) = Go.Proofs.YtmmloghbnpfedaaDoor.w0 A % 256 := by
  unfold dg w0; rw [wr_u8]; simp only [Nat.reducePow]; omega
def bnI (A q : Nat) : Int := (bn A).getD q 0
theorem byteE (A j : Nat) (h1 : 1 ≤ j) (h2 : j ≤ 16) : IntKind.u8.wrap ((((dgs A 16).getD (j - 1) 0 / 256 : Nat)) : Int) = bnI A (32 - 2 * j) := by
  have h : j = 1 ∨ j = 2 ∨ j = 3 ∨ j = 4 ∨ j = 5 ∨ j = 6 ∨ j = 7 ∨ j = 8 ∨ j = 9 ∨ j = 10 ∨ j = 11 ∨ j = 12 ∨ j = 13 ∨ j = 14 ∨ j = 15 ∨ j = 16 := by omega
  rcases h with rfl | rfl | rfl | rfl | rfl | rfl | rfl | rfl | rfl | rfl | rfl | rfl | rfl | rfl | rfl | rfl
  · rw [dAt_dgs A 0 (by omega)]; exact byte30 A
  · rw [dAt_dgs A 1 (by omega)]; exact byte28 A
  · rw [dAt_dgs A 2 (by omega)]; exact byte26 A
  · rw [dAt_dgs A 3 (by omega)]; exact byte24 A
  · rw [dAt_dgs A 4 (by omega)]; exact byte22 A
  · rw [dAt_dgs A 5 (by omega)]; exact byte20 A
  · rw [dAt_dgs A 6 (by omega)]; exact byte18 A
  · rw [dAt_dgs A 7 (by omega)]; exact byte16 A
  · rw [dAt_dgs A 8 (by omega)]; exact byte14 A
  · rw [dAt_dgs A 9 (by omega)]; exact byte12 A
  · rw [dAt_dgs A 10 (by omega)]; exact byte10 A
  · rw [dAt_dgs A 11 (by omega)]; exact byte8 A
  · rw [dAt_dgs A 12 (by omega)]; exact byte6 A
  · rw [dAt_dgs A 13 (by omega)]; exact byte4 A
  · rw [dAt_dgs A 14 (by omega)]; exact byte2 A
  · rw [dAt_dgs A 15 (by omega)]; exact byte0 A
theorem byteO (A j : Nat) (h1 : 1 ≤ j) (h2 : j ≤ 16) : IntKind.u8.wrap ((((dgs A 16).getD (j - 1) 0 % 256 : Nat)) : Int) = bnI A (32 - 2 * j + 1) := by
  have h : j = 1 ∨ j = 2 ∨ j = 3 ∨ j = 4 ∨ j = 5 ∨ j = 6 ∨ j = 7 ∨ j = 8 ∨ j = 9 ∨ j = 10 ∨ j = 11 ∨ j = 12 ∨ j = 13 ∨ j = 14 ∨ j = 15 ∨ j = 16 := by omega
  rcases h with rfl | rfl | rfl | rfl | rfl | rfl | rfl | rfl | rfl | rfl | rfl | rfl | rfl | rfl | rfl | rfl
  · rw [dAt_dgs A 0 (by omega)]; exact byte31 A
  · rw [dAt_dgs A 1 (by omega)]; exact byte29 A
  · rw [dAt_dgs A 2 (by omega)]; exact byte27 A
  · rw [dAt_dgs A 3 (by omega)]; exact byte25 A
  · rw [dAt_dgs A 4 (by omega)]; exact byte23 A
  · rw [dAt_dgs A 5 (by omega)]; exact byte21 A
  · rw [dAt_dgs A 6 (by omega)]; exact byte19 A
  · rw [dAt_dgs A 7 (by omega)]; exact byte17 A
  · rw [dAt_dgs A 8 (by omega)]; exact byte15 A
  · rw [dAt_dgs A 9 (by omega)]; exact byte13 A
  · rw [dAt_dgs A 10 (by omega)]; exact byte11 A
  · rw [dAt_dgs A 11 (by omega)]; exact byte9 A
  · rw [dAt_dgs A 12 (by omega)]; exact byte7 A
  · rw [dAt_dgs A 13 (by omega)]; exact byte5 A
  · rw [dAt_dgs A 14 (by omega)]; exact byte3 A
  · rw [dAt_dgs A 15 (by omega)]; exact byte1 A
theorem bn_take (A k : Nat) (h : k + 2 ≤ 32) : List.take (k + 2) (bn A) = List.take k (bn A) ++ [bnI A k, bnI A (k + 1)] := by
  have hl : (bn A).length = 32 := rfl
  rw [List.take_succ_eq_append_getElem (show k + 1 < (bn A).length by omega), List.take_succ_eq_append_getElem (show k < (bn A).length by omega), List.append_assoc]
  simp [bnI, List.getD_eq_getElem?_getD, List.getElem?_eq_getElem (show k < (bn A).length by omega), List.getElem?_eq_getElem (show k + 1 < (bn A).length by omega)]
theorem bn_map (A k : Nat) (h : k + 2 ≤ 32) : List.map (Value.int .u8) (List.take (k + 2) (bn A)) = List.map (Value.int .u8) (List.take k (bn A)) ++ [.int .u8 (bnI A k), .int .u8 (bnI A (k + 1))] := by rw [bn_take A k h, List.map_append]; rfl
set_option maxRecDepth 100000 in
set_option maxHeartbeats 2000000 in
theorem refbytes_fn (A : Nat) (hA : A < big) : Fn Tryd.prog 34 #[uv A] (.string (bs A)) := by
  refine Fn.intro (c := codeOf Tryd.f34) [.tmp 2] 30 Tryd.func34 kr kr kr fun w => ?_
  have H0 := St.start w
  refine rS [.b, .v] H0 kr fun gs1 w1 H1 => ?_
  clear H0
  refine g_sreg [0, 1, 2] kr kr ?_
  refine rp [.l 0] H1 kr fun gs2 w2 H2 => ?_
  show WPs _ _ _ _ [1, 2] _ _
  clear H1
  refine s_callS H2 (some 7) 35 #[uv A] (fun _ => True) 3 1 (fun curZ capZ nZ lZ => (nZ = List.length lZ ∧ Rw 1 curZ capZ nZ (cellsD lZ) ∧ Ok lZ ∧ (lZ = dgs A 16 ∧ vl lZ = A ∧ List.length lZ = 16))) (of_fn A hA) trivial kr kr ?_
  intro b_1 cap_2 n_3 cur_4 l_5 w3 H3 hs_6; clear H2
  obtain ⟨hs_6n, hs_6r, hs_6o, hs_6s⟩ := hs_6
  obtain ⟨hs_6a, hs_6b, hs_6c⟩ := hs_6s
  refine rp [.v] H3 kr fun gs4 w4 H4 => ?_
  show WPs _ _ _ _ [] _ _
  clear H3
  refine s_nil ?_
  refine rS [.nw (fun b => .slice (some ⟨b, 0, none⟩) 0 0) #[] 5, .v] H4 kr fun gs5 w5 H5 => ?_
  clear H4
  refine g_seq kr ?_
  refine rS [.v] H5 kr fun gs6 w6 H6 => ?_
  clear H5
  refine g_block 0 kr ?_
  have HL1 : St w.heap.size w w6 [(b_1, Obj.cells cur_4 3 (0, 0)), ((gs1 0).b, Obj.cells (Value.cells (uv A)) 24 (0, 0)), ((gs5 0).b, Obj.cells #[] 5 (0, 0))] := H6.as kr
  clear H6
  have HD2 : St w.heap.size w w6 [(b_1, Obj.cells cur_4 3 (0, 0)), ((gs5 0).b, Obj.cells #[] 5 (0, 0))] := HL1.sub (List.Sublist.cons_cons _ (List.Sublist.cons _ (List.Sublist.cons_cons _ List.Sublist.slnil)))
  have HF3 : St w.heap.size w w6 [(b_1, Obj.cells cur_4 3 (0, 0)), ((gs5 0).b, Obj.cells #[] 5 (0, 0))] := HD2.front 0 kr kr
  have HF4 : St w.heap.size w w6 [((gs5 0).b, Obj.cells #[] 5 (0, 0)), (b_1, Obj.cells cur_4 3 (0, 0))] := HF3.front 1 kr kr
  refine g_loop kr (fun mz ρ ww => ∃ (b : Nat) (cap : Nat) (n : Nat) (cur : Array Value) (j : Nat), j = mz ∧ (n = 32 - 2 * j) ∧ (Rw 1 cur cap n (List.map (Value.int .u8) (List.take (32 - 2 * j) (bn A)))) ∧ (j ≤ 16) ∧ St w.heap.size w ww [(b, Obj.cells cur 5 (0, 0)), (b_1, Obj.cells cur_4 3 (0, 0))] ∧ Is [(0, uv A), (1, .pointer (some ⟨(gs1 0).b, 0, none⟩)), (2, .string (⟨#[]⟩)), (3, .slice (some ⟨b_1, 0, none⟩) n_3 cap_2), (4, .slice (some ⟨b, 0, none⟩) n cap), (5, .int .i64 (((j : Nat) : Int) - 1))] ρ) 16 ⟨(gs5 0).b, 0, 0, #[], 16, rfl, rfl, (Rw.lit #[] 0 rfl (by unfold maxLen; omega)), (by omega), HF4, (Is.of ⟨kr, kr, kr, kr, kr, kr, trivial⟩)⟩ ?_
  clear HF4
  rintro _ _ w7 ⟨b, cap, n, cur, j, rfl, hn, hr, hj, H7, _, rfl⟩
  refine g_seq kr ?_
  refine g_sreg [0, 1] kr kr ?_
  refine rp [.v] H7 kr fun gs8 w8 H8 => ?_
  show WPs _ _ _ _ [1] _ _
  clear H7
  by_cases hc5 : (((j : Nat) : Int) - 1 : Int) ≥ 0
  · skip
    refine rp [.e (v := .bool (decide (0 ≤ ((j : Nat) : Int) - 1))) (v' := .bool true) (bool_eq (decide_eq_true (by omega)))] H8 kr fun gs9 w9 H9 => ?_
    show WPs _ _ _ _ [] _ _
    clear H8
    refine s_nil ?_
    refine g_cond_t kr kr ?_
    refine g_skip kr ?_
    show WP _ _ _ _ _ _
    refine g_seq kr ?_
    refine g_block 1 kr ?_
    refine g_now 5 (v := .int .i64 (((j : Nat) : Int) - 1)) (v' := .int .i64 ((j - 1 : Nat) : Int)) (int_eq (show (((j : Nat) : Int) - 1) = ((j - 1 : Nat) : Int) from by omega)) kr ?_
    refine g_now 9 (v := .int .i64 (((j : Nat) : Int) - 1)) (v' := .int .i64 ((j - 1 : Nat) : Int)) (int_eq (show (((j : Nat) : Int) - 1) = ((j - 1 : Nat) : Int) from by omega)) kr ?_
    have hdd := ok_getD hs_6o (j - 1)
    have HL6 : St w.heap.size w w9 [(b, Obj.cells cur 5 (0, 0)), (b_1, Obj.cells cur_4 3 (0, 0))] := H9.as kr
    clear H9
    refine D2.g_draw0 [0, 1, 2, 3, 4, 5, 6, 7, 8, 9, 10, 11, 12, 13, 14, 15] [((some 13), fun _ => .slice (some ⟨b, 0, none⟩) n cap), ((some 14), fun _ => .slice (some ⟨b_1, 0, none⟩) n_3 cap_2), ((some 15), fun _ => .int .i64 ((j - 1 : Nat) : Int)), ((some 16), fun _ => .pointer (some ⟨b_1, 0 + (j - 1) * 1, none⟩)), ((some 17), fun _ => .int .i64 ((List.getD l_5 (j - 1) 0 : Nat) : Int)), ((some 18), fun _ => .int .i64 (((List.getD l_5 (j - 1) 0) / 256 : Nat) : Int)), ((some 19), fun _ => .int .u8 (bnI A (32 - 2 * j))), ((some 20), fun _ => .slice (some ⟨b_1, 0, none⟩) n_3 cap_2), ((some 21), fun _ => .int .i64 ((j - 1 : Nat) : Int)), ((some 22), fun _ => .pointer (some ⟨b_1, 0 + (j - 1) * 1, none⟩)), ((some 23), fun _ => .int .i64 ((List.getD l_5 (j - 1) 0 : Nat) : Int)), ((some 24), fun _ => .int .i64 (((List.getD l_5 (j - 1) 0) % 256 : Nat) : Int)), ((some 25), fun _ => .int .u8 (bnI A (32 - 2 * j + 1))), ((some 26), fun b => .slice (some ⟨b.b, 0, none⟩) 2 2), ((some 27), fun y => .slice (some ⟨y.b, 0, none⟩) y.n y.cap), ((some 4), fun y => .slice (some ⟨y.b, 0, none⟩) (y.n) (y.cap))] (D2.Pre w.heap.size w (fun L g => [(true, (bif L 14 then ((g 14).b, Obj.cells ((g 14).cur) 5 (0, 0)) else (b, Obj.cells cur 5 (0, 0)))), (true, (b_1, Obj.cells cur_4 3 (0, 0))), (L 13, ((g 13).b, Obj.cells #[.int .u8 (bnI A (32 - 2 * j)), .int .u8 (bnI A (32 - 2 * j + 1))] 5 (0, 0)))]) (fun L g => (L 14 = true → ((g 14).n = n + 2 ∧ Rw 1 (g 14).cur (g 14).cap (n + 2) (List.map (Value.int .u8) (List.take (32 - 2 * j + 2) (bn A))))) ∧ (L 15 = true → g 15 = g 14) ∧ True)) kr kr kr ⟨D2.StE.of HL6.drew _ kr, ⟨(fun h => nomatch h), (fun h => nomatch h), trivial⟩⟩ ⟨?_, ?_, ?_, ?_, ?_, ?_, ?_, ?_, ?_, ?_, ?_, ?_, ?_, ?_, ?_, ?_, trivial⟩ ?_
    · exact D2.gv_val (fun _ _ _ h => h) (fun g w => by kernel_rfl)
    · exact D2.gv_val (fun _ _ _ h => h) (fun g w => by kernel_rfl)
    · exact D2.gv_val (fun _ _ _ h => h) (fun g w => by kernel_rfl)
    · exact D2.gv_op (fun _ _ _ h => h) _ (fun g => by kernel_rfl) (fun g => (fun o w ho => idxS_run (kd := .i64) (t := 60) (e := 3) (size := 1) (bytes := 8) kr (x := (.tmp 14)) (y := (.tmp 15)) b_1 0 n_3 cap_2 (j - 1) ho kr kr (by omega) w))
    · exact D2.gv_load1 3 (.tmp 16) 1 (fun g => b_1) (fun g => 0 + (j - 1) * 1) (fun g => cur_4) 3 (0, 0) (fun _ _ _ h => h) (fun g => by kernel_rfl) (fun g => by kernel_rfl) (fun L g hN => kr) kr (fun L g hN hF => by exact (hs_6r.atD (by omega) hs_6n))
    · exact D2.gv_valE (fun _ _ _ h => h) (V' := .int .i64 (IntKind.i64.wrap (((List.getD l_5 (j - 1) 0 : Nat) : Int).tdiv 256))) (fun g w => by kernel_rfl) (int_eq (quoN_i64 (a := List.getD l_5 (j - 1) 0) (b := 256) (by omega)))
    · exact D2.gv_valE (fun _ _ _ h => h) (V' := .int .u8 (IntKind.u8.wrap ((((List.getD l_5 (j - 1) 0) / 256 : Nat) : Int)))) (fun g w => by kernel_rfl) (int_eq (by rw [hs_6a]; exact byteE A j (by omega) (by omega)))
    · exact D2.gv_val (fun _ _ _ h => h) (fun g w => by kernel_rfl)
    · exact D2.gv_val (fun _ _ _ h => h) (fun g w => by kernel_rfl)
    · exact D2.gv_op (fun _ _ _ h => h) _ (fun g => by kernel_rfl) (fun g => (fun o w ho => idxS_run (kd := .i64) (t := 60) (e := 3) (size := 1) (bytes := 8) kr (x := (.tmp 20)) (y := (.tmp 21)) b_1 0 n_3 cap_2 (j - 1) ho kr kr (by omega) w))
    · exact D2.gv_load1 3 (.tmp 22) 1 (fun g => b_1) (fun g => 0 + (j - 1) * 1) (fun g => cur_4) 3 (0, 0) (fun _ _ _ h => h) (fun g => by kernel_rfl) (fun g => by kernel_rfl) (fun L g hN => kr) kr (fun L g hN hF => by exact (hs_6r.atD (by omega) hs_6n))
    · exact D2.gv_valE (fun _ _ _ h => h) (V' := .int .i64 (Int.tmod ((List.getD l_5 (j - 1) 0 : Nat) : Int) 256)) (fun g w => by kernel_rfl) (int_eq (remN (List.getD l_5 (j - 1) 0) 256))
    · exact D2.gv_valE (fun _ _ _ h => h) (V' := .int .u8 (IntKind.u8.wrap ((((List.getD l_5 (j - 1) 0) % 256 : Nat) : Int)))) (fun g w => by kernel_rfl) (int_eq (by rw [hs_6a]; exact byteO A j (by omega) (by omega)))
    · exact D2.gv_new (fun b => .slice (some ⟨b, 0, none⟩) 2 2) #[.int .u8 (bnI A (32 - 2 * j)), .int .u8 (bnI A (32 - 2 * j + 1))] 5 2 (fun g w => by kernel_rfl) (fun L g b hN => kr) (fun L g b hN hF => hF)
    · exact D2.gv_append 69 5 1 1 (.tmp 13) (.tmp 26) 0 2 (fun g => b) (fun g => (g 13).b) (fun g => n) (fun g => 2) (fun g => cap) (fun g => 2) (fun g => cur) (fun g => #[.int .u8 (bnI A (32 - 2 * j)), .int .u8 (bnI A (32 - 2 * j + 1))]) 5 (0, 0) (fun g => (List.map (Value.int .u8) (List.take (32 - 2 * j) (bn A)))) (fun g => [.int .u8 (bnI A (32 - 2 * j)), .int .u8 (bnI A (32 - 2 * j + 1))]) (fun g => by kernel_rfl) kr (fun g => by kernel_rfl) (fun L g hN => (by have hL14 : L 14 = false := hN.1; exact D2.ent_get' (p := true) (e := (bif L 14 then ((g 14).b, Obj.cells ((g 14).cur) 5 (0, 0)) else (b, Obj.cells cur 5 (0, 0)))) kr (by rfl) (by simp only [hL14, cond_true, cond_false] <;> rfl))) (fun L g hN hF => by exact hr) (fun g => by kernel_rfl) (fun L g hN => (by have hL13 : L 13 = true := (hN.bef 13 kr); exact D2.ent_get' (p := L 13) (e := ((g 13).b, Obj.cells #[.int .u8 (bnI A (32 - 2 * j)), .int .u8 (bnI A (32 - 2 * j + 1))] 5 (0, 0))) kr (by exact hL13) (by simp only [hL13, cond_true, cond_false] <;> rfl))) (fun L g hN hF => by exact ⟨(by rfl), (by rfl), (by intro u hu; simp at hu; first | exact hu.elim | (rcases hu with rfl | rfl | rfl | rfl <;> rfl) | (rcases hu with rfl | rfl <;> rfl) | (subst hu; rfl)), (by omega), (by unfold maxLen; omega)⟩) (fun L g y hN => kr) (fun L g y hN hF hyn hyr => by have hnew := (show (y.n = n + 2 ∧ Rw 1 y.cur y.cap (n + 2) (List.map (Value.int .u8) (List.take (32 - 2 * j + 2) (bn A)))) from ⟨hyn, by rw [bn_map A _ (by omega)]; exact hyr⟩); exact ⟨fun _ => hnew, (fun hx => nomatch (Eq.trans (Eq.symm (show L 15 = true from hx)) (hN.post 15 kr))), trivial⟩)
    · exact D2.gv_valG (fun g => g 14) (fun L g w hN hp => ⟨hp.1, hp.2.1, fun _ => rfl, trivial⟩) (fun g w => by kernel_rfl)
    intro L0 G10 w10 hall HL; clear HL6
    have H10 : St w.heap.size w w10 [((G10 14).b, Obj.cells ((G10 14).cur) 5 (0, 0)), (b_1, Obj.cells cur_4 3 (0, 0)), ((G10 13).b, Obj.cells #[.int .u8 (bnI A (32 - 2 * j)), .int .u8 (bnI A (32 - 2 * j + 1))] 5 (0, 0))] := by have e13 := hall 13 (Nat.le_of_ble_eq_true kr); have e14 := hall 14 (Nat.le_of_ble_eq_true kr); have e15 := hall 15 (Nat.le_of_ble_eq_true kr); have hS := D2.StE.st HL.1; simp only [e13, e14, e15, cond_true, D2.pres] at hS; exact hS
    have hf14_10 : ((G10 14).n = n + 2 ∧ Rw 1 (G10 14).cur (G10 14).cap (n + 2) (List.map (Value.int .u8) (List.take (32 - 2 * j + 2) (bn A)))) := HL.2.1 (hall 14 (Nat.le_of_ble_eq_true kr))
    have hf15_10 : G10 15 = G10 14 := HL.2.2.1 (hall 15 (Nat.le_of_ble_eq_true kr))
    clear HL hall
    rw [← hf15_10] at H10 hf14_10
    show WP _ _ _ _ _ _
    refine g_keep [0, 1, 2, 3, 4, 5, 10] fun ρ1 => ?_
    refine rL [.v, .e (v := .int .i64 (IntKind.i64.wrap (((j - 1 : Nat) : Int) - 1))) (v' := .int .i64 (((j - 1 : Nat) : Int) - 1)) (int_eq (wrap_i64 (by omega) (by omega))), .v] H10 kr fun gs11 w11 H11 => ?_
    clear H10
    have HL7 : St w.heap.size w w11 [((G10 15).b, Obj.cells ((G10 15).cur) 5 (0, 0)), (b_1, Obj.cells cur_4 3 (0, 0)), ((G10 13).b, Obj.cells #[.int .u8 (bnI A (32 - 2 * j)), .int .u8 (bnI A (32 - 2 * j + 1))] 5 (0, 0))] := H11.as kr
    clear H11
    have HD8 : St w.heap.size w w11 [((G10 15).b, Obj.cells ((G10 15).cur) 5 (0, 0)), (b_1, Obj.cells cur_4 3 (0, 0))] := HL7.sub (List.Sublist.cons_cons _ (List.Sublist.cons_cons _ (List.Sublist.cons _ List.Sublist.slnil)))
    show ∃ m, _ ∧ _
    exact ⟨_, (by omega), (G10 15).b, (G10 15).cap, (G10 15).n, (G10 15).cur, (j - 1), rfl, (by have h9 := hf14_10.1; omega), (by have h9 := hf14_10; rw [show 32 - 2 * (j - 1) = 32 - 2 * j + 2 by omega, h9.1]; exact h9.2), (by omega), HD8, (Is.of ⟨kr, kr, kr, kr, kr, kr, trivial⟩)⟩
  · skip
    refine rp [.e (v := .bool (decide (0 ≤ ((j : Nat) : Int) - 1))) (v' := .bool false) (bool_eq (decide_eq_false (by omega)))] H8 kr fun gs12 w12 H12 => ?_
    show WPs _ _ _ _ [] _ _
    clear H8
    refine s_nil ?_
    refine g_cond_f kr kr ?_
    refine g_exit 0 kr ?_
    show WP _ _ _ _ _ _
    obtain rfl : j = 0 := by omega
    refine g_sreg [0, 1, 2] kr kr ?_
    refine rp [.v] H12 kr fun gs13 w13 H13 => ?_
    show WPs _ _ _ _ [1, 2] _ _
    clear H12
    refine s_bytesStr H13 (some 29) 69 9 5 (.tmp 28) 0 b n cap cur 5 (0, 0) (bn A) kr kr kr kr kr kr kr hr ?_
    refine rp [.v] H13 kr fun gs14 w14 H14 => ?_
    show WPs _ _ _ _ [] _ _
    clear H13
    refine s_nil ?_
    refine g_ret kr ?_
    show ∃ vs, Res _ _ _ _ vs ∧ _
    refine ⟨[.string (strOfNums (bn A))], (.tmp (.string (strOfNums (bn A))) kr .nil), ?_, H14.below⟩
    rfl
end Go.Proofs.YtmmloghbnpfedaaDoor

namespace Go.Proofs.Kec
set_option maxRecDepth 100000
def e0 : List B64 := [1, 0, 0, 0, 0, 0, 0, 0, 0, 0, 0, 0, 0, 0, 0, 0, 9223372036854775808, 0, 0, 0, 0, 0, 0, 0, 0]
def e1 : List B64 := [4398046511105, 17592186044416, 4398046543872, 0, 17592186077184, 8, 52776560230400, 1152921504606846984, 52776558133248, 1152921504608944128, 2, 544, 262144, 514, 262176, 268436480, 68719493120, 1024, 268451840, 68719476736, 2305844108725321728, 2199023255552, 1099511627780, 2305845208236949504, 4]
def e2 : List B64 := [3904711243048682726, 1207872589841957126, 3184368193241127169, 12971028319727649889, 10286551402689075458, 1259783720018274, 12214679202016067586, 9224121225299901428, 2992272534782738451, 9800689182623078597, 4611726720294328428, 11685850236297012, 1495365005022904395, 15813382930697286, 6111808659584533265, 124981832595311936, 2684240834651972352, 4912301736543682948, 2488263262048755776, 4778390286886047620, 1163347847091065233, 16868443555924821730, 154580546982776916, 15564660919037354401, 2456770817776948750]
def e3 : List B64 := [8289102824591434380, 2650440079073489379, 11459863657423534455, 3078203046191370419, 10243614441579508732, 6715684478468316285, 9021721613749738627, 16323907559936263589, 14712371453287876238, 13207516449244145029, 6716728777335539109, 2516792122779427716, 5461754274945430388, 3341045827627689583, 3296329752392194682, 14297203439033465259, 11493424483223189197, 10504499887245279853, 3308135633588744113, 5098721825536174192, 8664368315221462042, 11716894083276002874, 2098923162028634215, 7303567510403455548, 4883930803803657273]
def e4 : List B64 := [9145702616912342758, 16632607361196628137, 5807045512169203855, 6548049296825423573, 2911560703121806936, 12452414146356170408, 431667818003843456, 4945739612319476974, 12460092556240016733, 7658648394962756264, 13350366495830902207, 1953387479264944757, 17420282858972716739, 1215582556029742168, 7692344429658740155, 17977349082556873670, 1858614526669458582, 10964871947398476332, 15514956647893279288, 179932933774914631, 17508529487041048502, 7503018368851633981, 929261442150911620, 2851383533632874710, 7153482467733786193]
def e5 : List B64 := [3217695626026700231, 7228520851561084131, 7840336919730310393, 6868346474795808920, 5817928043512098185, 483728965144457366, 2094125954139152251, 13290615271988912878, 6116732081573619054, 12404040371124941288, 5210583702804515577, 6569965374713754428, 9650717987591950737, 1838917144515589093, 6206879949013857101, 13836215650485784034, 2777104299206127432, 9162378715153818446, 2579248593664187030, 4649761399498197408, 4345672674621089333, 17727600499527599874, 15951120162837397783, 1486441073599636038, 7526975559096822753]
def e6 : List B64 := [248066060412482913, 10809642231442205384, 5504895099598155415, 2584332703152910123, 10449879252273190592, 13355132533173292400, 16887410369553470650, 1390404604944908871, 10467819199160078225, 12586248386544345989, 13287309445471910499, 9168388512907289048, 10117223767413104261, 15763460986669702239, 10756186891316440689, 4278624213941474887, 14275455272196532991, 18250878328984007816, 4482727192120861170, 9721683024389909677, 9163772564863624264, 8489753604216688595, 816201186782976613, 1144184611068540487, 4128866423754115227]
def e7 : List B64 := [18402963122672406245, 17859514631694764789, 14428715717768966649, 457031613351869429, 10894224858909162407, 8575137199002047859, 17809232792270138362, 4808146580191774126, 14627578404221294643, 7601016815347446848, 8500045888007553416, 2044036892383418708, 15900193137531961059, 8052354359019095129, 17216125304898466993, 16993524951797960044, 5609346022144275528, 15760809127494505806, 8446841439649264471, 18088848446523253189, 8270102827973632420, 9423595931552552983, 16228370102390044934, 12045389637071608679, 7056785534201200939]
def e8 : List B64 := [12753376061805899333, 2111981560556758208, 13166824882716378987, 12172034681548868104, 16455514320282466043, 3265329870635658802, 5063956176412677616, 15307341599108955523, 17042901249887048594, 15606817482875957131, 12401061165045441397, 14112825205738012444, 7528182654139171963, 679949399121675847, 16110029214220444666, 16075443586991710645, 11809122633193920135, 824682708434772612, 9546558219524207792, 14570838741769169544, 16015354101246307490, 14937681164076894612, 16170554185854218030, 13411014959602602192, 17659497305141992864]
def e9 : List B64 := [16607373423488820546, 2151422635867277830, 6572340985991069695, 14653210170250470996, 11791760579977573355, 4065323483469060406, 7283395855969466639, 13325119192580981824, 240953767092294249, 4061085087821419309, 15280882476846897925, 2750505582437592369, 2704748849273168765, 6327325585883090832, 2013544036530064293, 11337392647161457476, 9951477293767922198, 15216922623802272473, 4089965193502969186, 10262383148774694472, 11601735218912882699, 3910853304622802100, 1874362684601583732, 14635665072728267742, 11912924353201045756]
def e10 : List B64 := [12443570198016410408, 15073234423324879037, 16538284292177595253, 770694436111563450, 4661629519587471725, 4134871225352118654, 4776995384142827210, 15478826137546518068, 18066846374717646578, 14270287239788042585, 2910516952809473229, 949633455367371438, 5615595303185522976, 12732927536893994306, 1974801021048620803, 8494920415961791039, 4379175404697166052, 779617988408921914, 11515541233266066687, 10851941993204617098, 17521537655693928411, 15329457299099953713, 8642253880621323691, 13248831312752232176, 9167496934457325936]
def e11 : List B64 := [2784670699769870044, 12458046501618073558, 14125649387247164462, 2371862000334975945, 17449621713181921370, 18084473122477533316, 10555653529814021168, 1286435700208258660, 7900972333389060382, 13695579594619900831, 14617506584737283108, 16851691067561729428, 8573020770547936416, 15064676017279082892, 17197415585843555401, 15776906507246342037, 9813731578541049216, 12800378173865872612, 15297178561593300238, 11409222445058284577, 15122744860265765604, 5517594499147034503, 7999930204173150732, 15392201373165449930, 12679951944464799674]
def e12 : List B64 := [16291156846118844451, 9692757143822035377, 17748466164917623592, 18297723408675364712, 5768111022144358297, 5032647943730211172, 240223639921337555, 3573006762761062315, 4418081664467045005, 14050874540553342331, 10482449059741954494, 13992079101437996990, 2435977504749834253, 10982271880190543118, 11974228964236697225, 15115158931448373871, 12735725188152392398, 7627438592320754813, 272652177933322935, 14245570792134504674, 8744534987003128554, 11356875620725102920, 8928226865784257667, 1524680525473545806, 2896276078172484414]
def e13 : List B64 := [6665051101374537130, 5495771786181444414, 12537915500868265617, 17060231565289718284, 15561324751258473602, 7930404497004154902, 8849067938713931991, 6658565175150454632, 5282570462567558459, 11559245968373515903, 16566202011258081367, 674556369021680881, 3345820050997912695, 4671081468424751526, 7757084567577850828, 8502623553496775840, 3955259317059675661, 8106862701908889232, 6703677908344537012, 6580670985836187516, 9403347355581011122, 7905832091148999944, 5292914193962333749, 11887527448341663821, 16621059256266911255]
def e14 : List B64 := [10716439878011516281, 15967399425266700355, 12076011584974892592, 16248055671756128434, 10643350871698206347, 10594214463648586357, 7116189751946765041, 7750545512743031734, 18247594507314572309, 7378220163111131807, 14999407657225623861, 7928369854754402115, 17844316675013910964, 15171488774331430663, 7614485196347525793, 11605212344200916950, 15157978784662469348, 11718935584924530645, 5535191362811376685, 14772790920984104005, 10448524766163212306, 4825435813474788858, 17005218769600310333, 13954843883325706830, 4929584870877703474]
def e15 : List B64 := [1319998251610336165, 5389285008839651730, 9332282829561635961, 9409139626766683675, 6470951802939581099, 17252944717417249465, 17165277815629499916, 3963403808094557162, 14184007887274758158, 9596262242135920298, 10210589069919534081, 14250294093777783787, 8039572666876461379, 2368146889392807232, 1812659259149163614, 16807801796138206746, 11647457970582845122, 6166919066429959443, 1147388708393040668, 1303057136894895726, 1903883279373033606, 2131164935238924974, 4953436646693238779, 2641527683450144340, 2816144971954173157]
def e16 : List B64 := [13881630218582485081, 16617007106358093478, 8370579830314427868, 1713224054433245973, 13627151018451951556, 10871226027031491916, 4699765345504525133, 4286537013572583285, 17310739681736795836, 99398265043109114, 3545503971586557412, 7556410075305792076, 15679693291762405836, 2729857338541306968, 1921741768395976932, 14263894358714132532, 11009055271111244000, 845971141115169140, 13270182711450419347, 17079085579333711468, 10503578552956300308, 6627023678281057244, 5403374185706104778, 6659075922477107110, 8592110512596117136]
def e17 : List B64 := [8416411914720361245, 3448560865030073472, 3919536279875559698, 5573607003621883193, 984465805306826053, 15024535068875014392, 3681621266475130062, 9998293171501847344, 14839532389281272683, 533539312507974110, 16824156633091540864, 16389535479321433015, 13782841269213835654, 4122073509668400045, 7683819886385778366, 3592048281988696895, 8681389608761840015, 17598965942532483458, 16560167496673567885, 8777595276064781908, 9594426284182731638, 13108639988284796722, 15254667260581302934, 2433642677842468666, 1064465948127417059]
def e18 : List B64 := [534296193886098135, 3695287213502380591, 11532049842336470888, 17974523857070849737, 12954850201481240735, 5716772798672216727, 2583007236467463893, 10427970853733301948, 700439106234402195, 7192762512095310632, 4383158246966191391, 18315691205404178545, 18043931791961935518, 16287759594864535142, 15352249056180256782, 18367201066277418680, 6748360514621293390, 9837915013220625665, 12422998273549796530, 12621865645966804366, 4594662070598184093, 8622633690173154066, 12904333489760771204, 385777527094370260, 6037929239432104378]
def e19 : List B64 := [17242234307811427515, 7298945131924620938, 12512959417444303430, 16244176617175768424, 3826401358280227816, 8589395152097341129, 18321848104009695025, 11680515094655873510, 3680928998899718032, 5209258824295493052, 14420353876404795782, 13596398079702832869, 12202387532391994898, 721433745371800063, 9896885544113945439, 6680377346781173919, 5332700740124661618, 13318027231967735991, 16563930016949065197, 220674366890030230, 6699529091897125322, 2739507427232859638, 15711608159680198358, 15839554650221487652, 11575241304029856712]
def e20 : List B64 := [16702010266589328720, 11785696339686387325, 16232021429448662837, 4621936354538492110, 16839935569400247044, 3516106972774747115, 11724013555230036502, 7480607343544516906, 14577750021349342573, 2421771942493426498, 8252672638237332873, 8249004131460997133, 778286484670419507, 5467066643722607965, 1760155417958766819, 5539793005320924506, 11397623340431491872, 12864342638065520035, 12083379459737583179, 14892306294104856657, 14623186648705301253, 5128653977437664874, 14734488673449380773, 17399174579470271659, 14787652485258740643]
def e21 : List B64 := [16488390307541943305, 17559693018003947265, 9108537271992078214, 10423841811661870631, 3040236185740504183, 857882767517711827, 3492714315419207287, 2789125034051568249, 81920884436605105, 13331759205602966770, 16754353820981313164, 6741055624195280880, 5263857701266955350, 4627132801428790548, 7422782385993692804, 3730241882621406845, 4399100234652493596, 15025317568737056282, 4375033872217880358, 3359671850727625416, 1362862387812853932, 8387689881403993048, 8688947589982045175, 11585555971117405732, 16397411802621700634]
def e22 : List B64 := [7468857592912166551, 7509402213287554103, 5920166622310057021, 1245229838719934601, 11412606850931652734, 4778997266118777220, 13503050704312239975, 9078797036224177493, 9046123609337478232, 2279923682132033021, 968663569872637247, 12528780394224896734, 15109038439802043243, 2514154137644936742, 13074992029672084631, 9981334051720804394, 10929166993946436931, 10786302343937411402, 2172383237928275479, 15222838835840319035, 6535328264755286323, 3021073620629705380, 6914764477367934026, 14161662948158972437, 2646073473019538392]
def e23 : List B64 := [13219969621820782240, 3226093193424914092, 10846161881167012984, 13470522419822434072, 9395429576182681946, 8530498048516093610, 5651939854162289461, 7915235748700633099, 16590736201521082154, 11443586452577361644, 11578784407731530241, 12555284199035474007, 103191304442796045, 2407050918456829886, 8809156603158525029, 15242461923984447565, 13645658932555888328, 11207932644415108528, 2606492158503956003, 17367323008410274790, 14914538695926853805, 15728690031541589181, 7389391625128953151, 12128506732059288731, 17622300515349969486]
def e24 : List B64 := [4333579421379646149, 13836122230913597074, 4262519377828905189, 8116759062988257915, 8406387447366859581, 14671339323370021561, 2243375101132795228, 9371364203318886753, 9347994793612953298, 12814238161780307547, 4391692840257016808, 4309499098775122448, 13438072403645551266, 18018124564071650747, 4323130096954625545, 16970298442240338249, 1971761234120675839, 450719451514497906, 18340686150147091359, 11254645818134300982, 16062291397582171322, 1601982631079003425, 7734681229251997073, 13256946727218518206, 11816912122432958423]
end Go.Proofs.Kec

namespace Go.Proofs.YtmmloghbnpfedaaDoor.Ke
open Go Go.RowKit Go.Proofs.Kec
set_option linter.unusedVariables false
def uvT : Nat → Nat × Nat
  | 0 => (1, 0)
  | t + 1 => ((uvT t).2, (2 * (uvT t).1 + 3 * (uvT t).2) % 5)
theorem uvT_lt : ∀ t, (uvT t).1 < 5 ∧ (uvT t).2 < 5
  | 0 => by decide
  | t + 1 => ⟨(uvT_lt t).2, Nat.mod_lt _ (by decide)⟩
def rotN (x y : Nat) : Nat := match (List.range 24).find? (fun t => uvT t == (x, y)) with | some t => (t + 1) * (t + 2) / 2 % 64 | none => 0
theorem rotN_at {x y t : Nat} (ht : t < 24) (hno : ∀ j, j < t → uvT j ≠ (x, y)) (h1 : (uvT t).1 = x) (h2 : (uvT t).2 = y) : rotN x y = (t + 1) * (t + 2) / 2 % 64 := by
  unfold rotN
  have : (List.range 24).find? (fun t => uvT t == (x, y)) = some t := by
    rw [List.find?_range_eq_some]
    refine ⟨by simp [← h1, ← h2], by simp [ht], fun j hj => by simpa using hno j hj⟩
  rw [this]
theorem rotN_no {x y : Nat} (hno : ∀ j, j < 24 → uvT j ≠ (x, y)) : rotN x y = 0 := by
  unfold rotN
  have : (List.range 24).find? (fun t => uvT t == (x, y)) = none := by
    rw [List.find?_eq_none]; intro j hj; simpa using hno j (by simpa using hj)
  rw [this]
def regT : Nat → Nat
  | 0 => 1
  | k + 1 => if 2 * regT k > 255 then (2 * regT k) ^^^ 369 else 2 * regT k
theorem xor369 : ∀ r : Fin 512, Go.bits .xor .i64 ((r.val : Nat) : Int) 369 = ((r.val ^^^ 369 : Nat) : Int) := by decide +kernel
theorem reg_small : ∀ r : Fin 512, 255 < r.val → r.val ^^^ 369 < 256 := by decide +kernel
theorem regT_lt : ∀ k, regT k < 256
  | 0 => by decide
  | k + 1 => by
    have := regT_lt k
    unfold regT
    split
    · exact reg_small ⟨2 * regT k, by omega⟩ (by simp only; omega)
    · omega
theorem regX (k : Nat) : Go.bits .xor .i64 (((2 * regT k : Nat)) : Int) 369 = ((2 * regT k ^^^ 369 : Nat) : Int) := xor369 ⟨2 * regT k, by have := regT_lt k; omega⟩
def bitsT (k : Nat) : List Nat := (List.range k).map fun j => regT j % 2
theorem bitsT_succ (k : Nat) : bitsT (k + 1) = bitsT k ++ [regT k % 2] := by unfold bitsT; rw [List.range_succ, List.map_append]; rfl
theorem bitsT_len (k : Nat) : (bitsT k).length = k := by unfold bitsT; simp
def lastB (i : Nat) : Nat → BitVec 64
  | 0 => 0
  | j + 1 => if (bitsT 168).getD (j + 7 * i) 0 = 1 then lastB i j ||| (1 <<< (2 ^ j - 1)) else lastB i j
theorem last_mark : ∀ i : Fin 24, lastB i.val 7 = Kec.marks.getD i.val 0 := by decide +kernel
set_option maxRecDepth 100000 in
set_option maxHeartbeats 2000000 in
theorem at_fn (x y : Nat) (hx : x < 100) (hy : y < 100) : Fn Tryd.prog 99 #[.int .i64 ((x : Nat) : Int), .int .i64 ((y : Nat) : Int)] (.int .i64 ((x % 5 + 5 * (y % 5) : Nat) : Int)) := by
  refine Fn.intro (c := codeOf Tryd.f99) [.tmp 4] 11 Tryd.func99 kr kr kr fun w => ?_
  have H0 := St.start w
  refine rS [.v] H0 kr fun gs1 w1 H1 => ?_
  clear H0
  refine rS [.v, .e (v := .int .i64 (Int.tmod ((x : Nat) : Int) 5)) (v' := .int .i64 ((x % 5 : Nat) : Int)) (int_eq (remN x 5)), .v, .e (v := .int .i64 (Int.tmod ((y : Nat) : Int) 5)) (v' := .int .i64 ((y % 5 : Nat) : Int)) (int_eq (remN y 5)), .e (v := .int .i64 (IntKind.i64.wrap (5 * ((y % 5 : Nat) : Int)))) (v' := .int .i64 ((5 * (y % 5) : Nat) : Int)) (int_eq (wrapMul_i64 (a := 5) (b := y % 5) (by omega))), .e (v := .int .i64 (IntKind.i64.wrap (((x % 5 : Nat) : Int) + ((5 * (y % 5) : Nat) : Int)))) (v' := .int .i64 (((x % 5) + (5 * (y % 5)) : Nat) : Int)) (int_eq (wrapAdd_i64 (a := x % 5) (b := 5 * (y % 5)) (by omega))), .v] H1 kr fun gs2 w2 H2 => ?_
  clear H1
  refine g_ret kr ?_
  show ∃ vs, Res _ _ _ _ vs ∧ _
  refine ⟨[.int .i64 (((x % 5) + (5 * (y % 5)) : Nat) : Int)], (.tmp (.int .i64 (((x % 5) + (5 * (y % 5)) : Nat) : Int)) kr .nil), ?_, H2.below⟩
  rfl
set_option maxRecDepth 100000 in
set_option maxHeartbeats 2000000 in
theorem left0_fn (x : BitVec 64) : Fn Tryd.prog 100 #[.int .u64 ((BitVec.toNat x : Nat) : Int), .int .i64 0] (.int .u64 ((BitVec.toNat x : Nat) : Int)) := by
  refine Fn.intro (c := codeOf Tryd.f100) [.tmp 4] 18 Tryd.func100 kr kr kr fun w => ?_
  have H0 := St.start w
  refine rS [.v] H0 kr fun gs1 w1 H1 => ?_
  clear H0
  refine g_seq kr ?_
  refine rS [.v, .v] H1 kr fun gs2 w2 H2 => ?_
  clear H1
  refine g_cond_t kr kr ?_
  refine rS [.v, .v] H2 kr fun gs3 w3 H3 => ?_
  clear H2
  refine g_ret kr ?_
  show ∃ vs, Res _ _ _ _ vs ∧ _
  refine ⟨[.int .u64 ((BitVec.toNat x : Nat) : Int)], (.tmp (.int .u64 ((BitVec.toNat x : Nat) : Int)) kr .nil), ?_, H3.below⟩
  rfl
set_option maxRecDepth 100000 in
set_option maxHeartbeats 2000000 in
theorem left_fn (x : BitVec 64) (n : Nat) (h0 : 0 < n) (hn : n < 64) : Fn Tryd.prog 100 #[.int .u64 ((BitVec.toNat x : Nat) : Int), .int .i64 ((n : Nat) : Int)] (.int .u64 ((BitVec.toNat (rl x n) : Nat) : Int)) := by
  refine Fn.intro (c := codeOf Tryd.f100) [.tmp 4] 18 Tryd.func100 kr kr kr fun w => ?_
  have H0 := St.start w
  refine rS [.v] H0 kr fun gs1 w1 H1 => ?_
  clear H0
  refine g_seq kr ?_
  refine rS [.v, .e (v := .bool (((n : Nat) : Int) == 0)) (v' := .bool false) (bool_eq (beq_eq_false_iff_ne.2 (by omega)))] H1 kr fun gs2 w2 H2 => ?_
  clear H1
  refine g_cond_f kr kr ?_
  refine g_skip kr ?_
  show WP _ _ _ _ _ _
  refine rS [.v, .v, .e (v := .int .u64 (IntKind.u64.wrap (((n : Nat) : Int)))) (v' := .int .u64 ((n : Nat) : Int)) (int_eq (wrapN_u64 (a := n) (by omega))), .e (v := .int .u64 (IntKind.u64.wrap ((((BitVec.toNat x : Nat) : Int)) * 2 ^ (min n 64)))) (v' := .int .u64 ((BitVec.toNat (x <<< n) : Nat) : Int)) (bv_shl_u64 x n), .v, .v, .e (v := .int .i64 (IntKind.i64.wrap (64 - ((n : Nat) : Int)))) (v' := .int .i64 ((64 - n : Nat) : Int)) (int_eq (wrapSub_i64 (a := 64) (b := n) (by omega))), .e (v := .int .u64 (IntKind.u64.wrap (((64 - n : Nat) : Int)))) (v' := .int .u64 ((64 - n : Nat) : Int)) (int_eq (wrapN_u64 (a := 64 - n) (by omega))), .e (v := .int .u64 (Int.fdiv (((BitVec.toNat x : Nat) : Int)) (2 ^ (min (64 - n) 64)))) (v' := .int .u64 ((BitVec.toNat (x >>> (64 - n)) : Nat) : Int)) (bv_shr_u64 x (64 - n)), .e (v := .int .u64 (Go.bits .or .u64 (((BitVec.toNat (x <<< n) : Nat) : Int)) (((BitVec.toNat (x >>> (64 - n)) : Nat) : Int)))) (v' := .int .u64 ((BitVec.toNat ((x <<< n) ||| (x >>> (64 - n))) : Nat) : Int)) (bv_or_u64 (x <<< n) (x >>> (64 - n))), .v] H2 kr fun gs3 w3 H3 => ?_
  clear H2
  refine g_ret kr ?_
  show ∃ vs, Res _ _ _ _ vs ∧ _
  refine ⟨[.int .u64 ((BitVec.toNat ((x <<< n) ||| (x >>> (64 - n))) : Nat) : Int)], (.tmp (.int .u64 ((BitVec.toNat ((x <<< n) ||| (x >>> (64 - n))) : Nat) : Int)) kr .nil), ?_, H3.below⟩
  rw [← rl_of x n hn]; rfl
set_option maxRecDepth 100000 in
set_option maxHeartbeats 2000000 in
theorem turnR_fn (x y : Nat) (hx : x < 5) (hy : y < 5) : Fn Tryd.prog 101 #[.int .i64 ((x : Nat) : Int), .int .i64 ((y : Nat) : Int)] (.int .i64 ((rotN x y : Nat) : Int)) := by
  refine Fn.intro (c := codeOf Tryd.f101) [.tmp 4] 36 Tryd.func101 kr kr kr fun w => ?_
  have H0 := St.start w
  refine rS [.v] H0 kr fun gs1 w1 H1 => ?_
  clear H0
  refine rS [.v] H1 kr fun gs2 w2 H2 => ?_
  clear H1
  refine rS [.v] H2 kr fun gs3 w3 H3 => ?_
  clear H2
  refine g_seq kr ?_
  refine rS [.v] H3 kr fun gs4 w4 H4 => ?_
  clear H3
  refine g_block 0 kr ?_
  have HL1 : St w.heap.size w w4 [] := H4.as kr
  clear H4
  refine g_loop kr (fun mz ρ ww => ∃ (t : Nat), 24 - t = mz ∧ (t ≤ 24) ∧ (∀ j, j < t → uvT j ≠ (x, y)) ∧ St w.heap.size w ww [] ∧ Is [(0, .int .i64 ((x : Nat) : Int)), (1, .int .i64 ((y : Nat) : Int)), (5, .int .i64 (((uvT t).1 : Nat) : Int)), (6, .int .i64 (((uvT t).2 : Nat) : Int)), (7, .int .i64 ((t : Nat) : Int))] ρ) (24 - 0) ⟨0, rfl, (by omega), (fun j hj => absurd hj (by omega)), HL1, (Is.of ⟨kr, kr, kr, kr, kr, trivial⟩)⟩ ?_
  clear HL1
  rintro _ _ w5 ⟨t, rfl, ht, hno, H5, _, rfl⟩
  have hlt := uvT_lt t
  refine g_seq kr ?_
  refine g_sreg [0, 1] kr kr ?_
  refine rp [.v] H5 kr fun gs6 w6 H6 => ?_
  show WPs _ _ _ _ [1] _ _
  clear H5
  by_cases hc2 : (t : Nat) < 24
  · skip
    refine rp [.e (v := .bool (decide (((t : Nat) : Int) < 24))) (v' := .bool true) (bool_eq (decide_eq_true (by omega)))] H6 kr fun gs7 w7 H7 => ?_
    show WPs _ _ _ _ [] _ _
    clear H6
    refine s_nil ?_
    refine g_cond_t kr kr ?_
    refine g_skip kr ?_
    show WP _ _ _ _ _ _
    refine g_seq kr ?_
    refine g_block 1 kr ?_
    refine g_seq kr ?_
    refine g_sreg [0, 1, 2, 3, 4, 5, 6, 7] kr kr ?_
    refine rp [.v, .v] H7 kr fun gs8 w8 H8 => ?_
    show WPs _ _ _ _ [2, 3, 4, 5, 6, 7] _ _
    clear H7
    by_cases hc3 : ((uvT t).1 : Nat) = x
    · skip
      refine rp [.e (v := .bool ((((uvT t).1 : Nat) : Int) == ((x : Nat) : Int))) (v' := .bool true) (bool_eq (beq_iff_eq.2 (by omega))), .v, .v, .v] H8 kr fun gs9 w9 H9 => ?_
      show WPs _ _ _ _ [6, 7] _ _
      clear H8
      by_cases hc4 : ((uvT t).2 : Nat) = y
      · skip
        refine rp [.e (v := .bool ((((uvT t).2 : Nat) : Int) == ((y : Nat) : Int))) (v' := .bool true) (bool_eq (beq_iff_eq.2 (by omega))), .v] H9 kr fun gs10 w10 H10 => ?_
        show WPs _ _ _ _ [] _ _
        clear H9
        refine s_nil ?_
        refine g_cond_t kr kr ?_
        refine g_sreg [0, 1, 2, 3, 4, 5, 6, 7] kr kr ?_
        refine rp [.v, .e (v := .int .i64 (IntKind.i64.wrap (((t : Nat) : Int) + 1))) (v' := .int .i64 ((t + 1 : Nat) : Int)) (int_eq (wrapAdd_i64 (a := t) (b := 1) (by omega))), .v, .e (v := .int .i64 (IntKind.i64.wrap (((t : Nat) : Int) + 2))) (v' := .int .i64 ((t + 2 : Nat) : Int)) (int_eq (wrapAdd_i64 (a := t) (b := 2) (by omega)))] H10 kr fun gs11 w11 H11 => ?_
        show WPs _ _ _ _ [4, 5, 6, 7] _ _
        clear H10
        have hmul : (t + 1) * (t + 2) ≤ 25 * 26 := Nat.mul_le_mul (by omega) (by omega)
        refine rp [.e (v := .int .i64 (IntKind.i64.wrap (((t + 1 : Nat) : Int) * ((t + 2 : Nat) : Int)))) (v' := .int .i64 (((t + 1) * (t + 2) : Nat) : Int)) (int_eq (wrapMul_i64 (a := t + 1) (b := t + 2) (by omega))), .e (v := .int .i64 (IntKind.i64.wrap ((((t + 1) * (t + 2) : Nat) : Int).tdiv 2))) (v' := .int .i64 ((((t + 1) * (t + 2)) / 2 : Nat) : Int)) (int_eq (quoN_i64 (a := (t + 1) * (t + 2)) (b := 2) (by omega))), .e (v := .int .i64 (Int.tmod ((((t + 1) * (t + 2)) / 2 : Nat) : Int) 64)) (v' := .int .i64 (((((t + 1) * (t + 2)) / 2) % 64 : Nat) : Int)) (int_eq (remN (((t + 1) * (t + 2)) / 2) 64)), .v] H11 kr fun gs12 w12 H12 => ?_
        show WPs _ _ _ _ [] _ _
        clear H11
        refine s_nil ?_
        refine g_ret kr ?_
        show ∃ vs, Res _ _ _ _ vs ∧ _
        refine ⟨[.int .i64 (((((t + 1) * (t + 2)) / 2) % 64 : Nat) : Int)], (.tmp (.int .i64 (((((t + 1) * (t + 2)) / 2) % 64 : Nat) : Int)) kr .nil), ?_, H12.below⟩
        rw [rotN_at (t := t) (by omega) hno (by omega) (by omega)]; rfl
      · skip
        refine rp [.e (v := .bool ((((uvT t).2 : Nat) : Int) == ((y : Nat) : Int))) (v' := .bool false) (bool_eq (beq_eq_false_iff_ne.2 (by omega))), .v] H9 kr fun gs13 w13 H13 => ?_
        show WPs _ _ _ _ [] _ _
        clear H9
        refine s_nil ?_
        refine g_cond_f kr kr ?_
        refine g_skip kr ?_
        show WP _ _ _ _ _ _
        refine rS [.v, .v] H13 kr fun gs14 w14 H14 => ?_
        clear H13
        refine rS [.v, .e (v := .int .i64 (IntKind.i64.wrap (2 * (((uvT t).1 : Nat) : Int)))) (v' := .int .i64 ((2 * ((uvT t).1) : Nat) : Int)) (int_eq (wrapMul_i64 (a := 2) (b := (uvT t).1) (by omega))), .v, .e (v := .int .i64 (IntKind.i64.wrap (3 * (((uvT t).2 : Nat) : Int)))) (v' := .int .i64 ((3 * ((uvT t).2) : Nat) : Int)) (int_eq (wrapMul_i64 (a := 3) (b := (uvT t).2) (by omega))), .e (v := .int .i64 (IntKind.i64.wrap (((2 * ((uvT t).1) : Nat) : Int) + ((3 * ((uvT t).2) : Nat) : Int)))) (v' := .int .i64 (((2 * ((uvT t).1)) + (3 * ((uvT t).2)) : Nat) : Int)) (int_eq (wrapAdd_i64 (a := 2 * ((uvT t).1)) (b := 3 * ((uvT t).2)) (by omega))), .e (v := .int .i64 (Int.tmod (((2 * ((uvT t).1)) + (3 * ((uvT t).2)) : Nat) : Int) 5)) (v' := .int .i64 ((((2 * ((uvT t).1)) + (3 * ((uvT t).2))) % 5 : Nat) : Int)) (int_eq (remN ((2 * ((uvT t).1)) + (3 * ((uvT t).2))) 5)), .v] H14 kr fun gs15 w15 H15 => ?_
        clear H14
        refine g_keep [0, 1, 5, 6, 7, 8, 10, 20] fun ρ1 => ?_
        have HK5 := H15.keep
        clear H15
        refine rL [.v, .v] HK5 kr fun gs16 w16 H16 => ?_
        clear HK5
        show WP _ _ _ _ _ _
        refine rL [.v, .e (v := .int .i64 (IntKind.i64.wrap (((t : Nat) : Int) + 1))) (v' := .int .i64 ((t + 1 : Nat) : Int)) (int_eq (wrapAdd_i64 (a := t) (b := 1) (by omega))), .v] H16 kr fun gs17 w17 H17 => ?_
        clear H16
        have HL6 : St w.heap.size w w17 [] := H17.as kr
        clear H17
        show ∃ m, _ ∧ _
        exact ⟨_, (by omega), (t + 1), rfl, (by omega), (fun j hj => by rcases Nat.lt_succ_iff_lt_or_eq.1 hj with h | rfl; exact hno j h; intro e; have e1 := congrArg Prod.fst e; have e2 := congrArg Prod.snd e; simp only at e1 e2; omega), HL6, (Is.of ⟨kr, kr, kr, kr, kr, trivial⟩)⟩
    · skip
      refine rp [.e (v := .bool ((((uvT t).1 : Nat) : Int) == ((x : Nat) : Int))) (v' := .bool false) (bool_eq (beq_eq_false_iff_ne.2 (by omega))), .v, .n, .n, .n, .v] H8 kr fun gs18 w18 H18 => ?_
      show WPs _ _ _ _ [] _ _
      clear H8
      refine s_nil ?_
      refine g_cond_f kr kr ?_
      refine g_skip kr ?_
      show WP _ _ _ _ _ _
      refine rS [.v, .v] H18 kr fun gs19 w19 H19 => ?_
      clear H18
      refine rS [.v, .e (v := .int .i64 (IntKind.i64.wrap (2 * (((uvT t).1 : Nat) : Int)))) (v' := .int .i64 ((2 * ((uvT t).1) : Nat) : Int)) (int_eq (wrapMul_i64 (a := 2) (b := (uvT t).1) (by omega))), .v, .e (v := .int .i64 (IntKind.i64.wrap (3 * (((uvT t).2 : Nat) : Int)))) (v' := .int .i64 ((3 * ((uvT t).2) : Nat) : Int)) (int_eq (wrapMul_i64 (a := 3) (b := (uvT t).2) (by omega))), .e (v := .int .i64 (IntKind.i64.wrap (((2 * ((uvT t).1) : Nat) : Int) + ((3 * ((uvT t).2) : Nat) : Int)))) (v' := .int .i64 (((2 * ((uvT t).1)) + (3 * ((uvT t).2)) : Nat) : Int)) (int_eq (wrapAdd_i64 (a := 2 * ((uvT t).1)) (b := 3 * ((uvT t).2)) (by omega))), .e (v := .int .i64 (Int.tmod (((2 * ((uvT t).1)) + (3 * ((uvT t).2)) : Nat) : Int) 5)) (v' := .int .i64 ((((2 * ((uvT t).1)) + (3 * ((uvT t).2))) % 5 : Nat) : Int)) (int_eq (remN ((2 * ((uvT t).1)) + (3 * ((uvT t).2))) 5)), .v] H19 kr fun gs20 w20 H20 => ?_
      clear H19
      refine g_keep [0, 1, 5, 6, 7, 8, 10, 20] fun ρ2 => ?_
      have HK7 := H20.keep
      clear H20
      refine rL [.v, .v] HK7 kr fun gs21 w21 H21 => ?_
      clear HK7
      show WP _ _ _ _ _ _
      refine rL [.v, .e (v := .int .i64 (IntKind.i64.wrap (((t : Nat) : Int) + 1))) (v' := .int .i64 ((t + 1 : Nat) : Int)) (int_eq (wrapAdd_i64 (a := t) (b := 1) (by omega))), .v] H21 kr fun gs22 w22 H22 => ?_
      clear H21
      have HL8 : St w.heap.size w w22 [] := H22.as kr
      clear H22
      show ∃ m, _ ∧ _
      exact ⟨_, (by omega), (t + 1), rfl, (by omega), (fun j hj => by rcases Nat.lt_succ_iff_lt_or_eq.1 hj with h | rfl; exact hno j h; intro e; have e1 := congrArg Prod.fst e; have e2 := congrArg Prod.snd e; simp only at e1 e2; omega), HL8, (Is.of ⟨kr, kr, kr, kr, kr, trivial⟩)⟩
  · skip
    refine rp [.e (v := .bool (decide (((t : Nat) : Int) < 24))) (v' := .bool false) (bool_eq (decide_eq_false (by omega)))] H6 kr fun gs23 w23 H23 => ?_
    show WPs _ _ _ _ [] _ _
    clear H6
    refine s_nil ?_
    refine g_cond_f kr kr ?_
    refine g_exit 0 kr ?_
    show WP _ _ _ _ _ _
    refine rS [.v] H23 kr fun gs24 w24 H24 => ?_
    clear H23
    refine g_ret kr ?_
    show ∃ vs, Res _ _ _ _ vs ∧ _
    refine ⟨[.int .i64 0], (.tmp (.int .i64 0) kr .nil), ?_, H24.below⟩
    rw [rotN_no (fun j hj => hno j (by omega))]; rfl
set_option maxRecDepth 100000 in
set_option maxHeartbeats 2000000 in
theorem rowR_fn  : FnR Tryd.prog 104 #[.int .i64 168] (fun _ => True) (RetS 3 1 (fun cur cap n l => (n = 168 ∧ Rw 1 cur cap n (cellsD (bitsT 168))))) := by
  refine FnR.intro (c := codeOf Tryd.f104) [.tmp 2] 24 Tryd.func104 kr kr kr fun w hpre => ?_
  have H0 := St.start w
  refine rS [.v] H0 kr fun gs1 w1 H1 => ?_
  clear H0
  refine rS [.nw (fun b => .slice (some ⟨b, 0, none⟩) 0 0) #[] 3, .v] H1 kr fun gs2 w2 H2 => ?_
  clear H1
  refine rS [.v] H2 kr fun gs3 w3 H3 => ?_
  clear H2
  refine g_seq kr ?_
  refine rS [.v] H3 kr fun gs4 w4 H4 => ?_
  clear H3
  refine g_block 0 kr ?_
  have HL1 : St w.heap.size w w4 [((gs2 0).b, Obj.cells #[] 3 (0, 0))] := H4.as kr
  clear H4
  refine g_loop kr (fun mz ρ ww => ∃ (b : Nat) (cap : Nat) (n : Nat) (cur : Array Value) (k : Nat) (rg : Nat), 168 - k = mz ∧ (n = k) ∧ (Rw 1 cur cap n (cellsD (bitsT k))) ∧ (k ≤ 168) ∧ (rg = regT k) ∧ St w.heap.size w ww [(b, Obj.cells cur 3 (0, 0))] ∧ Is [(0, .int .i64 ((168 : Nat) : Int)), (2, .slice none 0 0), (3, .slice (some ⟨b, 0, none⟩) n cap), (4, .int .i64 ((rg : Nat) : Int)), (5, .int .i64 ((k : Nat) : Int))] ρ) (168 - 0) ⟨(gs2 0).b, 0, 0, #[], 0, 1, rfl, rfl, (Rw.lit #[] 0 rfl (by unfold maxLen; omega)), (by omega), rfl, HL1, (Is.of ⟨kr, kr, kr, kr, kr, trivial⟩)⟩ ?_
  clear HL1
  rintro _ _ w5 ⟨b, cap, n, cur, k, rg, rfl, hn, hr, hk, hrgk, H5, _, rfl⟩
  have hrg := regT_lt k; rw [← hrgk] at hrg
  refine g_seq kr ?_
  refine g_sreg [0, 1, 2] kr kr ?_
  refine rp [.v, .v] H5 kr fun gs6 w6 H6 => ?_
  show WPs _ _ _ _ [2] _ _
  clear H5
  by_cases hc2 : (k : Nat) < 168
  · skip
    refine rp [.e (v := .bool (decide (((k : Nat) : Int) < ((168 : Nat) : Int)))) (v' := .bool true) (bool_eq (decide_eq_true (by omega)))] H6 kr fun gs7 w7 H7 => ?_
    show WPs _ _ _ _ [] _ _
    clear H6
    refine s_nil ?_
    refine g_cond_t kr kr ?_
    refine g_skip kr ?_
    show WP _ _ _ _ _ _
    refine g_seq kr ?_
    refine g_block 1 kr ?_
    refine g_sreg [0, 1, 2, 3, 4, 5] kr kr ?_
    refine rp [.v, .v, .e (v := .int .i64 (Int.tmod ((rg : Nat) : Int) 2)) (v' := .int .i64 ((rg % 2 : Nat) : Int)) (int_eq (remN rg 2)), .nw (fun b => .slice (some ⟨b, 0, none⟩) 1 1) #[.int .i64 ((rg % 2 : Nat) : Int)] 3] H7 kr fun gs8 w8 H8 => ?_
    show WPs _ _ _ _ [4, 5] _ _
    clear H7
    refine s_append H8 (some 16) 59 3 1 8 (.tmp 12) (.tmp 15) 0 1 b ((gs8 3).b) n 1 cap 1 cur #[.int .i64 ((rg % 2 : Nat) : Int)] 3 (0, 0) (cellsD (bitsT k)) ([.int .i64 ((rg % 2 : Nat) : Int)]) (fun b_1 cur_3 => [(b_1, Obj.cells cur_3 3 (0, 0)), ((gs8 3).b, Obj.cells #[.int .i64 ((rg % 2 : Nat) : Int)] 3 (0, 0))]) kr kr kr kr kr hr kr kr (by rfl) (by rfl) (by intro u hu; simp at hu; first | exact hu.elim | (rcases hu with rfl | rfl | rfl | rfl <;> rfl) | (rcases hu with rfl | rfl <;> rfl) | (subst hu; rfl)) (by omega) (by unfold maxLen; omega) (fun _ _ => by kernel_rfl) ?_
    intro b_1 cap_2 cur_3 w9 H9 hr_4; clear H8
    refine rp [.v] H9 kr fun gs10 w10 H10 => ?_
    show WPs _ _ _ _ [] _ _
    clear H9
    refine s_nil ?_
    refine rS [.v, .e (v := .int .i64 (IntKind.i64.wrap (2 * ((rg : Nat) : Int)))) (v' := .int .i64 ((2 * rg : Nat) : Int)) (int_eq (wrapMul_i64 (a := 2) (b := rg) (by omega))), .v] H10 kr fun gs11 w11 H11 => ?_
    clear H10
    refine g_sreg [0, 1] kr kr ?_
    refine rp [.v] H11 kr fun gs12 w12 H12 => ?_
    show WPs _ _ _ _ [1] _ _
    clear H11
    by_cases hc3 : (2 * rg : Nat) > 255
    · skip
      refine rp [.e (v := .bool (decide (255 < ((2 * rg : Nat) : Int)))) (v' := .bool true) (bool_eq (decide_eq_true (by omega)))] H12 kr fun gs13 w13 H13 => ?_
      show WPs _ _ _ _ [] _ _
      clear H12
      refine s_nil ?_
      refine g_keep [0, 2, 3, 4, 5, 9, 20] fun ρ1 => ?_
      have HK4 := H13.keep
      clear H13
      refine g_cond_t kr kr ?_
      refine rL [.v, .e (v := .int .i64 (Go.bits .xor .i64 (((2 * rg : Nat)) : Int) 369)) (v' := .int .i64 ((2 * rg ^^^ 369 : Nat) : Int)) (int_eq (by rw [hrgk]; exact regX k)), .v] HK4 kr fun gs14 w14 H14 => ?_
      clear HK4
      show WP _ _ _ _ _ _
      refine rL [.v, .e (v := .int .i64 (IntKind.i64.wrap (((k : Nat) : Int) + 1))) (v' := .int .i64 ((k + 1 : Nat) : Int)) (int_eq (wrapAdd_i64 (a := k) (b := 1) (by omega))), .v] H14 kr fun gs15 w15 H15 => ?_
      clear H14
      have HL5 : St w.heap.size w w15 [(b_1, Obj.cells cur_3 3 (0, 0)), ((gs8 3).b, Obj.cells #[.int .i64 ((rg % 2 : Nat) : Int)] 3 (0, 0))] := H15.as kr
      clear H15
      have hrow : Rw 1 cur_3 cap_2 (n + 1) (cellsD (bitsT (k + 1))) := by rw [bitsT_succ, cellsD_append, ← hrgk]; exact hr_4
      have HD6 : St w.heap.size w w15 [(b_1, Obj.cells cur_3 3 (0, 0))] := HL5.sub (List.Sublist.cons_cons _ (List.Sublist.cons _ List.Sublist.slnil))
      show ∃ m, _ ∧ _
      exact ⟨_, (by omega), b_1, cap_2, (n + 1), cur_3, (k + 1), (2 * rg ^^^ 369), rfl, (by omega), hrow, (by omega), (by subst hrgk; exact (if_pos (by omega)).symm), HD6, (Is.of ⟨kr, kr, kr, kr, kr, trivial⟩)⟩
    · skip
      refine rp [.e (v := .bool (decide (255 < ((2 * rg : Nat) : Int)))) (v' := .bool false) (bool_eq (decide_eq_false (by omega)))] H12 kr fun gs16 w16 H16 => ?_
      show WPs _ _ _ _ [] _ _
      clear H12
      refine s_nil ?_
      refine g_keep [0, 2, 3, 4, 5, 9, 20] fun ρ2 => ?_
      have HK7 := H16.keep
      clear H16
      refine g_cond_f kr kr ?_
      refine g_skip kr ?_
      show WP _ _ _ _ _ _
      refine rL [.v, .e (v := .int .i64 (IntKind.i64.wrap (((k : Nat) : Int) + 1))) (v' := .int .i64 ((k + 1 : Nat) : Int)) (int_eq (wrapAdd_i64 (a := k) (b := 1) (by omega))), .v] HK7 kr fun gs17 w17 H17 => ?_
      clear HK7
      have HL8 : St w.heap.size w w17 [(b_1, Obj.cells cur_3 3 (0, 0)), ((gs8 3).b, Obj.cells #[.int .i64 ((rg % 2 : Nat) : Int)] 3 (0, 0))] := H17.as kr
      clear H17
      have hrow : Rw 1 cur_3 cap_2 (n + 1) (cellsD (bitsT (k + 1))) := by rw [bitsT_succ, cellsD_append, ← hrgk]; exact hr_4
      have HD9 : St w.heap.size w w17 [(b_1, Obj.cells cur_3 3 (0, 0))] := HL8.sub (List.Sublist.cons_cons _ (List.Sublist.cons _ List.Sublist.slnil))
      show ∃ m, _ ∧ _
      exact ⟨_, (by omega), b_1, cap_2, (n + 1), cur_3, (k + 1), (2 * rg), rfl, (by omega), hrow, (by omega), (by subst hrgk; exact (if_neg (by omega)).symm), HD9, (Is.of ⟨kr, kr, kr, kr, kr, trivial⟩)⟩
  · skip
    refine rp [.e (v := .bool (decide (((k : Nat) : Int) < ((168 : Nat) : Int)))) (v' := .bool false) (bool_eq (decide_eq_false (by omega)))] H6 kr fun gs18 w18 H18 => ?_
    show WPs _ _ _ _ [] _ _
    clear H6
    refine s_nil ?_
    refine g_cond_f kr kr ?_
    refine g_exit 0 kr ?_
    show WP _ _ _ _ _ _
    refine rS [.v, .v] H18 kr fun gs19 w19 H19 => ?_
    clear H18
    refine g_ret kr ?_
    show ∃ vs, Res _ _ _ _ vs ∧ _
    refine ⟨[.slice (some ⟨b, 0, none⟩) n cap], (.tmp (.slice (some ⟨b, 0, none⟩) n cap) kr .nil), H19.below, ?_⟩
    obtain rfl : k = 168 := by omega
    exact ⟨b, cap, _, _, [], rfl, H19.ge 0 (o := .cells cur 3 (0, 0)) kr, H19.get 0 kr, ⟨hn, hr⟩⟩
end Go.Proofs.YtmmloghbnpfedaaDoor.Ke

namespace Go.Proofs.YtmmloghbnpfedaaDoor.Ke
open Go Go.RowKit Go.Proofs.Kec
set_option linter.unusedVariables false
theorem bv_congr {a b : BitVec 64} (h : a = b) : Value.int .u64 ((BitVec.toNat a : Nat) : Int) = .int .u64 ((BitVec.toNat b : Nat) : Int) := by rw [h]
theorem sub_not (x : BitVec 64) : (18446744073709551615 : BitVec 64) - x = ~~~x := by
  apply BitVec.eq_of_toNat_eq
  have := x.isLt
  rw [BitVec.toNat_sub, BitVec.toNat_not]
  show (18446744073709551616 - x.toNat + 18446744073709551615) % 18446744073709551616 = 18446744073709551616 - 1 - x.toNat
  omega
set_option maxRecDepth 100000 in
set_option maxHeartbeats 2000000 in
theorem last_fn (i : Nat) (hi : i < 24) : Fn Tryd.prog 102 #[.int .i64 ((i : Nat) : Int)] (.int .u64 ((BitVec.toNat (lastB i 7) : Nat) : Int)) := by
  refine Fn.intro (c := codeOf Tryd.f102) [.tmp 2] 28 Tryd.func102 kr kr kr fun w => ?_
  have H0 := St.start w
  refine rS [.v] H0 kr fun gs1 w1 H1 => ?_
  clear H0
  refine g_sreg [0, 1] kr kr ?_
  refine s_callS H1 (some 7) 104 #[.int .i64 168] (fun _ => True) 3 1 (fun curZ capZ nZ lZ => (nZ = 168 ∧ Rw 1 curZ capZ nZ (cellsD (bitsT 168)))) rowR_fn trivial kr kr ?_
  intro b_1 cap_2 n_3 cur_4 l_5 w2 H2 hs_6; clear H1
  have hs_6n := hs_6.1
  refine rp [.v] H2 kr fun gs3 w3 H3 => ?_
  show WPs _ _ _ _ [] _ _
  clear H2
  refine s_nil ?_
  refine rS [.v] H3 kr fun gs4 w4 H4 => ?_
  clear H3
  refine rS [.v] H4 kr fun gs5 w5 H5 => ?_
  clear H4
  refine g_seq kr ?_
  refine rS [.v] H5 kr fun gs6 w6 H6 => ?_
  clear H5
  refine g_block 0 kr ?_
  have HL1 : St w.heap.size w w6 [(b_1, Obj.cells cur_4 3 (0, 0))] := H6.as kr
  clear H6
  refine g_loop kr (fun mz ρ ww => ∃ (j : Nat) (pl : Nat) (nn : BitVec 64), 7 - j = mz ∧ (j ≤ 7) ∧ (pl = 2 ^ j) ∧ (nn = lastB i j) ∧ St w.heap.size w ww [(b_1, Obj.cells cur_4 3 (0, 0))] ∧ Is [(0, .int .i64 ((i : Nat) : Int)), (2, .int .u64 0), (3, .slice (some ⟨b_1, 0, none⟩) n_3 cap_2), (4, .int .u64 ((BitVec.toNat nn : Nat) : Int)), (5, .int .u64 ((pl : Nat) : Int)), (6, .int .i64 ((j : Nat) : Int))] ρ) (7 - 0) ⟨0, 1, 0, rfl, (by omega), rfl, rfl, HL1, (Is.of ⟨kr, kr, kr, kr, kr, kr, trivial⟩)⟩ ?_
  clear HL1
  rintro _ _ w7 ⟨j, pl, nn, rfl, hj, hpl, hnn, H7, _, rfl⟩
  have hp1 : 1 ≤ pl := by rw [hpl]; exact Nat.one_le_two_pow
  have hp2 : pl ≤ 128 := by rw [hpl]; exact Nat.pow_le_pow_right (by omega) hj
  refine g_seq kr ?_
  refine g_sreg [0, 1] kr kr ?_
  refine rp [.v] H7 kr fun gs8 w8 H8 => ?_
  show WPs _ _ _ _ [1] _ _
  clear H7
  by_cases hc2 : (j : Nat) < 7
  · skip
    refine rp [.e (v := .bool (decide (((j : Nat) : Int) < 7))) (v' := .bool true) (bool_eq (decide_eq_true (by omega)))] H8 kr fun gs9 w9 H9 => ?_
    show WPs _ _ _ _ [] _ _
    clear H8
    refine s_nil ?_
    refine g_cond_t kr kr ?_
    refine g_skip kr ?_
    show WP _ _ _ _ _ _
    refine g_seq kr ?_
    refine g_block 1 kr ?_
    refine g_seq kr ?_
    refine g_sreg [0, 1, 2, 3, 4, 5, 6, 7] kr kr ?_
    refine rp [.v, .v, .v, .e (v := .int .i64 (IntKind.i64.wrap (7 * ((i : Nat) : Int)))) (v' := .int .i64 ((7 * i : Nat) : Int)) (int_eq (wrapMul_i64 (a := 7) (b := i) (by omega))), .e (v := .int .i64 (IntKind.i64.wrap (((j : Nat) : Int) + ((7 * i : Nat) : Int)))) (v' := .int .i64 ((j + (7 * i) : Nat) : Int)) (int_eq (wrapAdd_i64 (a := j) (b := 7 * i) (by omega))), .o (ins := [((.tmp 12), .slice (some ⟨b_1, 0, none⟩) n_3 cap_2), ((.tmp 16), .int .i64 ((j + (7 * i) : Nat) : Int))]) (v := .pointer (some ⟨b_1, 0 + (j + (7 * i)) * 1, none⟩)) (fun ρ o w ho hi => idxS_run (kd := .i64) (t := 59) (e := 3) (size := 1) (bytes := 8) kr (x := (.tmp 12)) (y := (.tmp 16)) b_1 0 n_3 cap_2 (j + (7 * i)) ho hi.1 hi.2.1 (by omega) w), .ls (C := cur_4) (off := 0 + (j + (7 * i)) * 1) (v := .int .i64 ((List.getD (bitsT 168) (j + (7 * i)) 0 : Nat) : Int)) 0 (hs_6.2.atD (by omega) (by rw [bitsT_len]; exact hs_6.1))] H9 kr fun gs10 w10 H10 => ?_
    show WPs _ _ _ _ [7] _ _
    clear H9
    by_cases hc3 : (List.getD (bitsT 168) (j + (7 * i)) 0 : Nat) = 1
    · skip
      refine rp [.e (v := .bool (((List.getD (bitsT 168) (j + (7 * i)) 0 : Nat) : Int) == 1)) (v' := .bool true) (bool_eq (beq_iff_eq.2 (by omega)))] H10 kr fun gs11 w11 H11 => ?_
      show WPs _ _ _ _ [] _ _
      clear H10
      refine s_nil ?_
      refine g_cond_t kr kr ?_
      refine rL [.v, .v, .e (v := .int .u64 (IntKind.u64.wrap (((pl : Nat) : Int) - 1))) (v' := .int .u64 ((pl - 1 : Nat) : Int)) (int_eq (wrapSub_u64 (a := pl) (b := 1) (by omega))), .e (v := .int .u64 (IntKind.u64.wrap ((1) * 2 ^ (min (pl - 1) 64)))) (v' := .int .u64 ((BitVec.toNat ((1 : BitVec 64) <<< (pl - 1)) : Nat) : Int)) (bv_shl_u64 (1 : BitVec 64) (pl - 1)), .e (v := .int .u64 (Go.bits .or .u64 (((BitVec.toNat nn : Nat) : Int)) (((BitVec.toNat ((1 : BitVec 64) <<< (pl - 1)) : Nat) : Int)))) (v' := .int .u64 ((BitVec.toNat (nn ||| ((1 : BitVec 64) <<< (pl - 1))) : Nat) : Int)) (bv_or_u64 nn ((1 : BitVec 64) <<< (pl - 1))), .v] H11 kr fun gs12 w12 H12 => ?_
      clear H11
      show WP _ _ _ _ _ _
      refine g_keep [0, 2, 3, 4, 5, 6, 9, 19] fun ρ1 => ?_
      have HK4 := H12.keep
      clear H12
      refine rL [.v, .e (v := .int .u64 (IntKind.u64.wrap (2 * ((pl : Nat) : Int)))) (v' := .int .u64 ((2 * pl : Nat) : Int)) (int_eq (wrapMul_u64 (a := 2) (b := pl) (by omega))), .v] HK4 kr fun gs13 w13 H13 => ?_
      clear HK4
      show WP _ _ _ _ _ _
      refine rL [.v, .e (v := .int .i64 (IntKind.i64.wrap (((j : Nat) : Int) + 1))) (v' := .int .i64 ((j + 1 : Nat) : Int)) (int_eq (wrapAdd_i64 (a := j) (b := 1) (by omega))), .v] H13 kr fun gs14 w14 H14 => ?_
      clear H13
      have HL5 : St w.heap.size w w14 [(b_1, Obj.cells cur_4 3 (0, 0))] := H14.as kr
      clear H14
      show ∃ m, _ ∧ _
      exact ⟨_, (by omega), (j + 1), (2 * pl), (nn ||| ((1 : BitVec 64) <<< (pl - 1))), rfl, (by omega), (by rw [hpl, Nat.pow_succ]; omega), (by subst hnn hpl; exact (if_pos (by assumption)).symm), HL5, (Is.of ⟨kr, kr, kr, kr, kr, kr, trivial⟩)⟩
    · skip
      refine rp [.e (v := .bool (((List.getD (bitsT 168) (j + (7 * i)) 0 : Nat) : Int) == 1)) (v' := .bool false) (bool_eq (beq_eq_false_iff_ne.2 (by omega)))] H10 kr fun gs15 w15 H15 => ?_
      show WPs _ _ _ _ [] _ _
      clear H10
      refine s_nil ?_
      refine g_cond_f kr kr ?_
      refine g_skip kr ?_
      show WP _ _ _ _ _ _
      refine rL [.v, .e (v := .int .u64 (IntKind.u64.wrap (2 * ((pl : Nat) : Int)))) (v' := .int .u64 ((2 * pl : Nat) : Int)) (int_eq (wrapMul_u64 (a := 2) (b := pl) (by omega))), .v] H15 kr fun gs16 w16 H16 => ?_
      clear H15
      show WP _ _ _ _ _ _
      refine g_keep [0, 2, 3, 4, 5, 6, 9, 19] fun ρ2 => ?_
      have HK6 := H16.keep
      clear H16
      refine rL [.v, .e (v := .int .i64 (IntKind.i64.wrap (((j : Nat) : Int) + 1))) (v' := .int .i64 ((j + 1 : Nat) : Int)) (int_eq (wrapAdd_i64 (a := j) (b := 1) (by omega))), .v] HK6 kr fun gs17 w17 H17 => ?_
      clear HK6
      have HL7 : St w.heap.size w w17 [(b_1, Obj.cells cur_4 3 (0, 0))] := H17.as kr
      clear H17
      show ∃ m, _ ∧ _
      exact ⟨_, (by omega), (j + 1), (2 * pl), (nn), rfl, (by omega), (by rw [hpl, Nat.pow_succ]; omega), (by subst hnn hpl; exact (if_neg (by assumption)).symm), HL7, (Is.of ⟨kr, kr, kr, kr, kr, kr, trivial⟩)⟩
  · skip
    refine rp [.e (v := .bool (decide (((j : Nat) : Int) < 7))) (v' := .bool false) (bool_eq (decide_eq_false (by omega)))] H8 kr fun gs18 w18 H18 => ?_
    show WPs _ _ _ _ [] _ _
    clear H8
    refine s_nil ?_
    refine g_cond_f kr kr ?_
    refine g_exit 0 kr ?_
    show WP _ _ _ _ _ _
    refine rS [.v, .v] H18 kr fun gs19 w19 H19 => ?_
    clear H18
    refine g_ret kr ?_
    show ∃ vs, Res _ _ _ _ vs ∧ _
    refine ⟨[.int .u64 ((BitVec.toNat nn : Nat) : Int)], (.tmp (.int .u64 ((BitVec.toNat nn : Nat) : Int)) kr .nil), ?_, H19.below⟩
    obtain rfl : j = 7 := by omega
    rw [hnn]; rfl
end Go.Proofs.YtmmloghbnpfedaaDoor.Ke
