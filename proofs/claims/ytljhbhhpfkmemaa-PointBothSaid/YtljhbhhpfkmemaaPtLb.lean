/-
  What the laws begin with.
-/
import Derived.Test.YtljhbhhpfkmemaaPtV
import Derived.Test.YtljhbhhpfkmemaaPtC
namespace Go.Proofs.Ytljhbhhpfkmemaa
open Go Go.RowKit
set_option linter.unusedVariables false
set_option maxRecDepth 100000 in
set_option maxHeartbeats 2000000 in
theorem alive06_fn  : Fn Try.prog 12 #[] (.bool true) := by
  refine Fn.intro (c := codeOf Try.f12) [.tmp 0] 16 Try.func12 kr kr kr fun w => ?_
  have H0 := St.start w
  refine g_sreg [0] kr kr ?_
  refine s_val (some 0) (.bool false) (fun w => kr) kr ?_
  refine s_nil ?_
  refine g_sreg [0, 1, 2] kr kr ?_
  refine s_call H0 (some 2) 22 #[] (pv (Ec.ofPt Ec.G)) base_fn (fun w => kr) kr ?_
  intro w1 H1; clear H0
  refine s_alloc H1 (some 1) 26 (.agg Z9) kr kr kr ?_
  intro b1 w2 H2; clear H1
  refine s_store H2 0 [(b1, Oc (pv (Ec.ofPt Ec.G)) 26)] 26 (.tmp 1) (.tmp 2) b1 (0) Z9 (Value.cells (pv (Ec.ofPt Ec.G))) 26 (pv (Ec.ofPt Ec.G)) kr kr kr kr kr kr (of_decide_eq_true kr) kr kr ?_
  intro w3 H3; clear H2
  refine s_nil ?_
  refine g_sreg [0, 1, 2, 3, 4, 5, 6, 7, 8, 9, 10, 11, 12, 13] kr kr ?_
  refine s_load H3 (some 3) 26 (.tmp 1) 0 b1 (Value.cells (pv (Ec.ofPt Ec.G))) 26 (0, 0) kr kr kr kr kr ?_
  refine s_call H3 (some 4) 10 #[pv (Ec.ofPt Ec.G)] (.bool true) (on_yes (Ec.ofPt Ec.G) (Ec.ofPt_ok _) (Ec.onB_pt Ec.G_on)) (fun w => kr) kr ?_
  intro w4 H4; clear H3
  refine s_val (some 5) (.bool true) (fun w => kr) kr ?_
  refine s_val (some 6) (.pointer (some ⟨b1, 8, none⟩)) (fun w => kr) kr ?_
  refine s_load1 H4 (some 7) 4 (.tmp 6) 0 b1 8 (Value.cells (pv (Ec.ofPt Ec.G))) 26 (0, 0) (.bool false) kr kr kr kr kr kr ?_
  refine s_val (some 8) (.bool true) (fun w => kr) kr ?_
  refine s_val (some 9) (.bool true) (fun w => kr) kr ?_
  refine s_val (some 10) (.bool true) (fun w => kr) kr ?_
  refine s_val (some 11) (.pointer (some ⟨b1, 0, none⟩)) (fun w => kr) kr ?_
  refine s_val (some 12) (.pointer (some ⟨b1, 0, none⟩)) (fun w => kr) kr ?_
  refine s_load1 H4 (some 13) 22 (.tmp 12) 0 b1 0 (Value.cells (pv (Ec.ofPt Ec.G))) 26 (0, 0) (.int .u64 (wu0 Ec.gX)) kr kr kr kr kr kr ?_
  refine s_valE (some 14) (.bool (wu0 Ec.gX == 6481385041966929816)) (.bool true) (fun w => kr) (bool_eq (beq_iff_eq.2 (by decide +kernel))) kr ?_
  refine s_val (some 15) (.bool true) (fun w => kr) kr ?_
  refine s_val (some 0) (.bool true) (fun w => kr) kr ?_
  refine s_nil ?_
  refine g_ret kr ?_
  show ∃ vs, Res _ _ _ _ vs ∧ _
  refine ⟨[.bool true], (.tmp (.bool true) kr .nil), ?_, H4.below⟩
  rfl

set_option maxRecDepth 100000 in
set_option maxHeartbeats 2000000 in
theorem lzero_fn  : Fn Try.prog 19 #[] (pv (Ec.Pd.mk 0 0 true)) := by
  refine Fn.intro (c := codeOf Try.f19) [.cell 0 26] 2 Try.func19 kr kr kr fun w => ?_
  have H0 := St.start w
  refine g_sreg [0] kr kr ?_
  refine s_alloc H0 (some 0) 26 (.agg Z9) kr kr kr ?_
  intro b1 w1 H1; clear H0
  refine s_nil ?_
  refine g_sreg [0, 1] kr kr ?_
  refine s_val (some 1) (pv (Ec.Pd.mk 0 0 true)) (fun w => kr) kr ?_
  refine s_store H1 0 [(b1, Oc (pv (Ec.Pd.mk 0 0 true)) 26)] 26 (.tmp 0) (.tmp 1) b1 (0) Z9 (Value.cells (pv (Ec.Pd.mk 0 0 true))) 26 (pv (Ec.Pd.mk 0 0 true)) kr kr kr kr kr kr (of_decide_eq_true kr) kr kr ?_
  intro w2 H2; clear H1
  refine s_nil ?_
  refine g_ret kr ?_
  show ∃ vs, Res _ _ _ _ vs ∧ _
  refine ⟨[pv (Ec.Pd.mk 0 0 true)], (.agg (b := b1) (Value.cells (pv (Ec.Pd.mk 0 0 true))) 26 (0, 0) kr (H2.get 0 kr) kr .nil), ?_, H2.below⟩
  rfl

set_option maxRecDepth 100000 in
set_option maxHeartbeats 2000000 in
theorem at6_fn (n : Nat) (hn : n < big) : Fn Try.prog 9 #[uv n] (.tuple #[pv (Ec.ofPt (Ec.mulP Ec.G n)), .bool true]) := by
  refine Fn.intro (c := codeOf Try.f9) [.cell 2 26, .tmp 3] 19 Try.func9 kr kr kr fun w => ?_
  have H0 := St.start w
  refine g_sreg [0, 1, 2] kr kr ?_
  refine s_box H0 (some 1) 24 (.tmp 0) (uv n) kr kr kr ?_
  intro b1 w1 H1; clear H0
  refine s_alloc H1 (some 2) 26 (.agg Z9) kr kr kr ?_
  intro b2 w2 H2; clear H1
  refine s_val (some 3) (.bool false) (fun w => kr) kr ?_
  refine s_nil ?_
  refine D2.g_sdraw [0, 1, 2, 3, 4, 5, 6, 7, 8] [((some 7), fun _ => pv (Ec.ofPt Ec.G)), ((some 8), fun _ => uv n), ((some 9), fun _ => .tuple #[pv (Ec.ofPt (Ec.mulP Ec.G n)), .int .i64 0]), ((some 6), fun _ => .tuple #[pv (Ec.ofPt (Ec.mulP Ec.G n)), .int .i64 0]), ((some 10), fun _ => pv (Ec.ofPt (Ec.mulP Ec.G n))), ((some 11), fun _ => .int .i64 0), ((some 4), fun b => .pointer (some ⟨b.b, 0, none⟩)), (none, fun _ => undef), ((some 5), fun _ => .int .i64 0)] (D2.Pre w.heap.size w (fun L g => [(true, (b2, Od Z9 26)), (true, (b1, Oc (uv n) 24)), (L 6, (bif L 7 then ((g 6).b, Oc (pv (Ec.ofPt (Ec.mulP Ec.G n))) 26) else ((g 6).b, Od Z9 26)))]) (fun L g => True)) kr kr kr kr ⟨D2.StE.of H2.drew _ kr, trivial⟩ ⟨?_, ?_, ?_, ?_, ?_, ?_, ?_, ?_, ?_, trivial⟩ ?_
  · exact D2.gv_call 22 #[] (fun _ _ _ h => h) base_fn (fun g w => kr)
  · exact D2.gv_load 24 (.tmp 1) 1 (fun g => b1) (Value.cells (uv n)) 24 (0, 0) (fun _ _ _ h => h) (fun g => kr) (fun g => kr) (fun L g hN => kr) kr
  · exact D2.gv_call 17 #[pv (Ec.ofPt Ec.G), uv n] (fun _ _ _ h => h) (times_pt_fn Ec.G Ec.G_on n hn) (fun g w => kr)
  · exact D2.gv_val (fun _ _ _ h => h) (fun g w => kr)
  · exact D2.gv_val (fun _ _ _ h => h) (fun g w => kr)
  · exact D2.gv_val (fun _ _ _ h => h) (fun g w => kr)
  · exact D2.gv_alloc 26 (.agg Z9) 2 (fun g => kr) kr (fun L g b hN => (by have hL7 : L 7 = false := (hN.post 7 kr); exact D2.ent_set (x' := (true, (bif L 7 then (((D2.setN g 6 { b := b }) 6).b, Oc (pv (Ec.ofPt (Ec.mulP Ec.G n))) 26) else (((D2.setN g 6 { b := b }) 6).b, Od Z9 26)))) kr (by simp only [hL7, cond_true, cond_false] <;> rfl))) (fun L g b hN hF => hF)
  · exact D2.gv_store 2 26 (.tmp 4) (.tmp 10) (fun g => (g 6).b) (fun g => 0) Z9 (Value.cells (pv (Ec.ofPt (Ec.mulP Ec.G n)))) 26 (pv (Ec.ofPt (Ec.mulP Ec.G n))) (fun g => kr) (fun g => kr) (fun g => kr) kr kr (fun g => (of_decide_eq_true kr)) (fun g => kr) (fun L g hN => ⟨(by have hL6 : L 6 = true := (hN.bef 6 kr); have hL7 : L 7 = false := hN.1; exact D2.ent_get' (p := L 6) (e := (bif L 7 then ((g 6).b, Oc (pv (Ec.ofPt (Ec.mulP Ec.G n))) 26) else ((g 6).b, Od Z9 26))) kr (by exact hL6) (by simp only [hL6, hL7, cond_true, cond_false] <;> rfl)), (by have hL6 : L 6 = true := (hN.bef 6 kr); exact D2.ent_set (x' := (L 6, ((g 6).b, Oc (pv (Ec.ofPt (Ec.mulP Ec.G n))) 26))) kr (by simp only [hL6, cond_true, cond_false] <;> rfl))⟩) (fun L g hN hF => hF)
  · exact D2.gv_val (fun _ _ _ h => h) (fun g w => kr)
  intro L0 G3 w3 hall HL; clear H2
  have H3 : St w.heap.size w w3 [(b2, Od Z9 26), (b1, Oc (uv n) 24), ((G3 6).b, Oc (pv (Ec.ofPt (Ec.mulP Ec.G n))) 26)] := by have e6 := hall 6 (Nat.le_of_ble_eq_true kr); have e7 := hall 7 (Nat.le_of_ble_eq_true kr); have hS := D2.StE.st HL.1; simp only [e6, e7, cond_true, D2.pres] at hS; exact hS
  clear HL hall
  refine D2.g_sdraw [0, 1, 2, 3, 4, 5, 6, 7, 8] [((some 12), fun _ => pv (Ec.ofPt (Ec.mulP Ec.G n))), ((some 13), fun _ => .int .i64 0), ((some 14), fun _ => .bool true), ((some 15), fun _ => .bool true), ((some 16), fun _ => pv (Ec.ofPt (Ec.mulP Ec.G n))), ((some 17), fun _ => .bool true), ((some 18), fun _ => .bool true), (none, fun _ => undef), ((some 3), fun _ => .bool true)] (D2.Pre w.heap.size w (fun L g => [(true, (bif L 7 then (b2, Oc (pv (Ec.ofPt (Ec.mulP Ec.G n))) 26) else (b2, Od Z9 26))), (true, (b1, Oc (uv n) 24)), (true, ((G3 6).b, Oc (pv (Ec.ofPt (Ec.mulP Ec.G n))) 26))]) (fun L g => True)) kr kr kr kr ⟨D2.StE.of H3.drew _ kr, trivial⟩ ⟨?_, ?_, ?_, ?_, ?_, ?_, ?_, ?_, ?_, trivial⟩ ?_
  · exact D2.gv_load 26 (.tmp 4) 2 (fun g => (G3 6).b) (Value.cells (pv (Ec.ofPt (Ec.mulP Ec.G n)))) 26 (0, 0) (fun _ _ _ h => h) (fun g => kr) (fun g => kr) (fun L g hN => kr) kr
  · exact D2.gv_val (fun _ _ _ h => h) (fun g w => kr)
  · exact D2.gv_val (fun _ _ _ h => h) (fun g w => kr)
  · exact D2.gv_val (fun _ _ _ h => h) (fun g w => kr)
  · exact D2.gv_load 26 (.tmp 4) 2 (fun g => (G3 6).b) (Value.cells (pv (Ec.ofPt (Ec.mulP Ec.G n)))) 26 (0, 0) (fun _ _ _ h => h) (fun g => kr) (fun g => kr) (fun L g hN => kr) kr
  · exact D2.gv_call 11 #[pv (Ec.ofPt (Ec.mulP Ec.G n))] (fun _ _ _ h => h) (ron_yes (Ec.ofPt (Ec.mulP Ec.G n)) (Ec.ofPt_ok _) (Ec.onB_pt (Ec.mulP_on Ec.good Ec.G_on n))) (fun g w => kr)
  · exact D2.gv_val (fun _ _ _ h => h) (fun g w => kr)
  · exact D2.gv_store 0 26 (.tmp 2) (.tmp 12) (fun g => b2) (fun g => 0) Z9 (Value.cells (pv (Ec.ofPt (Ec.mulP Ec.G n)))) 26 (pv (Ec.ofPt (Ec.mulP Ec.G n))) (fun g => kr) (fun g => kr) (fun g => kr) kr kr (fun g => (of_decide_eq_true kr)) (fun g => kr) (fun L g hN => ⟨(by have hL7 : L 7 = false := hN.1; exact D2.ent_get' (p := true) (e := (bif L 7 then (b2, Oc (pv (Ec.ofPt (Ec.mulP Ec.G n))) 26) else (b2, Od Z9 26))) kr (by rfl) (by simp only [hL7, cond_true, cond_false] <;> rfl)), kr⟩) (fun L g hN hF => hF)
  · exact D2.gv_val (fun _ _ _ h => h) (fun g w => kr)
  intro L0 G4 w4 hall HL; clear H3
  have H4 : St w.heap.size w w4 [(b2, Oc (pv (Ec.ofPt (Ec.mulP Ec.G n))) 26), (b1, Oc (uv n) 24), ((G3 6).b, Oc (pv (Ec.ofPt (Ec.mulP Ec.G n))) 26)] := by have e7 := hall 7 (Nat.le_of_ble_eq_true kr); have hS := D2.StE.st HL.1; simp only [e7, cond_true, D2.pres] at hS; exact hS
  clear HL hall
  refine g_ret kr ?_
  show ∃ vs, Res _ _ _ _ vs ∧ _
  refine ⟨[pv (Ec.ofPt (Ec.mulP Ec.G n)), .bool true], (.agg (b := b2) (Value.cells (pv (Ec.ofPt (Ec.mulP Ec.G n)))) 26 (0, 0) kr (H4.get 0 kr) kr (.tmp (.bool true) kr .nil)), ?_, H4.below⟩
  rfl


theorem order_at (n : Nat) : Ec.mulP (Ec.mulP Ec.G n) NR = .zero := by
  rw [← Ec.mulP_mul Ec.good Ec.G_on, Nat.mul_comm, Ec.mulP_mul Ec.good Ec.G_on, Ec.G_order, Ec.mulP_zero]
theorem sum_at (n m k : Nat) : Ec.Pt.add (Ec.mulP Ec.G n) (Ec.mulP (Ec.mulP Ec.G k) m) = Ec.mulP Ec.G (fAdd n (fMul k m NR) NR) := by
  unfold fAdd fMul
  rw [Nat.add_mod_mod, Ec.mulP_mod Ec.good Ec.G_on Ec.G_order, Ec.mulP_add Ec.good Ec.G_on, Ec.mulP_mul Ec.good Ec.G_on]
theorem nr_pos : 0 < NR := by decide +kernel
theorem neg_at {k : Nat} (m : Nat) : Ec.mulP (Ec.mulP Ec.G m) (fSub 0 k NR) = Ec.Pt.neg (Ec.mulP (Ec.mulP Ec.G m) k) := by
  have hon := Ec.mulP_on Ec.good Ec.G_on m
  have ho := order_at m
  unfold fSub
  rw [Nat.zero_mod, Nat.zero_add, Ec.mulP_mod Ec.good hon ho, Ec.mulP_neg Ec.good hon ho (Nat.le_of_lt (Nat.mod_lt _ nr_pos)), Ec.mulP_mod Ec.good hon ho]
theorem add_c {P Q : Ec.Pt Ec.Fp} (hP : P.On Ec.seven) (hQ : Q.On Ec.seven) : P.add Q = Q.add P := Ec.add_comm' Ec.good.two Ec.good.three Ec.good.b hP hQ
theorem add_a {P Q R : Ec.Pt Ec.Fp} (hP : P.On Ec.seven) (hQ : Q.On Ec.seven) (hR : R.On Ec.seven) : (P.add Q).add R = P.add (Q.add R) := Ec.add_assoc' Ec.good.two Ec.good.three Ec.good.b hP hQ hR
theorem mul_over {P : Ec.Pt Ec.Fp} {n : Nat} (h : ov n 1 = false) : Ec.Pt.add (Ec.mulP P n) P = Ec.mulP P (sm n 1) := by
  unfold ov at h; have h := of_decide_eq_false h
  unfold sm; rw [Nat.mod_eq_of_lt (by omega)]; rfl
theorem mul_far {P : Ec.Pt Ec.Fp} {n : Nat} (hP : P.On Ec.seven) (h : ov n n = false) : Ec.Pt.add (Ec.mulP P n) (Ec.mulP P n) = Ec.mulP P (sm n n) := by
  unfold ov at h; have h := of_decide_eq_false h
  unfold sm; rw [Nat.mod_eq_of_lt (by omega), Ec.mulP_add Ec.good hP]
end Go.Proofs.Ytljhbhhpfkmemaa
