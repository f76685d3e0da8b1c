/-
  Package point: Add, Times, Both.
-/
import Derived.Test.YtljhbhhpfkmemaaPtV
import Derived.Test.YtljhbhhpfkmemaaPtT
namespace Go.Proofs.Ytljhbhhpfkmemaa
open Go Go.RowKit
set_option linter.unusedVariables false
set_option maxRecDepth 100000 in
set_option maxHeartbeats 2000000 in
theorem add_pt_fn (P : Ec.Pt Ec.Fp) (hP : P.On Ec.seven) (Q : Ec.Pt Ec.Fp) (hQ : Q.On Ec.seven) : Fn Try.prog 13 #[pv (Ec.ofPt P), pv (Ec.ofPt Q)] (.tuple #[pv (Ec.ofPt (P.add Q)), .int .i64 0]) := by
  refine Fn.intro (c := codeOf Try.f13) [.cell 4 26, .tmp 5] 21 Try.func13 kr kr kr fun w => ?_
  have H0 := St.start w
  refine g_sreg [0, 1, 2, 3] kr kr ?_
  refine s_box H0 (some 2) 26 (.tmp 0) (pv (Ec.ofPt P)) kr kr kr ?_
  intro b1 w1 H1; clear H0
  refine s_box H1 (some 3) 26 (.tmp 1) (pv (Ec.ofPt Q)) kr kr kr ?_
  intro b2 w2 H2; clear H1
  refine s_alloc H2 (some 4) 26 (.agg Z9) kr kr kr ?_
  intro b3 w3 H3; clear H2
  refine s_val (some 5) (.int .i64 0) (fun w => kr) kr ?_
  refine s_nil ?_
  refine g_seq kr ?_
  refine g_sreg [0, 1, 2, 3, 4, 5, 6, 7] kr kr ?_
  refine s_load H3 (some 6) 26 (.tmp 2) 2 b1 (Value.cells (pv (Ec.ofPt P))) 26 (0, 0) kr kr kr kr kr ?_
  refine s_call H3 (some 7) 10 #[pv (Ec.ofPt P)] (.bool true) (on_yes (Ec.ofPt P) (Ec.ofPt_ok _) (Ec.onB_pt hP)) (fun w => kr) kr ?_
  intro w4 H4; clear H3
  refine s_val (some 8) (.bool false) (fun w => kr) kr ?_
  refine s_val (some 9) (.bool false) (fun w => kr) kr ?_
  refine s_load H4 (some 10) 26 (.tmp 3) 1 b2 (Value.cells (pv (Ec.ofPt Q))) 26 (0, 0) kr kr kr kr kr ?_
  refine s_call H4 (some 11) 10 #[pv (Ec.ofPt Q)] (.bool true) (on_yes (Ec.ofPt Q) (Ec.ofPt_ok _) (Ec.onB_pt hQ)) (fun w => kr) kr ?_
  intro w5 H5; clear H4
  refine s_val (some 12) (.bool false) (fun w => kr) kr ?_
  refine s_val (some 13) (.bool false) (fun w => kr) kr ?_
  refine s_nil ?_
  refine g_cond_f kr kr ?_
  refine g_skip kr ?_
  show WP _ _ _ _ _ _
  refine D2.g_sdraw [0, 1, 2, 3, 4, 5, 6, 7] [((some 15), fun _ => pv (Ec.ofPt P)), ((some 16), fun _ => wv (Ec.widenW (Ec.ofPt P))), ((some 17), fun _ => pv (Ec.ofPt Q)), ((some 18), fun _ => wv (Ec.widenW (Ec.ofPt Q))), ((some 19), fun _ => wv (Ec.plusW (Ec.widenW (Ec.ofPt P)) (Ec.widenW (Ec.ofPt Q)))), ((some 20), fun _ => pv (Ec.ofPt (Ec.Pt.add P Q))), (none, fun _ => undef), ((some 5), fun _ => .int .i64 0)] (D2.Pre w.heap.size w (fun L g => [(true, (bif L 6 then (b3, Oc (pv (Ec.ofPt (Ec.Pt.add P Q))) 26) else (b3, Od Z9 26))), (true, (b2, Oc (pv (Ec.ofPt Q)) 26)), (true, (b1, Oc (pv (Ec.ofPt P)) 26))]) (fun L g => True)) kr kr kr kr ⟨D2.StE.of H5.drew _ kr, trivial⟩ ⟨?_, ?_, ?_, ?_, ?_, ?_, ?_, ?_, trivial⟩ ?_
  · exact D2.gv_load 26 (.tmp 2) 2 (fun g => b1) (Value.cells (pv (Ec.ofPt P))) 26 (0, 0) (fun _ _ _ h => h) (fun g => kr) (fun g => kr) (fun L g hN => kr) kr
  · exact D2.gv_call 35 #[pv (Ec.ofPt P)] (fun _ _ _ h => h) (widen_fn (Ec.ofPt P) (Ec.ofPt_ok _)) (fun g w => kr)
  · exact D2.gv_load 26 (.tmp 3) 1 (fun g => b2) (Value.cells (pv (Ec.ofPt Q))) 26 (0, 0) (fun _ _ _ h => h) (fun g => kr) (fun g => kr) (fun L g hN => kr) kr
  · exact D2.gv_call 35 #[pv (Ec.ofPt Q)] (fun _ _ _ h => h) (widen_fn (Ec.ofPt Q) (Ec.ofPt_ok _)) (fun g w => kr)
  · exact D2.gv_call 36 #[wv (Ec.widenW (Ec.ofPt P)), wv (Ec.widenW (Ec.ofPt Q))] (fun _ _ _ h => h) (plus_fn (Ec.widenW (Ec.ofPt P)) (Ec.widenW (Ec.ofPt Q)) (Ec.widenW_ok (Ec.ofPt_ok _)) (Ec.widenW_ok (Ec.ofPt_ok _))) (fun g w => kr)
  · exact D2.gv_call 37 #[wv (Ec.plusW (Ec.widenW (Ec.ofPt P)) (Ec.widenW (Ec.ofPt Q)))] (fun _ _ _ h => h) (narrow_fn (Ec.plusW (Ec.widenW (Ec.ofPt P)) (Ec.widenW (Ec.ofPt Q))) (Ec.plusW_ok (Ec.widenW_ok (Ec.ofPt_ok _)) (Ec.widenW_ok (Ec.ofPt_ok _))) (Ec.Pt.add P Q) (Ec.plus_rep (Ec.widen_rep P) (Ec.widen_rep Q) hP hQ)) (fun g w => kr)
  · exact D2.gv_store 0 26 (.tmp 4) (.tmp 20) (fun g => b3) (fun g => 0) Z9 (Value.cells (pv (Ec.ofPt (Ec.Pt.add P Q)))) 26 (pv (Ec.ofPt (Ec.Pt.add P Q))) (fun g => kr) (fun g => kr) (fun g => kr) kr kr (fun g => (of_decide_eq_true kr)) (fun g => kr) (fun L g hN => ⟨(by have hL6 : L 6 = false := hN.1; exact D2.ent_get' (p := true) (e := (bif L 6 then (b3, Oc (pv (Ec.ofPt (Ec.Pt.add P Q))) 26) else (b3, Od Z9 26))) kr (by rfl) (by simp only [hL6, cond_true, cond_false] <;> rfl)), kr⟩) (fun L g hN hF => hF)
  · exact D2.gv_val (fun _ _ _ h => h) (fun g w => kr)
  intro L0 G6 w6 hall HL; clear H5
  have H6 : St w.heap.size w w6 [(b3, Oc (pv (Ec.ofPt (Ec.Pt.add P Q))) 26), (b2, Oc (pv (Ec.ofPt Q)) 26), (b1, Oc (pv (Ec.ofPt P)) 26)] := by have e6 := hall 6 (Nat.le_of_ble_eq_true kr); have hS := D2.StE.st HL.1; simp only [e6, cond_true, D2.pres] at hS; exact hS
  clear HL hall
  refine g_ret kr ?_
  show ∃ vs, Res _ _ _ _ vs ∧ _
  refine ⟨[pv (Ec.ofPt (Ec.Pt.add P Q)), .int .i64 0], (.agg (b := b3) (Value.cells (pv (Ec.ofPt (Ec.Pt.add P Q)))) 26 (0, 0) kr (H6.get 0 kr) kr (.tmp (.int .i64 0) kr .nil)), ?_, H6.below⟩
  rfl

set_option maxRecDepth 100000 in
set_option maxHeartbeats 2000000 in
theorem addNo1_fn (p : Ec.Pd) (hp : p.Ok) (h : Ec.onB p = false) (q : Ec.Pd) (hq : q.Ok) : Fn Try.prog 13 #[pv p, pv q] (.tuple #[pv (Ec.Pd.mk 0 0 false), .int .i64 1]) := by
  refine Fn.intro (c := codeOf Try.f13) [.cell 4 26, .tmp 5] 21 Try.func13 kr kr kr fun w => ?_
  have H0 := St.start w
  refine g_sreg [0, 1, 2, 3] kr kr ?_
  refine s_box H0 (some 2) 26 (.tmp 0) (pv p) kr kr kr ?_
  intro b1 w1 H1; clear H0
  refine s_box H1 (some 3) 26 (.tmp 1) (pv q) kr kr kr ?_
  intro b2 w2 H2; clear H1
  refine s_alloc H2 (some 4) 26 (.agg Z9) kr kr kr ?_
  intro b3 w3 H3; clear H2
  refine s_val (some 5) (.int .i64 0) (fun w => kr) kr ?_
  refine s_nil ?_
  refine g_seq kr ?_
  refine g_sreg [0, 1, 2, 3, 4, 5, 6, 7] kr kr ?_
  refine s_load H3 (some 6) 26 (.tmp 2) 2 b1 (Value.cells (pv p)) 26 (0, 0) kr kr kr kr kr ?_
  refine s_call H3 (some 7) 10 #[pv p] (.bool false) (on_no p hp h) (fun w => kr) kr ?_
  intro w4 H4; clear H3
  refine s_val (some 8) (.bool true) (fun w => kr) kr ?_
  refine s_val (some 9) (.bool true) (fun w => kr) kr ?_
  refine s_not (some 10) kr kr ?_
  refine s_not (some 11) kr kr ?_
  refine s_not (some 12) kr kr ?_
  refine s_val (some 13) (.bool true) (fun w => kr) kr ?_
  refine s_nil ?_
  refine g_cond_t kr kr ?_
  refine g_sreg [0, 1, 2] kr kr ?_
  refine s_val (some 14) (pv (Ec.Pd.mk 0 0 false)) (fun w => kr) kr ?_
  refine s_store H4 0 [(b3, Oc (pv (Ec.Pd.mk 0 0 false)) 26), (b2, Oc (pv q) 26), (b1, Oc (pv p) 26)] 26 (.tmp 4) (.tmp 14) b3 (0) Z9 (Value.cells (pv (Ec.Pd.mk 0 0 false))) 26 (pv (Ec.Pd.mk 0 0 false)) kr kr kr kr kr kr (of_decide_eq_true kr) kr kr ?_
  intro w5 H5; clear H4
  refine s_val (some 5) (.int .i64 1) (fun w => kr) kr ?_
  refine s_nil ?_
  refine g_ret kr ?_
  show ∃ vs, Res _ _ _ _ vs ∧ _
  refine ⟨[pv (Ec.Pd.mk 0 0 false), .int .i64 1], (.agg (b := b3) (Value.cells (pv (Ec.Pd.mk 0 0 false))) 26 (0, 0) kr (H5.get 0 kr) kr (.tmp (.int .i64 1) kr .nil)), ?_, H5.below⟩
  kernel_rfl

set_option maxRecDepth 100000 in
set_option maxHeartbeats 2000000 in
theorem addNo2_fn (P : Ec.Pt Ec.Fp) (hP : P.On Ec.seven) (q : Ec.Pd) (hq : q.Ok) (h : Ec.onB q = false) : Fn Try.prog 13 #[pv (Ec.ofPt P), pv q] (.tuple #[pv (Ec.Pd.mk 0 0 false), .int .i64 1]) := by
  refine Fn.intro (c := codeOf Try.f13) [.cell 4 26, .tmp 5] 21 Try.func13 kr kr kr fun w => ?_
  have H0 := St.start w
  refine g_sreg [0, 1, 2, 3] kr kr ?_
  refine s_box H0 (some 2) 26 (.tmp 0) (pv (Ec.ofPt P)) kr kr kr ?_
  intro b1 w1 H1; clear H0
  refine s_box H1 (some 3) 26 (.tmp 1) (pv q) kr kr kr ?_
  intro b2 w2 H2; clear H1
  refine s_alloc H2 (some 4) 26 (.agg Z9) kr kr kr ?_
  intro b3 w3 H3; clear H2
  refine s_val (some 5) (.int .i64 0) (fun w => kr) kr ?_
  refine s_nil ?_
  refine g_seq kr ?_
  refine g_sreg [0, 1, 2, 3, 4, 5, 6, 7] kr kr ?_
  refine s_load H3 (some 6) 26 (.tmp 2) 2 b1 (Value.cells (pv (Ec.ofPt P))) 26 (0, 0) kr kr kr kr kr ?_
  refine s_call H3 (some 7) 10 #[pv (Ec.ofPt P)] (.bool true) (on_yes (Ec.ofPt P) (Ec.ofPt_ok _) (Ec.onB_pt hP)) (fun w => kr) kr ?_
  intro w4 H4; clear H3
  refine s_val (some 8) (.bool false) (fun w => kr) kr ?_
  refine s_val (some 9) (.bool false) (fun w => kr) kr ?_
  refine s_load H4 (some 10) 26 (.tmp 3) 1 b2 (Value.cells (pv q)) 26 (0, 0) kr kr kr kr kr ?_
  refine s_call H4 (some 11) 10 #[pv q] (.bool false) (on_no q hq h) (fun w => kr) kr ?_
  intro w5 H5; clear H4
  refine s_val (some 12) (.bool true) (fun w => kr) kr ?_
  refine s_val (some 13) (.bool true) (fun w => kr) kr ?_
  refine s_nil ?_
  refine g_cond_t kr kr ?_
  refine g_sreg [0, 1, 2] kr kr ?_
  refine s_val (some 14) (pv (Ec.Pd.mk 0 0 false)) (fun w => kr) kr ?_
  refine s_store H5 0 [(b3, Oc (pv (Ec.Pd.mk 0 0 false)) 26), (b2, Oc (pv q) 26), (b1, Oc (pv (Ec.ofPt P)) 26)] 26 (.tmp 4) (.tmp 14) b3 (0) Z9 (Value.cells (pv (Ec.Pd.mk 0 0 false))) 26 (pv (Ec.Pd.mk 0 0 false)) kr kr kr kr kr kr (of_decide_eq_true kr) kr kr ?_
  intro w6 H6; clear H5
  refine s_val (some 5) (.int .i64 1) (fun w => kr) kr ?_
  refine s_nil ?_
  refine g_ret kr ?_
  show ∃ vs, Res _ _ _ _ vs ∧ _
  refine ⟨[pv (Ec.Pd.mk 0 0 false), .int .i64 1], (.agg (b := b3) (Value.cells (pv (Ec.Pd.mk 0 0 false))) 26 (0, 0) kr (H6.get 0 kr) kr (.tmp (.int .i64 1) kr .nil)), ?_, H6.below⟩
  kernel_rfl

set_option maxRecDepth 100000 in
set_option maxHeartbeats 2000000 in
theorem times_pt_fn (P : Ec.Pt Ec.Fp) (hP : P.On Ec.seven) (n : Nat) (hn : n < big) : Fn Try.prog 17 #[pv (Ec.ofPt P), uv n] (.tuple #[pv (Ec.ofPt (Ec.mulP P n)), .int .i64 0]) := by
  refine Fn.intro (c := codeOf Try.f17) [.cell 4 26, .tmp 5] 16 Try.func17 kr kr kr fun w => ?_
  have H0 := St.start w
  refine g_sreg [0, 1, 2, 3] kr kr ?_
  refine s_box H0 (some 2) 26 (.tmp 0) (pv (Ec.ofPt P)) kr kr kr ?_
  intro b1 w1 H1; clear H0
  refine s_box H1 (some 3) 24 (.tmp 1) (uv n) kr kr kr ?_
  intro b2 w2 H2; clear H1
  refine s_alloc H2 (some 4) 26 (.agg Z9) kr kr kr ?_
  intro b3 w3 H3; clear H2
  refine s_val (some 5) (.int .i64 0) (fun w => kr) kr ?_
  refine s_nil ?_
  refine g_seq kr ?_
  refine g_sreg [0, 1, 2] kr kr ?_
  refine s_load H3 (some 6) 26 (.tmp 2) 2 b1 (Value.cells (pv (Ec.ofPt P))) 26 (0, 0) kr kr kr kr kr ?_
  refine s_call H3 (some 7) 10 #[pv (Ec.ofPt P)] (.bool true) (on_yes (Ec.ofPt P) (Ec.ofPt_ok _) (Ec.onB_pt hP)) (fun w => kr) kr ?_
  intro w4 H4; clear H3
  refine s_val (some 8) (.bool false) (fun w => kr) kr ?_
  refine s_nil ?_
  refine g_cond_f kr kr ?_
  refine g_skip kr ?_
  show WP _ _ _ _ _ _
  refine g_sreg [0, 1, 2, 3, 4, 5, 6, 7] kr kr ?_
  refine s_load H4 (some 10) 26 (.tmp 2) 2 b1 (Value.cells (pv (Ec.ofPt P))) 26 (0, 0) kr kr kr kr kr ?_
  refine s_load H4 (some 11) 24 (.tmp 3) 1 b2 (Value.cells (uv n)) 24 (0, 0) kr kr kr kr kr ?_
  refine s_callN H4 (some 12) 41 #[pv (Ec.ofPt P), uv n] (fun _ => True) 80 (Value.cells (shv n (Ec.widenW (Ec.ofPt P)) 15)) (often_fn (Ec.ofPt P) (Ec.ofPt_ok _) n hn) trivial kr kr ?_
  intro b_1 w5 H5; clear H4
  refine s_new H5 (some 13) (fun b => .slice (some ⟨b, 0, none⟩) 1 1) #[.pointer (some ⟨b_1, 0, none⟩)] 58 (fun w => kr) kr ?_
  intro b4 w6 H6; clear H5
  refine s_callP H6 (some 14) 40 #[.slice (some ⟨b4, 0, none⟩) 1 1] (fun w => w.heap[b4]? = some (.cells #[Value.pointer (some ⟨b_1, 0, none⟩)] 58 (0, 0)) ∧ w.heap[b_1]? = some (.cells (Value.cells (shv n (Ec.widenW (Ec.ofPt P)) 15)) 80 (0, 0))) (wv (Ec.tog n (Ec.widenW (Ec.ofPt P)) 64)) (together1_fn n (Ec.widenW (Ec.ofPt P)) (Ec.widenW_ok (Ec.ofPt_ok _)) hn b4 b_1) (⟨(H6.get 0 kr), (H6.get 1 kr)⟩) (fun w => kr) kr ?_
  intro w7 H7; clear H6
  refine s_call H7 (some 15) 37 #[wv (Ec.tog n (Ec.widenW (Ec.ofPt P)) 64)] (pv (Ec.ofPt (Ec.mulP P n))) (narrow_fn (Ec.tog n (Ec.widenW (Ec.ofPt P)) 64) (Ec.tog_ok (Ec.widenW_ok (Ec.ofPt_ok _)) 64) (Ec.mulP P n) (Ec.tog_end hn hP)) (fun w => kr) kr ?_
  intro w8 H8; clear H7
  refine s_store H8 2 [(b4, Obj.cells #[.pointer (some ⟨b_1, 0, none⟩)] 58 (0, 0)), (b_1, Oc (shv n (Ec.widenW (Ec.ofPt P)) 15) 80), (b3, Oc (pv (Ec.ofPt (Ec.mulP P n))) 26), (b2, Oc (uv n) 24), (b1, Oc (pv (Ec.ofPt P)) 26)] 26 (.tmp 4) (.tmp 15) b3 (0) Z9 (Value.cells (pv (Ec.ofPt (Ec.mulP P n)))) 26 (pv (Ec.ofPt (Ec.mulP P n))) kr kr kr kr kr kr (of_decide_eq_true kr) kr kr ?_
  intro w9 H9; clear H8
  refine s_val (some 5) (.int .i64 0) (fun w => kr) kr ?_
  refine s_nil ?_
  refine g_ret kr ?_
  show ∃ vs, Res _ _ _ _ vs ∧ _
  refine ⟨[pv (Ec.ofPt (Ec.mulP P n)), .int .i64 0], (.agg (b := b3) (Value.cells (pv (Ec.ofPt (Ec.mulP P n)))) 26 (0, 0) kr (H9.get 2 kr) kr (.tmp (.int .i64 0) kr .nil)), ?_, H9.below⟩
  rfl

set_option maxRecDepth 100000 in
set_option maxHeartbeats 2000000 in
theorem timesNo_fn (p : Ec.Pd) (hp : p.Ok) (h : Ec.onB p = false) (n : Nat) (hn : n < big) : Fn Try.prog 17 #[pv p, uv n] (.tuple #[pv (Ec.Pd.mk 0 0 false), .int .i64 1]) := by
  refine Fn.intro (c := codeOf Try.f17) [.cell 4 26, .tmp 5] 16 Try.func17 kr kr kr fun w => ?_
  have H0 := St.start w
  refine g_sreg [0, 1, 2, 3] kr kr ?_
  refine s_box H0 (some 2) 26 (.tmp 0) (pv p) kr kr kr ?_
  intro b1 w1 H1; clear H0
  refine s_box H1 (some 3) 24 (.tmp 1) (uv n) kr kr kr ?_
  intro b2 w2 H2; clear H1
  refine s_alloc H2 (some 4) 26 (.agg Z9) kr kr kr ?_
  intro b3 w3 H3; clear H2
  refine s_val (some 5) (.int .i64 0) (fun w => kr) kr ?_
  refine s_nil ?_
  refine g_seq kr ?_
  refine g_sreg [0, 1, 2] kr kr ?_
  refine s_load H3 (some 6) 26 (.tmp 2) 2 b1 (Value.cells (pv p)) 26 (0, 0) kr kr kr kr kr ?_
  refine s_call H3 (some 7) 10 #[pv p] (.bool false) (on_no p hp h) (fun w => kr) kr ?_
  intro w4 H4; clear H3
  refine s_val (some 8) (.bool true) (fun w => kr) kr ?_
  refine s_nil ?_
  refine g_cond_t kr kr ?_
  refine g_sreg [0, 1, 2] kr kr ?_
  refine s_val (some 9) (pv (Ec.Pd.mk 0 0 false)) (fun w => kr) kr ?_
  refine s_store H4 0 [(b3, Oc (pv (Ec.Pd.mk 0 0 false)) 26), (b2, Oc (uv n) 24), (b1, Oc (pv p) 26)] 26 (.tmp 4) (.tmp 9) b3 (0) Z9 (Value.cells (pv (Ec.Pd.mk 0 0 false))) 26 (pv (Ec.Pd.mk 0 0 false)) kr kr kr kr kr kr (of_decide_eq_true kr) kr kr ?_
  intro w5 H5; clear H4
  refine s_val (some 5) (.int .i64 1) (fun w => kr) kr ?_
  refine s_nil ?_
  refine g_ret kr ?_
  show ∃ vs, Res _ _ _ _ vs ∧ _
  refine ⟨[pv (Ec.Pd.mk 0 0 false), .int .i64 1], (.agg (b := b3) (Value.cells (pv (Ec.Pd.mk 0 0 false))) 26 (0, 0) kr (H5.get 0 kr) kr (.tmp (.int .i64 1) kr .nil)), ?_, H5.below⟩
  kernel_rfl

set_option maxRecDepth 100000 in
set_option maxHeartbeats 2000000 in
theorem both_pt_fn (P : Ec.Pt Ec.Fp) (hP : P.On Ec.seven) (n : Nat) (hn : n < big) (Q : Ec.Pt Ec.Fp) (hQ : Q.On Ec.seven) (m : Nat) (hm : m < big) : Fn Try.prog 21 #[pv (Ec.ofPt P), uv n, pv (Ec.ofPt Q), uv m] (.tuple #[pv (Ec.ofPt ((Ec.mulP P n).add (Ec.mulP Q m))), .int .i64 0]) := by
  refine Fn.intro (c := codeOf Try.f21) [.cell 8 26, .tmp 9] 28 Try.func21 kr kr kr fun w => ?_
  have H0 := St.start w
  refine g_sreg [0, 1, 2, 3, 4, 5] kr kr ?_
  refine s_box H0 (some 4) 26 (.tmp 0) (pv (Ec.ofPt P)) kr kr kr ?_
  intro b1 w1 H1; clear H0
  refine s_box H1 (some 5) 24 (.tmp 1) (uv n) kr kr kr ?_
  intro b2 w2 H2; clear H1
  refine s_box H2 (some 6) 26 (.tmp 2) (pv (Ec.ofPt Q)) kr kr kr ?_
  intro b3 w3 H3; clear H2
  refine s_box H3 (some 7) 24 (.tmp 3) (uv m) kr kr kr ?_
  intro b4 w4 H4; clear H3
  refine s_alloc H4 (some 8) 26 (.agg Z9) kr kr kr ?_
  intro b5 w5 H5; clear H4
  refine s_val (some 9) (.int .i64 0) (fun w => kr) kr ?_
  refine s_nil ?_
  refine g_seq kr ?_
  refine g_sreg [0, 1, 2, 3, 4, 5, 6, 7] kr kr ?_
  refine s_load H5 (some 10) 26 (.tmp 4) 4 b1 (Value.cells (pv (Ec.ofPt P))) 26 (0, 0) kr kr kr kr kr ?_
  refine s_call H5 (some 11) 10 #[pv (Ec.ofPt P)] (.bool true) (on_yes (Ec.ofPt P) (Ec.ofPt_ok _) (Ec.onB_pt hP)) (fun w => kr) kr ?_
  intro w6 H6; clear H5
  refine s_val (some 12) (.bool false) (fun w => kr) kr ?_
  refine s_val (some 13) (.bool false) (fun w => kr) kr ?_
  refine s_load H6 (some 14) 26 (.tmp 6) 2 b3 (Value.cells (pv (Ec.ofPt Q))) 26 (0, 0) kr kr kr kr kr ?_
  refine s_call H6 (some 15) 10 #[pv (Ec.ofPt Q)] (.bool true) (on_yes (Ec.ofPt Q) (Ec.ofPt_ok _) (Ec.onB_pt hQ)) (fun w => kr) kr ?_
  intro w7 H7; clear H6
  refine s_val (some 16) (.bool false) (fun w => kr) kr ?_
  refine s_val (some 17) (.bool false) (fun w => kr) kr ?_
  refine s_nil ?_
  refine g_cond_f kr kr ?_
  refine g_skip kr ?_
  show WP _ _ _ _ _ _
  refine D2.g_sdraw [0, 1, 2, 3, 4, 5, 6, 7, 8, 9, 10] [((some 19), fun _ => pv (Ec.ofPt P)), ((some 20), fun _ => uv n), ((some 21), fun b => .pointer (some ⟨b.b, 0, none⟩)), ((some 22), fun _ => pv (Ec.ofPt Q)), ((some 23), fun _ => uv m), ((some 24), fun b => .pointer (some ⟨b.b, 0, none⟩)), ((some 25), fun b => .slice (some ⟨b.b, 0, none⟩) 2 2), ((some 26), fun _ => wv (Ec.tog2 n (Ec.widenW (Ec.ofPt P)) m (Ec.widenW (Ec.ofPt Q)) 64)), ((some 27), fun _ => pv (Ec.ofPt (Ec.Pt.add (Ec.mulP P n) (Ec.mulP Q m)))), (none, fun _ => undef), ((some 9), fun _ => .int .i64 0)] (D2.Pre w.heap.size w (fun L g => [(true, (bif L 9 then (b5, Oc (pv (Ec.ofPt (Ec.Pt.add (Ec.mulP P n) (Ec.mulP Q m)))) 26) else (b5, Od Z9 26))), (true, (b4, Oc (uv m) 24)), (true, (b3, Oc (pv (Ec.ofPt Q)) 26)), (true, (b2, Oc (uv n) 24)), (true, (b1, Oc (pv (Ec.ofPt P)) 26)), (L 2, ((g 2).b, Oc (shv n (Ec.widenW (Ec.ofPt P)) 15) 80)), (L 5, ((g 5).b, Oc (shv m (Ec.widenW (Ec.ofPt Q)) 15) 80)), (L 6, ((g 6).b, Od ((g 6).cur) 58))]) (fun L g => (L 6 = true → ((g 6).cur = #[Value.pointer (some ⟨(g 2).b, 0, none⟩), Value.pointer (some ⟨(g 5).b, 0, none⟩)])) ∧ True)) kr kr kr kr ⟨D2.StE.of H7.drew _ kr, ⟨(fun h => nomatch h), trivial⟩⟩ ⟨?_, ?_, ?_, ?_, ?_, ?_, ?_, ?_, ?_, ?_, ?_, trivial⟩ ?_
  · exact D2.gv_load 26 (.tmp 4) 4 (fun g => b1) (Value.cells (pv (Ec.ofPt P))) 26 (0, 0) (fun _ _ _ h => h) (fun g => kr) (fun g => kr) (fun L g hN => kr) kr
  · exact D2.gv_load 24 (.tmp 5) 3 (fun g => b2) (Value.cells (uv n)) 24 (0, 0) (fun _ _ _ h => h) (fun g => kr) (fun g => kr) (fun L g hN => kr) kr
  · exact D2.gv_callN 41 (fun g => #[pv (Ec.ofPt P), uv n]) (fun g => fun _ => True) 80 (Value.cells (shv n (Ec.widenW (Ec.ofPt P)) 15)) 5 (fun L g hN hF => often_fn (Ec.ofPt P) (Ec.ofPt_ok _) n hn) (fun L g w hN hE hF => trivial) (fun g w => kr) (fun L g b hN => kr) (fun L g b hN hF => ⟨(fun hx => nomatch (Eq.trans (Eq.symm (show L 6 = true from hx)) (hN.post 6 kr))), trivial⟩)
  · exact D2.gv_load 26 (.tmp 6) 2 (fun g => b3) (Value.cells (pv (Ec.ofPt Q))) 26 (0, 0) (fun _ _ _ h => h) (fun g => kr) (fun g => kr) (fun L g hN => kr) kr
  · exact D2.gv_load 24 (.tmp 7) 1 (fun g => b4) (Value.cells (uv m)) 24 (0, 0) (fun _ _ _ h => h) (fun g => kr) (fun g => kr) (fun L g hN => kr) kr
  · exact D2.gv_callN 41 (fun g => #[pv (Ec.ofPt Q), uv m]) (fun g => fun _ => True) 80 (Value.cells (shv m (Ec.widenW (Ec.ofPt Q)) 15)) 6 (fun L g hN hF => often_fn (Ec.ofPt Q) (Ec.ofPt_ok _) m hm) (fun L g w hN hE hF => trivial) (fun g w => kr) (fun L g b hN => kr) (fun L g b hN hF => ⟨(fun hx => nomatch (Eq.trans (Eq.symm (show L 6 = true from hx)) (hN.post 6 kr))), trivial⟩)
  · exact D2.gv_newC (fun b => .slice (some ⟨b, 0, none⟩) 2 2) (fun g => #[.pointer (some ⟨(g 2).b, 0, none⟩), .pointer (some ⟨(g 5).b, 0, none⟩)]) 58 7 (fun g w => kr) (fun L g x hN => kr) (fun L g b hN hF => ⟨fun _ => rfl, trivial⟩)
  · exact D2.gv_callP 40 (fun g => #[.slice (some ⟨(g 6).b, 0, none⟩) 2 2]) (fun g => fun w => w.heap[(g 6).b]? = some (.cells #[Value.pointer (some ⟨(g 2).b, 0, none⟩), Value.pointer (some ⟨(g 5).b, 0, none⟩)] 58 (0, 0)) ∧ w.heap[(g 2).b]? = some (.cells (Value.cells (shv n (Ec.widenW (Ec.ofPt P)) 15)) 80 (0, 0)) ∧ w.heap[(g 5).b]? = some (.cells (Value.cells (shv m (Ec.widenW (Ec.ofPt Q)) 15)) 80 (0, 0))) (fun _ _ _ h => h) (fun L g hN hF => by have hf6 := (hF.1 (hN.bef 6 kr)); exact together2_fn n (Ec.widenW (Ec.ofPt P)) (Ec.widenW_ok (Ec.ofPt_ok _)) hn m (Ec.widenW (Ec.ofPt Q)) (Ec.widenW_ok (Ec.ofPt_ok _)) hm ((g 6).b) ((g 2).b) ((g 5).b)) (fun L g w hN hE hF => by have hf6 := (hF.1 (hN.bef 6 kr)); exact ⟨(by have h9 : w.heap[(g 6).b]? = some (.cells (g 6).cur 58 (0, 0)) := (hE.get 7 (by have hL6 : L 6 = true := (hN.bef 6 kr); exact D2.ent_get' (p := L 6) (e := ((g 6).b, Od ((g 6).cur) 58)) kr (by exact hL6) (by simp only [hL6, cond_true, cond_false] <;> rfl))); rw [hf6] at h9; exact h9), (hE.get 5 (by have hL2 : L 2 = true := (hN.2.2.yes 2 6 kr (hN.bef 6 kr)); exact D2.ent_get' (p := L 2) (e := ((g 2).b, Oc (shv n (Ec.widenW (Ec.ofPt P)) 15) 80)) kr (by exact hL2) (by simp only [hL2, cond_true, cond_false] <;> rfl))), (hE.get 6 (by have hL5 : L 5 = true := (hN.bef 5 kr); exact D2.ent_get' (p := L 5) (e := ((g 5).b, Oc (shv m (Ec.widenW (Ec.ofPt Q)) 15) 80)) kr (by exact hL5) (by simp only [hL5, cond_true, cond_false] <;> rfl)))⟩) (fun g w => kr)
  · exact D2.gv_call 37 #[wv (Ec.tog2 n (Ec.widenW (Ec.ofPt P)) m (Ec.widenW (Ec.ofPt Q)) 64)] (fun _ _ _ h => h) (narrow_fn (Ec.tog2 n (Ec.widenW (Ec.ofPt P)) m (Ec.widenW (Ec.ofPt Q)) 64) (Ec.tog2_ok (Ec.widenW_ok (Ec.ofPt_ok _)) (Ec.widenW_ok (Ec.ofPt_ok _)) 64) (Ec.Pt.add (Ec.mulP P n) (Ec.mulP Q m)) (tog2_end hn hm hP hQ)) (fun g w => kr)
  · exact D2.gv_store 0 26 (.tmp 8) (.tmp 27) (fun g => b5) (fun g => 0) Z9 (Value.cells (pv (Ec.ofPt (Ec.Pt.add (Ec.mulP P n) (Ec.mulP Q m))))) 26 (pv (Ec.ofPt (Ec.Pt.add (Ec.mulP P n) (Ec.mulP Q m)))) (fun g => kr) (fun g => kr) (fun g => kr) kr kr (fun g => (of_decide_eq_true kr)) (fun g => kr) (fun L g hN => ⟨(by have hL9 : L 9 = false := hN.1; exact D2.ent_get' (p := true) (e := (bif L 9 then (b5, Oc (pv (Ec.ofPt (Ec.Pt.add (Ec.mulP P n) (Ec.mulP Q m)))) 26) else (b5, Od Z9 26))) kr (by rfl) (by simp only [hL9, cond_true, cond_false] <;> rfl)), kr⟩) (fun L g hN hF => hF)
  · exact D2.gv_val (fun _ _ _ h => h) (fun g w => kr)
  intro L0 G8 w8 hall HL; clear H7
  have H8 : St w.heap.size w w8 [(b5, Oc (pv (Ec.ofPt (Ec.Pt.add (Ec.mulP P n) (Ec.mulP Q m)))) 26), (b4, Oc (uv m) 24), (b3, Oc (pv (Ec.ofPt Q)) 26), (b2, Oc (uv n) 24), (b1, Oc (pv (Ec.ofPt P)) 26), ((G8 2).b, Oc (shv n (Ec.widenW (Ec.ofPt P)) 15) 80), ((G8 5).b, Oc (shv m (Ec.widenW (Ec.ofPt Q)) 15) 80), ((G8 6).b, Od ((G8 6).cur) 58)] := by have e2 := hall 2 (Nat.le_of_ble_eq_true kr); have e5 := hall 5 (Nat.le_of_ble_eq_true kr); have e6 := hall 6 (Nat.le_of_ble_eq_true kr); have e9 := hall 9 (Nat.le_of_ble_eq_true kr); have hS := D2.StE.st HL.1; simp only [e2, e5, e6, e9, cond_true, D2.pres] at hS; exact hS
  have hf6_8 : ((G8 6).cur = #[Value.pointer (some ⟨(G8 2).b, 0, none⟩), Value.pointer (some ⟨(G8 5).b, 0, none⟩)]) := HL.2.1 (hall 6 (Nat.le_of_ble_eq_true kr))
  clear HL hall
  refine g_ret kr ?_
  show ∃ vs, Res _ _ _ _ vs ∧ _
  refine ⟨[pv (Ec.ofPt (Ec.Pt.add (Ec.mulP P n) (Ec.mulP Q m))), .int .i64 0], (.agg (b := b5) (Value.cells (pv (Ec.ofPt (Ec.Pt.add (Ec.mulP P n) (Ec.mulP Q m))))) 26 (0, 0) kr (H8.get 0 kr) kr (.tmp (.int .i64 0) kr .nil)), ?_, H8.below⟩
  rfl
end Go.Proofs.Ytljhbhhpfkmemaa
