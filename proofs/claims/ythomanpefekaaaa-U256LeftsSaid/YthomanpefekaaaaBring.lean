/-
  bringDown.
-/
import Derived.Test.YthomanpefekaaaaDivM
import Derived.Test.YthomanpefekaaaaGuess
namespace Go.Proofs.Ythomanpefekaaaa
open Go Go.RowKit
set_option linter.unusedVariables false
/-- What is left, and how far below 0, after e divisors too many. -/
def lf (r D e : Nat) : Nat := (r + 2 * 115792089237316195423570985008687907853269984665640564039457584007913129639936 - e * D) % 115792089237316195423570985008687907853269984665640564039457584007913129639936
def tp (r D e : Nat) : Nat := ((r + 2 * 115792089237316195423570985008687907853269984665640564039457584007913129639936 - e * D) / 115792089237316195423570985008687907853269984665640564039457584007913129639936 + 18446744073709551616 - 2) % 18446744073709551616
theorem lf_lt (r D e : Nat) : lf r D e < big := by unfold lf big; exact Nat.mod_lt _ (by omega)
theorem lf_zero {r D : Nat} (h : r < 115792089237316195423570985008687907853269984665640564039457584007913129639936) : lf r D 0 = r := by unfold lf; omega
theorem tp_zero {r D : Nat} (h : r < 115792089237316195423570985008687907853269984665640564039457584007913129639936) : tp r D 0 = 0 := by unfold tp; omega
theorem tp_ne {r D e : Nat} (hr : r < D) (hD : D < 115792089237316195423570985008687907853269984665640564039457584007913129639936) (h1 : 1 ≤ e) (h2 : e ≤ 2) : tp r D e ≠ 0 := by
  unfold tp
  have he : e = 1 ∨ e = 2 := by omega
  rcases he with rfl | rfl <;> omega
theorem lf_next {r D e : Nat} (hr : r < D) (hD : D < 115792089237316195423570985008687907853269984665640564039457584007913129639936) (h1 : 1 ≤ e) (h2 : e ≤ 2) : sm (lf r D e) D = lf r D (e - 1) := by
  unfold sm lf big
  have he : e = 1 ∨ e = 2 := by omega
  rcases he with rfl | rfl <;> simp only [Nat.sub_self, Nat.reduceSub] <;> omega
theorem tp_next {r D e : Nat} (hr : r < D) (hD : D < 115792089237316195423570985008687907853269984665640564039457584007913129639936) (h1 : 1 ≤ e) (h2 : e ≤ 2) : (ov (lf r D e) D = true → (tp r D e + 1) % 18446744073709551616 = tp r D (e - 1)) ∧ (ov (lf r D e) D = false → tp r D e = tp r D (e - 1)) := by
  unfold ov lf tp big
  simp only [decide_eq_true_eq, decide_eq_false_iff_not]
  have he : e = 1 ∨ e = 2 := by omega
  rcases he with rfl | rfl <;> simp only [Nat.sub_self, Nat.reduceSub] <;> omega
theorem tp_first {R D nx X P o e q g : Nat} (hX : X = (R * 18446744073709551616 + nx) % 115792089237316195423570985008687907853269984665640564039457584007913129639936) (hT : D * q + (R * 18446744073709551616 + nx) % D = R * 18446744073709551616 + nx) (hr : (R * 18446744073709551616 + nx) % D < D) (hD : D < 115792089237316195423570985008687907853269984665640564039457584007913129639936) (hR : R < 115792089237316195423570985008687907853269984665640564039457584007913129639936) (hn : nx < 18446744073709551616) (hg : g = q + e) (he : e ≤ 2) (hP : P + 115792089237316195423570985008687907853269984665640564039457584007913129639936 * o = D * g) (hPl : P < 115792089237316195423570985008687907853269984665640564039457584007913129639936) (ho : o < 18446744073709551616) :
    df X P = lf ((R * 18446744073709551616 + nx) % D) D e ∧ (lo X P = true → ((R / 6277101735386680763835789423207666416102355444464034512896 % 18446744073709551616 + 18446744073709551616 - o) % 18446744073709551616 + 18446744073709551616 - 1) % 18446744073709551616 = tp ((R * 18446744073709551616 + nx) % D) D e) ∧ (lo X P = false → (R / 6277101735386680763835789423207666416102355444464034512896 % 18446744073709551616 + 18446744073709551616 - o) % 18446744073709551616 = tp ((R * 18446744073709551616 + nx) % D) D e) := by
  have hm : D * g = D * q + e * D := by rw [hg, Nat.mul_add, Nat.mul_comm e D]
  rw [hm] at hP
  generalize (R * 18446744073709551616 + nx) % D = r at *
  generalize D * q = a at *
  unfold df lo lf tp big
  simp only [decide_eq_true_eq, decide_eq_false_iff_not]
  have he : e = 0 ∨ e = 1 ∨ e = 2 := by omega
  rcases he with rfl | rfl | rfl
  · refine ⟨by omega, fun h => by omega, fun h => by omega⟩
  · refine ⟨by omega, fun h => by omega, fun h => by omega⟩
  · refine ⟨by omega, fun h => by omega, fun h => by omega⟩

theorem build_next {R nx : Nat} (hR : R < big) (hn : nx < 18446744073709551616) : Value.agg #[.int .u64 ((nx : Nat) : Int), .int .u64 ((R % 18446744073709551616 : Nat) : Int), .int .u64 ((R / 18446744073709551616 % 18446744073709551616 : Nat) : Int), .int .u64 ((R / 340282366920938463463374607431768211456 % 18446744073709551616 : Nat) : Int)] = uv ((R * 18446744073709551616 + nx) % 115792089237316195423570985008687907853269984665640564039457584007913129639936) := by
  unfold big at hR
  have e0 : w0 ((R * 18446744073709551616 + nx) % 115792089237316195423570985008687907853269984665640564039457584007913129639936) = ((nx : Nat) : Int) := by unfold w0; omega
  have e1 : w1 ((R * 18446744073709551616 + nx) % 115792089237316195423570985008687907853269984665640564039457584007913129639936) = ((R % 18446744073709551616 : Nat) : Int) := by unfold w1; omega
  have e2 : w2 ((R * 18446744073709551616 + nx) % 115792089237316195423570985008687907853269984665640564039457584007913129639936) = ((R / 18446744073709551616 % 18446744073709551616 : Nat) : Int) := by unfold w2; omega
  have e3 : w3 ((R * 18446744073709551616 + nx) % 115792089237316195423570985008687907853269984665640564039457584007913129639936) = ((R / 340282366920938463463374607431768211456 % 18446744073709551616 : Nat) : Int) := by unfold w3; omega
  unfold uv; rw [e0, e1, e2, e3]

theorem sm_lt2 (A B : Nat) : sm A B < big := Nat.mod_lt _ (by unfold big; omega)
theorem df_lt2 (A B : Nat) : df A B < big := Nat.mod_lt _ (by unfold big; omega)
theorem pl_lt2 (A B : Nat) : pl A B < big := Nat.mod_lt _ (by unfold big; omega)
theorem ph_lt2 {A B : Nat} (hA : A < big) (hB : B < big) : ph A B < big := (Nat.div_lt_iff_lt_mul (by unfold big; omega)).2 (Nat.mul_lt_mul_of_lt_of_le hA (Nat.le_of_lt hB) (by unfold big; omega))
theorem ph_word {A f : Nat} (hA : A < big) (hf : f < 18446744073709551616) : ph A f < 18446744073709551616 := by
  unfold ph
  rcases Nat.eq_zero_or_pos f with h | h
  · subst h; rw [Nat.mul_zero, Nat.zero_div]; omega
  · have h2 : A * f < big * f := Nat.mul_lt_mul_of_pos_right hA h
    have := (Nat.div_lt_iff_lt_mul (show 0 < big by unfold big; omega)).2 (by rw [Nat.mul_comm f]; exact h2)
    omega

set_option maxRecDepth 100000 in
set_option maxHeartbeats 2000000 in
theorem bring_fn (R nx D : Nat) (hR : R < big) (hD : D < big) (h2 : big ≤ 2 * D) (hRD : R < D) (hn : nx < 18446744073709551616) : Fn Try.prog 35 #[uv R, .int .u64 ((nx : Nat) : Int), uv D] (uv ((R * 18446744073709551616 + nx) % D)) := by
  have hbig : big = 115792089237316195423570985008687907853269984665640564039457584007913129639936 := rfl
  have hDl : D < 115792089237316195423570985008687907853269984665640564039457584007913129639936 := hD
  have hRl : R < 115792089237316195423570985008687907853269984665640564039457584007913129639936 := hR
  obtain ⟨hg1, hg2, hg3⟩ := gss_ok hD h2 hRD hn
  obtain ⟨e, he⟩ : ∃ e, gss R D = (R * 18446744073709551616 + nx) / D + e := ⟨_, (Nat.add_sub_cancel' hg1).symm⟩
  have hle : e ≤ 2 := by omega
  have hml : ((R * 18446744073709551616 + nx) % D) < D := Nat.mod_lt _ (by omega)
  have hdm := Nat.div_add_mod (R * 18446744073709551616 + nx) D
  have hph := ph_word hD hg3
  have hpl : pl D (gss R D) < 115792089237316195423570985008687907853269984665640564039457584007913129639936 := Nat.mod_lt _ (by omega)
  have hps : pl D (gss R D) + 115792089237316195423570985008687907853269984665640564039457584007913129639936 * ph D (gss R D) = D * gss R D := by unfold pl ph big; exact Nat.mod_add_div _ _
  have hf := tp_first (X := ((R * 18446744073709551616 + nx) % 115792089237316195423570985008687907853269984665640564039457584007913129639936)) (q := (R * 18446744073709551616 + nx) / D) rfl hdm hml hDl hRl hn he hle hps hpl hph
  refine Fn.intro (c := codeOf Try.f35) [.cell 6 24] 53 Try.func35 (by kernel_rfl) (by kernel_rfl) (by kernel_rfl) fun w => ?_
  have H0 := St.start w
  refine g_sreg [0, 1, 2] (by kernel_rfl) (by kernel_rfl) ?_
  refine s_box H0 (some 3) 24 (.tmp 0) (uv R) (by kernel_rfl) (by kernel_rfl) (by kernel_rfl) ?_
  intro b1 w1 H1; clear H0
  refine s_box H1 (some 5) 24 (.tmp 2) (uv D) (by kernel_rfl) (by kernel_rfl) (by kernel_rfl) ?_
  intro b2 w2 H2; clear H1
  refine s_alloc H2 (some 6) 24 (.agg #[.int .u64 0, .int .u64 0, .int .u64 0, .int .u64 0]) (by kernel_rfl) (by kernel_rfl) (by kernel_rfl) ?_
  intro b3 w3 H3; clear H2
  refine s_nil ?_
  refine D2.g_sdraw [0, 1, 2, 3, 4, 5, 6, 7, 8, 9, 10] [((some 14), fun _ => uv D), ((some 15), fun _ => uv R), ((some 16), fun _ => uv D), ((some 17), fun _ => .int .u64 ((gss R D : Nat) : Int)), ((some 18), fun _ => .tuple #[uv (pl D (gss R D)), .int .u64 ((ph D (gss R D) : Nat) : Int)]), ((some 13), fun _ => .tuple #[uv (pl D (gss R D)), .int .u64 ((ph D (gss R D) : Nat) : Int)]), ((some 19), fun _ => uv (pl D (gss R D))), ((some 20), fun _ => .int .u64 ((ph D (gss R D) : Nat) : Int)), ((some 7), fun b => .pointer (some ⟨b.b, 0, none⟩)), (none, fun _ => undef), ((some 8), fun _ => .int .u64 ((ph D (gss R D) : Nat) : Int))] (D2.Pre w.heap.size w (fun L g => [(true, (b3, Obj.cells #[.int .u64 0, .int .u64 0, .int .u64 0, .int .u64 0] 24 (0, 0))), (true, (b2, Obj.cells (Value.cells (uv D)) 24 (0, 0))), (true, (b1, Obj.cells (Value.cells (uv R)) 24 (0, 0))), (L 8, (bif L 9 then ((g 8).b, Obj.cells (Value.cells (uv (pl D (gss R D)))) 24 (0, 0)) else ((g 8).b, Obj.cells #[.int .u64 0, .int .u64 0, .int .u64 0, .int .u64 0] 24 (0, 0))))]) (fun L g => True)) (by kernel_rfl) (by kernel_rfl) (by kernel_rfl) (by kernel_rfl) ⟨D2.StE.of H3.drew _ (by kernel_rfl), trivial⟩ ⟨?_, ?_, ?_, ?_, ?_, ?_, ?_, ?_, ?_, ?_, ?_, trivial⟩ ?_
  · exact D2.gv_load 24 (.tmp 5) 1 (fun g => b2) (Value.cells (uv D)) 24 (0, 0) (fun _ _ _ h => h) (fun g => by kernel_rfl) (fun g => by kernel_rfl) (fun L g hN => (by kernel_rfl)) (by kernel_rfl)
  · exact D2.gv_load 24 (.tmp 3) 2 (fun g => b1) (Value.cells (uv R)) 24 (0, 0) (fun _ _ _ h => h) (fun g => by kernel_rfl) (fun g => by kernel_rfl) (fun L g hN => (by kernel_rfl)) (by kernel_rfl)
  · exact D2.gv_load 24 (.tmp 5) 1 (fun g => b2) (Value.cells (uv D)) 24 (0, 0) (fun _ _ _ h => h) (fun g => by kernel_rfl) (fun g => by kernel_rfl) (fun L g hN => (by kernel_rfl)) (by kernel_rfl)
  · exact D2.gv_call 48 #[uv R, uv D] (fun _ _ _ h => h) (guess_fn R D hR hD (by omega) (by omega)) (fun g w => by kernel_rfl)
  · exact D2.gv_call 47 #[uv D, .int .u64 ((gss R D : Nat) : Int)] (fun _ _ _ h => h) (times64_fn D (gss R D) hD (by omega)) (fun g w => by kernel_rfl)
  · exact D2.gv_val (fun _ _ _ h => h) (fun g w => by kernel_rfl)
  · exact D2.gv_val (fun _ _ _ h => h) (fun g w => by kernel_rfl)
  · exact D2.gv_val (fun _ _ _ h => h) (fun g w => by kernel_rfl)
  · exact D2.gv_alloc 24 (.agg #[.int .u64 0, .int .u64 0, .int .u64 0, .int .u64 0]) 3 (fun g => by kernel_rfl) (by kernel_rfl) (fun L g b hN => (by have hL9 : L 9 = false := (hN.post 9 (by kernel_rfl)); exact D2.ent_set (x' := (true, (bif L 9 then (((D2.setN g 8 { b := b }) 8).b, Obj.cells (Value.cells (uv (pl D (gss R D)))) 24 (0, 0)) else (((D2.setN g 8 { b := b }) 8).b, Obj.cells #[.int .u64 0, .int .u64 0, .int .u64 0, .int .u64 0] 24 (0, 0))))) (by kernel_rfl) (by simp only [hL9, cond_true, cond_false] <;> rfl))) (fun L g b hN hF => hF)
  · exact D2.gv_store 3 24 (.tmp 7) (.tmp 19) (fun g => (g 8).b) (fun g => 0) #[.int .u64 0, .int .u64 0, .int .u64 0, .int .u64 0] (Value.cells (uv (pl D (gss R D)))) 24 (uv (pl D (gss R D))) (fun g => by kernel_rfl) (fun g => by kernel_rfl) (fun g => by kernel_rfl) (by kernel_rfl) (by kernel_rfl) (fun g => (of_decide_eq_true (by kernel_rfl))) (fun g => (by kernel_rfl)) (fun L g hN => ⟨(by have hL8 : L 8 = true := (hN.bef 8 (by kernel_rfl)); have hL9 : L 9 = false := hN.1; exact D2.ent_get' (p := L 8) (e := (bif L 9 then ((g 8).b, Obj.cells (Value.cells (uv (pl D (gss R D)))) 24 (0, 0)) else ((g 8).b, Obj.cells #[.int .u64 0, .int .u64 0, .int .u64 0, .int .u64 0] 24 (0, 0)))) (by kernel_rfl) (by exact hL8) (by simp only [hL8, hL9, cond_true, cond_false] <;> rfl)), (by have hL8 : L 8 = true := (hN.bef 8 (by kernel_rfl)); exact D2.ent_set (x' := (L 8, ((g 8).b, Obj.cells (Value.cells (uv (pl D (gss R D)))) 24 (0, 0)))) (by kernel_rfl) (by simp only [hL8, cond_true, cond_false] <;> rfl))⟩) (fun L g hN hF => hF)
  · exact D2.gv_val (fun _ _ _ h => h) (fun g w => by kernel_rfl)
  intro L0 G4 w4 hall HL; clear H3
  have H4 : St w.heap.size w w4 [(b3, Obj.cells #[.int .u64 0, .int .u64 0, .int .u64 0, .int .u64 0] 24 (0, 0)), (b2, Obj.cells (Value.cells (uv D)) 24 (0, 0)), (b1, Obj.cells (Value.cells (uv R)) 24 (0, 0)), ((G4 8).b, Obj.cells (Value.cells (uv (pl D (gss R D)))) 24 (0, 0))] := by have e8 := hall 8 (Nat.le_of_ble_eq_true (by kernel_rfl)); have e9 := hall 9 (Nat.le_of_ble_eq_true (by kernel_rfl)); have hS := D2.StE.st HL.1; simp only [e8, e9, cond_true, D2.pres] at hS; exact hS
  clear HL hall
  refine g_sreg [0, 1, 2, 3, 4, 5, 6, 7, 8, 9, 10, 11, 12, 13, 14, 15] (by kernel_rfl) (by kernel_rfl) ?_
  refine s_val (some 22) (.int .u64 ((nx : Nat) : Int)) (fun w => by kernel_rfl) (by kernel_rfl) ?_
  refine s_val (some 23) (.pointer (some ⟨b1, 0, none⟩)) (fun w => by kernel_rfl) (by kernel_rfl) ?_
  refine s_load1 H4 (some 24) 22 (.tmp 23) 2 b1 0 (Value.cells (uv R)) 24 (0, 0) (.int .u64 ((R % 18446744073709551616 : Nat) : Int)) (by kernel_rfl) (by kernel_rfl) (by kernel_rfl) (by kernel_rfl) (by kernel_rfl) (by kernel_rfl) ?_
  refine s_val (some 25) (.pointer (some ⟨b1, 1, none⟩)) (fun w => by kernel_rfl) (by kernel_rfl) ?_
  refine s_load1 H4 (some 26) 22 (.tmp 25) 2 b1 1 (Value.cells (uv R)) 24 (0, 0) (.int .u64 ((R / 18446744073709551616 % 18446744073709551616 : Nat) : Int)) (by kernel_rfl) (by kernel_rfl) (by kernel_rfl) (by kernel_rfl) (by kernel_rfl) (by kernel_rfl) ?_
  refine s_val (some 27) (.pointer (some ⟨b1, 2, none⟩)) (fun w => by kernel_rfl) (by kernel_rfl) ?_
  refine s_load1 H4 (some 28) 22 (.tmp 27) 2 b1 2 (Value.cells (uv R)) 24 (0, 0) (.int .u64 ((R / 340282366920938463463374607431768211456 % 18446744073709551616 : Nat) : Int)) (by kernel_rfl) (by kernel_rfl) (by kernel_rfl) (by kernel_rfl) (by kernel_rfl) (by kernel_rfl) ?_
  refine s_valE (some 29) (.agg #[.int .u64 ((nx : Nat) : Int), .int .u64 ((R % 18446744073709551616 : Nat) : Int), .int .u64 ((R / 18446744073709551616 % 18446744073709551616 : Nat) : Int), .int .u64 ((R / 340282366920938463463374607431768211456 % 18446744073709551616 : Nat) : Int)]) (uv ((R * 18446744073709551616 + nx) % 115792089237316195423570985008687907853269984665640564039457584007913129639936)) (fun w => by kernel_rfl) (build_next hR hn) (by kernel_rfl) ?_
  refine s_load H4 (some 30) 24 (.tmp 7) 3 (G4 8).b (Value.cells (uv (pl D (gss R D)))) 24 (0, 0) (by kernel_rfl) (by kernel_rfl) (by kernel_rfl) (by kernel_rfl) (by kernel_rfl) ?_
  refine s_call H4 (some 31) 45 #[uv ((R * 18446744073709551616 + nx) % 115792089237316195423570985008687907853269984665640564039457584007913129639936), uv (pl D (gss R D))] (.tuple #[uv (df ((R * 18446744073709551616 + nx) % 115792089237316195423570985008687907853269984665640564039457584007913129639936) (pl D (gss R D))), .bool (lo ((R * 18446744073709551616 + nx) % 115792089237316195423570985008687907853269984665640564039457584007913129639936) (pl D (gss R D)))]) (sub_fn ((R * 18446744073709551616 + nx) % 115792089237316195423570985008687907853269984665640564039457584007913129639936) (pl D (gss R D)) (Nat.mod_lt _ (by omega)) (pl_lt2 _ _)) (fun w => by kernel_rfl) (by kernel_rfl) ?_
  intro w5 H5; clear H4
  refine s_val (some 21) (.tuple #[uv (df ((R * 18446744073709551616 + nx) % 115792089237316195423570985008687907853269984665640564039457584007913129639936) (pl D (gss R D))), .bool (lo ((R * 18446744073709551616 + nx) % 115792089237316195423570985008687907853269984665640564039457584007913129639936) (pl D (gss R D)))]) (fun w => by kernel_rfl) (by kernel_rfl) ?_
  refine s_val (some 32) (uv (df ((R * 18446744073709551616 + nx) % 115792089237316195423570985008687907853269984665640564039457584007913129639936) (pl D (gss R D)))) (fun w => by kernel_rfl) (by kernel_rfl) ?_
  refine s_val (some 33) (.bool (lo ((R * 18446744073709551616 + nx) % 115792089237316195423570985008687907853269984665640564039457584007913129639936) (pl D (gss R D)))) (fun w => by kernel_rfl) (by kernel_rfl) ?_
  refine s_alloc H5 (some 9) 24 (.agg #[.int .u64 0, .int .u64 0, .int .u64 0, .int .u64 0]) (by kernel_rfl) (by kernel_rfl) (by kernel_rfl) ?_
  intro b4 w6 H6; clear H5
  refine s_store H6 0 [(b4, Obj.cells (Value.cells (uv (df ((R * 18446744073709551616 + nx) % 115792089237316195423570985008687907853269984665640564039457584007913129639936) (pl D (gss R D))))) 24 (0, 0)), (b3, Obj.cells #[.int .u64 0, .int .u64 0, .int .u64 0, .int .u64 0] 24 (0, 0)), (b2, Obj.cells (Value.cells (uv D)) 24 (0, 0)), (b1, Obj.cells (Value.cells (uv R)) 24 (0, 0)), ((G4 8).b, Obj.cells (Value.cells (uv (pl D (gss R D)))) 24 (0, 0))] 24 (.tmp 9) (.tmp 32) b4 (0) #[.int .u64 0, .int .u64 0, .int .u64 0, .int .u64 0] (Value.cells (uv (df ((R * 18446744073709551616 + nx) % 115792089237316195423570985008687907853269984665640564039457584007913129639936) (pl D (gss R D))))) 24 (uv (df ((R * 18446744073709551616 + nx) % 115792089237316195423570985008687907853269984665640564039457584007913129639936) (pl D (gss R D)))) (by kernel_rfl) (by kernel_rfl) (by kernel_rfl) (by kernel_rfl) (by kernel_rfl) (by kernel_rfl) (of_decide_eq_true (by kernel_rfl)) (by kernel_rfl) (by kernel_rfl) ?_
  intro w7 H7; clear H6
  refine s_val (some 10) (.bool (lo ((R * 18446744073709551616 + nx) % 115792089237316195423570985008687907853269984665640564039457584007913129639936) (pl D (gss R D)))) (fun w => by kernel_rfl) (by kernel_rfl) ?_
  refine s_nil ?_
  refine g_sreg [0, 1, 2, 3, 4] (by kernel_rfl) (by kernel_rfl) ?_
  refine s_val (some 34) (.pointer (some ⟨b1, 3, none⟩)) (fun w => by kernel_rfl) (by kernel_rfl) ?_
  refine s_load1 H7 (some 35) 22 (.tmp 34) 3 b1 3 (Value.cells (uv R)) 24 (0, 0) (.int .u64 ((R / 6277101735386680763835789423207666416102355444464034512896 % 18446744073709551616 : Nat) : Int)) (by kernel_rfl) (by kernel_rfl) (by kernel_rfl) (by kernel_rfl) (by kernel_rfl) (by kernel_rfl) ?_
  refine s_val (some 36) (.int .u64 ((ph D (gss R D) : Nat) : Int)) (fun w => by kernel_rfl) (by kernel_rfl) ?_
  refine s_valE (some 37) (.int .u64 (IntKind.u64.wrap (((R / 6277101735386680763835789423207666416102355444464034512896 % 18446744073709551616 : Nat) : Int) - ((ph D (gss R D) : Nat) : Int)))) (.int .u64 ((((R / 6277101735386680763835789423207666416102355444464034512896 % 18446744073709551616) + 18446744073709551616 - (ph D (gss R D))) % 18446744073709551616 : Nat) : Int)) (fun w => by kernel_rfl) (int_eq (modSub (a := R / 6277101735386680763835789423207666416102355444464034512896 % 18446744073709551616) (b := ph D (gss R D)) (by omega))) (by kernel_rfl) ?_
  refine s_val (some 11) (.int .u64 ((((R / 6277101735386680763835789423207666416102355444464034512896 % 18446744073709551616) + 18446744073709551616 - (ph D (gss R D))) % 18446744073709551616 : Nat) : Int)) (fun w => by kernel_rfl) (by kernel_rfl) ?_
  refine s_nil ?_
  refine g_seq (by kernel_rfl) ?_
  refine g_sreg [0] (by kernel_rfl) (by kernel_rfl) ?_
  cases hlo : lo ((R * 18446744073709551616 + nx) % 115792089237316195423570985008687907853269984665640564039457584007913129639936) (pl D (gss R D))
  · skip
    refine s_val (some 38) (.bool false) (fun w => by kernel_rfl) (by kernel_rfl) ?_
    refine s_nil ?_
    refine g_cond_f (by kernel_rfl) (by kernel_rfl) ?_
    refine g_skip (by kernel_rfl) ?_
    show WP _ _ _ _ _ _
    refine g_seq (by kernel_rfl) ?_
    refine g_block 0 (by kernel_rfl) ?_
    have hf1 : ((R / 6277101735386680763835789423207666416102355444464034512896 % 18446744073709551616) + 18446744073709551616 - (ph D (gss R D))) % 18446744073709551616 = tp ((R * 18446744073709551616 + nx) % D) D e := hf.2.2 hlo
    rw [show (((((R / 6277101735386680763835789423207666416102355444464034512896 % 18446744073709551616) + 18446744073709551616 - (ph D (gss R D))) % 18446744073709551616 : Nat) : Int)) = ((tp ((R * 18446744073709551616 + nx) % D) D e : Nat) : Int) from by rw [← hf1]]
    rw [hf.1] at H7
    have HD1 : St w.heap.size w w7 [(b4, Obj.cells (Value.cells (uv (lf ((R * 18446744073709551616 + nx) % D) D e))) 24 (0, 0)), (b3, Obj.cells #[.int .u64 0, .int .u64 0, .int .u64 0, .int .u64 0] 24 (0, 0)), (b2, Obj.cells (Value.cells (uv D)) 24 (0, 0))] := H7.sub (List.Sublist.cons_cons _ (List.Sublist.cons_cons _ (List.Sublist.cons_cons _ (List.Sublist.cons _ (List.Sublist.cons _ List.Sublist.slnil)))))
    refine g_loop (by kernel_rfl) (fun m ρ ww => ∃ (e2 : Nat), e2 = m ∧ (e2 ≤ 2) ∧ St w.heap.size w ww [(b4, Obj.cells (Value.cells (uv (lf ((R * 18446744073709551616 + nx) % D) D e2))) 24 (0, 0)), (b3, Obj.cells #[.int .u64 0, .int .u64 0, .int .u64 0, .int .u64 0] 24 (0, 0)), (b2, Obj.cells (Value.cells (uv D)) 24 (0, 0))] ∧ Is [(0, uv R), (1, .int .u64 ((nx : Nat) : Int)), (2, uv D), (3, .pointer (some ⟨b1, 0, none⟩)), (5, .pointer (some ⟨b2, 0, none⟩)), (6, .pointer (some ⟨b3, 0, none⟩)), (7, .pointer (some ⟨(G4 8).b, 0, none⟩)), (8, .int .u64 ((ph D (gss R D) : Nat) : Int)), (9, .pointer (some ⟨b4, 0, none⟩)), (10, .bool false), (11, .int .u64 ((tp ((R * 18446744073709551616 + nx) % D) D e2 : Nat) : Int)), (38, .bool false)] ρ) e ⟨e, rfl, hle, HD1, (Is.of ⟨(by kernel_rfl), (by kernel_rfl), (by kernel_rfl), (by kernel_rfl), (by kernel_rfl), (by kernel_rfl), (by kernel_rfl), (by kernel_rfl), (by kernel_rfl), (by kernel_rfl), (by kernel_rfl), (by kernel_rfl), trivial⟩)⟩ ?_
    clear HD1
    rintro _ _ w8 ⟨e2, rfl, he2, H8, _, rfl⟩
    refine g_seq (by kernel_rfl) ?_
    refine g_sreg [0, 1] (by kernel_rfl) (by kernel_rfl) ?_
    refine s_val (some 41) (.int .u64 ((tp ((R * 18446744073709551616 + nx) % D) D e2 : Nat) : Int)) (fun w => by kernel_rfl) (by kernel_rfl) ?_
    by_cases hc2 : (tp ((R * 18446744073709551616 + nx) % D) D e2 : Nat) ≠ 0
    · skip
      refine s_valE (some 42) (.bool (!(((tp ((R * 18446744073709551616 + nx) % D) D e2 : Nat) : Int) == 0))) (.bool true) (fun w => by kernel_rfl) (bool_eq (by rw [beq_eq_false_iff_ne.2 (by omega)]; rfl)) (by kernel_rfl) ?_
      refine s_nil ?_
      refine g_cond_t (by kernel_rfl) (by kernel_rfl) ?_
      refine g_skip (by kernel_rfl) ?_
      show WP _ _ _ _ _ _
      refine g_block 1 (by kernel_rfl) ?_
      refine g_sreg [0] (by kernel_rfl) (by kernel_rfl) ?_
      refine s_val (some 12) (.bool false) (fun w => by kernel_rfl) (by kernel_rfl) ?_
      refine s_nil ?_
      refine g_sreg [0, 1, 2, 3, 4, 5, 6, 7] (by kernel_rfl) (by kernel_rfl) ?_
      refine s_load H8 (some 44) 24 (.tmp 9) 0 b4 (Value.cells (uv (lf ((R * 18446744073709551616 + nx) % D) D e2))) 24 (0, 0) (by kernel_rfl) (by kernel_rfl) (by kernel_rfl) (by kernel_rfl) (by kernel_rfl) ?_
      refine s_load H8 (some 45) 24 (.tmp 5) 2 b2 (Value.cells (uv D)) 24 (0, 0) (by kernel_rfl) (by kernel_rfl) (by kernel_rfl) (by kernel_rfl) (by kernel_rfl) ?_
      refine s_call H8 (some 46) 21 #[uv (lf ((R * 18446744073709551616 + nx) % D) D e2), uv D] (.tuple #[uv (sm (lf ((R * 18446744073709551616 + nx) % D) D e2) D), .bool (ov (lf ((R * 18446744073709551616 + nx) % D) D e2) D)]) (add_fn (lf ((R * 18446744073709551616 + nx) % D) D e2) D (lf_lt _ _ _) hD) (fun w => by kernel_rfl) (by kernel_rfl) ?_
      intro w9 H9; clear H8
      refine s_val (some 43) (.tuple #[uv (sm (lf ((R * 18446744073709551616 + nx) % D) D e2) D), .bool (ov (lf ((R * 18446744073709551616 + nx) % D) D e2) D)]) (fun w => by kernel_rfl) (by kernel_rfl) ?_
      refine s_val (some 47) (uv (sm (lf ((R * 18446744073709551616 + nx) % D) D e2) D)) (fun w => by kernel_rfl) (by kernel_rfl) ?_
      refine s_val (some 48) (.bool (ov (lf ((R * 18446744073709551616 + nx) % D) D e2) D)) (fun w => by kernel_rfl) (by kernel_rfl) ?_
      refine s_store H9 0 [(b4, Obj.cells (Value.cells (uv (sm (lf ((R * 18446744073709551616 + nx) % D) D e2) D))) 24 (0, 0)), (b3, Obj.cells #[.int .u64 0, .int .u64 0, .int .u64 0, .int .u64 0] 24 (0, 0)), (b2, Obj.cells (Value.cells (uv D)) 24 (0, 0))] 24 (.tmp 9) (.tmp 47) b4 (0) (Value.cells (uv (lf ((R * 18446744073709551616 + nx) % D) D e2))) (Value.cells (uv (sm (lf ((R * 18446744073709551616 + nx) % D) D e2) D))) 24 (uv (sm (lf ((R * 18446744073709551616 + nx) % D) D e2) D)) (by kernel_rfl) (by kernel_rfl) (by kernel_rfl) (by kernel_rfl) (by kernel_rfl) (by kernel_rfl) (of_decide_eq_true (by kernel_rfl)) (by kernel_rfl) (by kernel_rfl) ?_
      intro w10 H10; clear H9
      refine s_val (some 12) (.bool (ov (lf ((R * 18446744073709551616 + nx) % D) D e2) D)) (fun w => by kernel_rfl) (by kernel_rfl) ?_
      refine s_nil ?_
      refine g_sreg [0] (by kernel_rfl) (by kernel_rfl) ?_
      have h1e : 1 ≤ e2 := by rcases Nat.eq_zero_or_pos e2 with h | h; (subst h; exact absurd (tp_zero (r := ((R * 18446744073709551616 + nx) % D)) (D := D) (Nat.lt_trans hml hDl)) (by assumption)); exact h
      have hnx := tp_next hml hDl h1e he2
      cases hov : ov (lf ((R * 18446744073709551616 + nx) % D) D e2) D
      · skip
        refine s_val (some 49) (.bool false) (fun w => by kernel_rfl) (by kernel_rfl) ?_
        refine s_nil ?_
        refine g_cond_f (by kernel_rfl) (by kernel_rfl) ?_
        refine g_skip (by kernel_rfl) ?_
        have hn1 : tp ((R * 18446744073709551616 + nx) % D) D e2 = tp ((R * 18446744073709551616 + nx) % D) D (e2 - 1) := hnx.2 hov
        rw [show (((tp ((R * 18446744073709551616 + nx) % D) D e2 : Nat) : Int)) = ((tp ((R * 18446744073709551616 + nx) % D) D (e2 - 1) : Nat) : Int) from by rw [← hn1]]
        rw [lf_next hml hDl (by omega) he2] at H10
        show ∃ m, _ ∧ _
        exact ⟨_, (by omega), (e2 - 1), rfl, (by omega), H10, (Is.of ⟨(by kernel_rfl), (by kernel_rfl), (by kernel_rfl), (by kernel_rfl), (by kernel_rfl), (by kernel_rfl), (by kernel_rfl), (by kernel_rfl), (by kernel_rfl), (by kernel_rfl), (by kernel_rfl), (by kernel_rfl), trivial⟩)⟩
      · skip
        refine s_val (some 49) (.bool true) (fun w => by kernel_rfl) (by kernel_rfl) ?_
        refine s_nil ?_
        refine g_cond_t (by kernel_rfl) (by kernel_rfl) ?_
        refine g_reg0 [0, 1, 2] (by kernel_rfl) ?_
        refine s_val (some 50) (.int .u64 ((tp ((R * 18446744073709551616 + nx) % D) D e2 : Nat) : Int)) (fun w => by kernel_rfl) (by kernel_rfl) ?_
        refine s_valE (some 51) (.int .u64 (IntKind.u64.wrap (((tp ((R * 18446744073709551616 + nx) % D) D e2 : Nat) : Int) + 1))) (.int .u64 ((((tp ((R * 18446744073709551616 + nx) % D) D e2) + 1) % 18446744073709551616 : Nat) : Int)) (fun w => by kernel_rfl) (int_eq (modAdd (a := tp ((R * 18446744073709551616 + nx) % D) D e2) (b := 1))) (by kernel_rfl) ?_
        refine s_val (some 11) (.int .u64 ((((tp ((R * 18446744073709551616 + nx) % D) D e2) + 1) % 18446744073709551616 : Nat) : Int)) (fun w => by kernel_rfl) (by kernel_rfl) ?_
        refine s_nil ?_
        have hn1 : ((tp ((R * 18446744073709551616 + nx) % D) D e2) + 1) % 18446744073709551616 = tp ((R * 18446744073709551616 + nx) % D) D (e2 - 1) := hnx.1 hov
        rw [show (((((tp ((R * 18446744073709551616 + nx) % D) D e2) + 1) % 18446744073709551616 : Nat) : Int)) = ((tp ((R * 18446744073709551616 + nx) % D) D (e2 - 1) : Nat) : Int) from by rw [← hn1]]
        rw [lf_next hml hDl (by omega) he2] at H10
        show ∃ m, _ ∧ _
        exact ⟨_, (by omega), (e2 - 1), rfl, (by omega), H10, (Is.of ⟨(by kernel_rfl), (by kernel_rfl), (by kernel_rfl), (by kernel_rfl), (by kernel_rfl), (by kernel_rfl), (by kernel_rfl), (by kernel_rfl), (by kernel_rfl), (by kernel_rfl), (by kernel_rfl), (by kernel_rfl), trivial⟩)⟩
    · skip
      refine s_valE (some 42) (.bool (!(((tp ((R * 18446744073709551616 + nx) % D) D e2 : Nat) : Int) == 0))) (.bool false) (fun w => by kernel_rfl) (bool_eq (by rw [beq_iff_eq.2 (by omega)]; rfl)) (by kernel_rfl) ?_
      refine s_nil ?_
      refine g_cond_f (by kernel_rfl) (by kernel_rfl) ?_
      refine g_exit 0 (by kernel_rfl) ?_
      show WP _ _ _ _ _ _
      refine g_sreg [0, 1] (by kernel_rfl) (by kernel_rfl) ?_
      refine s_load H8 (some 52) 24 (.tmp 9) 0 b4 (Value.cells (uv (lf ((R * 18446744073709551616 + nx) % D) D e2))) 24 (0, 0) (by kernel_rfl) (by kernel_rfl) (by kernel_rfl) (by kernel_rfl) (by kernel_rfl) ?_
      refine s_store H8 1 [(b4, Obj.cells (Value.cells (uv (lf ((R * 18446744073709551616 + nx) % D) D e2))) 24 (0, 0)), (b3, Obj.cells (Value.cells (uv (lf ((R * 18446744073709551616 + nx) % D) D e2))) 24 (0, 0)), (b2, Obj.cells (Value.cells (uv D)) 24 (0, 0))] 24 (.tmp 6) (.tmp 52) b3 (0) #[.int .u64 0, .int .u64 0, .int .u64 0, .int .u64 0] (Value.cells (uv (lf ((R * 18446744073709551616 + nx) % D) D e2))) 24 (uv (lf ((R * 18446744073709551616 + nx) % D) D e2)) (by kernel_rfl) (by kernel_rfl) (by kernel_rfl) (by kernel_rfl) (by kernel_rfl) (by kernel_rfl) (of_decide_eq_true (by kernel_rfl)) (by kernel_rfl) (by kernel_rfl) ?_
      intro w11 H11; clear H8
      refine s_nil ?_
      refine g_ret (by kernel_rfl) ?_
      show ∃ vs, Res _ _ _ _ vs ∧ _
      refine ⟨[uv (lf ((R * 18446744073709551616 + nx) % D) D e2)], (.agg (b := b3) (Value.cells (uv (lf ((R * 18446744073709551616 + nx) % D) D e2))) 24 (0, 0) (by kernel_rfl) (H11.get 1 (by kernel_rfl)) (by kernel_rfl) .nil), ?_, H11.below⟩
      have h0e : e2 = 0 := by rcases Nat.eq_zero_or_pos e2 with h | h; (exact h); exact absurd (Decidable.not_not.1 (by assumption)) (tp_ne hml hDl h he2)
      subst h0e
      rw [lf_zero (r := ((R * 18446744073709551616 + nx) % D)) (D := D) (Nat.lt_trans hml hDl)]; rfl
  · skip
    refine s_val (some 38) (.bool true) (fun w => by kernel_rfl) (by kernel_rfl) ?_
    refine s_nil ?_
    refine g_cond_t (by kernel_rfl) (by kernel_rfl) ?_
    refine g_reg0 [0, 1, 2] (by kernel_rfl) ?_
    refine s_val (some 39) (.int .u64 ((((R / 6277101735386680763835789423207666416102355444464034512896 % 18446744073709551616) + 18446744073709551616 - (ph D (gss R D))) % 18446744073709551616 : Nat) : Int)) (fun w => by kernel_rfl) (by kernel_rfl) ?_
    refine s_valE (some 40) (.int .u64 (IntKind.u64.wrap (((((R / 6277101735386680763835789423207666416102355444464034512896 % 18446744073709551616) + 18446744073709551616 - (ph D (gss R D))) % 18446744073709551616 : Nat) : Int) - 1))) (.int .u64 ((((((R / 6277101735386680763835789423207666416102355444464034512896 % 18446744073709551616) + 18446744073709551616 - (ph D (gss R D))) % 18446744073709551616) + 18446744073709551616 - 1) % 18446744073709551616 : Nat) : Int)) (fun w => by kernel_rfl) (int_eq (modSub (a := ((R / 6277101735386680763835789423207666416102355444464034512896 % 18446744073709551616) + 18446744073709551616 - (ph D (gss R D))) % 18446744073709551616) (b := 1) (by omega))) (by kernel_rfl) ?_
    refine s_val (some 11) (.int .u64 ((((((R / 6277101735386680763835789423207666416102355444464034512896 % 18446744073709551616) + 18446744073709551616 - (ph D (gss R D))) % 18446744073709551616) + 18446744073709551616 - 1) % 18446744073709551616 : Nat) : Int)) (fun w => by kernel_rfl) (by kernel_rfl) ?_
    refine s_nil ?_
    show WP _ _ _ _ _ _
    refine g_seq (by kernel_rfl) ?_
    refine g_block 0 (by kernel_rfl) ?_
    have hf1 : ((((R / 6277101735386680763835789423207666416102355444464034512896 % 18446744073709551616) + 18446744073709551616 - (ph D (gss R D))) % 18446744073709551616) + 18446744073709551616 - 1) % 18446744073709551616 = tp ((R * 18446744073709551616 + nx) % D) D e := hf.2.1 hlo
    rw [show (((((((R / 6277101735386680763835789423207666416102355444464034512896 % 18446744073709551616) + 18446744073709551616 - (ph D (gss R D))) % 18446744073709551616) + 18446744073709551616 - 1) % 18446744073709551616 : Nat) : Int)) = ((tp ((R * 18446744073709551616 + nx) % D) D e : Nat) : Int) from by rw [← hf1]]
    rw [hf.1] at H7
    have HD3 : St w.heap.size w w7 [(b4, Obj.cells (Value.cells (uv (lf ((R * 18446744073709551616 + nx) % D) D e))) 24 (0, 0)), (b3, Obj.cells #[.int .u64 0, .int .u64 0, .int .u64 0, .int .u64 0] 24 (0, 0)), (b2, Obj.cells (Value.cells (uv D)) 24 (0, 0))] := H7.sub (List.Sublist.cons_cons _ (List.Sublist.cons_cons _ (List.Sublist.cons_cons _ (List.Sublist.cons _ (List.Sublist.cons _ List.Sublist.slnil)))))
    refine g_loop (by kernel_rfl) (fun m ρ ww => ∃ (e2 : Nat), e2 = m ∧ (e2 ≤ 2) ∧ St w.heap.size w ww [(b4, Obj.cells (Value.cells (uv (lf ((R * 18446744073709551616 + nx) % D) D e2))) 24 (0, 0)), (b3, Obj.cells #[.int .u64 0, .int .u64 0, .int .u64 0, .int .u64 0] 24 (0, 0)), (b2, Obj.cells (Value.cells (uv D)) 24 (0, 0))] ∧ Is [(0, uv R), (1, .int .u64 ((nx : Nat) : Int)), (2, uv D), (3, .pointer (some ⟨b1, 0, none⟩)), (5, .pointer (some ⟨b2, 0, none⟩)), (6, .pointer (some ⟨b3, 0, none⟩)), (7, .pointer (some ⟨(G4 8).b, 0, none⟩)), (8, .int .u64 ((ph D (gss R D) : Nat) : Int)), (9, .pointer (some ⟨b4, 0, none⟩)), (10, .bool true), (11, .int .u64 ((tp ((R * 18446744073709551616 + nx) % D) D e2 : Nat) : Int)), (38, .bool true)] ρ) e ⟨e, rfl, hle, HD3, (Is.of ⟨(by kernel_rfl), (by kernel_rfl), (by kernel_rfl), (by kernel_rfl), (by kernel_rfl), (by kernel_rfl), (by kernel_rfl), (by kernel_rfl), (by kernel_rfl), (by kernel_rfl), (by kernel_rfl), (by kernel_rfl), trivial⟩)⟩ ?_
    clear HD3
    rintro _ _ w12 ⟨e2, rfl, he2, H12, _, rfl⟩
    refine g_seq (by kernel_rfl) ?_
    refine g_sreg [0, 1] (by kernel_rfl) (by kernel_rfl) ?_
    refine s_val (some 41) (.int .u64 ((tp ((R * 18446744073709551616 + nx) % D) D e2 : Nat) : Int)) (fun w => by kernel_rfl) (by kernel_rfl) ?_
    by_cases hc4 : (tp ((R * 18446744073709551616 + nx) % D) D e2 : Nat) ≠ 0
    · skip
      refine s_valE (some 42) (.bool (!(((tp ((R * 18446744073709551616 + nx) % D) D e2 : Nat) : Int) == 0))) (.bool true) (fun w => by kernel_rfl) (bool_eq (by rw [beq_eq_false_iff_ne.2 (by omega)]; rfl)) (by kernel_rfl) ?_
      refine s_nil ?_
      refine g_cond_t (by kernel_rfl) (by kernel_rfl) ?_
      refine g_skip (by kernel_rfl) ?_
      show WP _ _ _ _ _ _
      refine g_block 1 (by kernel_rfl) ?_
      refine g_sreg [0] (by kernel_rfl) (by kernel_rfl) ?_
      refine s_val (some 12) (.bool false) (fun w => by kernel_rfl) (by kernel_rfl) ?_
      refine s_nil ?_
      refine g_sreg [0, 1, 2, 3, 4, 5, 6, 7] (by kernel_rfl) (by kernel_rfl) ?_
      refine s_load H12 (some 44) 24 (.tmp 9) 0 b4 (Value.cells (uv (lf ((R * 18446744073709551616 + nx) % D) D e2))) 24 (0, 0) (by kernel_rfl) (by kernel_rfl) (by kernel_rfl) (by kernel_rfl) (by kernel_rfl) ?_
      refine s_load H12 (some 45) 24 (.tmp 5) 2 b2 (Value.cells (uv D)) 24 (0, 0) (by kernel_rfl) (by kernel_rfl) (by kernel_rfl) (by kernel_rfl) (by kernel_rfl) ?_
      refine s_call H12 (some 46) 21 #[uv (lf ((R * 18446744073709551616 + nx) % D) D e2), uv D] (.tuple #[uv (sm (lf ((R * 18446744073709551616 + nx) % D) D e2) D), .bool (ov (lf ((R * 18446744073709551616 + nx) % D) D e2) D)]) (add_fn (lf ((R * 18446744073709551616 + nx) % D) D e2) D (lf_lt _ _ _) hD) (fun w => by kernel_rfl) (by kernel_rfl) ?_
      intro w13 H13; clear H12
      refine s_val (some 43) (.tuple #[uv (sm (lf ((R * 18446744073709551616 + nx) % D) D e2) D), .bool (ov (lf ((R * 18446744073709551616 + nx) % D) D e2) D)]) (fun w => by kernel_rfl) (by kernel_rfl) ?_
      refine s_val (some 47) (uv (sm (lf ((R * 18446744073709551616 + nx) % D) D e2) D)) (fun w => by kernel_rfl) (by kernel_rfl) ?_
      refine s_val (some 48) (.bool (ov (lf ((R * 18446744073709551616 + nx) % D) D e2) D)) (fun w => by kernel_rfl) (by kernel_rfl) ?_
      refine s_store H13 0 [(b4, Obj.cells (Value.cells (uv (sm (lf ((R * 18446744073709551616 + nx) % D) D e2) D))) 24 (0, 0)), (b3, Obj.cells #[.int .u64 0, .int .u64 0, .int .u64 0, .int .u64 0] 24 (0, 0)), (b2, Obj.cells (Value.cells (uv D)) 24 (0, 0))] 24 (.tmp 9) (.tmp 47) b4 (0) (Value.cells (uv (lf ((R * 18446744073709551616 + nx) % D) D e2))) (Value.cells (uv (sm (lf ((R * 18446744073709551616 + nx) % D) D e2) D))) 24 (uv (sm (lf ((R * 18446744073709551616 + nx) % D) D e2) D)) (by kernel_rfl) (by kernel_rfl) (by kernel_rfl) (by kernel_rfl) (by kernel_rfl) (by kernel_rfl) (of_decide_eq_true (by kernel_rfl)) (by kernel_rfl) (by kernel_rfl) ?_
      intro w14 H14; clear H13
      refine s_val (some 12) (.bool (ov (lf ((R * 18446744073709551616 + nx) % D) D e2) D)) (fun w => by kernel_rfl) (by kernel_rfl) ?_
      refine s_nil ?_
      refine g_sreg [0] (by kernel_rfl) (by kernel_rfl) ?_
      have h1e : 1 ≤ e2 := by rcases Nat.eq_zero_or_pos e2 with h | h; (subst h; exact absurd (tp_zero (r := ((R * 18446744073709551616 + nx) % D)) (D := D) (Nat.lt_trans hml hDl)) (by assumption)); exact h
      have hnx := tp_next hml hDl h1e he2
      cases hov : ov (lf ((R * 18446744073709551616 + nx) % D) D e2) D
      · skip
        refine s_val (some 49) (.bool false) (fun w => by kernel_rfl) (by kernel_rfl) ?_
        refine s_nil ?_
        refine g_cond_f (by kernel_rfl) (by kernel_rfl) ?_
        refine g_skip (by kernel_rfl) ?_
        have hn1 : tp ((R * 18446744073709551616 + nx) % D) D e2 = tp ((R * 18446744073709551616 + nx) % D) D (e2 - 1) := hnx.2 hov
        rw [show (((tp ((R * 18446744073709551616 + nx) % D) D e2 : Nat) : Int)) = ((tp ((R * 18446744073709551616 + nx) % D) D (e2 - 1) : Nat) : Int) from by rw [← hn1]]
        rw [lf_next hml hDl (by omega) he2] at H14
        show ∃ m, _ ∧ _
        exact ⟨_, (by omega), (e2 - 1), rfl, (by omega), H14, (Is.of ⟨(by kernel_rfl), (by kernel_rfl), (by kernel_rfl), (by kernel_rfl), (by kernel_rfl), (by kernel_rfl), (by kernel_rfl), (by kernel_rfl), (by kernel_rfl), (by kernel_rfl), (by kernel_rfl), (by kernel_rfl), trivial⟩)⟩
      · skip
        refine s_val (some 49) (.bool true) (fun w => by kernel_rfl) (by kernel_rfl) ?_
        refine s_nil ?_
        refine g_cond_t (by kernel_rfl) (by kernel_rfl) ?_
        refine g_reg0 [0, 1, 2] (by kernel_rfl) ?_
        refine s_val (some 50) (.int .u64 ((tp ((R * 18446744073709551616 + nx) % D) D e2 : Nat) : Int)) (fun w => by kernel_rfl) (by kernel_rfl) ?_
        refine s_valE (some 51) (.int .u64 (IntKind.u64.wrap (((tp ((R * 18446744073709551616 + nx) % D) D e2 : Nat) : Int) + 1))) (.int .u64 ((((tp ((R * 18446744073709551616 + nx) % D) D e2) + 1) % 18446744073709551616 : Nat) : Int)) (fun w => by kernel_rfl) (int_eq (modAdd (a := tp ((R * 18446744073709551616 + nx) % D) D e2) (b := 1))) (by kernel_rfl) ?_
        refine s_val (some 11) (.int .u64 ((((tp ((R * 18446744073709551616 + nx) % D) D e2) + 1) % 18446744073709551616 : Nat) : Int)) (fun w => by kernel_rfl) (by kernel_rfl) ?_
        refine s_nil ?_
        have hn1 : ((tp ((R * 18446744073709551616 + nx) % D) D e2) + 1) % 18446744073709551616 = tp ((R * 18446744073709551616 + nx) % D) D (e2 - 1) := hnx.1 hov
        rw [show (((((tp ((R * 18446744073709551616 + nx) % D) D e2) + 1) % 18446744073709551616 : Nat) : Int)) = ((tp ((R * 18446744073709551616 + nx) % D) D (e2 - 1) : Nat) : Int) from by rw [← hn1]]
        rw [lf_next hml hDl (by omega) he2] at H14
        show ∃ m, _ ∧ _
        exact ⟨_, (by omega), (e2 - 1), rfl, (by omega), H14, (Is.of ⟨(by kernel_rfl), (by kernel_rfl), (by kernel_rfl), (by kernel_rfl), (by kernel_rfl), (by kernel_rfl), (by kernel_rfl), (by kernel_rfl), (by kernel_rfl), (by kernel_rfl), (by kernel_rfl), (by kernel_rfl), trivial⟩)⟩
    · skip
      refine s_valE (some 42) (.bool (!(((tp ((R * 18446744073709551616 + nx) % D) D e2 : Nat) : Int) == 0))) (.bool false) (fun w => by kernel_rfl) (bool_eq (by rw [beq_iff_eq.2 (by omega)]; rfl)) (by kernel_rfl) ?_
      refine s_nil ?_
      refine g_cond_f (by kernel_rfl) (by kernel_rfl) ?_
      refine g_exit 0 (by kernel_rfl) ?_
      show WP _ _ _ _ _ _
      refine g_sreg [0, 1] (by kernel_rfl) (by kernel_rfl) ?_
      refine s_load H12 (some 52) 24 (.tmp 9) 0 b4 (Value.cells (uv (lf ((R * 18446744073709551616 + nx) % D) D e2))) 24 (0, 0) (by kernel_rfl) (by kernel_rfl) (by kernel_rfl) (by kernel_rfl) (by kernel_rfl) ?_
      refine s_store H12 1 [(b4, Obj.cells (Value.cells (uv (lf ((R * 18446744073709551616 + nx) % D) D e2))) 24 (0, 0)), (b3, Obj.cells (Value.cells (uv (lf ((R * 18446744073709551616 + nx) % D) D e2))) 24 (0, 0)), (b2, Obj.cells (Value.cells (uv D)) 24 (0, 0))] 24 (.tmp 6) (.tmp 52) b3 (0) #[.int .u64 0, .int .u64 0, .int .u64 0, .int .u64 0] (Value.cells (uv (lf ((R * 18446744073709551616 + nx) % D) D e2))) 24 (uv (lf ((R * 18446744073709551616 + nx) % D) D e2)) (by kernel_rfl) (by kernel_rfl) (by kernel_rfl) (by kernel_rfl) (by kernel_rfl) (by kernel_rfl) (of_decide_eq_true (by kernel_rfl)) (by kernel_rfl) (by kernel_rfl) ?_
      intro w15 H15; clear H12
      refine s_nil ?_
      refine g_ret (by kernel_rfl) ?_
      show ∃ vs, Res _ _ _ _ vs ∧ _
      refine ⟨[uv (lf ((R * 18446744073709551616 + nx) % D) D e2)], (.agg (b := b3) (Value.cells (uv (lf ((R * 18446744073709551616 + nx) % D) D e2))) 24 (0, 0) (by kernel_rfl) (H15.get 1 (by kernel_rfl)) (by kernel_rfl) .nil), ?_, H15.below⟩
      have h0e : e2 = 0 := by rcases Nat.eq_zero_or_pos e2 with h | h; (exact h); exact absurd (Decidable.not_not.1 (by assumption)) (tp_ne hml hDl h he2)
      subst h0e
      rw [lf_zero (r := ((R * 18446744073709551616 + nx) % D)) (D := D) (Nat.lt_trans hml hDl)]; rfl
end Go.Proofs.Ythomanpefekaaaa
