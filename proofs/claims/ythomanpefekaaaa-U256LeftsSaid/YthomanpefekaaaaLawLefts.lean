/-
  The law U256Lefts, walked.
-/
import Derived.Test.YthomanpefekaaaaDivM
import Derived.Test.YthomanpefekaaaaMod
import Derived.Test.YthomanpefekaaaaAlive
import Derived.Test.YthomanpefekaaaaRefL
namespace Go.Proofs.Ythomanpefekaaaa
open Go Go.RowKit
set_option linter.unusedVariables false
theorem cm_lt {A B : Nat} (h : A < B) : cm A B = -1 := by unfold cm; split <;> (try split) <;> omega

set_option maxRecDepth 100000 in
set_option maxHeartbeats 2000000 in
theorem lefts0_fn (X Y : Nat) (hX : X < big) (hY : Y < big) : Fn Try.prog 3 #[uv X, uv Y, uv 0] (.bool true) := by
  refine Fn.intro (c := codeOf Try.f3) [.tmp 6] 57 Try.func3 (by kernel_rfl) (by kernel_rfl) (by kernel_rfl) fun w => ?_
  have H0 := St.start w
  refine g_sreg [0, 1, 2, 3] (by kernel_rfl) (by kernel_rfl) ?_
  refine s_box H0 (some 3) 24 (.tmp 0) (uv X) (by kernel_rfl) (by kernel_rfl) (by kernel_rfl) ?_
  intro b1 w1 H1; clear H0
  refine s_box H1 (some 4) 24 (.tmp 1) (uv Y) (by kernel_rfl) (by kernel_rfl) (by kernel_rfl) ?_
  intro b2 w2 H2; clear H1
  refine s_box H2 (some 5) 24 (.tmp 2) (uv 0) (by kernel_rfl) (by kernel_rfl) (by kernel_rfl) ?_
  intro b3 w3 H3; clear H2
  refine s_val (some 6) (.bool false) (fun w => by kernel_rfl) (by kernel_rfl) ?_
  refine s_nil ?_
  refine g_sreg [0, 1, 2, 3, 4, 5, 6, 7, 8, 9] (by kernel_rfl) (by kernel_rfl) ?_
  refine s_load H3 (some 11) 24 (.tmp 3) 2 b1 (Value.cells (uv X)) 24 (0, 0) (by kernel_rfl) (by kernel_rfl) (by kernel_rfl) (by kernel_rfl) (by kernel_rfl) ?_
  refine s_load H3 (some 12) 24 (.tmp 4) 1 b2 (Value.cells (uv Y)) 24 (0, 0) (by kernel_rfl) (by kernel_rfl) (by kernel_rfl) (by kernel_rfl) (by kernel_rfl) ?_
  refine s_load H3 (some 13) 24 (.tmp 5) 0 b3 (Value.cells (uv 0)) 24 (0, 0) (by kernel_rfl) (by kernel_rfl) (by kernel_rfl) (by kernel_rfl) (by kernel_rfl) ?_
  refine s_call H3 (some 14) 7 #[uv X, uv Y, uv 0] (.tuple #[.agg #[.int .u64 0, .int .u64 0, .int .u64 0, .int .u64 0], .int .i64 6]) (mod0_fn X Y hX hY) (fun w => by kernel_rfl) (by kernel_rfl) ?_
  intro w4 H4; clear H3
  refine s_val (some 10) (.tuple #[.agg #[.int .u64 0, .int .u64 0, .int .u64 0, .int .u64 0], .int .i64 6]) (fun w => by kernel_rfl) (by kernel_rfl) ?_
  refine s_val (some 15) (.agg #[.int .u64 0, .int .u64 0, .int .u64 0, .int .u64 0]) (fun w => by kernel_rfl) (by kernel_rfl) ?_
  refine s_val (some 16) (.int .i64 6) (fun w => by kernel_rfl) (by kernel_rfl) ?_
  refine s_alloc H4 (some 7) 24 (.agg #[.int .u64 0, .int .u64 0, .int .u64 0, .int .u64 0]) (by kernel_rfl) (by kernel_rfl) (by kernel_rfl) ?_
  intro b4 w5 H5; clear H4
  refine s_store H5 0 [(b4, Obj.cells #[.int .u64 0, .int .u64 0, .int .u64 0, .int .u64 0] 24 (0, 0)), (b3, Obj.cells (Value.cells (uv 0)) 24 (0, 0)), (b2, Obj.cells (Value.cells (uv Y)) 24 (0, 0)), (b1, Obj.cells (Value.cells (uv X)) 24 (0, 0))] 24 (.tmp 7) (.tmp 15) b4 (0) #[.int .u64 0, .int .u64 0, .int .u64 0, .int .u64 0] #[.int .u64 0, .int .u64 0, .int .u64 0, .int .u64 0] 24 (.agg #[.int .u64 0, .int .u64 0, .int .u64 0, .int .u64 0]) (by kernel_rfl) (by kernel_rfl) (by kernel_rfl) (by kernel_rfl) (by kernel_rfl) (by kernel_rfl) (of_decide_eq_true (by kernel_rfl)) (by kernel_rfl) (by kernel_rfl) ?_
  intro w6 H6; clear H5
  refine s_val (some 8) (.int .i64 6) (fun w => by kernel_rfl) (by kernel_rfl) ?_
  refine s_nil ?_
  refine g_seq (by kernel_rfl) ?_
  refine g_sreg [0, 1, 2] (by kernel_rfl) (by kernel_rfl) ?_
  refine s_load H6 (some 17) 24 (.tmp 5) 1 b3 (Value.cells (uv 0)) 24 (0, 0) (by kernel_rfl) (by kernel_rfl) (by kernel_rfl) (by kernel_rfl) (by kernel_rfl) ?_
  refine s_val (some 18) (.agg #[.int .u64 0, .int .u64 0, .int .u64 0, .int .u64 0]) (fun w => by kernel_rfl) (by kernel_rfl) ?_
  refine s_opE (some 19) _ (.bool (decide (0 = 0))) (.bool true) (by kernel_rfl) (fun o w ho => eqU_run (x := (.tmp 17)) (y := (.tmp 18)) 0 0 (by unfold big; omega) (by unfold big; omega) w ho (by kernel_rfl) (by kernel_rfl)) (by rw [decide_eq_true rfl] <;> rfl) (by kernel_rfl) ?_
  refine s_nil ?_
  refine g_cond_t (by kernel_rfl) (by kernel_rfl) ?_
  refine g_sreg [0, 1, 2, 3, 4, 5, 6, 7, 8, 9, 10] (by kernel_rfl) (by kernel_rfl) ?_
  refine s_call H6 (some 20) 8 #[] (.bool true) alive_any (fun w => by kernel_rfl) (by kernel_rfl) ?_
  intro w7 H7; clear H6
  refine s_val (some 21) (.bool true) (fun w => by kernel_rfl) (by kernel_rfl) ?_
  refine s_val (some 22) (.int .i64 6) (fun w => by kernel_rfl) (by kernel_rfl) ?_
  refine s_val (some 23) (.bool true) (fun w => by kernel_rfl) (by kernel_rfl) ?_
  refine s_val (some 24) (.bool true) (fun w => by kernel_rfl) (by kernel_rfl) ?_
  refine s_val (some 25) (.bool true) (fun w => by kernel_rfl) (by kernel_rfl) ?_
  refine s_load H7 (some 26) 24 (.tmp 7) 0 b4 #[.int .u64 0, .int .u64 0, .int .u64 0, .int .u64 0] 24 (0, 0) (by kernel_rfl) (by kernel_rfl) (by kernel_rfl) (by kernel_rfl) (by kernel_rfl) ?_
  refine s_val (some 27) (.agg #[.int .u64 0, .int .u64 0, .int .u64 0, .int .u64 0]) (fun w => by kernel_rfl) (by kernel_rfl) ?_
  refine s_opE (some 28) _ (.bool (decide (0 = 0))) (.bool true) (by kernel_rfl) (fun o w ho => eqU_run (x := (.tmp 26)) (y := (.tmp 27)) 0 0 (by unfold big; omega) (by unfold big; omega) w ho (by kernel_rfl) (by kernel_rfl)) (by rw [decide_eq_true rfl] <;> rfl) (by kernel_rfl) ?_
  refine s_val (some 29) (.bool true) (fun w => by kernel_rfl) (by kernel_rfl) ?_
  refine s_val (some 6) (.bool true) (fun w => by kernel_rfl) (by kernel_rfl) ?_
  refine s_nil ?_
  refine g_ret (by kernel_rfl) ?_
  show ∃ vs, Res _ _ _ _ vs ∧ _
  refine ⟨[.bool true], (.tmp (.bool true) (by kernel_rfl) .nil), ?_, H7.below⟩
  rfl

set_option maxRecDepth 100000 in
set_option maxHeartbeats 2000000 in
theorem lefts_fn (X Y m : Nat) (hX : X < big) (hY : Y < big) (hm : m < big) (h0 : m ≠ 0) : Fn Try.prog 3 #[uv X, uv Y, uv m] (.bool true) := by
  refine Fn.intro (c := codeOf Try.f3) [.tmp 6] 57 Try.func3 (by kernel_rfl) (by kernel_rfl) (by kernel_rfl) fun w => ?_
  have H0 := St.start w
  refine g_sreg [0, 1, 2, 3] (by kernel_rfl) (by kernel_rfl) ?_
  refine s_box H0 (some 3) 24 (.tmp 0) (uv X) (by kernel_rfl) (by kernel_rfl) (by kernel_rfl) ?_
  intro b1 w1 H1; clear H0
  refine s_box H1 (some 4) 24 (.tmp 1) (uv Y) (by kernel_rfl) (by kernel_rfl) (by kernel_rfl) ?_
  intro b2 w2 H2; clear H1
  refine s_box H2 (some 5) 24 (.tmp 2) (uv m) (by kernel_rfl) (by kernel_rfl) (by kernel_rfl) ?_
  intro b3 w3 H3; clear H2
  refine s_val (some 6) (.bool false) (fun w => by kernel_rfl) (by kernel_rfl) ?_
  refine s_nil ?_
  refine g_sreg [0, 1, 2, 3, 4, 5, 6, 7, 8, 9] (by kernel_rfl) (by kernel_rfl) ?_
  refine s_load H3 (some 11) 24 (.tmp 3) 2 b1 (Value.cells (uv X)) 24 (0, 0) (by kernel_rfl) (by kernel_rfl) (by kernel_rfl) (by kernel_rfl) (by kernel_rfl) ?_
  refine s_load H3 (some 12) 24 (.tmp 4) 1 b2 (Value.cells (uv Y)) 24 (0, 0) (by kernel_rfl) (by kernel_rfl) (by kernel_rfl) (by kernel_rfl) (by kernel_rfl) ?_
  refine s_load H3 (some 13) 24 (.tmp 5) 0 b3 (Value.cells (uv m)) 24 (0, 0) (by kernel_rfl) (by kernel_rfl) (by kernel_rfl) (by kernel_rfl) (by kernel_rfl) ?_
  refine s_call H3 (some 14) 7 #[uv X, uv Y, uv m] (.tuple #[uv ((X + big * Y) % m), .int .i64 0]) (mod_fn X Y m hX hY hm h0) (fun w => by kernel_rfl) (by kernel_rfl) ?_
  intro w4 H4; clear H3
  refine s_val (some 10) (.tuple #[uv ((X + big * Y) % m), .int .i64 0]) (fun w => by kernel_rfl) (by kernel_rfl) ?_
  refine s_val (some 15) (uv ((X + big * Y) % m)) (fun w => by kernel_rfl) (by kernel_rfl) ?_
  refine s_val (some 16) (.int .i64 0) (fun w => by kernel_rfl) (by kernel_rfl) ?_
  refine s_alloc H4 (some 7) 24 (.agg #[.int .u64 0, .int .u64 0, .int .u64 0, .int .u64 0]) (by kernel_rfl) (by kernel_rfl) (by kernel_rfl) ?_
  intro b4 w5 H5; clear H4
  refine s_store H5 0 [(b4, Obj.cells (Value.cells (uv ((X + big * Y) % m))) 24 (0, 0)), (b3, Obj.cells (Value.cells (uv m)) 24 (0, 0)), (b2, Obj.cells (Value.cells (uv Y)) 24 (0, 0)), (b1, Obj.cells (Value.cells (uv X)) 24 (0, 0))] 24 (.tmp 7) (.tmp 15) b4 (0) #[.int .u64 0, .int .u64 0, .int .u64 0, .int .u64 0] (Value.cells (uv ((X + big * Y) % m))) 24 (uv ((X + big * Y) % m)) (by kernel_rfl) (by kernel_rfl) (by kernel_rfl) (by kernel_rfl) (by kernel_rfl) (by kernel_rfl) (of_decide_eq_true (by kernel_rfl)) (by kernel_rfl) (by kernel_rfl) ?_
  intro w6 H6; clear H5
  refine s_val (some 8) (.int .i64 0) (fun w => by kernel_rfl) (by kernel_rfl) ?_
  refine s_nil ?_
  refine g_seq (by kernel_rfl) ?_
  refine g_sreg [0, 1, 2] (by kernel_rfl) (by kernel_rfl) ?_
  refine s_load H6 (some 17) 24 (.tmp 5) 1 b3 (Value.cells (uv m)) 24 (0, 0) (by kernel_rfl) (by kernel_rfl) (by kernel_rfl) (by kernel_rfl) (by kernel_rfl) ?_
  refine s_val (some 18) (.agg #[.int .u64 0, .int .u64 0, .int .u64 0, .int .u64 0]) (fun w => by kernel_rfl) (by kernel_rfl) ?_
  refine s_opE (some 19) _ (.bool (decide (m = 0))) (.bool false) (by kernel_rfl) (fun o w ho => eqU_run (x := (.tmp 17)) (y := (.tmp 18)) m 0 hm (by unfold big; omega) w ho (by kernel_rfl) (by kernel_rfl)) (by rw [decide_eq_false h0] <;> rfl) (by kernel_rfl) ?_
  refine s_nil ?_
  refine g_cond_f (by kernel_rfl) (by kernel_rfl) ?_
  refine g_skip (by kernel_rfl) ?_
  show WP _ _ _ _ _ _
  refine D2.g_sdraw [0, 1, 2, 3, 4, 5, 6, 7] [((some 30), fun b => .slice (some ⟨b.b, 0, none⟩) 0 0), ((some 31), fun _ => uv X), ((some 32), fun x => .slice (some ⟨x.b, 0, none⟩) x.n x.cap), ((some 33), fun y => .slice (some ⟨y.b, 0, none⟩) y.n y.cap), ((some 34), fun _ => uv Y), ((some 35), fun x => .slice (some ⟨x.b, 0, none⟩) x.n x.cap), ((some 36), fun y => .slice (some ⟨y.b, 0, none⟩) y.n y.cap), ((some 9), fun y => .slice (some ⟨y.b, 0, none⟩) (y.n) (y.cap))] (D2.Pre w.heap.size w (fun L g => [(true, (b4, Obj.cells (Value.cells (uv ((X + big * Y) % m))) 24 (0, 0))), (true, (b3, Obj.cells (Value.cells (uv m)) 24 (0, 0))), (true, (b2, Obj.cells (Value.cells (uv Y)) 24 (0, 0))), (true, (b1, Obj.cells (Value.cells (uv X)) 24 (0, 0))), (L 0, (bif L 6 then ((g 6).b, Obj.cells ((g 6).cur) 3 (0, 0)) else (bif L 3 then ((g 3).b, Obj.cells ((g 3).cur) 3 (0, 0)) else ((g 0).b, Obj.cells #[] 3 (0, 0))))), (L 2, ((g 2).b, Obj.cells ((g 2).cur) 3 (0, 0))), (L 5, ((g 5).b, Obj.cells ((g 5).cur) 3 (0, 0)))]) (fun L g => (L 2 = true → ((g 2).n = List.length ((g 2).l) ∧ Rw 1 (g 2).cur (g 2).cap (g 2).n (cellsD ((g 2).l)) ∧ Ok ((g 2).l) ∧ ((g 2).l = dgs X 16 ∧ vl ((g 2).l) = X ∧ List.length ((g 2).l) = 16))) ∧ (L 3 = true → ((g 3).n = 16 ∧ Rw 1 (g 3).cur (g 3).cap (g 3).n (cellsD (dgs X 16)))) ∧ (L 5 = true → ((g 5).n = List.length ((g 5).l) ∧ Rw 1 (g 5).cur (g 5).cap (g 5).n (cellsD ((g 5).l)) ∧ Ok ((g 5).l) ∧ ((g 5).l = dgs Y 16 ∧ vl ((g 5).l) = Y ∧ List.length ((g 5).l) = 16))) ∧ (L 6 = true → ((g 6).n = 32 ∧ Rw 1 (g 6).cur (g 6).cap (g 6).n (cellsD (dgs X 16 ++ dgs Y 16)))) ∧ (L 7 = true → g 7 = g 6) ∧ True)) (by kernel_rfl) (by kernel_rfl) (by kernel_rfl) (by kernel_rfl) ⟨D2.StE.of H6.drew _ (by kernel_rfl), ⟨(fun h => nomatch h), (fun h => nomatch h), (fun h => nomatch h), (fun h => nomatch h), (fun h => nomatch h), trivial⟩⟩ ⟨?_, ?_, ?_, ?_, ?_, ?_, ?_, ?_, trivial⟩ ?_
  · exact D2.gv_new (fun b => .slice (some ⟨b, 0, none⟩) 0 0) #[] 3 4 (fun g w => by kernel_rfl) (fun L g b hN => (by have hL3 : L 3 = false := (hN.post 3 (by kernel_rfl)); have hL6 : L 6 = false := (hN.2.2.no 3 6 (by kernel_rfl) (hN.post 3 (by kernel_rfl))); exact D2.ent_set (x' := (true, (bif L 6 then (((D2.setN g 0 { b := b }) 6).b, Obj.cells (((D2.setN g 0 { b := b }) 6).cur) 3 (0, 0)) else (bif L 3 then (((D2.setN g 0 { b := b }) 3).b, Obj.cells (((D2.setN g 0 { b := b }) 3).cur) 3 (0, 0)) else (((D2.setN g 0 { b := b }) 0).b, Obj.cells #[] 3 (0, 0)))))) (by kernel_rfl) (by simp only [hL3, hL6, cond_true, cond_false] <;> rfl))) (fun L g b hN hF => hF)
  · exact D2.gv_load 24 (.tmp 3) 3 (fun g => b1) (Value.cells (uv X)) 24 (0, 0) (fun _ _ _ h => h) (fun g => by kernel_rfl) (fun g => by kernel_rfl) (fun L g hN => (by kernel_rfl)) (by kernel_rfl)
  · exact D2.gv_callS 9 (fun g => #[uv X]) (fun g => fun _ => True) 3 1 (fun g curZ capZ nZ lZ => (nZ = List.length lZ ∧ Rw 1 curZ capZ nZ (cellsD lZ) ∧ Ok lZ ∧ (lZ = dgs X 16 ∧ vl lZ = X ∧ List.length lZ = 16))) 5 (fun L g hN hF => by exact of_fn X hX) (fun L g w hN hE hF => by exact trivial) (fun g w => by kernel_rfl) (fun L g x hN => (by kernel_rfl)) (fun L g x hN hF hS => ⟨fun _ => hS, hF.2.1, hF.2.2.1, hF.2.2.2.1, hF.2.2.2.2.1, trivial⟩)
  · exact D2.gv_append 30 3 1 8 (.tmp 30) (.tmp 32) 4 5 (fun g => (g 0).b) (fun g => (g 2).b) (fun g => 0) (fun g => (g 2).n) (fun g => 0) (fun g => (g 2).cap) (fun g => #[]) (fun g => (g 2).cur) 3 (0, 0) (fun g => []) (fun g => cellsD ((g 2).l)) (fun g => by kernel_rfl) (by kernel_rfl) (fun g => by kernel_rfl) (fun L g hN => (by have hL0 : L 0 = true := (hN.bef 0 (by kernel_rfl)); have hL3 : L 3 = false := hN.1; have hL6 : L 6 = false := (hN.post 6 (by kernel_rfl)); exact D2.ent_get' (p := L 0) (e := (bif L 6 then ((g 6).b, Obj.cells ((g 6).cur) 3 (0, 0)) else (bif L 3 then ((g 3).b, Obj.cells ((g 3).cur) 3 (0, 0)) else ((g 0).b, Obj.cells #[] 3 (0, 0))))) (by kernel_rfl) (by exact hL0) (by simp only [hL0, hL3, hL6, cond_true, cond_false] <;> rfl))) (fun L g hN hF => by exact (Rw.lit #[] 0 (by rfl) (by unfold maxLen; omega))) (fun g => by kernel_rfl) (fun L g hN => (by have hL2 : L 2 = true := (hN.bef 2 (by kernel_rfl)); exact D2.ent_get' (p := L 2) (e := ((g 2).b, Obj.cells ((g 2).cur) 3 (0, 0))) (by kernel_rfl) (by exact hL2) (by simp only [hL2, cond_true, cond_false] <;> rfl))) (fun L g hN hF => by have hf2 := (hF.1 (hN.bef 2 (by kernel_rfl))); exact ⟨hf2.2.1.take, hf2.2.1.len, (cellsD_one _), (by omega), (by unfold maxLen; omega)⟩) (fun L g y hN => (by have hL0 : L 0 = true := (hN.bef 0 (by kernel_rfl)); have hL6 : L 6 = false := (hN.post 6 (by kernel_rfl)); exact D2.ent_set (x' := (L 0, (bif L 6 then (((D2.setN g 3 y) 6).b, Obj.cells (((D2.setN g 3 y) 6).cur) 3 (0, 0)) else (((D2.setN g 3 y) 3).b, Obj.cells (((D2.setN g 3 y) 3).cur) 3 (0, 0))))) (by kernel_rfl) (by simp only [hL0, hL6, cond_true, cond_false] <;> rfl))) (fun L g y hN hF hyn hyr => by have hf2 := (hF.1 (hN.bef 2 (by kernel_rfl))); have hnew := (show (y.n = 16 ∧ Rw 1 y.cur y.cap y.n (cellsD (dgs X 16))) from by obtain ⟨e1, e2, e3, e4, e5, e6⟩ := hf2; refine ⟨by omega, ?_⟩; rw [hyn, ← e4]; exact hyr); exact ⟨hF.1, fun _ => hnew, hF.2.2.1, hF.2.2.2.1, hF.2.2.2.2.1, trivial⟩)
  · exact D2.gv_load 24 (.tmp 4) 2 (fun g => b2) (Value.cells (uv Y)) 24 (0, 0) (fun _ _ _ h => h) (fun g => by kernel_rfl) (fun g => by kernel_rfl) (fun L g hN => (by kernel_rfl)) (by kernel_rfl)
  · exact D2.gv_callS 9 (fun g => #[uv Y]) (fun g => fun _ => True) 3 1 (fun g curZ capZ nZ lZ => (nZ = List.length lZ ∧ Rw 1 curZ capZ nZ (cellsD lZ) ∧ Ok lZ ∧ (lZ = dgs Y 16 ∧ vl lZ = Y ∧ List.length lZ = 16))) 6 (fun L g hN hF => by exact of_fn Y hY) (fun L g w hN hE hF => by exact trivial) (fun g w => by kernel_rfl) (fun L g x hN => (by kernel_rfl)) (fun L g x hN hF hS => ⟨hF.1, hF.2.1, fun _ => hS, hF.2.2.2.1, hF.2.2.2.2.1, trivial⟩)
  · exact D2.gv_append 30 3 1 8 (.tmp 33) (.tmp 35) 4 6 (fun g => (g 3).b) (fun g => (g 5).b) (fun g => (g 3).n) (fun g => (g 5).n) (fun g => (g 3).cap) (fun g => (g 5).cap) (fun g => (g 3).cur) (fun g => (g 5).cur) 3 (0, 0) (fun g => cellsD (dgs X 16)) (fun g => cellsD ((g 5).l)) (fun g => by kernel_rfl) (by kernel_rfl) (fun g => by kernel_rfl) (fun L g hN => (by have hL0 : L 0 = true := (hN.2.2.yes 0 3 (by kernel_rfl) (hN.bef 3 (by kernel_rfl))); have hL3 : L 3 = true := (hN.bef 3 (by kernel_rfl)); have hL6 : L 6 = false := hN.1; exact D2.ent_get' (p := L 0) (e := (bif L 6 then ((g 6).b, Obj.cells ((g 6).cur) 3 (0, 0)) else (bif L 3 then ((g 3).b, Obj.cells ((g 3).cur) 3 (0, 0)) else ((g 0).b, Obj.cells #[] 3 (0, 0))))) (by kernel_rfl) (by exact hL0) (by simp only [hL0, hL3, hL6, cond_true, cond_false] <;> rfl))) (fun L g hN hF => by have hf3 := (hF.2.1 (hN.bef 3 (by kernel_rfl))); exact hf3.2) (fun g => by kernel_rfl) (fun L g hN => (by have hL5 : L 5 = true := (hN.bef 5 (by kernel_rfl)); exact D2.ent_get' (p := L 5) (e := ((g 5).b, Obj.cells ((g 5).cur) 3 (0, 0))) (by kernel_rfl) (by exact hL5) (by simp only [hL5, cond_true, cond_false] <;> rfl))) (fun L g hN hF => by have hf3 := (hF.2.1 (hN.bef 3 (by kernel_rfl))); have hf5 := (hF.2.2.1 (hN.bef 5 (by kernel_rfl))); exact ⟨hf5.2.1.take, hf5.2.1.len, (cellsD_one _), (by omega), (by unfold maxLen; omega)⟩) (fun L g y hN => (by have hL0 : L 0 = true := (hN.2.2.yes 0 3 (by kernel_rfl) (hN.bef 3 (by kernel_rfl))); have hL3 : L 3 = true := (hN.bef 3 (by kernel_rfl)); exact D2.ent_set (x' := (L 0, (((D2.setN g 6 y) 6).b, Obj.cells (((D2.setN g 6 y) 6).cur) 3 (0, 0)))) (by kernel_rfl) (by simp only [hL0, hL3, cond_true, cond_false] <;> rfl))) (fun L g y hN hF hyn hyr => by have hf3 := (hF.2.1 (hN.bef 3 (by kernel_rfl))); have hf5 := (hF.2.2.1 (hN.bef 5 (by kernel_rfl))); have hnew := (show (y.n = 32 ∧ Rw 1 y.cur y.cap y.n (cellsD (dgs X 16 ++ dgs Y 16))) from by obtain ⟨e1, e2, e3, e4, e5, e6⟩ := hf5; refine ⟨by omega, ?_⟩; rw [cellsD_append]; rw [hyn, ← e4]; exact hyr); exact ⟨hF.1, hF.2.1, hF.2.2.1, fun _ => hnew, (fun hx => nomatch (Eq.trans (Eq.symm (show L 7 = true from hx)) (hN.post 7 (by kernel_rfl)))), trivial⟩)
  · exact D2.gv_valG (fun g => g 6) (fun L g w hN hp => ⟨hp.1, hp.2.1, hp.2.2.1, hp.2.2.2.1, hp.2.2.2.2.1, fun _ => rfl, trivial⟩) (fun g w => by kernel_rfl)
  intro L0 G7 w7 hall HL; clear H6
  have H7 : St w.heap.size w w7 [(b4, Obj.cells (Value.cells (uv ((X + big * Y) % m))) 24 (0, 0)), (b3, Obj.cells (Value.cells (uv m)) 24 (0, 0)), (b2, Obj.cells (Value.cells (uv Y)) 24 (0, 0)), (b1, Obj.cells (Value.cells (uv X)) 24 (0, 0)), ((G7 6).b, Obj.cells ((G7 6).cur) 3 (0, 0)), ((G7 2).b, Obj.cells ((G7 2).cur) 3 (0, 0)), ((G7 5).b, Obj.cells ((G7 5).cur) 3 (0, 0))] := by have e0 := hall 0 (Nat.le_of_ble_eq_true (by kernel_rfl)); have e2 := hall 2 (Nat.le_of_ble_eq_true (by kernel_rfl)); have e3 := hall 3 (Nat.le_of_ble_eq_true (by kernel_rfl)); have e5 := hall 5 (Nat.le_of_ble_eq_true (by kernel_rfl)); have e6 := hall 6 (Nat.le_of_ble_eq_true (by kernel_rfl)); have e7 := hall 7 (Nat.le_of_ble_eq_true (by kernel_rfl)); have hS := D2.StE.st HL.1; simp only [e0, e2, e3, e5, e6, e7, cond_true, D2.pres] at hS; exact hS
  have hf2_7 : ((G7 2).n = List.length ((G7 2).l) ∧ Rw 1 (G7 2).cur (G7 2).cap (G7 2).n (cellsD ((G7 2).l)) ∧ Ok ((G7 2).l) ∧ ((G7 2).l = dgs X 16 ∧ vl ((G7 2).l) = X ∧ List.length ((G7 2).l) = 16)) := HL.2.1 (hall 2 (Nat.le_of_ble_eq_true (by kernel_rfl)))
  have hf3_7 : ((G7 3).n = 16 ∧ Rw 1 (G7 3).cur (G7 3).cap (G7 3).n (cellsD (dgs X 16))) := HL.2.2.1 (hall 3 (Nat.le_of_ble_eq_true (by kernel_rfl)))
  have hf5_7 : ((G7 5).n = List.length ((G7 5).l) ∧ Rw 1 (G7 5).cur (G7 5).cap (G7 5).n (cellsD ((G7 5).l)) ∧ Ok ((G7 5).l) ∧ ((G7 5).l = dgs Y 16 ∧ vl ((G7 5).l) = Y ∧ List.length ((G7 5).l) = 16)) := HL.2.2.2.1 (hall 5 (Nat.le_of_ble_eq_true (by kernel_rfl)))
  have hf6_7 : ((G7 6).n = 32 ∧ Rw 1 (G7 6).cur (G7 6).cap (G7 6).n (cellsD (dgs X 16 ++ dgs Y 16))) := HL.2.2.2.2.1 (hall 6 (Nat.le_of_ble_eq_true (by kernel_rfl)))
  have hf7_7 : G7 7 = G7 6 := HL.2.2.2.2.2.1 (hall 7 (Nat.le_of_ble_eq_true (by kernel_rfl)))
  clear HL hall
  rw [← hf7_7] at H7 hf6_7
  refine D2.g_sdraw [0, 1, 2, 3, 4, 5, 6, 7, 8, 9, 10, 11, 12, 13, 14, 15, 16, 17, 18, 19, 20] [((some 37), fun _ => .bool true), ((some 38), fun _ => .bool true), ((some 39), fun _ => .int .i64 0), ((some 40), fun _ => .bool true), ((some 41), fun _ => .bool true), ((some 42), fun _ => .bool true), ((some 43), fun _ => uv ((X + big * Y) % m)), ((some 44), fun _ => .slice (some ⟨(G7 7).b, 0, none⟩) ((G7 7).n) ((G7 7).cap)), ((some 45), fun _ => uv m), ((some 46), fun x => .slice (some ⟨x.b, 0, none⟩) x.n x.cap), ((some 47), fun x => .slice (some ⟨x.b, 0, none⟩) x.n x.cap), ((some 48), fun _ => uv ((X + big * Y) % m)), ((some 49), fun _ => .bool true), ((some 50), fun _ => .bool true), ((some 51), fun _ => .bool true), ((some 52), fun _ => uv ((X + big * Y) % m)), ((some 53), fun _ => uv m), ((some 54), fun _ => .int .i64 (-1)), ((some 55), fun _ => .bool true), ((some 56), fun _ => .bool true), ((some 6), fun _ => .bool true)] (D2.Pre w.heap.size w (fun L g => [(true, (b4, Obj.cells (Value.cells (uv ((X + big * Y) % m))) 24 (0, 0))), (true, (b3, Obj.cells (Value.cells (uv m)) 24 (0, 0))), (true, (b2, Obj.cells (Value.cells (uv Y)) 24 (0, 0))), (true, (b1, Obj.cells (Value.cells (uv X)) 24 (0, 0))), (true, ((G7 7).b, Obj.cells ((G7 7).cur) 3 (0, 0))), (true, ((G7 2).b, Obj.cells ((G7 2).cur) 3 (0, 0))), (true, ((G7 5).b, Obj.cells ((G7 5).cur) 3 (0, 0))), (L 9, ((g 9).b, Obj.cells ((g 9).cur) 3 (0, 0))), (L 10, ((g 10).b, Obj.cells ((g 10).cur) 3 (0, 0)))]) (fun L g => (L 9 = true → ((g 9).n = List.length ((g 9).l) ∧ Rw 1 (g 9).cur (g 9).cap (g 9).n (cellsD ((g 9).l)) ∧ Ok ((g 9).l) ∧ ((g 9).l = dgs m 16 ∧ vl ((g 9).l) = m ∧ List.length ((g 9).l) = 16))) ∧ (L 10 = true → ((g 10).n = List.length ((g 10).l) ∧ Rw 1 (g 10).cur (g 10).cap (g 10).n (cellsD ((g 10).l)) ∧ Ok ((g 10).l) ∧ (vl ((g 10).l) = vl (dgs X 16 ++ dgs Y 16) % vl ((g 9).l) ∧ 1 ≤ List.length ((g 10).l) ∧ List.length ((g 10).l) ≤ List.length ((g 9).l)))) ∧ True)) (by kernel_rfl) (by kernel_rfl) (by kernel_rfl) (by kernel_rfl) ⟨D2.StE.of H7.drew _ (by kernel_rfl), ⟨(fun h => nomatch h), (fun h => nomatch h), trivial⟩⟩ ⟨?_, ?_, ?_, ?_, ?_, ?_, ?_, ?_, ?_, ?_, ?_, ?_, ?_, ?_, ?_, ?_, ?_, ?_, ?_, ?_, ?_, trivial⟩ ?_
  · exact D2.gv_call 8 #[] (fun _ _ _ h => h) alive_any (fun g w => by kernel_rfl)
  · exact D2.gv_val (fun _ _ _ h => h) (fun g w => by kernel_rfl)
  · exact D2.gv_val (fun _ _ _ h => h) (fun g w => by kernel_rfl)
  · exact D2.gv_val (fun _ _ _ h => h) (fun g w => by kernel_rfl)
  · exact D2.gv_val (fun _ _ _ h => h) (fun g w => by kernel_rfl)
  · exact D2.gv_val (fun _ _ _ h => h) (fun g w => by kernel_rfl)
  · exact D2.gv_load 24 (.tmp 7) 0 (fun g => b4) (Value.cells (uv ((X + big * Y) % m))) 24 (0, 0) (fun _ _ _ h => h) (fun g => by kernel_rfl) (fun g => by kernel_rfl) (fun L g hN => (by kernel_rfl)) (by kernel_rfl)
  · exact D2.gv_val (fun _ _ _ h => h) (fun g w => by kernel_rfl)
  · exact D2.gv_load 24 (.tmp 5) 1 (fun g => b3) (Value.cells (uv m)) 24 (0, 0) (fun _ _ _ h => h) (fun g => by kernel_rfl) (fun g => by kernel_rfl) (fun L g hN => (by kernel_rfl)) (by kernel_rfl)
  · exact D2.gv_callS 9 (fun g => #[uv m]) (fun g => fun _ => True) 3 1 (fun g curZ capZ nZ lZ => (nZ = List.length lZ ∧ Rw 1 curZ capZ nZ (cellsD lZ) ∧ Ok lZ ∧ (lZ = dgs m 16 ∧ vl lZ = m ∧ List.length lZ = 16))) 7 (fun L g hN hF => by exact of_fn m hm) (fun L g w hN hE hF => by exact trivial) (fun g w => by kernel_rfl) (fun L g x hN => (by kernel_rfl)) (fun L g x hN hF hS => ⟨fun _ => hS, (fun hx => nomatch (Eq.trans (Eq.symm (show L 10 = true from hx)) (hN.post 10 (by kernel_rfl)))), trivial⟩)
  · exact D2.gv_callS 11 (fun g => #[.slice (some ⟨(G7 7).b, 0, none⟩) ((G7 7).n) ((G7 7).cap), .slice (some ⟨(g 9).b, 0, none⟩) ((g 9).n) ((g 9).cap)]) (fun g => fun w => w.heap[(G7 7).b]? = some (.cells (G7 7).cur 3 (0, 0)) ∧ w.heap[(g 9).b]? = some (.cells (g 9).cur 3 (0, 0))) 3 1 (fun g curZ capZ nZ lZ => (nZ = List.length lZ ∧ Rw 1 curZ capZ nZ (cellsD lZ) ∧ Ok lZ ∧ (vl lZ = vl (dgs X 16 ++ dgs Y 16) % vl ((g 9).l) ∧ 1 ≤ List.length lZ ∧ List.length lZ ≤ List.length ((g 9).l)))) 8 (fun L g hN hF => by have hf9 := (hF.1 (hN.bef 9 (by kernel_rfl))); exact left_fn (dgs X 16 ++ dgs Y 16) ((g 9).l) ((G7 7).b) ((G7 7).n) ((G7 7).cap) ((g 9).b) ((g 9).n) ((g 9).cap) ((G7 7).cur) ((g 9).cur) (by have h9 := hf6_7.1; simp only [List.length_append, dgs_length]; omega) hf9.1 hf6_7.2 hf9.2.1 (ok_append (dgs_ok X 16) (dgs_ok Y 16)) hf9.2.2.1 (by simp only [List.length_append, dgs_length]; omega) (by have := hf9.2.2.2; omega) (by have h9 := hf9.2.2.2; omega) (by have h9 := hf9.2.2.2; omega)) (fun L g w hN hE hF => by have hf9 := (hF.1 (hN.bef 9 (by kernel_rfl))); exact ⟨(hE.get 4 (by kernel_rfl)), (hE.get 7 (by have hL9 : L 9 = true := (hN.bef 9 (by kernel_rfl)); exact D2.ent_get' (p := L 9) (e := ((g 9).b, Obj.cells ((g 9).cur) 3 (0, 0))) (by kernel_rfl) (by exact hL9) (by simp only [hL9, cond_true, cond_false] <;> rfl)))⟩) (fun g w => by kernel_rfl) (fun L g x hN => (by kernel_rfl)) (fun L g x hN hF hS => ⟨hF.1, fun _ => hS, trivial⟩)
  · exact D2.gv_callP 10 (fun g => #[.slice (some ⟨(g 10).b, 0, none⟩) ((g 10).n) ((g 10).cap)]) (fun g => fun w => w.heap[(g 10).b]? = some (.cells (g 10).cur 3 (0, 0))) (fun _ _ _ h => h) (fun L g hN hF => by have hf10 := (hF.2.1 (hN.bef 10 (by kernel_rfl))); have hf9 := (hF.1 (hN.2.2.yes 9 10 (by kernel_rfl) (hN.bef 10 (by kernel_rfl)))); exact (by have hnum := to_fn ((g 10).l) ((g 10).b) ((g 10).n) ((g 10).cap) ((g 10).cur) hf10.1 hf10.2.1 (by have := hf10.2.2.2; omega) hf10.2.2.1; have heq : (vl ((g 10).l) % big) = ((X + big * Y) % m) := (by have e9 := hf9.2.2.2; have e10 := hf10.2.2.2; rw [e10.1, e9.2.1, vl_append, vl_dgs16 hX, vl_dgs16 hY, dgs_length, ← big_pow]; exact Nat.mod_eq_of_lt (Nat.lt_trans (Nat.mod_lt _ (by omega)) hm)); rw [heq] at hnum; exact hnum)) (fun L g w hN hE hF => by have hf10 := (hF.2.1 (hN.bef 10 (by kernel_rfl))); have hf9 := (hF.1 (hN.2.2.yes 9 10 (by kernel_rfl) (hN.bef 10 (by kernel_rfl)))); exact (hE.get 8 (by have hL10 : L 10 = true := (hN.bef 10 (by kernel_rfl)); exact D2.ent_get' (p := L 10) (e := ((g 10).b, Obj.cells ((g 10).cur) 3 (0, 0))) (by kernel_rfl) (by exact hL10) (by simp only [hL10, cond_true, cond_false] <;> rfl)))) (fun g w => by kernel_rfl)
  · exact D2.gv_opE (fun _ _ _ h => h) _ (V' := .bool (decide (((X + big * Y) % m) = ((X + big * Y) % m)))) (fun g => by kernel_rfl) (fun g => (fun o w ho => eqU_run (x := (.tmp 43)) (y := (.tmp 48)) ((X + big * Y) % m) ((X + big * Y) % m) (Nat.lt_trans (Nat.mod_lt _ (by omega)) (by omega)) (Nat.lt_trans (Nat.mod_lt _ (by omega)) hm) w ho (by kernel_rfl) (by kernel_rfl))) (by rw [decide_eq_true rfl] <;> rfl)
  · exact D2.gv_val (fun _ _ _ h => h) (fun g w => by kernel_rfl)
  · exact D2.gv_val (fun _ _ _ h => h) (fun g w => by kernel_rfl)
  · exact D2.gv_load 24 (.tmp 7) 0 (fun g => b4) (Value.cells (uv ((X + big * Y) % m))) 24 (0, 0) (fun _ _ _ h => h) (fun g => by kernel_rfl) (fun g => by kernel_rfl) (fun L g hN => (by kernel_rfl)) (by kernel_rfl)
  · exact D2.gv_load 24 (.tmp 5) 1 (fun g => b3) (Value.cells (uv m)) 24 (0, 0) (fun _ _ _ h => h) (fun g => by kernel_rfl) (fun g => by kernel_rfl) (fun L g hN => (by kernel_rfl)) (by kernel_rfl)
  · exact D2.gv_call 12 #[uv ((X + big * Y) % m), uv m] (fun _ _ _ h => h) (by have h := cmp_fn ((X + big * Y) % m) m (Nat.lt_trans (Nat.mod_lt _ (by omega)) (by omega)) hm; rw [cm_lt (Nat.mod_lt _ (by omega))] at h; exact h) (fun g w => by kernel_rfl)
  · exact D2.gv_val (fun _ _ _ h => h) (fun g w => by kernel_rfl)
  · exact D2.gv_val (fun _ _ _ h => h) (fun g w => by kernel_rfl)
  · exact D2.gv_val (fun _ _ _ h => h) (fun g w => by kernel_rfl)
  intro L0 G8 w8 hall HL; clear H7
  have H8 : St w.heap.size w w8 [(b4, Obj.cells (Value.cells (uv ((X + big * Y) % m))) 24 (0, 0)), (b3, Obj.cells (Value.cells (uv m)) 24 (0, 0)), (b2, Obj.cells (Value.cells (uv Y)) 24 (0, 0)), (b1, Obj.cells (Value.cells (uv X)) 24 (0, 0)), ((G7 7).b, Obj.cells ((G7 7).cur) 3 (0, 0)), ((G7 2).b, Obj.cells ((G7 2).cur) 3 (0, 0)), ((G7 5).b, Obj.cells ((G7 5).cur) 3 (0, 0)), ((G8 9).b, Obj.cells ((G8 9).cur) 3 (0, 0)), ((G8 10).b, Obj.cells ((G8 10).cur) 3 (0, 0))] := by have e9 := hall 9 (Nat.le_of_ble_eq_true (by kernel_rfl)); have e10 := hall 10 (Nat.le_of_ble_eq_true (by kernel_rfl)); have hS := D2.StE.st HL.1; simp only [e9, e10, cond_true, D2.pres] at hS; exact hS
  have hf9_8 : ((G8 9).n = List.length ((G8 9).l) ∧ Rw 1 (G8 9).cur (G8 9).cap (G8 9).n (cellsD ((G8 9).l)) ∧ Ok ((G8 9).l) ∧ ((G8 9).l = dgs m 16 ∧ vl ((G8 9).l) = m ∧ List.length ((G8 9).l) = 16)) := HL.2.1 (hall 9 (Nat.le_of_ble_eq_true (by kernel_rfl)))
  have hf10_8 : ((G8 10).n = List.length ((G8 10).l) ∧ Rw 1 (G8 10).cur (G8 10).cap (G8 10).n (cellsD ((G8 10).l)) ∧ Ok ((G8 10).l) ∧ (vl ((G8 10).l) = vl (dgs X 16 ++ dgs Y 16) % vl ((G8 9).l) ∧ 1 ≤ List.length ((G8 10).l) ∧ List.length ((G8 10).l) ≤ List.length ((G8 9).l))) := HL.2.2.1 (hall 10 (Nat.le_of_ble_eq_true (by kernel_rfl)))
  clear HL hall
  refine g_ret (by kernel_rfl) ?_
  show ∃ vs, Res _ _ _ _ vs ∧ _
  refine ⟨[.bool true], (.tmp (.bool true) (by kernel_rfl) .nil), ?_, H8.below⟩
  rfl

theorem lefts_walk (a : Nat) (ha : a < big) (b : Nat) (hb : b < big) (m : Nat) (hm : m < big) (w : World) : Calls Try.prog 3 #[uv a, uv b, uv m] w fun e w' => e = .returned (.bool true) ∧ Below w.heap.size w w' := by
  by_cases h0 : m = 0
  · subst h0; exact lefts0_fn a b ha hb w
  · exact lefts_fn a b m ha hb hm h0 w
end Go.Proofs.Ythomanpefekaaaa
