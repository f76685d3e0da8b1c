/-
  The law FieldReckons, walked.
-/
import Derived.Test.YthomanpefekaaaaNum
import Derived.Test.YthomanpefekaaaaUlib
import Derived.Test.YthomanpefekaaaaRefM
import Derived.Test.YthomanpefekaaaaRefF
import Derived.Test.YthomanpefekaaaaField2
namespace Go.Proofs.Ythomanpefekaaaa
open Go Go.RowKit
set_option linter.unusedVariables false
set_option maxRecDepth 100000 in
theorem reckons0_fn (A B : Nat) (hA : A < big) (hB : B < big) : Fn Try.prog 6 #[uv A, uv B, .int .i64 0] (.bool true) := by
  have hp : PR < big ∧ big < 2 * PR := pr_ok
  have hq : NR < big ∧ big < 2 * NR := nr_ok
  have hbig : 2 < big := by unfold big; omega
  refine Fn.intro (c := codeOf Try.f6) [.tmp 6] 180 Try.func6 (by kernel_rfl) (by kernel_rfl) (by kernel_rfl) fun w => ?_
  have H0 := St.start w
  refine g_sreg [0, 1, 2] (by kernel_rfl) (by kernel_rfl) ?_
  refine s_box H0 (some 3) 24 (.tmp 0) (uv A) (by kernel_rfl) (by kernel_rfl) (by kernel_rfl) ?_
  intro b1 w1 H1; clear H0
  refine s_box H1 (some 4) 24 (.tmp 1) (uv B) (by kernel_rfl) (by kernel_rfl) (by kernel_rfl) ?_
  intro b2 w2 H2; clear H1
  refine s_val (some 6) (.bool false) (fun w => by kernel_rfl) (by kernel_rfl) ?_
  refine s_nil ?_
  refine g_sreg [0, 1, 2, 3, 4, 5, 6, 7] (by kernel_rfl) (by kernel_rfl) ?_
  refine s_val (some 21) (.int .i64 0) (fun w => by kernel_rfl) (by kernel_rfl) ?_
  refine s_call H2 (some 22) 23 #[.int .i64 0] (.tuple #[uv PR, .int .i64 0]) prime0_fn (fun w => by kernel_rfl) (by kernel_rfl) ?_
  intro w3 H3; clear H2
  refine s_val (some 20) (.tuple #[uv PR, .int .i64 0]) (fun w => by kernel_rfl) (by kernel_rfl) ?_
  refine s_val (some 23) (uv PR) (fun w => by kernel_rfl) (by kernel_rfl) ?_
  refine s_val (some 24) (.int .i64 0) (fun w => by kernel_rfl) (by kernel_rfl) ?_
  refine s_alloc H3 (some 7) 24 (.agg #[.int .u64 0, .int .u64 0, .int .u64 0, .int .u64 0]) (by kernel_rfl) (by kernel_rfl) (by kernel_rfl) ?_
  intro b3 w4 H4; clear H3
  refine s_store H4 0 [(b3, Obj.cells (Value.cells (uv PR)) 24 (0, 0)), (b2, Obj.cells (Value.cells (uv B)) 24 (0, 0)), (b1, Obj.cells (Value.cells (uv A)) 24 (0, 0))] 24 (.tmp 7) (.tmp 23) b3 (0) #[.int .u64 0, .int .u64 0, .int .u64 0, .int .u64 0] (Value.cells (uv PR)) 24 (uv PR) (by kernel_rfl) (by kernel_rfl) (by kernel_rfl) (by kernel_rfl) (by kernel_rfl) (by kernel_rfl) (of_decide_eq_true (by kernel_rfl)) (by kernel_rfl) (by kernel_rfl) ?_
  intro w5 H5; clear H4
  refine s_val (some 8) (.int .i64 0) (fun w => by kernel_rfl) (by kernel_rfl) ?_
  refine s_nil ?_
  refine g_sreg [0, 1, 2, 3, 4, 5, 6, 7, 8, 9] (by kernel_rfl) (by kernel_rfl) ?_
  refine s_load H5 (some 26) 24 (.tmp 3) 2 b1 (Value.cells (uv A)) 24 (0, 0) (by kernel_rfl) (by kernel_rfl) (by kernel_rfl) (by kernel_rfl) (by kernel_rfl) ?_
  refine s_load H5 (some 27) 24 (.tmp 4) 1 b2 (Value.cells (uv B)) 24 (0, 0) (by kernel_rfl) (by kernel_rfl) (by kernel_rfl) (by kernel_rfl) (by kernel_rfl) ?_
  refine s_val (some 28) (.int .i64 0) (fun w => by kernel_rfl) (by kernel_rfl) ?_
  refine s_call H5 (some 29) 24 #[uv A, uv B, .int .i64 0] (.tuple #[uv (fAdd A B PR), .int .i64 0]) (fadd0_fn A B hA hB) (fun w => by kernel_rfl) (by kernel_rfl) ?_
  intro w6 H6; clear H5
  refine s_val (some 25) (.tuple #[uv (fAdd A B PR), .int .i64 0]) (fun w => by kernel_rfl) (by kernel_rfl) ?_
  refine s_val (some 30) (uv (fAdd A B PR)) (fun w => by kernel_rfl) (by kernel_rfl) ?_
  refine s_val (some 31) (.int .i64 0) (fun w => by kernel_rfl) (by kernel_rfl) ?_
  refine s_alloc H6 (some 9) 24 (.agg #[.int .u64 0, .int .u64 0, .int .u64 0, .int .u64 0]) (by kernel_rfl) (by kernel_rfl) (by kernel_rfl) ?_
  intro b4 w7 H7; clear H6
  refine s_store H7 0 [(b4, Obj.cells (Value.cells (uv (fAdd A B PR))) 24 (0, 0)), (b3, Obj.cells (Value.cells (uv PR)) 24 (0, 0)), (b2, Obj.cells (Value.cells (uv B)) 24 (0, 0)), (b1, Obj.cells (Value.cells (uv A)) 24 (0, 0))] 24 (.tmp 9) (.tmp 30) b4 (0) #[.int .u64 0, .int .u64 0, .int .u64 0, .int .u64 0] (Value.cells (uv (fAdd A B PR))) 24 (uv (fAdd A B PR)) (by kernel_rfl) (by kernel_rfl) (by kernel_rfl) (by kernel_rfl) (by kernel_rfl) (by kernel_rfl) (of_decide_eq_true (by kernel_rfl)) (by kernel_rfl) (by kernel_rfl) ?_
  intro w8 H8; clear H7
  refine s_val (some 10) (.int .i64 0) (fun w => by kernel_rfl) (by kernel_rfl) ?_
  refine s_nil ?_
  refine g_sreg [0, 1, 2, 3, 4, 5, 6, 7, 8, 9] (by kernel_rfl) (by kernel_rfl) ?_
  refine s_load H8 (some 33) 24 (.tmp 3) 3 b1 (Value.cells (uv A)) 24 (0, 0) (by kernel_rfl) (by kernel_rfl) (by kernel_rfl) (by kernel_rfl) (by kernel_rfl) ?_
  refine s_load H8 (some 34) 24 (.tmp 4) 2 b2 (Value.cells (uv B)) 24 (0, 0) (by kernel_rfl) (by kernel_rfl) (by kernel_rfl) (by kernel_rfl) (by kernel_rfl) ?_
  refine s_val (some 35) (.int .i64 0) (fun w => by kernel_rfl) (by kernel_rfl) ?_
  refine s_call H8 (some 36) 25 #[uv A, uv B, .int .i64 0] (.tuple #[uv (fSub A B PR), .int .i64 0]) (fsub0_fn A B hA hB) (fun w => by kernel_rfl) (by kernel_rfl) ?_
  intro w9 H9; clear H8
  refine s_val (some 32) (.tuple #[uv (fSub A B PR), .int .i64 0]) (fun w => by kernel_rfl) (by kernel_rfl) ?_
  refine s_val (some 37) (uv (fSub A B PR)) (fun w => by kernel_rfl) (by kernel_rfl) ?_
  refine s_val (some 38) (.int .i64 0) (fun w => by kernel_rfl) (by kernel_rfl) ?_
  refine s_alloc H9 (some 11) 24 (.agg #[.int .u64 0, .int .u64 0, .int .u64 0, .int .u64 0]) (by kernel_rfl) (by kernel_rfl) (by kernel_rfl) ?_
  intro b5 w10 H10; clear H9
  refine s_store H10 0 [(b5, Obj.cells (Value.cells (uv (fSub A B PR))) 24 (0, 0)), (b4, Obj.cells (Value.cells (uv (fAdd A B PR))) 24 (0, 0)), (b3, Obj.cells (Value.cells (uv PR)) 24 (0, 0)), (b2, Obj.cells (Value.cells (uv B)) 24 (0, 0)), (b1, Obj.cells (Value.cells (uv A)) 24 (0, 0))] 24 (.tmp 11) (.tmp 37) b5 (0) #[.int .u64 0, .int .u64 0, .int .u64 0, .int .u64 0] (Value.cells (uv (fSub A B PR))) 24 (uv (fSub A B PR)) (by kernel_rfl) (by kernel_rfl) (by kernel_rfl) (by kernel_rfl) (by kernel_rfl) (by kernel_rfl) (of_decide_eq_true (by kernel_rfl)) (by kernel_rfl) (by kernel_rfl) ?_
  intro w11 H11; clear H10
  refine s_val (some 12) (.int .i64 0) (fun w => by kernel_rfl) (by kernel_rfl) ?_
  refine s_nil ?_
  refine g_sreg [0, 1, 2, 3, 4, 5, 6, 7, 8, 9] (by kernel_rfl) (by kernel_rfl) ?_
  refine s_load H11 (some 40) 24 (.tmp 3) 4 b1 (Value.cells (uv A)) 24 (0, 0) (by kernel_rfl) (by kernel_rfl) (by kernel_rfl) (by kernel_rfl) (by kernel_rfl) ?_
  refine s_load H11 (some 41) 24 (.tmp 4) 3 b2 (Value.cells (uv B)) 24 (0, 0) (by kernel_rfl) (by kernel_rfl) (by kernel_rfl) (by kernel_rfl) (by kernel_rfl) ?_
  refine s_val (some 42) (.int .i64 0) (fun w => by kernel_rfl) (by kernel_rfl) ?_
  refine s_call H11 (some 43) 26 #[uv A, uv B, .int .i64 0] (.tuple #[uv (fMul A B PR), .int .i64 0]) (fmul0_fn A B hA hB) (fun w => by kernel_rfl) (by kernel_rfl) ?_
  intro w12 H12; clear H11
  refine s_val (some 39) (.tuple #[uv (fMul A B PR), .int .i64 0]) (fun w => by kernel_rfl) (by kernel_rfl) ?_
  refine s_val (some 44) (uv (fMul A B PR)) (fun w => by kernel_rfl) (by kernel_rfl) ?_
  refine s_val (some 45) (.int .i64 0) (fun w => by kernel_rfl) (by kernel_rfl) ?_
  refine s_alloc H12 (some 13) 24 (.agg #[.int .u64 0, .int .u64 0, .int .u64 0, .int .u64 0]) (by kernel_rfl) (by kernel_rfl) (by kernel_rfl) ?_
  intro b6 w13 H13; clear H12
  refine s_store H13 0 [(b6, Obj.cells (Value.cells (uv (fMul A B PR))) 24 (0, 0)), (b5, Obj.cells (Value.cells (uv (fSub A B PR))) 24 (0, 0)), (b4, Obj.cells (Value.cells (uv (fAdd A B PR))) 24 (0, 0)), (b3, Obj.cells (Value.cells (uv PR)) 24 (0, 0)), (b2, Obj.cells (Value.cells (uv B)) 24 (0, 0)), (b1, Obj.cells (Value.cells (uv A)) 24 (0, 0))] 24 (.tmp 13) (.tmp 44) b6 (0) #[.int .u64 0, .int .u64 0, .int .u64 0, .int .u64 0] (Value.cells (uv (fMul A B PR))) 24 (uv (fMul A B PR)) (by kernel_rfl) (by kernel_rfl) (by kernel_rfl) (by kernel_rfl) (by kernel_rfl) (by kernel_rfl) (of_decide_eq_true (by kernel_rfl)) (by kernel_rfl) (by kernel_rfl) ?_
  intro w14 H14; clear H13
  refine s_val (some 14) (.int .i64 0) (fun w => by kernel_rfl) (by kernel_rfl) ?_
  refine s_nil ?_
  refine g_sreg [0, 1, 2, 3, 4, 5, 6, 7, 8, 9] (by kernel_rfl) (by kernel_rfl) ?_
  refine s_load H14 (some 47) 24 (.tmp 3) 5 b1 (Value.cells (uv A)) 24 (0, 0) (by kernel_rfl) (by kernel_rfl) (by kernel_rfl) (by kernel_rfl) (by kernel_rfl) ?_
  refine s_load H14 (some 48) 24 (.tmp 4) 4 b2 (Value.cells (uv B)) 24 (0, 0) (by kernel_rfl) (by kernel_rfl) (by kernel_rfl) (by kernel_rfl) (by kernel_rfl) ?_
  refine s_val (some 49) (.int .i64 0) (fun w => by kernel_rfl) (by kernel_rfl) ?_
  refine s_call H14 (some 50) 27 #[uv A, uv B, .int .i64 0] (.tuple #[uv (rs A B PR), .int .i64 0]) (reduce0_fn A B hA hB) (fun w => by kernel_rfl) (by kernel_rfl) ?_
  intro w15 H15; clear H14
  refine s_val (some 46) (.tuple #[uv (rs A B PR), .int .i64 0]) (fun w => by kernel_rfl) (by kernel_rfl) ?_
  refine s_val (some 51) (uv (rs A B PR)) (fun w => by kernel_rfl) (by kernel_rfl) ?_
  refine s_val (some 52) (.int .i64 0) (fun w => by kernel_rfl) (by kernel_rfl) ?_
  refine s_alloc H15 (some 15) 24 (.agg #[.int .u64 0, .int .u64 0, .int .u64 0, .int .u64 0]) (by kernel_rfl) (by kernel_rfl) (by kernel_rfl) ?_
  intro b7 w16 H16; clear H15
  refine s_store H16 0 [(b7, Obj.cells (Value.cells (uv (rs A B PR))) 24 (0, 0)), (b6, Obj.cells (Value.cells (uv (fMul A B PR))) 24 (0, 0)), (b5, Obj.cells (Value.cells (uv (fSub A B PR))) 24 (0, 0)), (b4, Obj.cells (Value.cells (uv (fAdd A B PR))) 24 (0, 0)), (b3, Obj.cells (Value.cells (uv PR)) 24 (0, 0)), (b2, Obj.cells (Value.cells (uv B)) 24 (0, 0)), (b1, Obj.cells (Value.cells (uv A)) 24 (0, 0))] 24 (.tmp 15) (.tmp 51) b7 (0) #[.int .u64 0, .int .u64 0, .int .u64 0, .int .u64 0] (Value.cells (uv (rs A B PR))) 24 (uv (rs A B PR)) (by kernel_rfl) (by kernel_rfl) (by kernel_rfl) (by kernel_rfl) (by kernel_rfl) (by kernel_rfl) (of_decide_eq_true (by kernel_rfl)) (by kernel_rfl) (by kernel_rfl) ?_
  intro w17 H17; clear H16
  refine s_val (some 16) (.int .i64 0) (fun w => by kernel_rfl) (by kernel_rfl) ?_
  refine s_nil ?_
  refine g_seq (by kernel_rfl) ?_
  refine g_sreg [0, 1, 2, 3, 4, 5] (by kernel_rfl) (by kernel_rfl) ?_
  refine s_val (some 53) (.int .i64 0) (fun w => by kernel_rfl) (by kernel_rfl) ?_
  refine s_val (some 54) (.bool false) (fun w => by kernel_rfl) (by kernel_rfl) ?_
  refine s_val (some 55) (.bool false) (fun w => by kernel_rfl) (by kernel_rfl) ?_
  refine s_not (some 56) (by kernel_rfl) (by kernel_rfl) ?_
  refine s_not (some 57) (by kernel_rfl) (by kernel_rfl) ?_
  refine s_val (some 58) (.bool false) (fun w => by kernel_rfl) (by kernel_rfl) ?_
  refine s_nil ?_
  refine g_cond_f (by kernel_rfl) (by kernel_rfl) ?_
  refine g_skip (by kernel_rfl) ?_
  show WP _ _ _ _ _ _
  refine D2.g_sdraw [0, 1, 2, 3, 4, 5, 6, 7] [((some 110), fun b => .slice (some ⟨b.b, 0, none⟩) 0 0), ((some 111), fun _ => uv A), ((some 112), fun x => .slice (some ⟨x.b, 0, none⟩) x.n x.cap), ((some 113), fun y => .slice (some ⟨y.b, 0, none⟩) y.n y.cap), ((some 114), fun _ => uv B), ((some 115), fun x => .slice (some ⟨x.b, 0, none⟩) x.n x.cap), ((some 116), fun y => .slice (some ⟨y.b, 0, none⟩) y.n y.cap), ((some 18), fun y => .slice (some ⟨y.b, 0, none⟩) (y.n) (y.cap))] (D2.Pre w.heap.size w (fun L g => [(true, (b7, Obj.cells (Value.cells (uv (rs A B PR))) 24 (0, 0))), (true, (b6, Obj.cells (Value.cells (uv (fMul A B PR))) 24 (0, 0))), (true, (b5, Obj.cells (Value.cells (uv (fSub A B PR))) 24 (0, 0))), (true, (b4, Obj.cells (Value.cells (uv (fAdd A B PR))) 24 (0, 0))), (true, (b3, Obj.cells (Value.cells (uv PR)) 24 (0, 0))), (true, (b2, Obj.cells (Value.cells (uv B)) 24 (0, 0))), (true, (b1, Obj.cells (Value.cells (uv A)) 24 (0, 0))), (L 0, (bif L 6 then ((g 6).b, Obj.cells ((g 6).cur) 3 (0, 0)) else (bif L 3 then ((g 3).b, Obj.cells ((g 3).cur) 3 (0, 0)) else ((g 0).b, Obj.cells #[] 3 (0, 0))))), (L 2, ((g 2).b, Obj.cells ((g 2).cur) 3 (0, 0))), (L 5, ((g 5).b, Obj.cells ((g 5).cur) 3 (0, 0)))]) (fun L g => (L 2 = true → ((g 2).n = List.length ((g 2).l) ∧ Rw 1 (g 2).cur (g 2).cap (g 2).n (cellsD ((g 2).l)) ∧ Ok ((g 2).l) ∧ ((g 2).l = dgs A 16 ∧ vl ((g 2).l) = A ∧ List.length ((g 2).l) = 16))) ∧ (L 3 = true → ((g 3).n = 16 ∧ Rw 1 (g 3).cur (g 3).cap (g 3).n (cellsD (dgs A 16)))) ∧ (L 5 = true → ((g 5).n = List.length ((g 5).l) ∧ Rw 1 (g 5).cur (g 5).cap (g 5).n (cellsD ((g 5).l)) ∧ Ok ((g 5).l) ∧ ((g 5).l = dgs B 16 ∧ vl ((g 5).l) = B ∧ List.length ((g 5).l) = 16))) ∧ (L 6 = true → ((g 6).n = 32 ∧ Rw 1 (g 6).cur (g 6).cap (g 6).n (cellsD (dgs A 16 ++ dgs B 16)))) ∧ (L 7 = true → g 7 = g 6) ∧ True)) (by kernel_rfl) (by kernel_rfl) (by kernel_rfl) (by kernel_rfl) ⟨D2.StE.of H17.drew _ (by kernel_rfl), ⟨(fun h => nomatch h), (fun h => nomatch h), (fun h => nomatch h), (fun h => nomatch h), (fun h => nomatch h), trivial⟩⟩ ⟨?_, ?_, ?_, ?_, ?_, ?_, ?_, ?_, trivial⟩ ?_
  · exact D2.gv_new (fun b => .slice (some ⟨b, 0, none⟩) 0 0) #[] 3 7 (fun g w => by kernel_rfl) (fun L g b hN => (by have hL3 : L 3 = false := (hN.post 3 (by kernel_rfl)); have hL6 : L 6 = false := (hN.2.2.no 3 6 (by kernel_rfl) (hN.post 3 (by kernel_rfl))); exact D2.ent_set (x' := (true, (bif L 6 then (((D2.setN g 0 { b := b }) 6).b, Obj.cells (((D2.setN g 0 { b := b }) 6).cur) 3 (0, 0)) else (bif L 3 then (((D2.setN g 0 { b := b }) 3).b, Obj.cells (((D2.setN g 0 { b := b }) 3).cur) 3 (0, 0)) else (((D2.setN g 0 { b := b }) 0).b, Obj.cells #[] 3 (0, 0)))))) (by kernel_rfl) (by simp only [hL3, hL6, cond_true, cond_false] <;> rfl))) (fun L g b hN hF => hF)
  · exact D2.gv_load 24 (.tmp 3) 6 (fun g => b1) (Value.cells (uv A)) 24 (0, 0) (fun _ _ _ h => h) (fun g => by kernel_rfl) (fun g => by kernel_rfl) (fun L g hN => (by kernel_rfl)) (by kernel_rfl)
  · exact D2.gv_callS 9 (fun g => #[uv A]) (fun g => fun _ => True) 3 1 (fun g curZ capZ nZ lZ => (nZ = List.length lZ ∧ Rw 1 curZ capZ nZ (cellsD lZ) ∧ Ok lZ ∧ (lZ = dgs A 16 ∧ vl lZ = A ∧ List.length lZ = 16))) 8 (fun L g hN hF => by exact of_fn A hA) (fun L g w hN hE hF => by exact trivial) (fun g w => by kernel_rfl) (fun L g x hN => (by kernel_rfl)) (fun L g x hN hF hS => ⟨fun _ => hS, hF.2.1, hF.2.2.1, hF.2.2.2.1, hF.2.2.2.2.1, trivial⟩)
  · exact D2.gv_append 30 3 1 8 (.tmp 110) (.tmp 112) 7 8 (fun g => (g 0).b) (fun g => (g 2).b) (fun g => 0) (fun g => (g 2).n) (fun g => 0) (fun g => (g 2).cap) (fun g => #[]) (fun g => (g 2).cur) 3 (0, 0) (fun g => []) (fun g => cellsD ((g 2).l)) (fun g => by kernel_rfl) (by kernel_rfl) (fun g => by kernel_rfl) (fun L g hN => (by have hL0 : L 0 = true := (hN.bef 0 (by kernel_rfl)); have hL3 : L 3 = false := hN.1; have hL6 : L 6 = false := (hN.post 6 (by kernel_rfl)); exact D2.ent_get' (p := L 0) (e := (bif L 6 then ((g 6).b, Obj.cells ((g 6).cur) 3 (0, 0)) else (bif L 3 then ((g 3).b, Obj.cells ((g 3).cur) 3 (0, 0)) else ((g 0).b, Obj.cells #[] 3 (0, 0))))) (by kernel_rfl) (by exact hL0) (by simp only [hL0, hL3, hL6, cond_true, cond_false] <;> rfl))) (fun L g hN hF => by exact (Rw.lit #[] 0 (by rfl) (by unfold maxLen; omega))) (fun g => by kernel_rfl) (fun L g hN => (by have hL2 : L 2 = true := (hN.bef 2 (by kernel_rfl)); exact D2.ent_get' (p := L 2) (e := ((g 2).b, Obj.cells ((g 2).cur) 3 (0, 0))) (by kernel_rfl) (by exact hL2) (by simp only [hL2, cond_true, cond_false] <;> rfl))) (fun L g hN hF => by have hf2 := (hF.1 (hN.bef 2 (by kernel_rfl))); exact ⟨hf2.2.1.take, hf2.2.1.len, (cellsD_one _), (by omega), (by unfold maxLen; omega)⟩) (fun L g y hN => (by have hL0 : L 0 = true := (hN.bef 0 (by kernel_rfl)); have hL6 : L 6 = false := (hN.post 6 (by kernel_rfl)); exact D2.ent_set (x' := (L 0, (bif L 6 then (((D2.setN g 3 y) 6).b, Obj.cells (((D2.setN g 3 y) 6).cur) 3 (0, 0)) else (((D2.setN g 3 y) 3).b, Obj.cells (((D2.setN g 3 y) 3).cur) 3 (0, 0))))) (by kernel_rfl) (by simp only [hL0, hL6, cond_true, cond_false] <;> rfl))) (fun L g y hN hF hyn hyr => by have hf2 := (hF.1 (hN.bef 2 (by kernel_rfl))); have hnew := (show (y.n = 16 ∧ Rw 1 y.cur y.cap y.n (cellsD (dgs A 16))) from by obtain ⟨e1, e2, e3, e4, e5, e6⟩ := hf2; refine ⟨by omega, ?_⟩; rw [hyn, ← e4]; exact hyr); exact ⟨hF.1, fun _ => hnew, hF.2.2.1, hF.2.2.2.1, hF.2.2.2.2.1, trivial⟩)
  · exact D2.gv_load 24 (.tmp 4) 5 (fun g => b2) (Value.cells (uv B)) 24 (0, 0) (fun _ _ _ h => h) (fun g => by kernel_rfl) (fun g => by kernel_rfl) (fun L g hN => (by kernel_rfl)) (by kernel_rfl)
  · exact D2.gv_callS 9 (fun g => #[uv B]) (fun g => fun _ => True) 3 1 (fun g curZ capZ nZ lZ => (nZ = List.length lZ ∧ Rw 1 curZ capZ nZ (cellsD lZ) ∧ Ok lZ ∧ (lZ = dgs B 16 ∧ vl lZ = B ∧ List.length lZ = 16))) 9 (fun L g hN hF => by exact of_fn B hB) (fun L g w hN hE hF => by exact trivial) (fun g w => by kernel_rfl) (fun L g x hN => (by kernel_rfl)) (fun L g x hN hF hS => ⟨hF.1, hF.2.1, fun _ => hS, hF.2.2.2.1, hF.2.2.2.2.1, trivial⟩)
  · exact D2.gv_append 30 3 1 8 (.tmp 113) (.tmp 115) 7 9 (fun g => (g 3).b) (fun g => (g 5).b) (fun g => (g 3).n) (fun g => (g 5).n) (fun g => (g 3).cap) (fun g => (g 5).cap) (fun g => (g 3).cur) (fun g => (g 5).cur) 3 (0, 0) (fun g => cellsD (dgs A 16)) (fun g => cellsD ((g 5).l)) (fun g => by kernel_rfl) (by kernel_rfl) (fun g => by kernel_rfl) (fun L g hN => (by have hL0 : L 0 = true := (hN.2.2.yes 0 3 (by kernel_rfl) (hN.bef 3 (by kernel_rfl))); have hL3 : L 3 = true := (hN.bef 3 (by kernel_rfl)); have hL6 : L 6 = false := hN.1; exact D2.ent_get' (p := L 0) (e := (bif L 6 then ((g 6).b, Obj.cells ((g 6).cur) 3 (0, 0)) else (bif L 3 then ((g 3).b, Obj.cells ((g 3).cur) 3 (0, 0)) else ((g 0).b, Obj.cells #[] 3 (0, 0))))) (by kernel_rfl) (by exact hL0) (by simp only [hL0, hL3, hL6, cond_true, cond_false] <;> rfl))) (fun L g hN hF => by have hf3 := (hF.2.1 (hN.bef 3 (by kernel_rfl))); exact hf3.2) (fun g => by kernel_rfl) (fun L g hN => (by have hL5 : L 5 = true := (hN.bef 5 (by kernel_rfl)); exact D2.ent_get' (p := L 5) (e := ((g 5).b, Obj.cells ((g 5).cur) 3 (0, 0))) (by kernel_rfl) (by exact hL5) (by simp only [hL5, cond_true, cond_false] <;> rfl))) (fun L g hN hF => by have hf3 := (hF.2.1 (hN.bef 3 (by kernel_rfl))); have hf5 := (hF.2.2.1 (hN.bef 5 (by kernel_rfl))); exact ⟨hf5.2.1.take, hf5.2.1.len, (cellsD_one _), (by omega), (by unfold maxLen; omega)⟩) (fun L g y hN => (by have hL0 : L 0 = true := (hN.2.2.yes 0 3 (by kernel_rfl) (hN.bef 3 (by kernel_rfl))); have hL3 : L 3 = true := (hN.bef 3 (by kernel_rfl)); exact D2.ent_set (x' := (L 0, (((D2.setN g 6 y) 6).b, Obj.cells (((D2.setN g 6 y) 6).cur) 3 (0, 0)))) (by kernel_rfl) (by simp only [hL0, hL3, cond_true, cond_false] <;> rfl))) (fun L g y hN hF hyn hyr => by have hf3 := (hF.2.1 (hN.bef 3 (by kernel_rfl))); have hf5 := (hF.2.2.1 (hN.bef 5 (by kernel_rfl))); have hnew := (show (y.n = 32 ∧ Rw 1 y.cur y.cap y.n (cellsD (dgs A 16 ++ dgs B 16))) from by obtain ⟨e1, e2, e3, e4, e5, e6⟩ := hf5; refine ⟨by omega, ?_⟩; rw [cellsD_append]; rw [hyn, ← e4]; exact hyr); exact ⟨hF.1, hF.2.1, hF.2.2.1, fun _ => hnew, (fun hx => nomatch (Eq.trans (Eq.symm (show L 7 = true from hx)) (hN.post 7 (by kernel_rfl)))), trivial⟩)
  · exact D2.gv_valG (fun g => g 6) (fun L g w hN hp => ⟨hp.1, hp.2.1, hp.2.2.1, hp.2.2.2.1, hp.2.2.2.2.1, fun _ => rfl, trivial⟩) (fun g w => by kernel_rfl)
  intro L0 G18 w18 hall HL; clear H17
  have H18 : St w.heap.size w w18 [(b7, Obj.cells (Value.cells (uv (rs A B PR))) 24 (0, 0)), (b6, Obj.cells (Value.cells (uv (fMul A B PR))) 24 (0, 0)), (b5, Obj.cells (Value.cells (uv (fSub A B PR))) 24 (0, 0)), (b4, Obj.cells (Value.cells (uv (fAdd A B PR))) 24 (0, 0)), (b3, Obj.cells (Value.cells (uv PR)) 24 (0, 0)), (b2, Obj.cells (Value.cells (uv B)) 24 (0, 0)), (b1, Obj.cells (Value.cells (uv A)) 24 (0, 0)), ((G18 6).b, Obj.cells ((G18 6).cur) 3 (0, 0)), ((G18 2).b, Obj.cells ((G18 2).cur) 3 (0, 0)), ((G18 5).b, Obj.cells ((G18 5).cur) 3 (0, 0))] := by have e0 := hall 0 (Nat.le_of_ble_eq_true (by kernel_rfl)); have e2 := hall 2 (Nat.le_of_ble_eq_true (by kernel_rfl)); have e3 := hall 3 (Nat.le_of_ble_eq_true (by kernel_rfl)); have e5 := hall 5 (Nat.le_of_ble_eq_true (by kernel_rfl)); have e6 := hall 6 (Nat.le_of_ble_eq_true (by kernel_rfl)); have e7 := hall 7 (Nat.le_of_ble_eq_true (by kernel_rfl)); have hS := D2.StE.st HL.1; simp only [e0, e2, e3, e5, e6, e7, cond_true, D2.pres] at hS; exact hS
  have hf2_18 : ((G18 2).n = List.length ((G18 2).l) ∧ Rw 1 (G18 2).cur (G18 2).cap (G18 2).n (cellsD ((G18 2).l)) ∧ Ok ((G18 2).l) ∧ ((G18 2).l = dgs A 16 ∧ vl ((G18 2).l) = A ∧ List.length ((G18 2).l) = 16)) := HL.2.1 (hall 2 (Nat.le_of_ble_eq_true (by kernel_rfl)))
  have hf3_18 : ((G18 3).n = 16 ∧ Rw 1 (G18 3).cur (G18 3).cap (G18 3).n (cellsD (dgs A 16))) := HL.2.2.1 (hall 3 (Nat.le_of_ble_eq_true (by kernel_rfl)))
  have hf5_18 : ((G18 5).n = List.length ((G18 5).l) ∧ Rw 1 (G18 5).cur (G18 5).cap (G18 5).n (cellsD ((G18 5).l)) ∧ Ok ((G18 5).l) ∧ ((G18 5).l = dgs B 16 ∧ vl ((G18 5).l) = B ∧ List.length ((G18 5).l) = 16)) := HL.2.2.2.1 (hall 5 (Nat.le_of_ble_eq_true (by kernel_rfl)))
  have hf6_18 : ((G18 6).n = 32 ∧ Rw 1 (G18 6).cur (G18 6).cap (G18 6).n (cellsD (dgs A 16 ++ dgs B 16))) := HL.2.2.2.2.1 (hall 6 (Nat.le_of_ble_eq_true (by kernel_rfl)))
  have hf7_18 : G18 7 = G18 6 := HL.2.2.2.2.2.1 (hall 7 (Nat.le_of_ble_eq_true (by kernel_rfl)))
  clear HL hall
  rw [← hf7_18] at H18 hf6_18
  refine g_sreg [0, 1, 2, 3, 4, 5, 6, 7, 8, 9, 10, 11, 12, 13, 14, 15, 16, 17, 18, 19, 20, 21, 22] (by kernel_rfl) (by kernel_rfl) ?_
  refine s_val (some 117) (.int .i64 0) (fun w => by kernel_rfl) (by kernel_rfl) ?_
  refine s_val (some 118) (.bool true) (fun w => by kernel_rfl) (by kernel_rfl) ?_
  refine s_val (some 119) (.bool true) (fun w => by kernel_rfl) (by kernel_rfl) ?_
  refine s_val (some 120) (.int .i64 0) (fun w => by kernel_rfl) (by kernel_rfl) ?_
  refine s_val (some 121) (.int .i64 0) (fun w => by kernel_rfl) (by kernel_rfl) ?_
  refine s_val (some 122) (.bool true) (fun w => by kernel_rfl) (by kernel_rfl) ?_
  refine s_val (some 123) (.bool true) (fun w => by kernel_rfl) (by kernel_rfl) ?_
  refine s_val (some 124) (.bool true) (fun w => by kernel_rfl) (by kernel_rfl) ?_
  refine s_val (some 125) (.int .i64 0) (fun w => by kernel_rfl) (by kernel_rfl) ?_
  refine s_val (some 126) (.int .i64 0) (fun w => by kernel_rfl) (by kernel_rfl) ?_
  refine s_val (some 127) (.bool true) (fun w => by kernel_rfl) (by kernel_rfl) ?_
  refine s_val (some 128) (.bool true) (fun w => by kernel_rfl) (by kernel_rfl) ?_
  refine s_val (some 129) (.bool true) (fun w => by kernel_rfl) (by kernel_rfl) ?_
  refine s_val (some 130) (.int .i64 0) (fun w => by kernel_rfl) (by kernel_rfl) ?_
  refine s_val (some 131) (.int .i64 0) (fun w => by kernel_rfl) (by kernel_rfl) ?_
  refine s_val (some 132) (.bool true) (fun w => by kernel_rfl) (by kernel_rfl) ?_
  refine s_val (some 133) (.bool true) (fun w => by kernel_rfl) (by kernel_rfl) ?_
  refine s_val (some 134) (.bool true) (fun w => by kernel_rfl) (by kernel_rfl) ?_
  refine s_val (some 135) (.int .i64 0) (fun w => by kernel_rfl) (by kernel_rfl) ?_
  refine s_val (some 136) (.int .i64 0) (fun w => by kernel_rfl) (by kernel_rfl) ?_
  refine s_val (some 137) (.bool true) (fun w => by kernel_rfl) (by kernel_rfl) ?_
  refine s_val (some 138) (.bool true) (fun w => by kernel_rfl) (by kernel_rfl) ?_
  refine s_val (some 19) (.bool true) (fun w => by kernel_rfl) (by kernel_rfl) ?_
  refine s_nil ?_
  refine D2.g_sdraw [0, 1, 2, 3, 4, 5, 6, 7, 8, 9, 10, 11, 12, 13, 14, 15, 16, 17, 18, 19, 20, 21, 22, 23, 24, 25, 26, 27, 28, 29, 30, 31, 32, 33, 34, 35, 36, 37, 38, 39, 40, 41] [((some 139), fun _ => .bool true), ((some 140), fun _ => .bool true), ((some 141), fun _ => .bool true), ((some 142), fun _ => .bool true), ((some 143), fun _ => .bool true), ((some 144), fun _ => uv PR), ((some 145), fun _ => .int .i64 0), ((some 146), fun _ => uv PR), ((some 147), fun _ => .bool true), ((some 148), fun _ => .bool true), ((some 149), fun _ => .bool true), ((some 150), fun _ => uv (fAdd A B PR)), ((some 151), fun _ => uv A), ((some 152), fun _ => uv B), ((some 153), fun _ => .int .i64 0), ((some 154), fun _ => uv (fAdd A B PR)), ((some 155), fun _ => .bool true), ((some 156), fun _ => .bool true), ((some 157), fun _ => .bool true), ((some 158), fun _ => uv (fSub A B PR)), ((some 159), fun _ => uv A), ((some 160), fun _ => uv B), ((some 161), fun _ => .int .i64 0), ((some 162), fun _ => uv (fSub A B PR)), ((some 163), fun _ => .bool true), ((some 164), fun _ => .bool true), ((some 165), fun _ => .bool true), ((some 166), fun _ => uv (fMul A B PR)), ((some 167), fun _ => uv A), ((some 168), fun _ => uv B), ((some 169), fun _ => .int .i64 0), ((some 170), fun _ => uv (fMul A B PR)), ((some 171), fun _ => .bool true), ((some 172), fun _ => .bool true), ((some 173), fun _ => .bool true), ((some 174), fun _ => uv (rs A B PR)), ((some 175), fun _ => .slice (some ⟨(G18 7).b, 0, none⟩) ((G18 7).n) ((G18 7).cap)), ((some 176), fun _ => .int .i64 0), ((some 177), fun _ => uv (rs A B PR)), ((some 178), fun _ => .bool true), ((some 179), fun _ => .bool true), ((some 6), fun _ => .bool true)] (D2.Pre w.heap.size w (fun L g => [(true, (b7, Obj.cells (Value.cells (uv (rs A B PR))) 24 (0, 0))), (true, (b6, Obj.cells (Value.cells (uv (fMul A B PR))) 24 (0, 0))), (true, (b5, Obj.cells (Value.cells (uv (fSub A B PR))) 24 (0, 0))), (true, (b4, Obj.cells (Value.cells (uv (fAdd A B PR))) 24 (0, 0))), (true, (b3, Obj.cells (Value.cells (uv PR)) 24 (0, 0))), (true, (b2, Obj.cells (Value.cells (uv B)) 24 (0, 0))), (true, (b1, Obj.cells (Value.cells (uv A)) 24 (0, 0))), (true, ((G18 7).b, Obj.cells ((G18 7).cur) 3 (0, 0))), (true, ((G18 2).b, Obj.cells ((G18 2).cur) 3 (0, 0))), (true, ((G18 5).b, Obj.cells ((G18 5).cur) 3 (0, 0)))]) (fun L g => True)) (by kernel_rfl) (by kernel_rfl) (by kernel_rfl) (by kernel_rfl) ⟨D2.StE.of H18.drew _ (by kernel_rfl), trivial⟩ ⟨?_, ?_, ?_, ?_, ?_, ?_, ?_, ?_, ?_, ?_, ?_, ?_, ?_, ?_, ?_, ?_, ?_, ?_, ?_, ?_, ?_, ?_, ?_, ?_, ?_, ?_, ?_, ?_, ?_, ?_, ?_, ?_, ?_, ?_, ?_, ?_, ?_, ?_, ?_, ?_, ?_, ?_, trivial⟩ ?_
  · exact D2.gv_call 28 #[] (fun _ _ _ h => h) alive02_fn (fun g w => by kernel_rfl)
  · exact D2.gv_val (fun _ _ _ h => h) (fun g w => by kernel_rfl)
  · exact D2.gv_val (fun _ _ _ h => h) (fun g w => by kernel_rfl)
  · exact D2.gv_val (fun _ _ _ h => h) (fun g w => by kernel_rfl)
  · exact D2.gv_val (fun _ _ _ h => h) (fun g w => by kernel_rfl)
  · exact D2.gv_load 24 (.tmp 7) 4 (fun g => b3) (Value.cells (uv PR)) 24 (0, 0) (fun _ _ _ h => h) (fun g => by kernel_rfl) (fun g => by kernel_rfl) (fun L g hN => (by kernel_rfl)) (by kernel_rfl)
  · exact D2.gv_val (fun _ _ _ h => h) (fun g w => by kernel_rfl)
  · exact D2.gv_call 29 #[.int .i64 0] (fun _ _ _ h => h) modulus0_fn (fun g w => by kernel_rfl)
  · exact D2.gv_opE (fun _ _ _ h => h) _ (V' := .bool (decide (PR = PR))) (fun g => by kernel_rfl) (fun g => (fun o w ho => eqU_run (x := (.tmp 144)) (y := (.tmp 146)) PR PR pr_ok.1 pr_ok.1 w ho (by kernel_rfl) (by kernel_rfl))) (by rw [decide_eq_true rfl] <;> rfl)
  · exact D2.gv_val (fun _ _ _ h => h) (fun g w => by kernel_rfl)
  · exact D2.gv_val (fun _ _ _ h => h) (fun g w => by kernel_rfl)
  · exact D2.gv_load 24 (.tmp 9) 3 (fun g => b4) (Value.cells (uv (fAdd A B PR))) 24 (0, 0) (fun _ _ _ h => h) (fun g => by kernel_rfl) (fun g => by kernel_rfl) (fun L g hN => (by kernel_rfl)) (by kernel_rfl)
  · exact D2.gv_load 24 (.tmp 3) 6 (fun g => b1) (Value.cells (uv A)) 24 (0, 0) (fun _ _ _ h => h) (fun g => by kernel_rfl) (fun g => by kernel_rfl) (fun L g hN => (by kernel_rfl)) (by kernel_rfl)
  · exact D2.gv_load 24 (.tmp 4) 5 (fun g => b2) (Value.cells (uv B)) 24 (0, 0) (fun _ _ _ h => h) (fun g => by kernel_rfl) (fun g => by kernel_rfl) (fun L g hN => (by kernel_rfl)) (by kernel_rfl)
  · exact D2.gv_val (fun _ _ _ h => h) (fun g w => by kernel_rfl)
  · exact D2.gv_call 30 #[uv A, uv B, .int .i64 0] (fun _ _ _ h => h) (radd0_fn A B hA hB) (fun g w => by kernel_rfl)
  · exact D2.gv_opE (fun _ _ _ h => h) _ (V' := .bool (decide ((fAdd A B PR) = (fAdd A B PR)))) (fun g => by kernel_rfl) (fun g => (fun o w ho => eqU_run (x := (.tmp 150)) (y := (.tmp 154)) (fAdd A B PR) (fAdd A B PR) (fAdd_lt pr_ok) (fAdd_lt pr_ok) w ho (by kernel_rfl) (by kernel_rfl))) (by rw [decide_eq_true rfl] <;> rfl)
  · exact D2.gv_val (fun _ _ _ h => h) (fun g w => by kernel_rfl)
  · exact D2.gv_val (fun _ _ _ h => h) (fun g w => by kernel_rfl)
  · exact D2.gv_load 24 (.tmp 11) 2 (fun g => b5) (Value.cells (uv (fSub A B PR))) 24 (0, 0) (fun _ _ _ h => h) (fun g => by kernel_rfl) (fun g => by kernel_rfl) (fun L g hN => (by kernel_rfl)) (by kernel_rfl)
  · exact D2.gv_load 24 (.tmp 3) 6 (fun g => b1) (Value.cells (uv A)) 24 (0, 0) (fun _ _ _ h => h) (fun g => by kernel_rfl) (fun g => by kernel_rfl) (fun L g hN => (by kernel_rfl)) (by kernel_rfl)
  · exact D2.gv_load 24 (.tmp 4) 5 (fun g => b2) (Value.cells (uv B)) 24 (0, 0) (fun _ _ _ h => h) (fun g => by kernel_rfl) (fun g => by kernel_rfl) (fun L g hN => (by kernel_rfl)) (by kernel_rfl)
  · exact D2.gv_val (fun _ _ _ h => h) (fun g w => by kernel_rfl)
  · exact D2.gv_call 31 #[uv A, uv B, .int .i64 0] (fun _ _ _ h => h) (rsub0_fn A B hA hB) (fun g w => by kernel_rfl)
  · exact D2.gv_opE (fun _ _ _ h => h) _ (V' := .bool (decide ((fSub A B PR) = (fSub A B PR)))) (fun g => by kernel_rfl) (fun g => (fun o w ho => eqU_run (x := (.tmp 158)) (y := (.tmp 162)) (fSub A B PR) (fSub A B PR) (fSub_lt pr_ok) (fSub_lt pr_ok) w ho (by kernel_rfl) (by kernel_rfl))) (by rw [decide_eq_true rfl] <;> rfl)
  · exact D2.gv_val (fun _ _ _ h => h) (fun g w => by kernel_rfl)
  · exact D2.gv_val (fun _ _ _ h => h) (fun g w => by kernel_rfl)
  · exact D2.gv_load 24 (.tmp 13) 1 (fun g => b6) (Value.cells (uv (fMul A B PR))) 24 (0, 0) (fun _ _ _ h => h) (fun g => by kernel_rfl) (fun g => by kernel_rfl) (fun L g hN => (by kernel_rfl)) (by kernel_rfl)
  · exact D2.gv_load 24 (.tmp 3) 6 (fun g => b1) (Value.cells (uv A)) 24 (0, 0) (fun _ _ _ h => h) (fun g => by kernel_rfl) (fun g => by kernel_rfl) (fun L g hN => (by kernel_rfl)) (by kernel_rfl)
  · exact D2.gv_load 24 (.tmp 4) 5 (fun g => b2) (Value.cells (uv B)) 24 (0, 0) (fun _ _ _ h => h) (fun g => by kernel_rfl) (fun g => by kernel_rfl) (fun L g hN => (by kernel_rfl)) (by kernel_rfl)
  · exact D2.gv_val (fun _ _ _ h => h) (fun g w => by kernel_rfl)
  · exact D2.gv_call 32 #[uv A, uv B, .int .i64 0] (fun _ _ _ h => h) (rmul0_fn A B hA hB) (fun g w => by kernel_rfl)
  · exact D2.gv_opE (fun _ _ _ h => h) _ (V' := .bool (decide ((fMul A B PR) = (fMul A B PR)))) (fun g => by kernel_rfl) (fun g => (fun o w ho => eqU_run (x := (.tmp 166)) (y := (.tmp 170)) (fMul A B PR) (fMul A B PR) (fMul_lt pr_ok) (fMul_lt pr_ok) w ho (by kernel_rfl) (by kernel_rfl))) (by rw [decide_eq_true rfl] <;> rfl)
  · exact D2.gv_val (fun _ _ _ h => h) (fun g w => by kernel_rfl)
  · exact D2.gv_val (fun _ _ _ h => h) (fun g w => by kernel_rfl)
  · exact D2.gv_load 24 (.tmp 15) 0 (fun g => b7) (Value.cells (uv (rs A B PR))) 24 (0, 0) (fun _ _ _ h => h) (fun g => by kernel_rfl) (fun g => by kernel_rfl) (fun L g hN => (by kernel_rfl)) (by kernel_rfl)
  · exact D2.gv_val (fun _ _ _ h => h) (fun g w => by kernel_rfl)
  · exact D2.gv_val (fun _ _ _ h => h) (fun g w => by kernel_rfl)
  · exact D2.gv_callP 33 (fun g => #[.slice (some ⟨(G18 7).b, 0, none⟩) ((G18 7).n) ((G18 7).cap), .int .i64 0]) (fun g => fun w => w.heap[(G18 7).b]? = some (.cells (G18 7).cur 3 (0, 0))) (fun _ _ _ h => h) (fun L g hN hF => by exact (by have hnum := left020_fn (dgs A 16 ++ dgs B 16) ((G18 7).b) ((G18 7).n) ((G18 7).cap) ((G18 7).cur) (by have h9 := hf6_18.1; simp only [List.length_append, dgs_length]; omega) hf6_18.2 (by simp only [List.length_append, dgs_length]; omega) (ok_append (dgs_ok A 16) (dgs_ok B 16)); have heq : (vl (dgs A 16 ++ dgs B 16) % PR) = (rs A B PR) := (by unfold rs; rw [vl_append, vl_dgs16 hA, vl_dgs16 hB, dgs_length, ← big_pow]); rw [heq] at hnum; exact hnum)) (fun L g w hN hE hF => by exact (hE.get 7 (by kernel_rfl))) (fun g w => by kernel_rfl)
  · exact D2.gv_opE (fun _ _ _ h => h) _ (V' := .bool (decide ((rs A B PR) = (rs A B PR)))) (fun g => by kernel_rfl) (fun g => (fun o w ho => eqU_run (x := (.tmp 174)) (y := (.tmp 177)) (rs A B PR) (rs A B PR) (rs_lt pr_ok) (rs_lt pr_ok) w ho (by kernel_rfl) (by kernel_rfl))) (by rw [decide_eq_true rfl] <;> rfl)
  · exact D2.gv_val (fun _ _ _ h => h) (fun g w => by kernel_rfl)
  · exact D2.gv_val (fun _ _ _ h => h) (fun g w => by kernel_rfl)
  intro L0 G19 w19 hall HL; clear H18
  have H19 : St w.heap.size w w19 [(b7, Obj.cells (Value.cells (uv (rs A B PR))) 24 (0, 0)), (b6, Obj.cells (Value.cells (uv (fMul A B PR))) 24 (0, 0)), (b5, Obj.cells (Value.cells (uv (fSub A B PR))) 24 (0, 0)), (b4, Obj.cells (Value.cells (uv (fAdd A B PR))) 24 (0, 0)), (b3, Obj.cells (Value.cells (uv PR)) 24 (0, 0)), (b2, Obj.cells (Value.cells (uv B)) 24 (0, 0)), (b1, Obj.cells (Value.cells (uv A)) 24 (0, 0)), ((G18 7).b, Obj.cells ((G18 7).cur) 3 (0, 0)), ((G18 2).b, Obj.cells ((G18 2).cur) 3 (0, 0)), ((G18 5).b, Obj.cells ((G18 5).cur) 3 (0, 0))] := D2.StE.st HL.1
  clear HL hall
  refine g_ret (by kernel_rfl) ?_
  show ∃ vs, Res _ _ _ _ vs ∧ _
  refine ⟨[.bool true], (.tmp (.bool true) (by kernel_rfl) .nil), ?_, H19.below⟩
  rfl

set_option maxRecDepth 100000 in
theorem reckons1_fn (A B : Nat) (hA : A < big) (hB : B < big) : Fn Try.prog 6 #[uv A, uv B, .int .i64 1] (.bool true) := by
  have hp : PR < big ∧ big < 2 * PR := pr_ok
  have hq : NR < big ∧ big < 2 * NR := nr_ok
  have hbig : 2 < big := by unfold big; omega
  refine Fn.intro (c := codeOf Try.f6) [.tmp 6] 180 Try.func6 (by kernel_rfl) (by kernel_rfl) (by kernel_rfl) fun w => ?_
  have H0 := St.start w
  refine g_sreg [0, 1, 2] (by kernel_rfl) (by kernel_rfl) ?_
  refine s_box H0 (some 3) 24 (.tmp 0) (uv A) (by kernel_rfl) (by kernel_rfl) (by kernel_rfl) ?_
  intro b1 w1 H1; clear H0
  refine s_box H1 (some 4) 24 (.tmp 1) (uv B) (by kernel_rfl) (by kernel_rfl) (by kernel_rfl) ?_
  intro b2 w2 H2; clear H1
  refine s_val (some 6) (.bool false) (fun w => by kernel_rfl) (by kernel_rfl) ?_
  refine s_nil ?_
  refine g_sreg [0, 1, 2, 3, 4, 5, 6, 7] (by kernel_rfl) (by kernel_rfl) ?_
  refine s_val (some 21) (.int .i64 1) (fun w => by kernel_rfl) (by kernel_rfl) ?_
  refine s_call H2 (some 22) 23 #[.int .i64 1] (.tuple #[uv NR, .int .i64 0]) prime1_fn (fun w => by kernel_rfl) (by kernel_rfl) ?_
  intro w3 H3; clear H2
  refine s_val (some 20) (.tuple #[uv NR, .int .i64 0]) (fun w => by kernel_rfl) (by kernel_rfl) ?_
  refine s_val (some 23) (uv NR) (fun w => by kernel_rfl) (by kernel_rfl) ?_
  refine s_val (some 24) (.int .i64 0) (fun w => by kernel_rfl) (by kernel_rfl) ?_
  refine s_alloc H3 (some 7) 24 (.agg #[.int .u64 0, .int .u64 0, .int .u64 0, .int .u64 0]) (by kernel_rfl) (by kernel_rfl) (by kernel_rfl) ?_
  intro b3 w4 H4; clear H3
  refine s_store H4 0 [(b3, Obj.cells (Value.cells (uv NR)) 24 (0, 0)), (b2, Obj.cells (Value.cells (uv B)) 24 (0, 0)), (b1, Obj.cells (Value.cells (uv A)) 24 (0, 0))] 24 (.tmp 7) (.tmp 23) b3 (0) #[.int .u64 0, .int .u64 0, .int .u64 0, .int .u64 0] (Value.cells (uv NR)) 24 (uv NR) (by kernel_rfl) (by kernel_rfl) (by kernel_rfl) (by kernel_rfl) (by kernel_rfl) (by kernel_rfl) (of_decide_eq_true (by kernel_rfl)) (by kernel_rfl) (by kernel_rfl) ?_
  intro w5 H5; clear H4
  refine s_val (some 8) (.int .i64 0) (fun w => by kernel_rfl) (by kernel_rfl) ?_
  refine s_nil ?_
  refine g_sreg [0, 1, 2, 3, 4, 5, 6, 7, 8, 9] (by kernel_rfl) (by kernel_rfl) ?_
  refine s_load H5 (some 26) 24 (.tmp 3) 2 b1 (Value.cells (uv A)) 24 (0, 0) (by kernel_rfl) (by kernel_rfl) (by kernel_rfl) (by kernel_rfl) (by kernel_rfl) ?_
  refine s_load H5 (some 27) 24 (.tmp 4) 1 b2 (Value.cells (uv B)) 24 (0, 0) (by kernel_rfl) (by kernel_rfl) (by kernel_rfl) (by kernel_rfl) (by kernel_rfl) ?_
  refine s_val (some 28) (.int .i64 1) (fun w => by kernel_rfl) (by kernel_rfl) ?_
  refine s_call H5 (some 29) 24 #[uv A, uv B, .int .i64 1] (.tuple #[uv (fAdd A B NR), .int .i64 0]) (fadd1_fn A B hA hB) (fun w => by kernel_rfl) (by kernel_rfl) ?_
  intro w6 H6; clear H5
  refine s_val (some 25) (.tuple #[uv (fAdd A B NR), .int .i64 0]) (fun w => by kernel_rfl) (by kernel_rfl) ?_
  refine s_val (some 30) (uv (fAdd A B NR)) (fun w => by kernel_rfl) (by kernel_rfl) ?_
  refine s_val (some 31) (.int .i64 0) (fun w => by kernel_rfl) (by kernel_rfl) ?_
  refine s_alloc H6 (some 9) 24 (.agg #[.int .u64 0, .int .u64 0, .int .u64 0, .int .u64 0]) (by kernel_rfl) (by kernel_rfl) (by kernel_rfl) ?_
  intro b4 w7 H7; clear H6
  refine s_store H7 0 [(b4, Obj.cells (Value.cells (uv (fAdd A B NR))) 24 (0, 0)), (b3, Obj.cells (Value.cells (uv NR)) 24 (0, 0)), (b2, Obj.cells (Value.cells (uv B)) 24 (0, 0)), (b1, Obj.cells (Value.cells (uv A)) 24 (0, 0))] 24 (.tmp 9) (.tmp 30) b4 (0) #[.int .u64 0, .int .u64 0, .int .u64 0, .int .u64 0] (Value.cells (uv (fAdd A B NR))) 24 (uv (fAdd A B NR)) (by kernel_rfl) (by kernel_rfl) (by kernel_rfl) (by kernel_rfl) (by kernel_rfl) (by kernel_rfl) (of_decide_eq_true (by kernel_rfl)) (by kernel_rfl) (by kernel_rfl) ?_
  intro w8 H8; clear H7
  refine s_val (some 10) (.int .i64 0) (fun w => by kernel_rfl) (by kernel_rfl) ?_
  refine s_nil ?_
  refine g_sreg [0, 1, 2, 3, 4, 5, 6, 7, 8, 9] (by kernel_rfl) (by kernel_rfl) ?_
  refine s_load H8 (some 33) 24 (.tmp 3) 3 b1 (Value.cells (uv A)) 24 (0, 0) (by kernel_rfl) (by kernel_rfl) (by kernel_rfl) (by kernel_rfl) (by kernel_rfl) ?_
  refine s_load H8 (some 34) 24 (.tmp 4) 2 b2 (Value.cells (uv B)) 24 (0, 0) (by kernel_rfl) (by kernel_rfl) (by kernel_rfl) (by kernel_rfl) (by kernel_rfl) ?_
  refine s_val (some 35) (.int .i64 1) (fun w => by kernel_rfl) (by kernel_rfl) ?_
  refine s_call H8 (some 36) 25 #[uv A, uv B, .int .i64 1] (.tuple #[uv (fSub A B NR), .int .i64 0]) (fsub1_fn A B hA hB) (fun w => by kernel_rfl) (by kernel_rfl) ?_
  intro w9 H9; clear H8
  refine s_val (some 32) (.tuple #[uv (fSub A B NR), .int .i64 0]) (fun w => by kernel_rfl) (by kernel_rfl) ?_
  refine s_val (some 37) (uv (fSub A B NR)) (fun w => by kernel_rfl) (by kernel_rfl) ?_
  refine s_val (some 38) (.int .i64 0) (fun w => by kernel_rfl) (by kernel_rfl) ?_
  refine s_alloc H9 (some 11) 24 (.agg #[.int .u64 0, .int .u64 0, .int .u64 0, .int .u64 0]) (by kernel_rfl) (by kernel_rfl) (by kernel_rfl) ?_
  intro b5 w10 H10; clear H9
  refine s_store H10 0 [(b5, Obj.cells (Value.cells (uv (fSub A B NR))) 24 (0, 0)), (b4, Obj.cells (Value.cells (uv (fAdd A B NR))) 24 (0, 0)), (b3, Obj.cells (Value.cells (uv NR)) 24 (0, 0)), (b2, Obj.cells (Value.cells (uv B)) 24 (0, 0)), (b1, Obj.cells (Value.cells (uv A)) 24 (0, 0))] 24 (.tmp 11) (.tmp 37) b5 (0) #[.int .u64 0, .int .u64 0, .int .u64 0, .int .u64 0] (Value.cells (uv (fSub A B NR))) 24 (uv (fSub A B NR)) (by kernel_rfl) (by kernel_rfl) (by kernel_rfl) (by kernel_rfl) (by kernel_rfl) (by kernel_rfl) (of_decide_eq_true (by kernel_rfl)) (by kernel_rfl) (by kernel_rfl) ?_
  intro w11 H11; clear H10
  refine s_val (some 12) (.int .i64 0) (fun w => by kernel_rfl) (by kernel_rfl) ?_
  refine s_nil ?_
  refine g_sreg [0, 1, 2, 3, 4, 5, 6, 7, 8, 9] (by kernel_rfl) (by kernel_rfl) ?_
  refine s_load H11 (some 40) 24 (.tmp 3) 4 b1 (Value.cells (uv A)) 24 (0, 0) (by kernel_rfl) (by kernel_rfl) (by kernel_rfl) (by kernel_rfl) (by kernel_rfl) ?_
  refine s_load H11 (some 41) 24 (.tmp 4) 3 b2 (Value.cells (uv B)) 24 (0, 0) (by kernel_rfl) (by kernel_rfl) (by kernel_rfl) (by kernel_rfl) (by kernel_rfl) ?_
  refine s_val (some 42) (.int .i64 1) (fun w => by kernel_rfl) (by kernel_rfl) ?_
  refine s_call H11 (some 43) 26 #[uv A, uv B, .int .i64 1] (.tuple #[uv (fMul A B NR), .int .i64 0]) (fmul1_fn A B hA hB) (fun w => by kernel_rfl) (by kernel_rfl) ?_
  intro w12 H12; clear H11
  refine s_val (some 39) (.tuple #[uv (fMul A B NR), .int .i64 0]) (fun w => by kernel_rfl) (by kernel_rfl) ?_
  refine s_val (some 44) (uv (fMul A B NR)) (fun w => by kernel_rfl) (by kernel_rfl) ?_
  refine s_val (some 45) (.int .i64 0) (fun w => by kernel_rfl) (by kernel_rfl) ?_
  refine s_alloc H12 (some 13) 24 (.agg #[.int .u64 0, .int .u64 0, .int .u64 0, .int .u64 0]) (by kernel_rfl) (by kernel_rfl) (by kernel_rfl) ?_
  intro b6 w13 H13; clear H12
  refine s_store H13 0 [(b6, Obj.cells (Value.cells (uv (fMul A B NR))) 24 (0, 0)), (b5, Obj.cells (Value.cells (uv (fSub A B NR))) 24 (0, 0)), (b4, Obj.cells (Value.cells (uv (fAdd A B NR))) 24 (0, 0)), (b3, Obj.cells (Value.cells (uv NR)) 24 (0, 0)), (b2, Obj.cells (Value.cells (uv B)) 24 (0, 0)), (b1, Obj.cells (Value.cells (uv A)) 24 (0, 0))] 24 (.tmp 13) (.tmp 44) b6 (0) #[.int .u64 0, .int .u64 0, .int .u64 0, .int .u64 0] (Value.cells (uv (fMul A B NR))) 24 (uv (fMul A B NR)) (by kernel_rfl) (by kernel_rfl) (by kernel_rfl) (by kernel_rfl) (by kernel_rfl) (by kernel_rfl) (of_decide_eq_true (by kernel_rfl)) (by kernel_rfl) (by kernel_rfl) ?_
  intro w14 H14; clear H13
  refine s_val (some 14) (.int .i64 0) (fun w => by kernel_rfl) (by kernel_rfl) ?_
  refine s_nil ?_
  refine g_sreg [0, 1, 2, 3, 4, 5, 6, 7, 8, 9] (by kernel_rfl) (by kernel_rfl) ?_
  refine s_load H14 (some 47) 24 (.tmp 3) 5 b1 (Value.cells (uv A)) 24 (0, 0) (by kernel_rfl) (by kernel_rfl) (by kernel_rfl) (by kernel_rfl) (by kernel_rfl) ?_
  refine s_load H14 (some 48) 24 (.tmp 4) 4 b2 (Value.cells (uv B)) 24 (0, 0) (by kernel_rfl) (by kernel_rfl) (by kernel_rfl) (by kernel_rfl) (by kernel_rfl) ?_
  refine s_val (some 49) (.int .i64 1) (fun w => by kernel_rfl) (by kernel_rfl) ?_
  refine s_call H14 (some 50) 27 #[uv A, uv B, .int .i64 1] (.tuple #[uv (rs A B NR), .int .i64 0]) (reduce1_fn A B hA hB) (fun w => by kernel_rfl) (by kernel_rfl) ?_
  intro w15 H15; clear H14
  refine s_val (some 46) (.tuple #[uv (rs A B NR), .int .i64 0]) (fun w => by kernel_rfl) (by kernel_rfl) ?_
  refine s_val (some 51) (uv (rs A B NR)) (fun w => by kernel_rfl) (by kernel_rfl) ?_
  refine s_val (some 52) (.int .i64 0) (fun w => by kernel_rfl) (by kernel_rfl) ?_
  refine s_alloc H15 (some 15) 24 (.agg #[.int .u64 0, .int .u64 0, .int .u64 0, .int .u64 0]) (by kernel_rfl) (by kernel_rfl) (by kernel_rfl) ?_
  intro b7 w16 H16; clear H15
  refine s_store H16 0 [(b7, Obj.cells (Value.cells (uv (rs A B NR))) 24 (0, 0)), (b6, Obj.cells (Value.cells (uv (fMul A B NR))) 24 (0, 0)), (b5, Obj.cells (Value.cells (uv (fSub A B NR))) 24 (0, 0)), (b4, Obj.cells (Value.cells (uv (fAdd A B NR))) 24 (0, 0)), (b3, Obj.cells (Value.cells (uv NR)) 24 (0, 0)), (b2, Obj.cells (Value.cells (uv B)) 24 (0, 0)), (b1, Obj.cells (Value.cells (uv A)) 24 (0, 0))] 24 (.tmp 15) (.tmp 51) b7 (0) #[.int .u64 0, .int .u64 0, .int .u64 0, .int .u64 0] (Value.cells (uv (rs A B NR))) 24 (uv (rs A B NR)) (by kernel_rfl) (by kernel_rfl) (by kernel_rfl) (by kernel_rfl) (by kernel_rfl) (by kernel_rfl) (of_decide_eq_true (by kernel_rfl)) (by kernel_rfl) (by kernel_rfl) ?_
  intro w17 H17; clear H16
  refine s_val (some 16) (.int .i64 0) (fun w => by kernel_rfl) (by kernel_rfl) ?_
  refine s_nil ?_
  refine g_seq (by kernel_rfl) ?_
  refine g_sreg [0, 1, 2, 3, 4, 5] (by kernel_rfl) (by kernel_rfl) ?_
  refine s_val (some 53) (.int .i64 1) (fun w => by kernel_rfl) (by kernel_rfl) ?_
  refine s_val (some 54) (.bool true) (fun w => by kernel_rfl) (by kernel_rfl) ?_
  refine s_val (some 55) (.bool true) (fun w => by kernel_rfl) (by kernel_rfl) ?_
  refine s_val (some 56) (.int .i64 1) (fun w => by kernel_rfl) (by kernel_rfl) ?_
  refine s_val (some 57) (.bool false) (fun w => by kernel_rfl) (by kernel_rfl) ?_
  refine s_val (some 58) (.bool false) (fun w => by kernel_rfl) (by kernel_rfl) ?_
  refine s_nil ?_
  refine g_cond_f (by kernel_rfl) (by kernel_rfl) ?_
  refine g_skip (by kernel_rfl) ?_
  show WP _ _ _ _ _ _
  refine D2.g_sdraw [0, 1, 2, 3, 4, 5, 6, 7] [((some 110), fun b => .slice (some ⟨b.b, 0, none⟩) 0 0), ((some 111), fun _ => uv A), ((some 112), fun x => .slice (some ⟨x.b, 0, none⟩) x.n x.cap), ((some 113), fun y => .slice (some ⟨y.b, 0, none⟩) y.n y.cap), ((some 114), fun _ => uv B), ((some 115), fun x => .slice (some ⟨x.b, 0, none⟩) x.n x.cap), ((some 116), fun y => .slice (some ⟨y.b, 0, none⟩) y.n y.cap), ((some 18), fun y => .slice (some ⟨y.b, 0, none⟩) (y.n) (y.cap))] (D2.Pre w.heap.size w (fun L g => [(true, (b7, Obj.cells (Value.cells (uv (rs A B NR))) 24 (0, 0))), (true, (b6, Obj.cells (Value.cells (uv (fMul A B NR))) 24 (0, 0))), (true, (b5, Obj.cells (Value.cells (uv (fSub A B NR))) 24 (0, 0))), (true, (b4, Obj.cells (Value.cells (uv (fAdd A B NR))) 24 (0, 0))), (true, (b3, Obj.cells (Value.cells (uv NR)) 24 (0, 0))), (true, (b2, Obj.cells (Value.cells (uv B)) 24 (0, 0))), (true, (b1, Obj.cells (Value.cells (uv A)) 24 (0, 0))), (L 0, (bif L 6 then ((g 6).b, Obj.cells ((g 6).cur) 3 (0, 0)) else (bif L 3 then ((g 3).b, Obj.cells ((g 3).cur) 3 (0, 0)) else ((g 0).b, Obj.cells #[] 3 (0, 0))))), (L 2, ((g 2).b, Obj.cells ((g 2).cur) 3 (0, 0))), (L 5, ((g 5).b, Obj.cells ((g 5).cur) 3 (0, 0)))]) (fun L g => (L 2 = true → ((g 2).n = List.length ((g 2).l) ∧ Rw 1 (g 2).cur (g 2).cap (g 2).n (cellsD ((g 2).l)) ∧ Ok ((g 2).l) ∧ ((g 2).l = dgs A 16 ∧ vl ((g 2).l) = A ∧ List.length ((g 2).l) = 16))) ∧ (L 3 = true → ((g 3).n = 16 ∧ Rw 1 (g 3).cur (g 3).cap (g 3).n (cellsD (dgs A 16)))) ∧ (L 5 = true → ((g 5).n = List.length ((g 5).l) ∧ Rw 1 (g 5).cur (g 5).cap (g 5).n (cellsD ((g 5).l)) ∧ Ok ((g 5).l) ∧ ((g 5).l = dgs B 16 ∧ vl ((g 5).l) = B ∧ List.length ((g 5).l) = 16))) ∧ (L 6 = true → ((g 6).n = 32 ∧ Rw 1 (g 6).cur (g 6).cap (g 6).n (cellsD (dgs A 16 ++ dgs B 16)))) ∧ (L 7 = true → g 7 = g 6) ∧ True)) (by kernel_rfl) (by kernel_rfl) (by kernel_rfl) (by kernel_rfl) ⟨D2.StE.of H17.drew _ (by kernel_rfl), ⟨(fun h => nomatch h), (fun h => nomatch h), (fun h => nomatch h), (fun h => nomatch h), (fun h => nomatch h), trivial⟩⟩ ⟨?_, ?_, ?_, ?_, ?_, ?_, ?_, ?_, trivial⟩ ?_
  · exact D2.gv_new (fun b => .slice (some ⟨b, 0, none⟩) 0 0) #[] 3 7 (fun g w => by kernel_rfl) (fun L g b hN => (by have hL3 : L 3 = false := (hN.post 3 (by kernel_rfl)); have hL6 : L 6 = false := (hN.2.2.no 3 6 (by kernel_rfl) (hN.post 3 (by kernel_rfl))); exact D2.ent_set (x' := (true, (bif L 6 then (((D2.setN g 0 { b := b }) 6).b, Obj.cells (((D2.setN g 0 { b := b }) 6).cur) 3 (0, 0)) else (bif L 3 then (((D2.setN g 0 { b := b }) 3).b, Obj.cells (((D2.setN g 0 { b := b }) 3).cur) 3 (0, 0)) else (((D2.setN g 0 { b := b }) 0).b, Obj.cells #[] 3 (0, 0)))))) (by kernel_rfl) (by simp only [hL3, hL6, cond_true, cond_false] <;> rfl))) (fun L g b hN hF => hF)
  · exact D2.gv_load 24 (.tmp 3) 6 (fun g => b1) (Value.cells (uv A)) 24 (0, 0) (fun _ _ _ h => h) (fun g => by kernel_rfl) (fun g => by kernel_rfl) (fun L g hN => (by kernel_rfl)) (by kernel_rfl)
  · exact D2.gv_callS 9 (fun g => #[uv A]) (fun g => fun _ => True) 3 1 (fun g curZ capZ nZ lZ => (nZ = List.length lZ ∧ Rw 1 curZ capZ nZ (cellsD lZ) ∧ Ok lZ ∧ (lZ = dgs A 16 ∧ vl lZ = A ∧ List.length lZ = 16))) 8 (fun L g hN hF => by exact of_fn A hA) (fun L g w hN hE hF => by exact trivial) (fun g w => by kernel_rfl) (fun L g x hN => (by kernel_rfl)) (fun L g x hN hF hS => ⟨fun _ => hS, hF.2.1, hF.2.2.1, hF.2.2.2.1, hF.2.2.2.2.1, trivial⟩)
  · exact D2.gv_append 30 3 1 8 (.tmp 110) (.tmp 112) 7 8 (fun g => (g 0).b) (fun g => (g 2).b) (fun g => 0) (fun g => (g 2).n) (fun g => 0) (fun g => (g 2).cap) (fun g => #[]) (fun g => (g 2).cur) 3 (0, 0) (fun g => []) (fun g => cellsD ((g 2).l)) (fun g => by kernel_rfl) (by kernel_rfl) (fun g => by kernel_rfl) (fun L g hN => (by have hL0 : L 0 = true := (hN.bef 0 (by kernel_rfl)); have hL3 : L 3 = false := hN.1; have hL6 : L 6 = false := (hN.post 6 (by kernel_rfl)); exact D2.ent_get' (p := L 0) (e := (bif L 6 then ((g 6).b, Obj.cells ((g 6).cur) 3 (0, 0)) else (bif L 3 then ((g 3).b, Obj.cells ((g 3).cur) 3 (0, 0)) else ((g 0).b, Obj.cells #[] 3 (0, 0))))) (by kernel_rfl) (by exact hL0) (by simp only [hL0, hL3, hL6, cond_true, cond_false] <;> rfl))) (fun L g hN hF => by exact (Rw.lit #[] 0 (by rfl) (by unfold maxLen; omega))) (fun g => by kernel_rfl) (fun L g hN => (by have hL2 : L 2 = true := (hN.bef 2 (by kernel_rfl)); exact D2.ent_get' (p := L 2) (e := ((g 2).b, Obj.cells ((g 2).cur) 3 (0, 0))) (by kernel_rfl) (by exact hL2) (by simp only [hL2, cond_true, cond_false] <;> rfl))) (fun L g hN hF => by have hf2 := (hF.1 (hN.bef 2 (by kernel_rfl))); exact ⟨hf2.2.1.take, hf2.2.1.len, (cellsD_one _), (by omega), (by unfold maxLen; omega)⟩) (fun L g y hN => (by have hL0 : L 0 = true := (hN.bef 0 (by kernel_rfl)); have hL6 : L 6 = false := (hN.post 6 (by kernel_rfl)); exact D2.ent_set (x' := (L 0, (bif L 6 then (((D2.setN g 3 y) 6).b, Obj.cells (((D2.setN g 3 y) 6).cur) 3 (0, 0)) else (((D2.setN g 3 y) 3).b, Obj.cells (((D2.setN g 3 y) 3).cur) 3 (0, 0))))) (by kernel_rfl) (by simp only [hL0, hL6, cond_true, cond_false] <;> rfl))) (fun L g y hN hF hyn hyr => by have hf2 := (hF.1 (hN.bef 2 (by kernel_rfl))); have hnew := (show (y.n = 16 ∧ Rw 1 y.cur y.cap y.n (cellsD (dgs A 16))) from by obtain ⟨e1, e2, e3, e4, e5, e6⟩ := hf2; refine ⟨by omega, ?_⟩; rw [hyn, ← e4]; exact hyr); exact ⟨hF.1, fun _ => hnew, hF.2.2.1, hF.2.2.2.1, hF.2.2.2.2.1, trivial⟩)
  · exact D2.gv_load 24 (.tmp 4) 5 (fun g => b2) (Value.cells (uv B)) 24 (0, 0) (fun _ _ _ h => h) (fun g => by kernel_rfl) (fun g => by kernel_rfl) (fun L g hN => (by kernel_rfl)) (by kernel_rfl)
  · exact D2.gv_callS 9 (fun g => #[uv B]) (fun g => fun _ => True) 3 1 (fun g curZ capZ nZ lZ => (nZ = List.length lZ ∧ Rw 1 curZ capZ nZ (cellsD lZ) ∧ Ok lZ ∧ (lZ = dgs B 16 ∧ vl lZ = B ∧ List.length lZ = 16))) 9 (fun L g hN hF => by exact of_fn B hB) (fun L g w hN hE hF => by exact trivial) (fun g w => by kernel_rfl) (fun L g x hN => (by kernel_rfl)) (fun L g x hN hF hS => ⟨hF.1, hF.2.1, fun _ => hS, hF.2.2.2.1, hF.2.2.2.2.1, trivial⟩)
  · exact D2.gv_append 30 3 1 8 (.tmp 113) (.tmp 115) 7 9 (fun g => (g 3).b) (fun g => (g 5).b) (fun g => (g 3).n) (fun g => (g 5).n) (fun g => (g 3).cap) (fun g => (g 5).cap) (fun g => (g 3).cur) (fun g => (g 5).cur) 3 (0, 0) (fun g => cellsD (dgs A 16)) (fun g => cellsD ((g 5).l)) (fun g => by kernel_rfl) (by kernel_rfl) (fun g => by kernel_rfl) (fun L g hN => (by have hL0 : L 0 = true := (hN.2.2.yes 0 3 (by kernel_rfl) (hN.bef 3 (by kernel_rfl))); have hL3 : L 3 = true := (hN.bef 3 (by kernel_rfl)); have hL6 : L 6 = false := hN.1; exact D2.ent_get' (p := L 0) (e := (bif L 6 then ((g 6).b, Obj.cells ((g 6).cur) 3 (0, 0)) else (bif L 3 then ((g 3).b, Obj.cells ((g 3).cur) 3 (0, 0)) else ((g 0).b, Obj.cells #[] 3 (0, 0))))) (by kernel_rfl) (by exact hL0) (by simp only [hL0, hL3, hL6, cond_true, cond_false] <;> rfl))) (fun L g hN hF => by have hf3 := (hF.2.1 (hN.bef 3 (by kernel_rfl))); exact hf3.2) (fun g => by kernel_rfl) (fun L g hN => (by have hL5 : L 5 = true := (hN.bef 5 (by kernel_rfl)); exact D2.ent_get' (p := L 5) (e := ((g 5).b, Obj.cells ((g 5).cur) 3 (0, 0))) (by kernel_rfl) (by exact hL5) (by simp only [hL5, cond_true, cond_false] <;> rfl))) (fun L g hN hF => by have hf3 := (hF.2.1 (hN.bef 3 (by kernel_rfl))); have hf5 := (hF.2.2.1 (hN.bef 5 (by kernel_rfl))); exact ⟨hf5.2.1.take, hf5.2.1.len, (cellsD_one _), (by omega), (by unfold maxLen; omega)⟩) (fun L g y hN => (by have hL0 : L 0 = true := (hN.2.2.yes 0 3 (by kernel_rfl) (hN.bef 3 (by kernel_rfl))); have hL3 : L 3 = true := (hN.bef 3 (by kernel_rfl)); exact D2.ent_set (x' := (L 0, (((D2.setN g 6 y) 6).b, Obj.cells (((D2.setN g 6 y) 6).cur) 3 (0, 0)))) (by kernel_rfl) (by simp only [hL0, hL3, cond_true, cond_false] <;> rfl))) (fun L g y hN hF hyn hyr => by have hf3 := (hF.2.1 (hN.bef 3 (by kernel_rfl))); have hf5 := (hF.2.2.1 (hN.bef 5 (by kernel_rfl))); have hnew := (show (y.n = 32 ∧ Rw 1 y.cur y.cap y.n (cellsD (dgs A 16 ++ dgs B 16))) from by obtain ⟨e1, e2, e3, e4, e5, e6⟩ := hf5; refine ⟨by omega, ?_⟩; rw [cellsD_append]; rw [hyn, ← e4]; exact hyr); exact ⟨hF.1, hF.2.1, hF.2.2.1, fun _ => hnew, (fun hx => nomatch (Eq.trans (Eq.symm (show L 7 = true from hx)) (hN.post 7 (by kernel_rfl)))), trivial⟩)
  · exact D2.gv_valG (fun g => g 6) (fun L g w hN hp => ⟨hp.1, hp.2.1, hp.2.2.1, hp.2.2.2.1, hp.2.2.2.2.1, fun _ => rfl, trivial⟩) (fun g w => by kernel_rfl)
  intro L0 G18 w18 hall HL; clear H17
  have H18 : St w.heap.size w w18 [(b7, Obj.cells (Value.cells (uv (rs A B NR))) 24 (0, 0)), (b6, Obj.cells (Value.cells (uv (fMul A B NR))) 24 (0, 0)), (b5, Obj.cells (Value.cells (uv (fSub A B NR))) 24 (0, 0)), (b4, Obj.cells (Value.cells (uv (fAdd A B NR))) 24 (0, 0)), (b3, Obj.cells (Value.cells (uv NR)) 24 (0, 0)), (b2, Obj.cells (Value.cells (uv B)) 24 (0, 0)), (b1, Obj.cells (Value.cells (uv A)) 24 (0, 0)), ((G18 6).b, Obj.cells ((G18 6).cur) 3 (0, 0)), ((G18 2).b, Obj.cells ((G18 2).cur) 3 (0, 0)), ((G18 5).b, Obj.cells ((G18 5).cur) 3 (0, 0))] := by have e0 := hall 0 (Nat.le_of_ble_eq_true (by kernel_rfl)); have e2 := hall 2 (Nat.le_of_ble_eq_true (by kernel_rfl)); have e3 := hall 3 (Nat.le_of_ble_eq_true (by kernel_rfl)); have e5 := hall 5 (Nat.le_of_ble_eq_true (by kernel_rfl)); have e6 := hall 6 (Nat.le_of_ble_eq_true (by kernel_rfl)); have e7 := hall 7 (Nat.le_of_ble_eq_true (by kernel_rfl)); have hS := D2.StE.st HL.1; simp only [e0, e2, e3, e5, e6, e7, cond_true, D2.pres] at hS; exact hS
  have hf2_18 : ((G18 2).n = List.length ((G18 2).l) ∧ Rw 1 (G18 2).cur (G18 2).cap (G18 2).n (cellsD ((G18 2).l)) ∧ Ok ((G18 2).l) ∧ ((G18 2).l = dgs A 16 ∧ vl ((G18 2).l) = A ∧ List.length ((G18 2).l) = 16)) := HL.2.1 (hall 2 (Nat.le_of_ble_eq_true (by kernel_rfl)))
  have hf3_18 : ((G18 3).n = 16 ∧ Rw 1 (G18 3).cur (G18 3).cap (G18 3).n (cellsD (dgs A 16))) := HL.2.2.1 (hall 3 (Nat.le_of_ble_eq_true (by kernel_rfl)))
  have hf5_18 : ((G18 5).n = List.length ((G18 5).l) ∧ Rw 1 (G18 5).cur (G18 5).cap (G18 5).n (cellsD ((G18 5).l)) ∧ Ok ((G18 5).l) ∧ ((G18 5).l = dgs B 16 ∧ vl ((G18 5).l) = B ∧ List.length ((G18 5).l) = 16)) := HL.2.2.2.1 (hall 5 (Nat.le_of_ble_eq_true (by kernel_rfl)))
  have hf6_18 : ((G18 6).n = 32 ∧ Rw 1 (G18 6).cur (G18 6).cap (G18 6).n (cellsD (dgs A 16 ++ dgs B 16))) := HL.2.2.2.2.1 (hall 6 (Nat.le_of_ble_eq_true (by kernel_rfl)))
  have hf7_18 : G18 7 = G18 6 := HL.2.2.2.2.2.1 (hall 7 (Nat.le_of_ble_eq_true (by kernel_rfl)))
  clear HL hall
  rw [← hf7_18] at H18 hf6_18
  refine g_sreg [0, 1, 2, 3, 4, 5, 6, 7, 8, 9, 10, 11, 12, 13, 14, 15, 16, 17, 18, 19, 20, 21, 22] (by kernel_rfl) (by kernel_rfl) ?_
  refine s_val (some 117) (.int .i64 0) (fun w => by kernel_rfl) (by kernel_rfl) ?_
  refine s_val (some 118) (.bool true) (fun w => by kernel_rfl) (by kernel_rfl) ?_
  refine s_val (some 119) (.bool true) (fun w => by kernel_rfl) (by kernel_rfl) ?_
  refine s_val (some 120) (.int .i64 0) (fun w => by kernel_rfl) (by kernel_rfl) ?_
  refine s_val (some 121) (.int .i64 0) (fun w => by kernel_rfl) (by kernel_rfl) ?_
  refine s_val (some 122) (.bool true) (fun w => by kernel_rfl) (by kernel_rfl) ?_
  refine s_val (some 123) (.bool true) (fun w => by kernel_rfl) (by kernel_rfl) ?_
  refine s_val (some 124) (.bool true) (fun w => by kernel_rfl) (by kernel_rfl) ?_
  refine s_val (some 125) (.int .i64 0) (fun w => by kernel_rfl) (by kernel_rfl) ?_
  refine s_val (some 126) (.int .i64 0) (fun w => by kernel_rfl) (by kernel_rfl) ?_
  refine s_val (some 127) (.bool true) (fun w => by kernel_rfl) (by kernel_rfl) ?_
  refine s_val (some 128) (.bool true) (fun w => by kernel_rfl) (by kernel_rfl) ?_
  refine s_val (some 129) (.bool true) (fun w => by kernel_rfl) (by kernel_rfl) ?_
  refine s_val (some 130) (.int .i64 0) (fun w => by kernel_rfl) (by kernel_rfl) ?_
  refine s_val (some 131) (.int .i64 0) (fun w => by kernel_rfl) (by kernel_rfl) ?_
  refine s_val (some 132) (.bool true) (fun w => by kernel_rfl) (by kernel_rfl) ?_
  refine s_val (some 133) (.bool true) (fun w => by kernel_rfl) (by kernel_rfl) ?_
  refine s_val (some 134) (.bool true) (fun w => by kernel_rfl) (by kernel_rfl) ?_
  refine s_val (some 135) (.int .i64 0) (fun w => by kernel_rfl) (by kernel_rfl) ?_
  refine s_val (some 136) (.int .i64 0) (fun w => by kernel_rfl) (by kernel_rfl) ?_
  refine s_val (some 137) (.bool true) (fun w => by kernel_rfl) (by kernel_rfl) ?_
  refine s_val (some 138) (.bool true) (fun w => by kernel_rfl) (by kernel_rfl) ?_
  refine s_val (some 19) (.bool true) (fun w => by kernel_rfl) (by kernel_rfl) ?_
  refine s_nil ?_
  refine D2.g_sdraw [0, 1, 2, 3, 4, 5, 6, 7, 8, 9, 10, 11, 12, 13, 14, 15, 16, 17, 18, 19, 20, 21, 22, 23, 24, 25, 26, 27, 28, 29, 30, 31, 32, 33, 34, 35, 36, 37, 38, 39, 40, 41] [((some 139), fun _ => .bool true), ((some 140), fun _ => .bool true), ((some 141), fun _ => .bool true), ((some 142), fun _ => .bool true), ((some 143), fun _ => .bool true), ((some 144), fun _ => uv NR), ((some 145), fun _ => .int .i64 1), ((some 146), fun _ => uv NR), ((some 147), fun _ => .bool true), ((some 148), fun _ => .bool true), ((some 149), fun _ => .bool true), ((some 150), fun _ => uv (fAdd A B NR)), ((some 151), fun _ => uv A), ((some 152), fun _ => uv B), ((some 153), fun _ => .int .i64 1), ((some 154), fun _ => uv (fAdd A B NR)), ((some 155), fun _ => .bool true), ((some 156), fun _ => .bool true), ((some 157), fun _ => .bool true), ((some 158), fun _ => uv (fSub A B NR)), ((some 159), fun _ => uv A), ((some 160), fun _ => uv B), ((some 161), fun _ => .int .i64 1), ((some 162), fun _ => uv (fSub A B NR)), ((some 163), fun _ => .bool true), ((some 164), fun _ => .bool true), ((some 165), fun _ => .bool true), ((some 166), fun _ => uv (fMul A B NR)), ((some 167), fun _ => uv A), ((some 168), fun _ => uv B), ((some 169), fun _ => .int .i64 1), ((some 170), fun _ => uv (fMul A B NR)), ((some 171), fun _ => .bool true), ((some 172), fun _ => .bool true), ((some 173), fun _ => .bool true), ((some 174), fun _ => uv (rs A B NR)), ((some 175), fun _ => .slice (some ⟨(G18 7).b, 0, none⟩) ((G18 7).n) ((G18 7).cap)), ((some 176), fun _ => .int .i64 1), ((some 177), fun _ => uv (rs A B NR)), ((some 178), fun _ => .bool true), ((some 179), fun _ => .bool true), ((some 6), fun _ => .bool true)] (D2.Pre w.heap.size w (fun L g => [(true, (b7, Obj.cells (Value.cells (uv (rs A B NR))) 24 (0, 0))), (true, (b6, Obj.cells (Value.cells (uv (fMul A B NR))) 24 (0, 0))), (true, (b5, Obj.cells (Value.cells (uv (fSub A B NR))) 24 (0, 0))), (true, (b4, Obj.cells (Value.cells (uv (fAdd A B NR))) 24 (0, 0))), (true, (b3, Obj.cells (Value.cells (uv NR)) 24 (0, 0))), (true, (b2, Obj.cells (Value.cells (uv B)) 24 (0, 0))), (true, (b1, Obj.cells (Value.cells (uv A)) 24 (0, 0))), (true, ((G18 7).b, Obj.cells ((G18 7).cur) 3 (0, 0))), (true, ((G18 2).b, Obj.cells ((G18 2).cur) 3 (0, 0))), (true, ((G18 5).b, Obj.cells ((G18 5).cur) 3 (0, 0)))]) (fun L g => True)) (by kernel_rfl) (by kernel_rfl) (by kernel_rfl) (by kernel_rfl) ⟨D2.StE.of H18.drew _ (by kernel_rfl), trivial⟩ ⟨?_, ?_, ?_, ?_, ?_, ?_, ?_, ?_, ?_, ?_, ?_, ?_, ?_, ?_, ?_, ?_, ?_, ?_, ?_, ?_, ?_, ?_, ?_, ?_, ?_, ?_, ?_, ?_, ?_, ?_, ?_, ?_, ?_, ?_, ?_, ?_, ?_, ?_, ?_, ?_, ?_, ?_, trivial⟩ ?_
  · exact D2.gv_call 28 #[] (fun _ _ _ h => h) alive02_fn (fun g w => by kernel_rfl)
  · exact D2.gv_val (fun _ _ _ h => h) (fun g w => by kernel_rfl)
  · exact D2.gv_val (fun _ _ _ h => h) (fun g w => by kernel_rfl)
  · exact D2.gv_val (fun _ _ _ h => h) (fun g w => by kernel_rfl)
  · exact D2.gv_val (fun _ _ _ h => h) (fun g w => by kernel_rfl)
  · exact D2.gv_load 24 (.tmp 7) 4 (fun g => b3) (Value.cells (uv NR)) 24 (0, 0) (fun _ _ _ h => h) (fun g => by kernel_rfl) (fun g => by kernel_rfl) (fun L g hN => (by kernel_rfl)) (by kernel_rfl)
  · exact D2.gv_val (fun _ _ _ h => h) (fun g w => by kernel_rfl)
  · exact D2.gv_call 29 #[.int .i64 1] (fun _ _ _ h => h) modulus1_fn (fun g w => by kernel_rfl)
  · exact D2.gv_opE (fun _ _ _ h => h) _ (V' := .bool (decide (NR = NR))) (fun g => by kernel_rfl) (fun g => (fun o w ho => eqU_run (x := (.tmp 144)) (y := (.tmp 146)) NR NR nr_ok.1 nr_ok.1 w ho (by kernel_rfl) (by kernel_rfl))) (by rw [decide_eq_true rfl] <;> rfl)
  · exact D2.gv_val (fun _ _ _ h => h) (fun g w => by kernel_rfl)
  · exact D2.gv_val (fun _ _ _ h => h) (fun g w => by kernel_rfl)
  · exact D2.gv_load 24 (.tmp 9) 3 (fun g => b4) (Value.cells (uv (fAdd A B NR))) 24 (0, 0) (fun _ _ _ h => h) (fun g => by kernel_rfl) (fun g => by kernel_rfl) (fun L g hN => (by kernel_rfl)) (by kernel_rfl)
  · exact D2.gv_load 24 (.tmp 3) 6 (fun g => b1) (Value.cells (uv A)) 24 (0, 0) (fun _ _ _ h => h) (fun g => by kernel_rfl) (fun g => by kernel_rfl) (fun L g hN => (by kernel_rfl)) (by kernel_rfl)
  · exact D2.gv_load 24 (.tmp 4) 5 (fun g => b2) (Value.cells (uv B)) 24 (0, 0) (fun _ _ _ h => h) (fun g => by kernel_rfl) (fun g => by kernel_rfl) (fun L g hN => (by kernel_rfl)) (by kernel_rfl)
  · exact D2.gv_val (fun _ _ _ h => h) (fun g w => by kernel_rfl)
  · exact D2.gv_call 30 #[uv A, uv B, .int .i64 1] (fun _ _ _ h => h) (radd1_fn A B hA hB) (fun g w => by kernel_rfl)
  · exact D2.gv_opE (fun _ _ _ h => h) _ (V' := .bool (decide ((fAdd A B NR) = (fAdd A B NR)))) (fun g => by kernel_rfl) (fun g => (fun o w ho => eqU_run (x := (.tmp 150)) (y := (.tmp 154)) (fAdd A B NR) (fAdd A B NR) (fAdd_lt nr_ok) (fAdd_lt nr_ok) w ho (by kernel_rfl) (by kernel_rfl))) (by rw [decide_eq_true rfl] <;> rfl)
  · exact D2.gv_val (fun _ _ _ h => h) (fun g w => by kernel_rfl)
  · exact D2.gv_val (fun _ _ _ h => h) (fun g w => by kernel_rfl)
  · exact D2.gv_load 24 (.tmp 11) 2 (fun g => b5) (Value.cells (uv (fSub A B NR))) 24 (0, 0) (fun _ _ _ h => h) (fun g => by kernel_rfl) (fun g => by kernel_rfl) (fun L g hN => (by kernel_rfl)) (by kernel_rfl)
  · exact D2.gv_load 24 (.tmp 3) 6 (fun g => b1) (Value.cells (uv A)) 24 (0, 0) (fun _ _ _ h => h) (fun g => by kernel_rfl) (fun g => by kernel_rfl) (fun L g hN => (by kernel_rfl)) (by kernel_rfl)
  · exact D2.gv_load 24 (.tmp 4) 5 (fun g => b2) (Value.cells (uv B)) 24 (0, 0) (fun _ _ _ h => h) (fun g => by kernel_rfl) (fun g => by kernel_rfl) (fun L g hN => (by kernel_rfl)) (by kernel_rfl)
  · exact D2.gv_val (fun _ _ _ h => h) (fun g w => by kernel_rfl)
  · exact D2.gv_call 31 #[uv A, uv B, .int .i64 1] (fun _ _ _ h => h) (rsub1_fn A B hA hB) (fun g w => by kernel_rfl)
  · exact D2.gv_opE (fun _ _ _ h => h) _ (V' := .bool (decide ((fSub A B NR) = (fSub A B NR)))) (fun g => by kernel_rfl) (fun g => (fun o w ho => eqU_run (x := (.tmp 158)) (y := (.tmp 162)) (fSub A B NR) (fSub A B NR) (fSub_lt nr_ok) (fSub_lt nr_ok) w ho (by kernel_rfl) (by kernel_rfl))) (by rw [decide_eq_true rfl] <;> rfl)
  · exact D2.gv_val (fun _ _ _ h => h) (fun g w => by kernel_rfl)
  · exact D2.gv_val (fun _ _ _ h => h) (fun g w => by kernel_rfl)
  · exact D2.gv_load 24 (.tmp 13) 1 (fun g => b6) (Value.cells (uv (fMul A B NR))) 24 (0, 0) (fun _ _ _ h => h) (fun g => by kernel_rfl) (fun g => by kernel_rfl) (fun L g hN => (by kernel_rfl)) (by kernel_rfl)
  · exact D2.gv_load 24 (.tmp 3) 6 (fun g => b1) (Value.cells (uv A)) 24 (0, 0) (fun _ _ _ h => h) (fun g => by kernel_rfl) (fun g => by kernel_rfl) (fun L g hN => (by kernel_rfl)) (by kernel_rfl)
  · exact D2.gv_load 24 (.tmp 4) 5 (fun g => b2) (Value.cells (uv B)) 24 (0, 0) (fun _ _ _ h => h) (fun g => by kernel_rfl) (fun g => by kernel_rfl) (fun L g hN => (by kernel_rfl)) (by kernel_rfl)
  · exact D2.gv_val (fun _ _ _ h => h) (fun g w => by kernel_rfl)
  · exact D2.gv_call 32 #[uv A, uv B, .int .i64 1] (fun _ _ _ h => h) (rmul1_fn A B hA hB) (fun g w => by kernel_rfl)
  · exact D2.gv_opE (fun _ _ _ h => h) _ (V' := .bool (decide ((fMul A B NR) = (fMul A B NR)))) (fun g => by kernel_rfl) (fun g => (fun o w ho => eqU_run (x := (.tmp 166)) (y := (.tmp 170)) (fMul A B NR) (fMul A B NR) (fMul_lt nr_ok) (fMul_lt nr_ok) w ho (by kernel_rfl) (by kernel_rfl))) (by rw [decide_eq_true rfl] <;> rfl)
  · exact D2.gv_val (fun _ _ _ h => h) (fun g w => by kernel_rfl)
  · exact D2.gv_val (fun _ _ _ h => h) (fun g w => by kernel_rfl)
  · exact D2.gv_load 24 (.tmp 15) 0 (fun g => b7) (Value.cells (uv (rs A B NR))) 24 (0, 0) (fun _ _ _ h => h) (fun g => by kernel_rfl) (fun g => by kernel_rfl) (fun L g hN => (by kernel_rfl)) (by kernel_rfl)
  · exact D2.gv_val (fun _ _ _ h => h) (fun g w => by kernel_rfl)
  · exact D2.gv_val (fun _ _ _ h => h) (fun g w => by kernel_rfl)
  · exact D2.gv_callP 33 (fun g => #[.slice (some ⟨(G18 7).b, 0, none⟩) ((G18 7).n) ((G18 7).cap), .int .i64 1]) (fun g => fun w => w.heap[(G18 7).b]? = some (.cells (G18 7).cur 3 (0, 0))) (fun _ _ _ h => h) (fun L g hN hF => by exact (by have hnum := left021_fn (dgs A 16 ++ dgs B 16) ((G18 7).b) ((G18 7).n) ((G18 7).cap) ((G18 7).cur) (by have h9 := hf6_18.1; simp only [List.length_append, dgs_length]; omega) hf6_18.2 (by simp only [List.length_append, dgs_length]; omega) (ok_append (dgs_ok A 16) (dgs_ok B 16)); have heq : (vl (dgs A 16 ++ dgs B 16) % NR) = (rs A B NR) := (by unfold rs; rw [vl_append, vl_dgs16 hA, vl_dgs16 hB, dgs_length, ← big_pow]); rw [heq] at hnum; exact hnum)) (fun L g w hN hE hF => by exact (hE.get 7 (by kernel_rfl))) (fun g w => by kernel_rfl)
  · exact D2.gv_opE (fun _ _ _ h => h) _ (V' := .bool (decide ((rs A B NR) = (rs A B NR)))) (fun g => by kernel_rfl) (fun g => (fun o w ho => eqU_run (x := (.tmp 174)) (y := (.tmp 177)) (rs A B NR) (rs A B NR) (rs_lt nr_ok) (rs_lt nr_ok) w ho (by kernel_rfl) (by kernel_rfl))) (by rw [decide_eq_true rfl] <;> rfl)
  · exact D2.gv_val (fun _ _ _ h => h) (fun g w => by kernel_rfl)
  · exact D2.gv_val (fun _ _ _ h => h) (fun g w => by kernel_rfl)
  intro L0 G19 w19 hall HL; clear H18
  have H19 : St w.heap.size w w19 [(b7, Obj.cells (Value.cells (uv (rs A B NR))) 24 (0, 0)), (b6, Obj.cells (Value.cells (uv (fMul A B NR))) 24 (0, 0)), (b5, Obj.cells (Value.cells (uv (fSub A B NR))) 24 (0, 0)), (b4, Obj.cells (Value.cells (uv (fAdd A B NR))) 24 (0, 0)), (b3, Obj.cells (Value.cells (uv NR)) 24 (0, 0)), (b2, Obj.cells (Value.cells (uv B)) 24 (0, 0)), (b1, Obj.cells (Value.cells (uv A)) 24 (0, 0)), ((G18 7).b, Obj.cells ((G18 7).cur) 3 (0, 0)), ((G18 2).b, Obj.cells ((G18 2).cur) 3 (0, 0)), ((G18 5).b, Obj.cells ((G18 5).cur) 3 (0, 0))] := D2.StE.st HL.1
  clear HL hall
  refine g_ret (by kernel_rfl) ?_
  show ∃ vs, Res _ _ _ _ vs ∧ _
  refine ⟨[.bool true], (.tmp (.bool true) (by kernel_rfl) .nil), ?_, H19.below⟩
  rfl

set_option maxRecDepth 100000 in
theorem reckonsNo_fn (A B : Nat) (hA : A < big) (hB : B < big) (n : Int) (h0 : n ≠ 0) (h1 : n ≠ 1) : Fn Try.prog 6 #[uv A, uv B, .int .i64 n] (.bool true) := by
  refine Fn.intro (c := codeOf Try.f6) [.tmp 6] 180 Try.func6 (by kernel_rfl) (by kernel_rfl) (by kernel_rfl) fun w => ?_
  have H0 := St.start w
  refine g_sreg [0, 1, 2] (by kernel_rfl) (by kernel_rfl) ?_
  refine s_box H0 (some 3) 24 (.tmp 0) (uv A) (by kernel_rfl) (by kernel_rfl) (by kernel_rfl) ?_
  intro b1 w1 H1; clear H0
  refine s_box H1 (some 4) 24 (.tmp 1) (uv B) (by kernel_rfl) (by kernel_rfl) (by kernel_rfl) ?_
  intro b2 w2 H2; clear H1
  refine s_val (some 6) (.bool false) (fun w => by kernel_rfl) (by kernel_rfl) ?_
  refine s_nil ?_
  refine g_sreg [0, 1, 2, 3, 4, 5, 6, 7] (by kernel_rfl) (by kernel_rfl) ?_
  refine s_val (some 21) (.int .i64 n) (fun w => by kernel_rfl) (by kernel_rfl) ?_
  refine s_call H2 (some 22) 23 #[.int .i64 n] (.tuple #[.agg #[.int .u64 0, .int .u64 0, .int .u64 0, .int .u64 0], .int .i64 1]) (primeNo_fn n h0 h1) (fun w => by kernel_rfl) (by kernel_rfl) ?_
  intro w3 H3; clear H2
  refine s_val (some 20) (.tuple #[.agg #[.int .u64 0, .int .u64 0, .int .u64 0, .int .u64 0], .int .i64 1]) (fun w => by kernel_rfl) (by kernel_rfl) ?_
  refine s_val (some 23) (.agg #[.int .u64 0, .int .u64 0, .int .u64 0, .int .u64 0]) (fun w => by kernel_rfl) (by kernel_rfl) ?_
  refine s_val (some 24) (.int .i64 1) (fun w => by kernel_rfl) (by kernel_rfl) ?_
  refine s_alloc H3 (some 7) 24 (.agg #[.int .u64 0, .int .u64 0, .int .u64 0, .int .u64 0]) (by kernel_rfl) (by kernel_rfl) (by kernel_rfl) ?_
  intro b3 w4 H4; clear H3
  refine s_store H4 0 [(b3, Obj.cells #[.int .u64 0, .int .u64 0, .int .u64 0, .int .u64 0] 24 (0, 0)), (b2, Obj.cells (Value.cells (uv B)) 24 (0, 0)), (b1, Obj.cells (Value.cells (uv A)) 24 (0, 0))] 24 (.tmp 7) (.tmp 23) b3 (0) #[.int .u64 0, .int .u64 0, .int .u64 0, .int .u64 0] #[.int .u64 0, .int .u64 0, .int .u64 0, .int .u64 0] 24 (.agg #[.int .u64 0, .int .u64 0, .int .u64 0, .int .u64 0]) (by kernel_rfl) (by kernel_rfl) (by kernel_rfl) (by kernel_rfl) (by kernel_rfl) (by kernel_rfl) (of_decide_eq_true (by kernel_rfl)) (by kernel_rfl) (by kernel_rfl) ?_
  intro w5 H5; clear H4
  refine s_val (some 8) (.int .i64 1) (fun w => by kernel_rfl) (by kernel_rfl) ?_
  refine s_nil ?_
  refine g_sreg [0, 1, 2, 3, 4, 5, 6, 7, 8, 9] (by kernel_rfl) (by kernel_rfl) ?_
  refine s_load H5 (some 26) 24 (.tmp 3) 2 b1 (Value.cells (uv A)) 24 (0, 0) (by kernel_rfl) (by kernel_rfl) (by kernel_rfl) (by kernel_rfl) (by kernel_rfl) ?_
  refine s_load H5 (some 27) 24 (.tmp 4) 1 b2 (Value.cells (uv B)) 24 (0, 0) (by kernel_rfl) (by kernel_rfl) (by kernel_rfl) (by kernel_rfl) (by kernel_rfl) ?_
  refine s_val (some 28) (.int .i64 n) (fun w => by kernel_rfl) (by kernel_rfl) ?_
  refine s_call H5 (some 29) 24 #[uv A, uv B, .int .i64 n] (.tuple #[.agg #[.int .u64 0, .int .u64 0, .int .u64 0, .int .u64 0], .int .i64 1]) (faddNo_fn A B hA hB n h0 h1) (fun w => by kernel_rfl) (by kernel_rfl) ?_
  intro w6 H6; clear H5
  refine s_val (some 25) (.tuple #[.agg #[.int .u64 0, .int .u64 0, .int .u64 0, .int .u64 0], .int .i64 1]) (fun w => by kernel_rfl) (by kernel_rfl) ?_
  refine s_val (some 30) (.agg #[.int .u64 0, .int .u64 0, .int .u64 0, .int .u64 0]) (fun w => by kernel_rfl) (by kernel_rfl) ?_
  refine s_val (some 31) (.int .i64 1) (fun w => by kernel_rfl) (by kernel_rfl) ?_
  refine s_alloc H6 (some 9) 24 (.agg #[.int .u64 0, .int .u64 0, .int .u64 0, .int .u64 0]) (by kernel_rfl) (by kernel_rfl) (by kernel_rfl) ?_
  intro b4 w7 H7; clear H6
  refine s_store H7 0 [(b4, Obj.cells #[.int .u64 0, .int .u64 0, .int .u64 0, .int .u64 0] 24 (0, 0)), (b3, Obj.cells #[.int .u64 0, .int .u64 0, .int .u64 0, .int .u64 0] 24 (0, 0)), (b2, Obj.cells (Value.cells (uv B)) 24 (0, 0)), (b1, Obj.cells (Value.cells (uv A)) 24 (0, 0))] 24 (.tmp 9) (.tmp 30) b4 (0) #[.int .u64 0, .int .u64 0, .int .u64 0, .int .u64 0] #[.int .u64 0, .int .u64 0, .int .u64 0, .int .u64 0] 24 (.agg #[.int .u64 0, .int .u64 0, .int .u64 0, .int .u64 0]) (by kernel_rfl) (by kernel_rfl) (by kernel_rfl) (by kernel_rfl) (by kernel_rfl) (by kernel_rfl) (of_decide_eq_true (by kernel_rfl)) (by kernel_rfl) (by kernel_rfl) ?_
  intro w8 H8; clear H7
  refine s_val (some 10) (.int .i64 1) (fun w => by kernel_rfl) (by kernel_rfl) ?_
  refine s_nil ?_
  refine g_sreg [0, 1, 2, 3, 4, 5, 6, 7, 8, 9] (by kernel_rfl) (by kernel_rfl) ?_
  refine s_load H8 (some 33) 24 (.tmp 3) 3 b1 (Value.cells (uv A)) 24 (0, 0) (by kernel_rfl) (by kernel_rfl) (by kernel_rfl) (by kernel_rfl) (by kernel_rfl) ?_
  refine s_load H8 (some 34) 24 (.tmp 4) 2 b2 (Value.cells (uv B)) 24 (0, 0) (by kernel_rfl) (by kernel_rfl) (by kernel_rfl) (by kernel_rfl) (by kernel_rfl) ?_
  refine s_val (some 35) (.int .i64 n) (fun w => by kernel_rfl) (by kernel_rfl) ?_
  refine s_call H8 (some 36) 25 #[uv A, uv B, .int .i64 n] (.tuple #[.agg #[.int .u64 0, .int .u64 0, .int .u64 0, .int .u64 0], .int .i64 1]) (fsubNo_fn A B hA hB n h0 h1) (fun w => by kernel_rfl) (by kernel_rfl) ?_
  intro w9 H9; clear H8
  refine s_val (some 32) (.tuple #[.agg #[.int .u64 0, .int .u64 0, .int .u64 0, .int .u64 0], .int .i64 1]) (fun w => by kernel_rfl) (by kernel_rfl) ?_
  refine s_val (some 37) (.agg #[.int .u64 0, .int .u64 0, .int .u64 0, .int .u64 0]) (fun w => by kernel_rfl) (by kernel_rfl) ?_
  refine s_val (some 38) (.int .i64 1) (fun w => by kernel_rfl) (by kernel_rfl) ?_
  refine s_alloc H9 (some 11) 24 (.agg #[.int .u64 0, .int .u64 0, .int .u64 0, .int .u64 0]) (by kernel_rfl) (by kernel_rfl) (by kernel_rfl) ?_
  intro b5 w10 H10; clear H9
  refine s_store H10 0 [(b5, Obj.cells #[.int .u64 0, .int .u64 0, .int .u64 0, .int .u64 0] 24 (0, 0)), (b4, Obj.cells #[.int .u64 0, .int .u64 0, .int .u64 0, .int .u64 0] 24 (0, 0)), (b3, Obj.cells #[.int .u64 0, .int .u64 0, .int .u64 0, .int .u64 0] 24 (0, 0)), (b2, Obj.cells (Value.cells (uv B)) 24 (0, 0)), (b1, Obj.cells (Value.cells (uv A)) 24 (0, 0))] 24 (.tmp 11) (.tmp 37) b5 (0) #[.int .u64 0, .int .u64 0, .int .u64 0, .int .u64 0] #[.int .u64 0, .int .u64 0, .int .u64 0, .int .u64 0] 24 (.agg #[.int .u64 0, .int .u64 0, .int .u64 0, .int .u64 0]) (by kernel_rfl) (by kernel_rfl) (by kernel_rfl) (by kernel_rfl) (by kernel_rfl) (by kernel_rfl) (of_decide_eq_true (by kernel_rfl)) (by kernel_rfl) (by kernel_rfl) ?_
  intro w11 H11; clear H10
  refine s_val (some 12) (.int .i64 1) (fun w => by kernel_rfl) (by kernel_rfl) ?_
  refine s_nil ?_
  refine g_sreg [0, 1, 2, 3, 4, 5, 6, 7, 8, 9] (by kernel_rfl) (by kernel_rfl) ?_
  refine s_load H11 (some 40) 24 (.tmp 3) 4 b1 (Value.cells (uv A)) 24 (0, 0) (by kernel_rfl) (by kernel_rfl) (by kernel_rfl) (by kernel_rfl) (by kernel_rfl) ?_
  refine s_load H11 (some 41) 24 (.tmp 4) 3 b2 (Value.cells (uv B)) 24 (0, 0) (by kernel_rfl) (by kernel_rfl) (by kernel_rfl) (by kernel_rfl) (by kernel_rfl) ?_
  refine s_val (some 42) (.int .i64 n) (fun w => by kernel_rfl) (by kernel_rfl) ?_
  refine s_call H11 (some 43) 26 #[uv A, uv B, .int .i64 n] (.tuple #[.agg #[.int .u64 0, .int .u64 0, .int .u64 0, .int .u64 0], .int .i64 1]) (fmulNo_fn A B hA hB n h0 h1) (fun w => by kernel_rfl) (by kernel_rfl) ?_
  intro w12 H12; clear H11
  refine s_val (some 39) (.tuple #[.agg #[.int .u64 0, .int .u64 0, .int .u64 0, .int .u64 0], .int .i64 1]) (fun w => by kernel_rfl) (by kernel_rfl) ?_
  refine s_val (some 44) (.agg #[.int .u64 0, .int .u64 0, .int .u64 0, .int .u64 0]) (fun w => by kernel_rfl) (by kernel_rfl) ?_
  refine s_val (some 45) (.int .i64 1) (fun w => by kernel_rfl) (by kernel_rfl) ?_
  refine s_alloc H12 (some 13) 24 (.agg #[.int .u64 0, .int .u64 0, .int .u64 0, .int .u64 0]) (by kernel_rfl) (by kernel_rfl) (by kernel_rfl) ?_
  intro b6 w13 H13; clear H12
  refine s_store H13 0 [(b6, Obj.cells #[.int .u64 0, .int .u64 0, .int .u64 0, .int .u64 0] 24 (0, 0)), (b5, Obj.cells #[.int .u64 0, .int .u64 0, .int .u64 0, .int .u64 0] 24 (0, 0)), (b4, Obj.cells #[.int .u64 0, .int .u64 0, .int .u64 0, .int .u64 0] 24 (0, 0)), (b3, Obj.cells #[.int .u64 0, .int .u64 0, .int .u64 0, .int .u64 0] 24 (0, 0)), (b2, Obj.cells (Value.cells (uv B)) 24 (0, 0)), (b1, Obj.cells (Value.cells (uv A)) 24 (0, 0))] 24 (.tmp 13) (.tmp 44) b6 (0) #[.int .u64 0, .int .u64 0, .int .u64 0, .int .u64 0] #[.int .u64 0, .int .u64 0, .int .u64 0, .int .u64 0] 24 (.agg #[.int .u64 0, .int .u64 0, .int .u64 0, .int .u64 0]) (by kernel_rfl) (by kernel_rfl) (by kernel_rfl) (by kernel_rfl) (by kernel_rfl) (by kernel_rfl) (of_decide_eq_true (by kernel_rfl)) (by kernel_rfl) (by kernel_rfl) ?_
  intro w14 H14; clear H13
  refine s_val (some 14) (.int .i64 1) (fun w => by kernel_rfl) (by kernel_rfl) ?_
  refine s_nil ?_
  refine g_sreg [0, 1, 2, 3, 4, 5, 6, 7, 8, 9] (by kernel_rfl) (by kernel_rfl) ?_
  refine s_load H14 (some 47) 24 (.tmp 3) 5 b1 (Value.cells (uv A)) 24 (0, 0) (by kernel_rfl) (by kernel_rfl) (by kernel_rfl) (by kernel_rfl) (by kernel_rfl) ?_
  refine s_load H14 (some 48) 24 (.tmp 4) 4 b2 (Value.cells (uv B)) 24 (0, 0) (by kernel_rfl) (by kernel_rfl) (by kernel_rfl) (by kernel_rfl) (by kernel_rfl) ?_
  refine s_val (some 49) (.int .i64 n) (fun w => by kernel_rfl) (by kernel_rfl) ?_
  refine s_call H14 (some 50) 27 #[uv A, uv B, .int .i64 n] (.tuple #[.agg #[.int .u64 0, .int .u64 0, .int .u64 0, .int .u64 0], .int .i64 1]) (reduceNo_fn A B hA hB n h0 h1) (fun w => by kernel_rfl) (by kernel_rfl) ?_
  intro w15 H15; clear H14
  refine s_val (some 46) (.tuple #[.agg #[.int .u64 0, .int .u64 0, .int .u64 0, .int .u64 0], .int .i64 1]) (fun w => by kernel_rfl) (by kernel_rfl) ?_
  refine s_val (some 51) (.agg #[.int .u64 0, .int .u64 0, .int .u64 0, .int .u64 0]) (fun w => by kernel_rfl) (by kernel_rfl) ?_
  refine s_val (some 52) (.int .i64 1) (fun w => by kernel_rfl) (by kernel_rfl) ?_
  refine s_alloc H15 (some 15) 24 (.agg #[.int .u64 0, .int .u64 0, .int .u64 0, .int .u64 0]) (by kernel_rfl) (by kernel_rfl) (by kernel_rfl) ?_
  intro b7 w16 H16; clear H15
  refine s_store H16 0 [(b7, Obj.cells #[.int .u64 0, .int .u64 0, .int .u64 0, .int .u64 0] 24 (0, 0)), (b6, Obj.cells #[.int .u64 0, .int .u64 0, .int .u64 0, .int .u64 0] 24 (0, 0)), (b5, Obj.cells #[.int .u64 0, .int .u64 0, .int .u64 0, .int .u64 0] 24 (0, 0)), (b4, Obj.cells #[.int .u64 0, .int .u64 0, .int .u64 0, .int .u64 0] 24 (0, 0)), (b3, Obj.cells #[.int .u64 0, .int .u64 0, .int .u64 0, .int .u64 0] 24 (0, 0)), (b2, Obj.cells (Value.cells (uv B)) 24 (0, 0)), (b1, Obj.cells (Value.cells (uv A)) 24 (0, 0))] 24 (.tmp 15) (.tmp 51) b7 (0) #[.int .u64 0, .int .u64 0, .int .u64 0, .int .u64 0] #[.int .u64 0, .int .u64 0, .int .u64 0, .int .u64 0] 24 (.agg #[.int .u64 0, .int .u64 0, .int .u64 0, .int .u64 0]) (by kernel_rfl) (by kernel_rfl) (by kernel_rfl) (by kernel_rfl) (by kernel_rfl) (by kernel_rfl) (of_decide_eq_true (by kernel_rfl)) (by kernel_rfl) (by kernel_rfl) ?_
  intro w17 H17; clear H16
  refine s_val (some 16) (.int .i64 1) (fun w => by kernel_rfl) (by kernel_rfl) ?_
  refine s_nil ?_
  refine g_seq (by kernel_rfl) ?_
  refine g_sreg [0, 1, 2, 3, 4, 5] (by kernel_rfl) (by kernel_rfl) ?_
  refine s_val (some 53) (.int .i64 n) (fun w => by kernel_rfl) (by kernel_rfl) ?_
  refine s_valE (some 54) (.bool (!(n == 0))) (.bool true) (fun w => by kernel_rfl) (bool_eq (by rw [beq_eq_false_iff_ne.2 h0]; rfl)) (by kernel_rfl) ?_
  refine s_val (some 55) (.bool true) (fun w => by kernel_rfl) (by kernel_rfl) ?_
  refine s_val (some 56) (.int .i64 n) (fun w => by kernel_rfl) (by kernel_rfl) ?_
  refine s_valE (some 57) (.bool (!(n == 1))) (.bool true) (fun w => by kernel_rfl) (bool_eq (by rw [beq_eq_false_iff_ne.2 h1]; rfl)) (by kernel_rfl) ?_
  refine s_val (some 58) (.bool true) (fun w => by kernel_rfl) (by kernel_rfl) ?_
  refine s_nil ?_
  refine g_cond_t (by kernel_rfl) (by kernel_rfl) ?_
  refine g_sreg [0, 1, 2, 3, 4, 5, 6, 7, 8, 9, 10, 11, 12, 13, 14, 15, 16, 17, 18, 19, 20, 21, 22, 23] (by kernel_rfl) (by kernel_rfl) ?_
  refine s_load H17 (some 59) 24 (.tmp 7) 4 b3 #[.int .u64 0, .int .u64 0, .int .u64 0, .int .u64 0] 24 (0, 0) (by kernel_rfl) (by kernel_rfl) (by kernel_rfl) (by kernel_rfl) (by kernel_rfl) ?_
  refine s_load H17 (some 60) 24 (.tmp 9) 3 b4 #[.int .u64 0, .int .u64 0, .int .u64 0, .int .u64 0] 24 (0, 0) (by kernel_rfl) (by kernel_rfl) (by kernel_rfl) (by kernel_rfl) (by kernel_rfl) ?_
  refine s_opE (some 61) _ (.bool (decide (0 = 0))) (.bool true) (by kernel_rfl) (fun o w ho => eqU_run (x := (.tmp 59)) (y := (.tmp 60)) 0 0 (by unfold big; omega) (by unfold big; omega) w ho (by kernel_rfl) (by kernel_rfl)) (by rw [decide_eq_true rfl] <;> rfl) (by kernel_rfl) ?_
  refine s_val (some 62) (.bool true) (fun w => by kernel_rfl) (by kernel_rfl) ?_
  refine s_load H17 (some 63) 24 (.tmp 9) 3 b4 #[.int .u64 0, .int .u64 0, .int .u64 0, .int .u64 0] 24 (0, 0) (by kernel_rfl) (by kernel_rfl) (by kernel_rfl) (by kernel_rfl) (by kernel_rfl) ?_
  refine s_load H17 (some 64) 24 (.tmp 11) 2 b5 #[.int .u64 0, .int .u64 0, .int .u64 0, .int .u64 0] 24 (0, 0) (by kernel_rfl) (by kernel_rfl) (by kernel_rfl) (by kernel_rfl) (by kernel_rfl) ?_
  refine s_opE (some 65) _ (.bool (decide (0 = 0))) (.bool true) (by kernel_rfl) (fun o w ho => eqU_run (x := (.tmp 63)) (y := (.tmp 64)) 0 0 (by unfold big; omega) (by unfold big; omega) w ho (by kernel_rfl) (by kernel_rfl)) (by rw [decide_eq_true rfl] <;> rfl) (by kernel_rfl) ?_
  refine s_val (some 66) (.bool true) (fun w => by kernel_rfl) (by kernel_rfl) ?_
  refine s_val (some 67) (.bool true) (fun w => by kernel_rfl) (by kernel_rfl) ?_
  refine s_load H17 (some 68) 24 (.tmp 11) 2 b5 #[.int .u64 0, .int .u64 0, .int .u64 0, .int .u64 0] 24 (0, 0) (by kernel_rfl) (by kernel_rfl) (by kernel_rfl) (by kernel_rfl) (by kernel_rfl) ?_
  refine s_load H17 (some 69) 24 (.tmp 13) 1 b6 #[.int .u64 0, .int .u64 0, .int .u64 0, .int .u64 0] 24 (0, 0) (by kernel_rfl) (by kernel_rfl) (by kernel_rfl) (by kernel_rfl) (by kernel_rfl) ?_
  refine s_opE (some 70) _ (.bool (decide (0 = 0))) (.bool true) (by kernel_rfl) (fun o w ho => eqU_run (x := (.tmp 68)) (y := (.tmp 69)) 0 0 (by unfold big; omega) (by unfold big; omega) w ho (by kernel_rfl) (by kernel_rfl)) (by rw [decide_eq_true rfl] <;> rfl) (by kernel_rfl) ?_
  refine s_val (some 71) (.bool true) (fun w => by kernel_rfl) (by kernel_rfl) ?_
  refine s_val (some 72) (.bool true) (fun w => by kernel_rfl) (by kernel_rfl) ?_
  refine s_load H17 (some 73) 24 (.tmp 13) 1 b6 #[.int .u64 0, .int .u64 0, .int .u64 0, .int .u64 0] 24 (0, 0) (by kernel_rfl) (by kernel_rfl) (by kernel_rfl) (by kernel_rfl) (by kernel_rfl) ?_
  refine s_load H17 (some 74) 24 (.tmp 15) 0 b7 #[.int .u64 0, .int .u64 0, .int .u64 0, .int .u64 0] 24 (0, 0) (by kernel_rfl) (by kernel_rfl) (by kernel_rfl) (by kernel_rfl) (by kernel_rfl) ?_
  refine s_opE (some 75) _ (.bool (decide (0 = 0))) (.bool true) (by kernel_rfl) (fun o w ho => eqU_run (x := (.tmp 73)) (y := (.tmp 74)) 0 0 (by unfold big; omega) (by unfold big; omega) w ho (by kernel_rfl) (by kernel_rfl)) (by rw [decide_eq_true rfl] <;> rfl) (by kernel_rfl) ?_
  refine s_val (some 76) (.bool true) (fun w => by kernel_rfl) (by kernel_rfl) ?_
  refine s_val (some 77) (.bool true) (fun w => by kernel_rfl) (by kernel_rfl) ?_
  refine s_load H17 (some 78) 24 (.tmp 15) 0 b7 #[.int .u64 0, .int .u64 0, .int .u64 0, .int .u64 0] 24 (0, 0) (by kernel_rfl) (by kernel_rfl) (by kernel_rfl) (by kernel_rfl) (by kernel_rfl) ?_
  refine s_val (some 79) (.agg #[.int .u64 0, .int .u64 0, .int .u64 0, .int .u64 0]) (fun w => by kernel_rfl) (by kernel_rfl) ?_
  refine s_opE (some 80) _ (.bool (decide (0 = 0))) (.bool true) (by kernel_rfl) (fun o w ho => eqU_run (x := (.tmp 78)) (y := (.tmp 79)) 0 0 (by unfold big; omega) (by unfold big; omega) w ho (by kernel_rfl) (by kernel_rfl)) (by rw [decide_eq_true rfl] <;> rfl) (by kernel_rfl) ?_
  refine s_val (some 81) (.bool true) (fun w => by kernel_rfl) (by kernel_rfl) ?_
  refine s_val (some 17) (.bool true) (fun w => by kernel_rfl) (by kernel_rfl) ?_
  refine s_nil ?_
  refine g_sreg [0, 1, 2, 3, 4, 5, 6, 7, 8, 9, 10, 11, 12, 13, 14, 15, 16, 17, 18, 19, 20, 21, 22, 23, 24, 25, 26, 27, 28] (by kernel_rfl) (by kernel_rfl) ?_
  refine s_call H17 (some 82) 28 #[] (.bool true) alive02_fn (fun w => by kernel_rfl) (by kernel_rfl) ?_
  intro w18 H18; clear H17
  refine s_val (some 83) (.bool true) (fun w => by kernel_rfl) (by kernel_rfl) ?_
  refine s_val (some 84) (.bool true) (fun w => by kernel_rfl) (by kernel_rfl) ?_
  refine s_val (some 85) (.bool true) (fun w => by kernel_rfl) (by kernel_rfl) ?_
  refine s_val (some 86) (.bool true) (fun w => by kernel_rfl) (by kernel_rfl) ?_
  refine s_val (some 87) (.int .i64 1) (fun w => by kernel_rfl) (by kernel_rfl) ?_
  refine s_val (some 88) (.bool true) (fun w => by kernel_rfl) (by kernel_rfl) ?_
  refine s_val (some 89) (.bool true) (fun w => by kernel_rfl) (by kernel_rfl) ?_
  refine s_val (some 90) (.bool true) (fun w => by kernel_rfl) (by kernel_rfl) ?_
  refine s_val (some 91) (.int .i64 1) (fun w => by kernel_rfl) (by kernel_rfl) ?_
  refine s_val (some 92) (.int .i64 1) (fun w => by kernel_rfl) (by kernel_rfl) ?_
  refine s_val (some 93) (.bool true) (fun w => by kernel_rfl) (by kernel_rfl) ?_
  refine s_val (some 94) (.bool true) (fun w => by kernel_rfl) (by kernel_rfl) ?_
  refine s_val (some 95) (.bool true) (fun w => by kernel_rfl) (by kernel_rfl) ?_
  refine s_val (some 96) (.int .i64 1) (fun w => by kernel_rfl) (by kernel_rfl) ?_
  refine s_val (some 97) (.int .i64 1) (fun w => by kernel_rfl) (by kernel_rfl) ?_
  refine s_val (some 98) (.bool true) (fun w => by kernel_rfl) (by kernel_rfl) ?_
  refine s_val (some 99) (.bool true) (fun w => by kernel_rfl) (by kernel_rfl) ?_
  refine s_val (some 100) (.bool true) (fun w => by kernel_rfl) (by kernel_rfl) ?_
  refine s_val (some 101) (.int .i64 1) (fun w => by kernel_rfl) (by kernel_rfl) ?_
  refine s_val (some 102) (.int .i64 1) (fun w => by kernel_rfl) (by kernel_rfl) ?_
  refine s_val (some 103) (.bool true) (fun w => by kernel_rfl) (by kernel_rfl) ?_
  refine s_val (some 104) (.bool true) (fun w => by kernel_rfl) (by kernel_rfl) ?_
  refine s_val (some 105) (.bool true) (fun w => by kernel_rfl) (by kernel_rfl) ?_
  refine s_val (some 106) (.int .i64 1) (fun w => by kernel_rfl) (by kernel_rfl) ?_
  refine s_val (some 107) (.int .i64 1) (fun w => by kernel_rfl) (by kernel_rfl) ?_
  refine s_val (some 108) (.bool true) (fun w => by kernel_rfl) (by kernel_rfl) ?_
  refine s_val (some 109) (.bool true) (fun w => by kernel_rfl) (by kernel_rfl) ?_
  refine s_val (some 6) (.bool true) (fun w => by kernel_rfl) (by kernel_rfl) ?_
  refine s_nil ?_
  refine g_ret (by kernel_rfl) ?_
  show ∃ vs, Res _ _ _ _ vs ∧ _
  refine ⟨[.bool true], (.tmp (.bool true) (by kernel_rfl) .nil), ?_, H18.below⟩
  rfl

theorem reckons_walk (a : Nat) (ha : a < big) (b : Nat) (hb : b < big) (n : Int) (hn : (Lit.int .i64 n).wf = true) (w : World) : Calls Try.prog 6 #[uv a, uv b, .int .i64 n] w fun e w' => e = .returned (.bool true) ∧ Below w.heap.size w w' := by
  by_cases h0 : n = 0
  · subst h0; exact reckons0_fn a b ha hb w
  · by_cases h1 : n = 1
    · subst h1; exact reckons1_fn a b ha hb w
    · exact reckonsNo_fn a b ha hb n h0 h1 w
end Go.Proofs.Ythomanpefekaaaa
