/-
  KeccakMixes.
-/
import Derived.Test.YtddhadddpllbcaaDoorProg
import Derived.Test.YtddhadddpllbcaaDoorStr
import Derived.Test.YtddhadddpllbcaaDoorKecM
import Derived.Test.YtddhadddpllbcaaDoorKecRM
namespace Go.Proofs.YtddhadddpllbcaaDoor
open Go Go.RowKit Go.Proofs.Kec
set_option linter.unusedVariables false
theorem eq25_self {ρ : Env} (s : List (BitVec 64)) (hs : s.length = 25) {x y : Operand} {o : Oper} (w : World) (ho : o.op = .binOp .eql 26 x y 26) (hx : ev ρ x = .agg (Value.cells (svn s))) (hy : ev ρ y = .agg (Value.cells (svn s))) :
    (execOp (ev ρ) o).run Tryd.prog w = .ok (.value (.bool true)) w := by rw [eq25_run s s hs hs w ho hx hy, decide_eq_true rfl]

set_option maxRecDepth 100000 in
set_option maxHeartbeats 2000000 in
theorem keccakMixes_fn (s : List (BitVec 64)) (hs : s.length = 25) : FnP Tryd.prog 4 #[svn s] (Marks) (.bool true) := by
  refine FnP.intro (c := codeOf Tryd.f4) [.tmp 2] 11 Tryd.func4 (by kernel_rfl) (by kernel_rfl) (by kernel_rfl) fun w hpre => ?_
  have H0 := St.start w
  refine g_sreg [0, 1] (by kernel_rfl) (by kernel_rfl) ?_
  refine s_box H0 (some 1) 26 (.tmp 0) (svn s) (by kernel_rfl) (by kernel_rfl) (by kernel_rfl) ?_
  intro b1 w1 H1; clear H0
  refine s_val (some 2) (.bool false) (fun w => by kernel_rfl) (by kernel_rfl) ?_
  refine s_nil ?_
  refine D2.g_sdraw [0, 1, 2, 3, 4, 5, 6, 7, 8] [((some 3), fun _ => .bool true), ((some 4), fun _ => .bool true), ((some 5), fun _ => svn s), ((some 6), fun _ => svn (mix s)), ((some 7), fun _ => svn s), ((some 8), fun _ => svn (mix s)), ((some 9), fun _ => .bool true), ((some 10), fun _ => .bool true), ((some 2), fun _ => .bool true)] (D2.Pre w.heap.size w (fun L g => [(true, (b1, Obj.cells (Value.cells (svn s)) 26 (0, 0)))]) (fun L g => True)) (by kernel_rfl) (by kernel_rfl) (by kernel_rfl) (by kernel_rfl) ⟨D2.StE.of H1.drew _ (by kernel_rfl), trivial⟩ ⟨?_, ?_, ?_, ?_, ?_, ?_, ?_, ?_, ?_, trivial⟩ ?_
  · exact D2.gv_callP 7 (fun g => #[]) (fun g => Marks) (fun _ _ _ h => h) (fun L g hN hF => by exact alive_fn) (fun L g w hN hE hF => by exact (Marks.oldE hE rfl hpre)) (fun g w => by kernel_rfl)
  · exact D2.gv_val (fun _ _ _ h => h) (fun g w => by kernel_rfl)
  · exact D2.gv_load 26 (.tmp 1) 0 (fun g => b1) (Value.cells (svn s)) 26 (0, 0) (fun _ _ _ h => h) (fun g => by kernel_rfl) (fun g => by kernel_rfl) (fun L g hN => (by kernel_rfl)) (by kernel_rfl)
  · exact D2.gv_callP 10 (fun g => #[svn s]) (fun g => Marks) (fun _ _ _ h => h) (fun L g hN hF => by exact (mix_fn s)) (fun L g w hN hE hF => by exact (Marks.oldE hE rfl hpre)) (fun g w => by kernel_rfl)
  · exact D2.gv_load 26 (.tmp 1) 0 (fun g => b1) (Value.cells (svn s)) 26 (0, 0) (fun _ _ _ h => h) (fun g => by kernel_rfl) (fun g => by kernel_rfl) (fun L g hN => (by kernel_rfl)) (by kernel_rfl)
  · exact D2.gv_call 11 #[svn s] (fun _ _ _ h => h) (mixR_fn s) (fun g w => by kernel_rfl)
  · exact D2.gv_op (fun _ _ _ h => h) _ (fun g => by kernel_rfl) (fun g => (fun o w ho => eq25_self (x := (.tmp 6)) (y := (.tmp 8)) (mix s) (mix_len hs) w ho (by kernel_rfl) (by kernel_rfl)))
  · exact D2.gv_val (fun _ _ _ h => h) (fun g w => by kernel_rfl)
  · exact D2.gv_val (fun _ _ _ h => h) (fun g w => by kernel_rfl)
  intro L0 G2 w2 hall HL; clear H1
  have H2 : St w.heap.size w w2 [(b1, Obj.cells (Value.cells (svn s)) 26 (0, 0))] := D2.StE.st HL.1
  clear HL hall
  refine g_ret (by kernel_rfl) ?_
  show ∃ vs, Res _ _ _ _ vs ∧ _
  refine ⟨[.bool true], (.tmp (.bool true) (by kernel_rfl) .nil), ?_, H2.below⟩
  rfl
end Go.Proofs.YtddhadddpllbcaaDoor
