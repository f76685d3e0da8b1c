/-
  KeccakTurns.
-/
import Derived.Test.YtddhadddpllbcaaDoorProg
import Derived.Test.YtddhadddpllbcaaDoorStr
import Derived.Test.YtddhadddpllbcaaDoorKecM
import Derived.Test.YtddhadddpllbcaaDoorKecQ
namespace Go.Proofs.YtddhadddpllbcaaDoor
open Go Go.RowKit Go.Proofs.Kec
set_option linter.unusedVariables false
theorem tmod25 (a : Int) : -25 < Int.tmod a 25 ∧ Int.tmod a 25 < 25 := by
  have h1 := Int.tmod_lt_of_pos a (show (0:Int) < 25 by omega)
  have h2 := Int.lt_tmod_of_pos a (show (0:Int) < 25 by omega)
  omega
theorem pt (a : Int) : IntKind.i64.wrap (Int.tmod a 25 + 25) = ((Int.toNat (Int.tmod a 25 + 25) : Nat) : Int) := by
  have := tmod25 a
  rw [wrap_i64 (by omega) (by omega)]; omega
theorem set_turn (s : List (BitVec 64)) (k : Nat) (x : BitVec 64) (hs : s.length = 25) (hk : k < 25) : decide (mix s = mix (s.set k (nth s k ^^^ x))) = decide (x = 0) := by
  rw [decide_eq_decide]
  constructor
  · intro h
    have h2 := mix_inj hs (by simpa using hs) h
    have h3 : nth s k = nth s k ^^^ x := by
      conv => lhs; rw [h2]
      rw [nth_set s k k _ (by omega), if_pos rfl]
    have h4 : nth s k ^^^ nth s k = nth s k ^^^ (nth s k ^^^ x) := by rw [← h3]
    rw [BitVec.xor_self, ← BitVec.xor_assoc, BitVec.xor_self, BitVec.zero_xor] at h4
    exact h4.symm
  · rintro rfl
    show mix s = mix (s.set k (nth s k ^^^ 0#64))
    rw [BitVec.xor_zero]
    congr 1
    apply List.ext_getElem (by simp)
    intro i h1 h2
    rw [List.getElem_set]
    split
    · rename_i e; subst e; simp [nth, h1]
    · rfl
theorem zero_bv (x : BitVec 64) : (((BitVec.toNat x : Nat) : Int) == 0) = decide (x = 0) := by
  rw [Bool.eq_iff_iff, beq_iff_eq, decide_eq_true_iff]
  constructor
  · intro h; exact BitVec.eq_of_toNat_eq (by simpa using h)
  · rintro rfl; rfl

set_option maxRecDepth 100000 in
set_option maxHeartbeats 2000000 in
theorem keccakTurns_fn (s : List (BitVec 64)) (hs : s.length = 25) (a : Int) (x : BitVec 64) : FnP Tryd.prog 6 #[svn s, .int .i64 a, .int .u64 ((BitVec.toNat x : Nat) : Int)] (Marks) (.bool true) := by
  refine FnP.intro (c := codeOf Tryd.f6) [.tmp 6] 30 Tryd.func6 (by kernel_rfl) (by kernel_rfl) (by kernel_rfl) fun w hpre => ?_
  have H0 := St.start w
  refine g_sreg [0, 1] (by kernel_rfl) (by kernel_rfl) ?_
  refine s_box H0 (some 3) 26 (.tmp 0) (svn s) (by kernel_rfl) (by kernel_rfl) (by kernel_rfl) ?_
  intro b1 w1 H1; clear H0
  refine s_val (some 6) (.bool false) (fun w => by kernel_rfl) (by kernel_rfl) ?_
  refine s_nil ?_
  refine g_sreg [0, 1, 2, 3, 4] (by kernel_rfl) (by kernel_rfl) ?_
  refine s_val (some 8) (.int .i64 a) (fun w => by kernel_rfl) (by kernel_rfl) ?_
  refine s_val (some 9) (.int .i64 (Int.tmod a 25)) (fun w => by kernel_rfl) (by kernel_rfl) ?_
  refine s_valE (some 10) (.int .i64 (IntKind.i64.wrap (Int.tmod a 25 + 25))) (.int .i64 ((Int.toNat (Int.tmod a 25 + 25) : Nat) : Int)) (fun w => by kernel_rfl) (int_eq (pt a)) (by kernel_rfl) ?_
  refine s_valE (some 11) (.int .i64 (Int.tmod ((Int.toNat (Int.tmod a 25 + 25) : Nat) : Int) 25)) (.int .i64 (((Int.toNat (Int.tmod a 25 + 25)) % 25 : Nat) : Int)) (fun w => by kernel_rfl) (int_eq (remN (Int.toNat (Int.tmod a 25 + 25)) 25)) (by kernel_rfl) ?_
  refine s_val (some 1) (.int .i64 (((Int.toNat (Int.tmod a 25 + 25)) % 25 : Nat) : Int)) (fun w => by kernel_rfl) (by kernel_rfl) ?_
  refine s_nil ?_
  refine g_sreg [0, 1, 2] (by kernel_rfl) (by kernel_rfl) ?_
  refine s_load H1 (some 12) 26 (.tmp 3) 0 b1 (Value.cells (svn s)) 26 (0, 0) (by kernel_rfl) (by kernel_rfl) (by kernel_rfl) (by kernel_rfl) (by kernel_rfl) ?_
  refine s_alloc H1 (some 7) 26 (.agg #[.int .u64 0, .int .u64 0, .int .u64 0, .int .u64 0, .int .u64 0, .int .u64 0, .int .u64 0, .int .u64 0, .int .u64 0, .int .u64 0, .int .u64 0, .int .u64 0, .int .u64 0, .int .u64 0, .int .u64 0, .int .u64 0, .int .u64 0, .int .u64 0, .int .u64 0, .int .u64 0, .int .u64 0, .int .u64 0, .int .u64 0, .int .u64 0, .int .u64 0]) (by kernel_rfl) (by kernel_rfl) (by kernel_rfl) ?_
  intro b2 w2 H2; clear H1
  refine s_store H2 0 [(b2, Obj.cells (Value.cells (svn s)) 26 (0, 0)), (b1, Obj.cells (Value.cells (svn s)) 26 (0, 0))] 26 (.tmp 7) (.tmp 12) b2 (0) #[.int .u64 0, .int .u64 0, .int .u64 0, .int .u64 0, .int .u64 0, .int .u64 0, .int .u64 0, .int .u64 0, .int .u64 0, .int .u64 0, .int .u64 0, .int .u64 0, .int .u64 0, .int .u64 0, .int .u64 0, .int .u64 0, .int .u64 0, .int .u64 0, .int .u64 0, .int .u64 0, .int .u64 0, .int .u64 0, .int .u64 0, .int .u64 0, .int .u64 0] (Value.cells (svn s)) 26 (svn s) (by kernel_rfl) (by kernel_rfl) (by kernel_rfl) (by kernel_rfl) (by kernel_rfl) (by kernel_rfl) (of_decide_eq_true (by kernel_rfl)) (by kernel_rfl) (by kernel_rfl) ?_
  intro w3 H3; clear H2
  refine s_nil ?_
  refine g_sreg [0, 1, 2, 3, 4, 5, 6] (by kernel_rfl) (by kernel_rfl) ?_
  refine s_val (some 13) (.int .i64 (((Int.toNat (Int.tmod a 25 + 25)) % 25 : Nat) : Int)) (fun w => by kernel_rfl) (by kernel_rfl) ?_
  refine s_op (some 14) _ (.pointer (some ⟨b2, 0 + ((Int.toNat (Int.tmod a 25 + 25)) % 25) * 1, none⟩)) (by kernel_rfl) (by kernel_rfl) (fun o w ho => idxA_run (kd := .i64) (t := 26) (n := 25) (size := 1) (by kernel_rfl) (x := (.tmp 7)) (y := (.tmp 13)) b2 0 ((Int.toNat (Int.tmod a 25 + 25)) % 25) ho (by kernel_rfl) (by kernel_rfl) (by omega) w) ?_
  refine s_load1 H3 (some 15) 25 (.tmp 14) 0 b2 (0 + ((Int.toNat (Int.tmod a 25 + 25)) % 25) * 1) (Value.cells (svn s)) 26 (0, 0) (.int .u64 ((BitVec.toNat (nth s (Int.toNat (Int.tmod a 25 + 25) % 25)) : Nat) : Int)) (by kernel_rfl) (by kernel_rfl) (by kernel_rfl) (by kernel_rfl) (by kernel_rfl) (svn_at s (Int.toNat (Int.tmod a 25 + 25) % 25) _ (by omega) (by omega)) ?_
  refine s_val (some 16) (.int .u64 ((BitVec.toNat x : Nat) : Int)) (fun w => by kernel_rfl) (by kernel_rfl) ?_
  refine s_valE (some 17) (.int .u64 (Go.bits .xor .u64 (((BitVec.toNat (nth s (Int.toNat (Int.tmod a 25 + 25) % 25)) : Nat) : Int)) (((BitVec.toNat x : Nat) : Int)))) (.int .u64 ((BitVec.toNat ((nth s (Int.toNat (Int.tmod a 25 + 25) % 25)) ^^^ x) : Nat) : Int)) (fun w => by kernel_rfl) (bv_xor_u64 (nth s (Int.toNat (Int.tmod a 25 + 25) % 25)) x) (by kernel_rfl) ?_
  refine s_op (some 18) _ (.pointer (some ⟨b2, 0 + ((Int.toNat (Int.tmod a 25 + 25)) % 25) * 1, none⟩)) (by kernel_rfl) (by kernel_rfl) (fun o w ho => idxA_run (kd := .i64) (t := 26) (n := 25) (size := 1) (by kernel_rfl) (x := (.tmp 7)) (y := (.tmp 13)) b2 0 ((Int.toNat (Int.tmod a 25 + 25)) % 25) ho (by kernel_rfl) (by kernel_rfl) (by omega) w) ?_
  refine s_store H3 0 [(b2, Obj.cells (Value.cells (svn (s.set (Int.toNat (Int.tmod a 25 + 25) % 25) (nth s (Int.toNat (Int.tmod a 25 + 25) % 25) ^^^ x)))) 26 (0, 0)), (b1, Obj.cells (Value.cells (svn s)) 26 (0, 0))] 25 (.tmp 18) (.tmp 17) b2 (0 + ((Int.toNat (Int.tmod a 25 + 25)) % 25) * 1) (Value.cells (svn s)) (Value.cells (svn (s.set (Int.toNat (Int.tmod a 25 + 25) % 25) (nth s (Int.toNat (Int.tmod a 25 + 25) % 25) ^^^ x)))) 26 (.int .u64 ((BitVec.toNat ((nth s (Int.toNat (Int.tmod a 25 + 25) % 25)) ^^^ x) : Nat) : Int)) (by kernel_rfl) (by kernel_rfl) (by kernel_rfl) (by kernel_rfl) (by kernel_rfl) (by kernel_rfl) (by show _ + 1 ≤ 25; omega) (svn_put s (Int.toNat (Int.tmod a 25 + 25) % 25) _ ((nth s (Int.toNat (Int.tmod a 25 + 25) % 25)) ^^^ x) hs (by omega) (by omega)) (by kernel_rfl) ?_
  intro w4 H4; clear H3
  refine s_nil ?_
  refine D2.g_sdraw [0, 1, 2, 3, 4, 5, 6, 7, 8, 9, 10, 11] [((some 19), fun _ => .bool true), ((some 20), fun _ => .bool true), ((some 21), fun _ => svn s), ((some 22), fun _ => svn (mix s)), ((some 23), fun _ => svn (s.set (Int.toNat (Int.tmod a 25 + 25) % 25) (nth s (Int.toNat (Int.tmod a 25 + 25) % 25) ^^^ x))), ((some 24), fun _ => svn (mix (s.set (Int.toNat (Int.tmod a 25 + 25) % 25) (nth s (Int.toNat (Int.tmod a 25 + 25) % 25) ^^^ x)))), ((some 25), fun _ => .bool (decide ((mix s) = (mix (s.set (Int.toNat (Int.tmod a 25 + 25) % 25) (nth s (Int.toNat (Int.tmod a 25 + 25) % 25) ^^^ x)))))), ((some 26), fun _ => .int .u64 ((BitVec.toNat x : Nat) : Int)), ((some 27), fun _ => .bool (decide ((mix s) = (mix (s.set (Int.toNat (Int.tmod a 25 + 25) % 25) (nth s (Int.toNat (Int.tmod a 25 + 25) % 25) ^^^ x)))))), ((some 28), fun _ => .bool true), ((some 29), fun _ => .bool true), ((some 6), fun _ => .bool true)] (D2.Pre w.heap.size w (fun L g => [(true, (b2, Obj.cells (Value.cells (svn (s.set (Int.toNat (Int.tmod a 25 + 25) % 25) (nth s (Int.toNat (Int.tmod a 25 + 25) % 25) ^^^ x)))) 26 (0, 0))), (true, (b1, Obj.cells (Value.cells (svn s)) 26 (0, 0)))]) (fun L g => True)) (by kernel_rfl) (by kernel_rfl) (by kernel_rfl) (by kernel_rfl) ⟨D2.StE.of H4.drew _ (by kernel_rfl), trivial⟩ ⟨?_, ?_, ?_, ?_, ?_, ?_, ?_, ?_, ?_, ?_, ?_, ?_, trivial⟩ ?_
  · exact D2.gv_callP 7 (fun g => #[]) (fun g => Marks) (fun _ _ _ h => h) (fun L g hN hF => by exact alive_fn) (fun L g w hN hE hF => by exact (Marks.oldE hE rfl hpre)) (fun g w => by kernel_rfl)
  · exact D2.gv_val (fun _ _ _ h => h) (fun g w => by kernel_rfl)
  · exact D2.gv_load 26 (.tmp 3) 1 (fun g => b1) (Value.cells (svn s)) 26 (0, 0) (fun _ _ _ h => h) (fun g => by kernel_rfl) (fun g => by kernel_rfl) (fun L g hN => (by kernel_rfl)) (by kernel_rfl)
  · exact D2.gv_callP 10 (fun g => #[svn s]) (fun g => Marks) (fun _ _ _ h => h) (fun L g hN hF => by exact (mix_fn s)) (fun L g w hN hE hF => by exact (Marks.oldE hE rfl hpre)) (fun g w => by kernel_rfl)
  · exact D2.gv_load 26 (.tmp 7) 0 (fun g => b2) (Value.cells (svn (s.set (Int.toNat (Int.tmod a 25 + 25) % 25) (nth s (Int.toNat (Int.tmod a 25 + 25) % 25) ^^^ x)))) 26 (0, 0) (fun _ _ _ h => h) (fun g => by kernel_rfl) (fun g => by kernel_rfl) (fun L g hN => (by kernel_rfl)) (by kernel_rfl)
  · exact D2.gv_callP 10 (fun g => #[svn (s.set (Int.toNat (Int.tmod a 25 + 25) % 25) (nth s (Int.toNat (Int.tmod a 25 + 25) % 25) ^^^ x))]) (fun g => Marks) (fun _ _ _ h => h) (fun L g hN hF => by exact (mix_fn (s.set (Int.toNat (Int.tmod a 25 + 25) % 25) (nth s (Int.toNat (Int.tmod a 25 + 25) % 25) ^^^ x)))) (fun L g w hN hE hF => by exact (Marks.oldE hE rfl hpre)) (fun g w => by kernel_rfl)
  · exact D2.gv_op (fun _ _ _ h => h) _ (fun g => by kernel_rfl) (fun g => (fun o w ho => eq25_run (x := (.tmp 22)) (y := (.tmp 24)) (mix s) (mix (s.set (Int.toNat (Int.tmod a 25 + 25) % 25) (nth s (Int.toNat (Int.tmod a 25 + 25) % 25) ^^^ x))) (mix_len hs) (mix_len (by simpa using hs)) w ho (by kernel_rfl) (by kernel_rfl)))
  · exact D2.gv_val (fun _ _ _ h => h) (fun g w => by kernel_rfl)
  · exact D2.gv_valE (fun _ _ _ h => h) (V' := .bool (((BitVec.toNat x : Nat) : Int) == 0)) (fun g w => by kernel_rfl) (bool_eq ((zero_bv x).trans (set_turn s (Int.toNat (Int.tmod a 25 + 25) % 25) x hs (by omega)).symm))
  · exact D2.gv_valE (fun _ _ _ h => h) (V' := .bool (decide ((mix s) = (mix (s.set (Int.toNat (Int.tmod a 25 + 25) % 25) (nth s (Int.toNat (Int.tmod a 25 + 25) % 25) ^^^ x)))) == decide ((mix s) = (mix (s.set (Int.toNat (Int.tmod a 25 + 25) % 25) (nth s (Int.toNat (Int.tmod a 25 + 25) % 25) ^^^ x)))))) (fun g w => by kernel_rfl) (bool_eq (beq_self_eq_true _))
  · exact D2.gv_val (fun _ _ _ h => h) (fun g w => by kernel_rfl)
  · exact D2.gv_val (fun _ _ _ h => h) (fun g w => by kernel_rfl)
  intro L0 G5 w5 hall HL; clear H4
  have H5 : St w.heap.size w w5 [(b2, Obj.cells (Value.cells (svn (s.set (Int.toNat (Int.tmod a 25 + 25) % 25) (nth s (Int.toNat (Int.tmod a 25 + 25) % 25) ^^^ x)))) 26 (0, 0)), (b1, Obj.cells (Value.cells (svn s)) 26 (0, 0))] := D2.StE.st HL.1
  clear HL hall
  refine g_ret (by kernel_rfl) ?_
  show ∃ vs, Res _ _ _ _ vs ∧ _
  refine ⟨[.bool true], (.tmp (.bool true) (by kernel_rfl) .nil), ?_, H5.below⟩
  rfl
end Go.Proofs.YtddhadddpllbcaaDoor
