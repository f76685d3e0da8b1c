/-
  A text taken in.
-/
import Derived.Test.YtjhldipeicpoeaaDoorProg
import Derived.Test.YtjhldipeicpoeaaDoorShaM
import Derived.Test.YtjhldipeicpoeaaDoorShaB
namespace Go.Proofs.YtjhldipeicpoeaaDoor
open Go Go.RowKit Go.Proofs.Sha
set_option linter.unusedVariables false
theorem step1_pos (q : Pd) (v : Nat) (u : UInt8) (hv : u.toNat = v) (h : (q.n + 1) % 64 = 0) : step1 q u = Pd.mk (become q.s (lay q.b (q.n % 64) v)) [] (q.n + 1) := by subst hv; exact if_pos h
theorem step1_neg (q : Pd) (v : Nat) (u : UInt8) (hv : u.toNat = v) (h : ¬ (q.n + 1) % 64 = 0) : step1 q u = Pd.mk q.s (lay q.b (q.n % 64) v) (q.n + 1) := by subst hv; exact if_neg h
theorem take_stepS {p q : Pd} {t : ByteArray} {k : Nat} (h : takeB p ((tl t).take k) = q) (hk : k < ByteArray.size t) : takeB p ((tl t).take (k + 1)) = step1 q ((tl t).getD k 0) := by
  have hk' : k < (tl t).length := hk
  rw [List.take_add_one, List.getElem?_eq_getElem hk', Option.toList_some, takeB_append, h, List.getD_eq_getElem?_getD, List.getElem?_eq_getElem hk']; rfl

set_option maxRecDepth 100000 in
set_option maxHeartbeats 2000000 in
theorem take_fn (p : Pd) (t : ByteArray) (hp : p.n ≤ 2000000000000000000) (ht : ByteArray.size t ≤ 2000000000000000000) : FnP Tryd.prog 18 #[pdV p, .string t] (Roots) (pdV (takeB p (tl t))) := by
  refine FnP.intro (c := codeOf Tryd.f18) [.cell 4 45] 50 Tryd.func18 (by kernel_rfl) (by kernel_rfl) (by kernel_rfl) fun w hpre => ?_
  have H0 := St.start w
  refine g_sreg [0, 1] (by kernel_rfl) (by kernel_rfl) ?_
  refine s_box H0 (some 2) 45 (.tmp 0) (pdV p) (by kernel_rfl) (by kernel_rfl) (by kernel_rfl) ?_
  intro b1 w1 H1; clear H0
  refine s_alloc H1 (some 4) 45 (.agg #[.int .u32 0, .int .u32 0, .int .u32 0, .int .u32 0, .int .u32 0, .int .u32 0, .int .u32 0, .int .u32 0, .int .u32 0, .int .u32 0, .int .u32 0, .int .u32 0, .int .u32 0, .int .u32 0, .int .u32 0, .int .u32 0, .int .u32 0, .int .u32 0, .int .u32 0, .int .u32 0, .int .u32 0, .int .u32 0, .int .u32 0, .int .u32 0, .int .u64 0]) (by kernel_rfl) (by kernel_rfl) (by kernel_rfl) ?_
  intro b2 w2 H2; clear H1
  refine s_nil ?_
  refine g_seq (by kernel_rfl) ?_
  refine g_sreg [0, 1, 2] (by kernel_rfl) (by kernel_rfl) ?_
  refine s_val (some 7) (.string t) (fun w => by kernel_rfl) (by kernel_rfl) ?_
  refine s_val (some 8) (.int .i64 ((ByteArray.size t : Nat) : Int)) (fun w => by kernel_rfl) (by kernel_rfl) ?_
  refine s_val (some 9) (.int .i64 0) (fun w => by kernel_rfl) (by kernel_rfl) ?_
  refine s_nil ?_
  refine g_block 0 (by kernel_rfl) ?_
  have HF1 : St w.heap.size w w2 [(b2, Obj.cells #[.int .u32 0, .int .u32 0, .int .u32 0, .int .u32 0, .int .u32 0, .int .u32 0, .int .u32 0, .int .u32 0, .int .u32 0, .int .u32 0, .int .u32 0, .int .u32 0, .int .u32 0, .int .u32 0, .int .u32 0, .int .u32 0, .int .u32 0, .int .u32 0, .int .u32 0, .int .u32 0, .int .u32 0, .int .u32 0, .int .u32 0, .int .u32 0, .int .u64 0] 45 (0, 0)), (b1, Obj.cells (Value.cells (pdV p)) 45 (0, 0))] := H2.front 0 (by kernel_rfl) (by kernel_rfl)
  have HF2 : St w.heap.size w w2 [(b1, Obj.cells (Value.cells (pdV p)) 45 (0, 0)), (b2, Obj.cells #[.int .u32 0, .int .u32 0, .int .u32 0, .int .u32 0, .int .u32 0, .int .u32 0, .int .u32 0, .int .u32 0, .int .u32 0, .int .u32 0, .int .u32 0, .int .u32 0, .int .u32 0, .int .u32 0, .int .u32 0, .int .u32 0, .int .u32 0, .int .u32 0, .int .u32 0, .int .u32 0, .int .u32 0, .int .u32 0, .int .u32 0, .int .u32 0, .int .u64 0] 45 (0, 0))] := HF1.front 1 (by kernel_rfl) (by kernel_rfl)
  refine g_loop (by kernel_rfl) (fun mz ρ ww => ∃ (q : Pd) (k : Nat), ByteArray.size t - k = mz ∧ (k ≤ ByteArray.size t) ∧ (q.n = p.n + k) ∧ (takeB p ((tl t).take k) = q) ∧ St w.heap.size w ww [(b1, Obj.cells (Value.cells (pdV q)) 45 (0, 0)), (b2, Obj.cells #[.int .u32 0, .int .u32 0, .int .u32 0, .int .u32 0, .int .u32 0, .int .u32 0, .int .u32 0, .int .u32 0, .int .u32 0, .int .u32 0, .int .u32 0, .int .u32 0, .int .u32 0, .int .u32 0, .int .u32 0, .int .u32 0, .int .u32 0, .int .u32 0, .int .u32 0, .int .u32 0, .int .u32 0, .int .u32 0, .int .u32 0, .int .u32 0, .int .u64 0] 45 (0, 0))] ∧ Is [(0, pdV p), (1, .string t), (2, .pointer (some ⟨b1, 0, none⟩)), (4, .pointer (some ⟨b2, 0, none⟩)), (8, .int .i64 ((ByteArray.size t : Nat) : Int)), (9, .int .i64 ((k : Nat) : Int))] ρ) (ByteArray.size t - 0) ⟨p, 0, rfl, (by omega), (by omega), rfl, HF2, (Is.of ⟨(by kernel_rfl), (by kernel_rfl), (by kernel_rfl), (by kernel_rfl), (by kernel_rfl), (by kernel_rfl), trivial⟩)⟩ ?_
  clear HF2
  rintro _ _ w3 ⟨q, k, rfl, hk, hqn, htk, H3, _, rfl⟩
  have hbl := by_lt t k
  refine g_sreg [0] (by kernel_rfl) (by kernel_rfl) ?_
  by_cases hc3 : (k : Nat) < ByteArray.size t
  · skip
    refine s_valE (some 10) (.bool (decide (((k : Nat) : Int) < ((ByteArray.size t : Nat) : Int)))) (.bool true) (fun w => by kernel_rfl) (bool_eq (decide_eq_true (by omega))) (by kernel_rfl) ?_
    refine s_nil ?_
    refine g_seq (by kernel_rfl) ?_
    refine g_cond_t (by kernel_rfl) (by kernel_rfl) ?_
    refine g_skip (by kernel_rfl) ?_
    show WP _ _ _ _ _ _
    refine g_seq (by kernel_rfl) ?_
    refine g_block 1 (by kernel_rfl) ?_
    refine g_sreg [0, 1] (by kernel_rfl) (by kernel_rfl) ?_
    refine s_val (some 11) (.int .i64 ((k : Nat) : Int)) (fun w => by kernel_rfl) (by kernel_rfl) ?_
    refine s_val (some 5) (.int .i64 ((k : Nat) : Int)) (fun w => by kernel_rfl) (by kernel_rfl) ?_
    refine s_nil ?_
    refine g_sreg [0, 1, 2, 3] (by kernel_rfl) (by kernel_rfl) ?_
    refine s_val (some 12) (.pointer (some ⟨b1, 24, none⟩)) (fun w => by kernel_rfl) (by kernel_rfl) ?_
    refine s_load1 H3 (some 13) 43 (.tmp 12) 0 b1 24 (Value.cells (pdV q)) 45 (0, 0) (.int .u64 ((Pd.n q : Nat) : Int)) (by kernel_rfl) (by kernel_rfl) (by kernel_rfl) (by kernel_rfl) (by kernel_rfl) (by kernel_rfl) ?_
    refine s_valE (some 14) (.int .u64 (Int.tmod ((Pd.n q : Nat) : Int) 64)) (.int .u64 (((Pd.n q) % 64 : Nat) : Int)) (fun w => by kernel_rfl) (int_eq (remN (Pd.n q) 64)) (by kernel_rfl) ?_
    refine s_val (some 6) (.int .u64 (((Pd.n q) % 64 : Nat) : Int)) (fun w => by kernel_rfl) (by kernel_rfl) ?_
    refine s_nil ?_
    refine D2.g_sdraw [0, 1, 2, 3, 4, 5, 6, 7, 8, 9, 10, 11, 12, 13, 14, 15, 16, 17] [((some 15), fun _ => .int .u64 (((Pd.n q) % 64 : Nat) : Int)), ((some 16), fun _ => .int .u64 ((((Pd.n q) % 64) / 4 : Nat) : Int)), ((some 17), fun _ => .pointer (some ⟨b1, 8, none⟩)), ((some 18), fun _ => .pointer (some ⟨b1, 8 + (((Pd.n q) % 64) / 4) * 1, none⟩)), ((some 19), fun _ => .int .u32 ((BitVec.toNat (nth (Pd.b q) (q.n % 64 / 4)) : Nat) : Int)), ((some 20), fun _ => .string t), ((some 21), fun _ => .int .i64 ((k : Nat) : Int)), ((some 22), fun _ => .int .u8 ((by_ t k : Nat) : Int)), ((some 23), fun _ => .int .u32 ((BitVec.toNat (BitVec.ofNat 32 (by_ t k)) : Nat) : Int)), ((some 24), fun _ => .int .u64 (((Pd.n q) % 64 : Nat) : Int)), ((some 25), fun _ => .int .u64 ((((Pd.n q) % 64) % 4 : Nat) : Int)), ((some 26), fun _ => .int .u64 ((3 - (((Pd.n q) % 64) % 4) : Nat) : Int)), ((some 27), fun _ => .int .u64 ((8 * (3 - (((Pd.n q) % 64) % 4)) : Nat) : Int)), ((some 28), fun _ => .int .u32 ((BitVec.toNat ((BitVec.ofNat 32 (by_ t k)) <<< (8 * (3 - (((Pd.n q) % 64) % 4)))) : Nat) : Int)), ((some 29), fun _ => .int .u32 ((BitVec.toNat ((nth (Pd.b q) (q.n % 64 / 4)) ||| ((BitVec.ofNat 32 (by_ t k)) <<< (8 * (3 - (((Pd.n q) % 64) % 4))))) : Nat) : Int)), ((some 30), fun _ => .pointer (some ⟨b1, 8, none⟩)), ((some 31), fun _ => .pointer (some ⟨b1, 8 + (((Pd.n q) % 64) / 4) * 1, none⟩)), (none, fun _ => undef)] (D2.Pre w.heap.size w (fun L g => [(true, (bif L 17 then (b1, Obj.cells (Value.cells (pdV (Pd.mk q.s (lay q.b (q.n % 64) (by_ t k)) q.n))) 45 (0, 0)) else (b1, Obj.cells (Value.cells (pdV q)) 45 (0, 0)))), (true, (b2, Obj.cells #[.int .u32 0, .int .u32 0, .int .u32 0, .int .u32 0, .int .u32 0, .int .u32 0, .int .u32 0, .int .u32 0, .int .u32 0, .int .u32 0, .int .u32 0, .int .u32 0, .int .u32 0, .int .u32 0, .int .u32 0, .int .u32 0, .int .u32 0, .int .u32 0, .int .u32 0, .int .u32 0, .int .u32 0, .int .u32 0, .int .u32 0, .int .u32 0, .int .u64 0] 45 (0, 0)))]) (fun L g => True)) (by kernel_rfl) (by kernel_rfl) (by kernel_rfl) (by kernel_rfl) ⟨D2.StE.of H3.drew _ (by kernel_rfl), trivial⟩ ⟨?_, ?_, ?_, ?_, ?_, ?_, ?_, ?_, ?_, ?_, ?_, ?_, ?_, ?_, ?_, ?_, ?_, ?_, trivial⟩ ?_
    · exact D2.gv_val (fun _ _ _ h => h) (fun g w => by kernel_rfl)
    · exact D2.gv_valE (fun _ _ _ h => h) (V' := .int .u64 (IntKind.u64.wrap ((((Pd.n q) % 64 : Nat) : Int).tdiv 4))) (fun g w => by kernel_rfl) (int_eq (quoN_u64 (a := (Pd.n q) % 64) (b := 4) (by omega)))
    · exact D2.gv_val (fun _ _ _ h => h) (fun g w => by kernel_rfl)
    · exact D2.gv_op (fun _ _ _ h => h) _ (fun g => by kernel_rfl) (fun g => (fun o w ho => idxA_run (kd := .u64) (t := 42) (n := 16) (size := 1) (by kernel_rfl) (x := (.tmp 17)) (y := (.tmp 16)) b1 8 (((Pd.n q) % 64) / 4) ho (by kernel_rfl) (by kernel_rfl) (by omega) w))
    · exact D2.gv_load1 30 (.tmp 18) 0 (fun g => b1) (fun g => 8 + (((Pd.n q) % 64) / 4) * 1) (fun g => (Value.cells (pdV q))) 45 (0, 0) (fun _ _ _ h => h) (fun g => by kernel_rfl) (fun g => by kernel_rfl) (fun L g hN => (by have hL17 : L 17 = false := (hN.post 17 (by kernel_rfl)); exact D2.ent_get' (p := true) (e := (bif L 17 then (b1, Obj.cells (Value.cells (pdV (Pd.mk q.s (lay q.b (q.n % 64) (by_ t k)) q.n))) 45 (0, 0)) else (b1, Obj.cells (Value.cells (pdV q)) 45 (0, 0)))) (by kernel_rfl) (by rfl) (by simp only [hL17, cond_true, cond_false] <;> rfl))) (by kernel_rfl) (fun L g hN hF => by exact (pd_at q (k := q.n % 64 / 4) (by omega) (by omega)))
    · exact D2.gv_val (fun _ _ _ h => h) (fun g w => by kernel_rfl)
    · exact D2.gv_val (fun _ _ _ h => h) (fun g w => by kernel_rfl)
    · exact D2.gv_op (fun _ _ _ h => h) _ (fun g => by kernel_rfl) (fun g => (fun o w ho => sindex_run (t := 9) (kd := .i64) (by kernel_rfl) (x := (.tmp 20)) (y := (.tmp 21)) t k ho (by kernel_rfl) (by kernel_rfl) (by omega) w))
    · exact D2.gv_valE (fun _ _ _ h => h) (V' := .int .u32 (IntKind.u32.wrap (((by_ t k : Nat) : Int)))) (fun g w => by kernel_rfl) (bv_ofNat_u32 (by_ t k))
    · exact D2.gv_val (fun _ _ _ h => h) (fun g w => by kernel_rfl)
    · exact D2.gv_valE (fun _ _ _ h => h) (V' := .int .u64 (Int.tmod (((Pd.n q) % 64 : Nat) : Int) 4)) (fun g w => by kernel_rfl) (int_eq (remN ((Pd.n q) % 64) 4))
    · exact D2.gv_valE (fun _ _ _ h => h) (V' := .int .u64 (IntKind.u64.wrap (3 - ((((Pd.n q) % 64) % 4 : Nat) : Int)))) (fun g w => by kernel_rfl) (int_eq (wrapSub_u64 (a := 3) (b := ((Pd.n q) % 64) % 4) (by omega)))
    · exact D2.gv_valE (fun _ _ _ h => h) (V' := .int .u64 (IntKind.u64.wrap (8 * ((3 - (((Pd.n q) % 64) % 4) : Nat) : Int)))) (fun g w => by kernel_rfl) (int_eq (wrapMul_u64 (a := 8) (b := 3 - (((Pd.n q) % 64) % 4)) (by omega)))
    · exact D2.gv_valE (fun _ _ _ h => h) (V' := .int .u32 (IntKind.u32.wrap ((((BitVec.toNat (BitVec.ofNat 32 (by_ t k)) : Nat) : Int)) * 2 ^ (min (8 * (3 - (((Pd.n q) % 64) % 4))) 32)))) (fun g w => by kernel_rfl) (bv_shl_u32 (BitVec.ofNat 32 (by_ t k)) (8 * (3 - (((Pd.n q) % 64) % 4))))
    · exact D2.gv_valE (fun _ _ _ h => h) (V' := .int .u32 (Go.bits .or .u32 (((BitVec.toNat (nth (Pd.b q) (q.n % 64 / 4)) : Nat) : Int)) (((BitVec.toNat ((BitVec.ofNat 32 (by_ t k)) <<< (8 * (3 - (((Pd.n q) % 64) % 4)))) : Nat) : Int)))) (fun g w => by kernel_rfl) (bv_or_u32 (nth (Pd.b q) (q.n % 64 / 4)) ((BitVec.ofNat 32 (by_ t k)) <<< (8 * (3 - (((Pd.n q) % 64) % 4)))))
    · exact D2.gv_val (fun _ _ _ h => h) (fun g w => by kernel_rfl)
    · exact D2.gv_op (fun _ _ _ h => h) _ (fun g => by kernel_rfl) (fun g => (fun o w ho => idxA_run (kd := .u64) (t := 42) (n := 16) (size := 1) (by kernel_rfl) (x := (.tmp 30)) (y := (.tmp 16)) b1 8 (((Pd.n q) % 64) / 4) ho (by kernel_rfl) (by kernel_rfl) (by omega) w))
    · exact D2.gv_store 0 30 (.tmp 31) (.tmp 29) (fun g => b1) (fun g => 8 + (((Pd.n q) % 64) / 4) * 1) (Value.cells (pdV q)) (Value.cells (pdV (Pd.mk q.s (lay q.b (q.n % 64) (by_ t k)) q.n))) 45 (.int .u32 ((BitVec.toNat ((nth (Pd.b q) (q.n % 64 / 4)) ||| ((BitVec.ofNat 32 (by_ t k)) <<< (8 * (3 - (((Pd.n q) % 64) % 4))))) : Nat) : Int)) (fun g => by kernel_rfl) (fun g => by kernel_rfl) (fun g => by kernel_rfl) (by kernel_rfl) (by kernel_rfl) (fun g => (by show _ + 1 ≤ 25; omega)) (fun g => (pd_put q (k := q.n % 64 / 4) (x := (nth (Pd.b q) (q.n % 64 / 4)) ||| ((BitVec.ofNat 32 (by_ t k)) <<< (8 * (3 - (((Pd.n q) % 64) % 4))))) (by omega) (by omega))) (fun L g hN => ⟨(by have hL17 : L 17 = false := hN.1; exact D2.ent_get' (p := true) (e := (bif L 17 then (b1, Obj.cells (Value.cells (pdV (Pd.mk q.s (lay q.b (q.n % 64) (by_ t k)) q.n))) 45 (0, 0)) else (b1, Obj.cells (Value.cells (pdV q)) 45 (0, 0)))) (by kernel_rfl) (by rfl) (by simp only [hL17, cond_true, cond_false] <;> rfl)), (by kernel_rfl)⟩) (fun L g hN hF => hF)
    intro L0 G4 w4 hall HL; clear H3
    have H4 : St w.heap.size w w4 [(b1, Obj.cells (Value.cells (pdV (Pd.mk q.s (lay q.b (q.n % 64) (by_ t k)) q.n))) 45 (0, 0)), (b2, Obj.cells #[.int .u32 0, .int .u32 0, .int .u32 0, .int .u32 0, .int .u32 0, .int .u32 0, .int .u32 0, .int .u32 0, .int .u32 0, .int .u32 0, .int .u32 0, .int .u32 0, .int .u32 0, .int .u32 0, .int .u32 0, .int .u32 0, .int .u32 0, .int .u32 0, .int .u32 0, .int .u32 0, .int .u32 0, .int .u32 0, .int .u32 0, .int .u32 0, .int .u64 0] 45 (0, 0))] := by have e17 := hall 17 (Nat.le_of_ble_eq_true (by kernel_rfl)); have hS := D2.StE.st HL.1; simp only [e17, cond_true, D2.pres] at hS; exact hS
    clear HL hall
    refine g_sreg [0, 1, 2, 3, 4] (by kernel_rfl) (by kernel_rfl) ?_
    refine s_val (some 32) (.pointer (some ⟨b1, 24, none⟩)) (fun w => by kernel_rfl) (by kernel_rfl) ?_
    refine s_load1 H4 (some 33) 43 (.tmp 32) 0 b1 24 (Value.cells (pdV (Pd.mk q.s (lay q.b (q.n % 64) (by_ t k)) q.n))) 45 (0, 0) (.int .u64 ((q.n : Nat) : Int)) (by kernel_rfl) (by kernel_rfl) (by kernel_rfl) (by kernel_rfl) (by kernel_rfl) (by kernel_rfl) ?_
    refine s_valE (some 34) (.int .u64 (IntKind.u64.wrap (((q.n : Nat) : Int) + 1))) (.int .u64 ((q.n + 1 : Nat) : Int)) (fun w => by kernel_rfl) (int_eq (wrapAdd_u64 (a := q.n) (b := 1) (by omega))) (by kernel_rfl) ?_
    refine s_val (some 35) (.pointer (some ⟨b1, 24, none⟩)) (fun w => by kernel_rfl) (by kernel_rfl) ?_
    refine s_store H4 0 [(b1, Obj.cells (Value.cells (pdV (Pd.mk q.s (lay q.b (q.n % 64) (by_ t k)) (q.n + 1)))) 45 (0, 0)), (b2, Obj.cells #[.int .u32 0, .int .u32 0, .int .u32 0, .int .u32 0, .int .u32 0, .int .u32 0, .int .u32 0, .int .u32 0, .int .u32 0, .int .u32 0, .int .u32 0, .int .u32 0, .int .u32 0, .int .u32 0, .int .u32 0, .int .u32 0, .int .u32 0, .int .u32 0, .int .u32 0, .int .u32 0, .int .u32 0, .int .u32 0, .int .u32 0, .int .u32 0, .int .u64 0] 45 (0, 0))] 43 (.tmp 35) (.tmp 34) b1 (24) (Value.cells (pdV (Pd.mk q.s (lay q.b (q.n % 64) (by_ t k)) q.n))) (Value.cells (pdV (Pd.mk q.s (lay q.b (q.n % 64) (by_ t k)) (q.n + 1)))) 45 (.int .u64 ((q.n + 1 : Nat) : Int)) (by kernel_rfl) (by kernel_rfl) (by kernel_rfl) (by kernel_rfl) (by kernel_rfl) (by kernel_rfl) (of_decide_eq_true (by kernel_rfl)) (by kernel_rfl) (by kernel_rfl) ?_
    intro w5 H5; clear H4
    refine s_nil ?_
    refine g_sreg [0, 1, 2, 3] (by kernel_rfl) (by kernel_rfl) ?_
    refine s_val (some 36) (.pointer (some ⟨b1, 24, none⟩)) (fun w => by kernel_rfl) (by kernel_rfl) ?_
    refine s_load1 H5 (some 37) 43 (.tmp 36) 0 b1 24 (Value.cells (pdV (Pd.mk q.s (lay q.b (q.n % 64) (by_ t k)) (q.n + 1)))) 45 (0, 0) (.int .u64 ((q.n + 1 : Nat) : Int)) (by kernel_rfl) (by kernel_rfl) (by kernel_rfl) (by kernel_rfl) (by kernel_rfl) (by kernel_rfl) ?_
    refine s_valE (some 38) (.int .u64 (Int.tmod ((q.n + 1 : Nat) : Int) 64)) (.int .u64 (((q.n + 1) % 64 : Nat) : Int)) (fun w => by kernel_rfl) (int_eq (remN (q.n + 1) 64)) (by kernel_rfl) ?_
    by_cases hc4 : ((q.n + 1) % 64 : Nat) = 0
    · skip
      refine s_valE (some 39) (.bool ((((q.n + 1) % 64 : Nat) : Int) == 0)) (.bool true) (fun w => by kernel_rfl) (bool_eq (beq_iff_eq.2 (by omega))) (by kernel_rfl) ?_
      refine s_nil ?_
      refine g_cond_t (by kernel_rfl) (by kernel_rfl) ?_
      refine g_reg0 [0, 1, 2, 3, 4, 5, 6, 7, 8, 9] (by kernel_rfl) ?_
      refine s_val (some 40) (.pointer (some ⟨b1, 0, none⟩)) (fun w => by kernel_rfl) (by kernel_rfl) ?_
      refine s_loadp H5 (some 41) 31 (.tmp 40) 0 b1 0 8 (Value.cells (pdV (Pd.mk q.s (lay q.b (q.n % 64) (by_ t k)) (q.n + 1)))) (Value.cells (arr 8 q.s)) 45 (0, 0) (by kernel_rfl) (by kernel_rfl) (by kernel_rfl) (by kernel_rfl) (by kernel_rfl) (of_decide_eq_true (by kernel_rfl)) (by kernel_rfl) ?_
      refine s_val (some 42) (.pointer (some ⟨b1, 8, none⟩)) (fun w => by kernel_rfl) (by kernel_rfl) ?_
      refine s_loadp H5 (some 43) 42 (.tmp 42) 0 b1 8 16 (Value.cells (pdV (Pd.mk q.s (lay q.b (q.n % 64) (by_ t k)) (q.n + 1)))) (Value.cells (arr 16 (lay q.b (q.n % 64) (by_ t k)))) 45 (0, 0) (by kernel_rfl) (by kernel_rfl) (by kernel_rfl) (by kernel_rfl) (by kernel_rfl) (of_decide_eq_true (by kernel_rfl)) (by kernel_rfl) ?_
      refine s_callP H5 (some 44) 26 #[arr 8 q.s, arr 16 (lay q.b (q.n % 64) (by_ t k))] (Roots) (arr 8 (become q.s (lay q.b (q.n % 64) (by_ t k)))) (become_fn q.s (lay q.b (q.n % 64) (by_ t k))) (Roots.old H5 rfl hpre) (fun w => by kernel_rfl) (by kernel_rfl) ?_
      intro w6 H6; clear H5
      refine s_val (some 45) (.agg #[.int .u32 0, .int .u32 0, .int .u32 0, .int .u32 0, .int .u32 0, .int .u32 0, .int .u32 0, .int .u32 0, .int .u32 0, .int .u32 0, .int .u32 0, .int .u32 0, .int .u32 0, .int .u32 0, .int .u32 0, .int .u32 0]) (fun w => by kernel_rfl) (by kernel_rfl) ?_
      refine s_val (some 46) (.pointer (some ⟨b1, 0, none⟩)) (fun w => by kernel_rfl) (by kernel_rfl) ?_
      refine s_store H6 0 [(b1, Obj.cells (Value.cells (pdV (Pd.mk (become q.s (lay q.b (q.n % 64) (by_ t k))) (lay q.b (q.n % 64) (by_ t k)) (q.n + 1)))) 45 (0, 0)), (b2, Obj.cells #[.int .u32 0, .int .u32 0, .int .u32 0, .int .u32 0, .int .u32 0, .int .u32 0, .int .u32 0, .int .u32 0, .int .u32 0, .int .u32 0, .int .u32 0, .int .u32 0, .int .u32 0, .int .u32 0, .int .u32 0, .int .u32 0, .int .u32 0, .int .u32 0, .int .u32 0, .int .u32 0, .int .u32 0, .int .u32 0, .int .u32 0, .int .u32 0, .int .u64 0] 45 (0, 0))] 31 (.tmp 46) (.tmp 44) b1 (0) (Value.cells (pdV (Pd.mk q.s (lay q.b (q.n % 64) (by_ t k)) (q.n + 1)))) (Value.cells (pdV (Pd.mk (become q.s (lay q.b (q.n % 64) (by_ t k))) (lay q.b (q.n % 64) (by_ t k)) (q.n + 1)))) 45 (arr 8 (become q.s (lay q.b (q.n % 64) (by_ t k)))) (by kernel_rfl) (by kernel_rfl) (by kernel_rfl) (by kernel_rfl) (by kernel_rfl) (by kernel_rfl) (of_decide_eq_true (by kernel_rfl)) (by kernel_rfl) (by kernel_rfl) ?_
      intro w7 H7; clear H6
      refine s_val (some 47) (.pointer (some ⟨b1, 8, none⟩)) (fun w => by kernel_rfl) (by kernel_rfl) ?_
      refine s_store H7 0 [(b1, Obj.cells (Value.cells (pdV (Pd.mk (become q.s (lay q.b (q.n % 64) (by_ t k))) [] (q.n + 1)))) 45 (0, 0)), (b2, Obj.cells #[.int .u32 0, .int .u32 0, .int .u32 0, .int .u32 0, .int .u32 0, .int .u32 0, .int .u32 0, .int .u32 0, .int .u32 0, .int .u32 0, .int .u32 0, .int .u32 0, .int .u32 0, .int .u32 0, .int .u32 0, .int .u32 0, .int .u32 0, .int .u32 0, .int .u32 0, .int .u32 0, .int .u32 0, .int .u32 0, .int .u32 0, .int .u32 0, .int .u64 0] 45 (0, 0))] 42 (.tmp 47) (.tmp 45) b1 (8) (Value.cells (pdV (Pd.mk (become q.s (lay q.b (q.n % 64) (by_ t k))) (lay q.b (q.n % 64) (by_ t k)) (q.n + 1)))) (Value.cells (pdV (Pd.mk (become q.s (lay q.b (q.n % 64) (by_ t k))) [] (q.n + 1)))) 45 (.agg #[.int .u32 0, .int .u32 0, .int .u32 0, .int .u32 0, .int .u32 0, .int .u32 0, .int .u32 0, .int .u32 0, .int .u32 0, .int .u32 0, .int .u32 0, .int .u32 0, .int .u32 0, .int .u32 0, .int .u32 0, .int .u32 0]) (by kernel_rfl) (by kernel_rfl) (by kernel_rfl) (by kernel_rfl) (by kernel_rfl) (by kernel_rfl) (of_decide_eq_true (by kernel_rfl)) (by kernel_rfl) (by kernel_rfl) ?_
      intro w8 H8; clear H7
      refine s_nil ?_
      show WP _ _ _ _ _ _
      refine g_reg0 [0, 1] (by kernel_rfl) ?_
      refine s_valE (some 48) (.int .i64 (IntKind.i64.wrap (((k : Nat) : Int) + 1))) (.int .i64 ((k + 1 : Nat) : Int)) (fun w => by kernel_rfl) (int_eq (wrapAdd_i64 (a := k) (b := 1) (by omega))) (by kernel_rfl) ?_
      refine s_val (some 9) (.int .i64 ((k + 1 : Nat) : Int)) (fun w => by kernel_rfl) (by kernel_rfl) ?_
      refine s_nil ?_
      show ∃ m, _ ∧ _
      exact ⟨_, (by omega), (Pd.mk (become q.s (lay q.b (q.n % 64) (by_ t k))) ([]) (q.n + 1)), (k + 1), rfl, (by omega), (by show q.n + 1 = _; omega), ((take_stepS htk (by omega)).trans (step1_pos q (by_ t k) _ rfl (by omega))), H8, (Is.of ⟨(by kernel_rfl), (by kernel_rfl), (by kernel_rfl), (by kernel_rfl), (by kernel_rfl), (by kernel_rfl), trivial⟩)⟩
    · skip
      refine s_valE (some 39) (.bool ((((q.n + 1) % 64 : Nat) : Int) == 0)) (.bool false) (fun w => by kernel_rfl) (bool_eq (beq_eq_false_iff_ne.2 (by omega))) (by kernel_rfl) ?_
      refine s_nil ?_
      refine g_cond_f (by kernel_rfl) (by kernel_rfl) ?_
      refine g_skip (by kernel_rfl) ?_
      show WP _ _ _ _ _ _
      refine g_reg0 [0, 1] (by kernel_rfl) ?_
      refine s_valE (some 48) (.int .i64 (IntKind.i64.wrap (((k : Nat) : Int) + 1))) (.int .i64 ((k + 1 : Nat) : Int)) (fun w => by kernel_rfl) (int_eq (wrapAdd_i64 (a := k) (b := 1) (by omega))) (by kernel_rfl) ?_
      refine s_val (some 9) (.int .i64 ((k + 1 : Nat) : Int)) (fun w => by kernel_rfl) (by kernel_rfl) ?_
      refine s_nil ?_
      show ∃ m, _ ∧ _
      exact ⟨_, (by omega), (Pd.mk q.s (lay q.b (q.n % 64) (by_ t k)) (q.n + 1)), (k + 1), rfl, (by omega), (by show q.n + 1 = _; omega), ((take_stepS htk (by omega)).trans (step1_neg q (by_ t k) _ rfl (by omega))), H5, (Is.of ⟨(by kernel_rfl), (by kernel_rfl), (by kernel_rfl), (by kernel_rfl), (by kernel_rfl), (by kernel_rfl), trivial⟩)⟩
  · skip
    refine s_valE (some 10) (.bool (decide (((k : Nat) : Int) < ((ByteArray.size t : Nat) : Int)))) (.bool false) (fun w => by kernel_rfl) (bool_eq (decide_eq_false (by omega))) (by kernel_rfl) ?_
    refine s_nil ?_
    refine g_seq (by kernel_rfl) ?_
    refine g_cond_f (by kernel_rfl) (by kernel_rfl) ?_
    refine g_exit 0 (by kernel_rfl) ?_
    show WP _ _ _ _ _ _
    refine g_sreg [0, 1] (by kernel_rfl) (by kernel_rfl) ?_
    refine s_load H3 (some 49) 45 (.tmp 2) 0 b1 (Value.cells (pdV q)) 45 (0, 0) (by kernel_rfl) (by kernel_rfl) (by kernel_rfl) (by kernel_rfl) (by kernel_rfl) ?_
    refine s_store H3 1 [(b1, Obj.cells (Value.cells (pdV q)) 45 (0, 0)), (b2, Obj.cells (Value.cells (pdV q)) 45 (0, 0))] 45 (.tmp 4) (.tmp 49) b2 (0) #[.int .u32 0, .int .u32 0, .int .u32 0, .int .u32 0, .int .u32 0, .int .u32 0, .int .u32 0, .int .u32 0, .int .u32 0, .int .u32 0, .int .u32 0, .int .u32 0, .int .u32 0, .int .u32 0, .int .u32 0, .int .u32 0, .int .u32 0, .int .u32 0, .int .u32 0, .int .u32 0, .int .u32 0, .int .u32 0, .int .u32 0, .int .u32 0, .int .u64 0] (Value.cells (pdV q)) 45 (pdV q) (by kernel_rfl) (by kernel_rfl) (by kernel_rfl) (by kernel_rfl) (by kernel_rfl) (by kernel_rfl) (of_decide_eq_true (by kernel_rfl)) (by kernel_rfl) (by kernel_rfl) ?_
    intro w9 H9; clear H3
    refine s_nil ?_
    refine g_ret (by kernel_rfl) ?_
    show ∃ vs, Res _ _ _ _ vs ∧ _
    refine ⟨[pdV q], (.agg (b := b2) (Value.cells (pdV q)) 45 (0, 0) (by kernel_rfl) (H9.get 1 (by kernel_rfl)) (by kernel_rfl) .nil), ?_, H9.below⟩
    rw [List.take_of_length_le (show (tl t).length ≤ k by rw [tl_len]; omega)] at htk; rw [htk]; rfl
end Go.Proofs.YtjhldipeicpoeaaDoor
