/-
  A text laid into a state.
-/
import Derived.Test.YtddhadddpllbcaaDoorProg
import Derived.Test.YtddhadddpllbcaaDoorStr
import Derived.Test.YtddhadddpllbcaaDoorKecM
import Derived.Test.YtddhadddpllbcaaDoorKecX
namespace Go.Proofs.YtddhadddpllbcaaDoor
open Go Go.RowKit Go.Proofs.Kec
set_option linter.unusedVariables false
theorem tcd {α : Type} (L : List α) (q : Nat) (x : α) (h : q < L.length) : L.take q ++ [x] ++ L.drop (q + 1) = L.set q x := by
  rw [List.set_eq_take_append_cons_drop, if_pos h, List.append_assoc]; rfl
theorem svn_list (s : List (BitVec 64)) : Value.cells (svn s) = ((List.range 25).map fun k => Value.int .u64 ((BitVec.toNat (nth s k) : Nat) : Int)).toArray := rfl
theorem svn_at (s : List (BitVec 64)) (k q : Nat) (hq : q = k) (hk : k < 25) : (Value.cells (svn s))[q]? = some (Value.int .u64 ((BitVec.toNat (nth s k) : Nat) : Int)) := by
  subst hq; rw [svn_list]; simp [hk]
theorem nth_set (s : List (BitVec 64)) (k j : Nat) (x : BitVec 64) (hk : k < s.length) : nth (s.set k x) j = if j = k then x else nth s j := by
  unfold nth
  rw [List.getD_eq_getElem?_getD, List.getD_eq_getElem?_getD, List.getElem?_set]
  by_cases h : k = j
  · subst h; simp [hk]
  · rw [if_neg h, if_neg (fun e => h e.symm)]
theorem svn_put (s : List (BitVec 64)) (k q : Nat) (x : BitVec 64) (hs : s.length = 25) (hq : q = k) (hk : k < 25) :
    ((Value.cells (svn s)).toList.take q ++ (Value.cells (.int .u64 ((BitVec.toNat x : Nat) : Int))).toList ++ (Value.cells (svn s)).toList.drop (q + (Value.cells (.int .u64 ((BitVec.toNat x : Nat) : Int))).size)).toArray = Value.cells (svn (s.set k x)) := by
  subst hq
  rw [svn_list, svn_list]
  congr 1
  show List.take q _ ++ [Value.int .u64 ((BitVec.toNat x : Nat) : Int)] ++ List.drop (q + 1) _ = _
  rw [tcd _ q _ (by simpa using hk)]
  apply List.ext_getElem?
  intro j
  rw [List.toList_toArray]
  rw [List.getElem?_set]
  by_cases h : q = j
  · subst h; simp [hk, nth_set s q q x (by omega)]
  · by_cases hj : j < 25
    · simp [h, hj, nth_set s q j x (by omega), show ¬ j = q from fun e => h e.symm]
    · simp [h, hj]
theorem svn_size (s : List (BitVec 64)) : (Value.cells (svn s)).size = 25 := rfl
theorem Marks.old {B : Nat} {w0 w : World} {l : List (Nat × Obj)} (HS : St B w0 w l) (hB : B = w0.heap.size) (h : Marks w0) : Marks w := by
  obtain ⟨T, fz, h⟩ := h; exact ⟨T, fz, HS.old h (by rw [hB]; exact lt_of_heap h)⟩
theorem Marks.oldE {B : Nat} {w0 w : World} {E : List D2.Ent} (HS : D2.StE B w0 w E) (hB : B = w0.heap.size) (h : Marks w0) : Marks w := by
  obtain ⟨T, fz, h⟩ := h; exact ⟨T, fz, D2.StE.old HS h (by rw [hB]; exact lt_of_heap h)⟩
theorem take_step {s s1 : List (BitVec 64)} {n n1 k : Nat} {t : ByteArray} (h : takeB (s, n) ((tl t).take k) = (s1, n1)) (hk : k < ByteArray.size t) :
    takeB (s, n) ((tl t).take (k + 1)) = (if n1 + 1 = 136 then (mix (lay s1 n1 (BitVec.ofNat 64 (by_ t k))), 0) else (lay s1 n1 (BitVec.ofNat 64 (by_ t k)), n1 + 1)) := by
  have hk' : k < (tl t).length := hk
  rw [List.take_add_one, List.getElem?_eq_getElem hk', Option.toList_some, takeB_snoc, h]
  unfold step1 byteB by_
  rw [List.getD_eq_getElem?_getD, List.getElem?_eq_getElem hk', Option.getD_some]

set_option maxRecDepth 100000 in
set_option maxHeartbeats 2000000 in
theorem lift_fn (b i : Nat) (hi : i < 1000) : Fn Tryd.prog 25 #[.int .u8 ((b : Nat) : Int), .int .i64 ((i : Nat) : Int)] (.int .u64 ((BitVec.toNat (liftB (BitVec.ofNat 64 b) i) : Nat) : Int)) := by
  refine Fn.intro (c := codeOf Tryd.f25) [.tmp 4] 11 Tryd.func25 (by kernel_rfl) (by kernel_rfl) (by kernel_rfl) fun w => ?_
  have H0 := St.start w
  refine g_sreg [0] (by kernel_rfl) (by kernel_rfl) ?_
  refine s_val (some 4) (.int .u64 0) (fun w => by kernel_rfl) (by kernel_rfl) ?_
  refine s_nil ?_
  refine g_sreg [0, 1, 2, 3, 4, 5, 6] (by kernel_rfl) (by kernel_rfl) ?_
  refine s_val (some 5) (.int .u8 ((b : Nat) : Int)) (fun w => by kernel_rfl) (by kernel_rfl) ?_
  refine s_valE (some 6) (.int .u64 (IntKind.u64.wrap ((b : Nat) : Int))) (.int .u64 ((BitVec.toNat (BitVec.ofNat 64 b) : Nat) : Int)) (fun w => by kernel_rfl) (bv_ofNat_u64 b) (by kernel_rfl) ?_
  refine s_val (some 7) (.int .i64 ((i : Nat) : Int)) (fun w => by kernel_rfl) (by kernel_rfl) ?_
  refine s_valE (some 8) (.int .i64 (Int.tmod ((i : Nat) : Int) 8)) (.int .i64 ((i % 8 : Nat) : Int)) (fun w => by kernel_rfl) (int_eq (remN i 8)) (by kernel_rfl) ?_
  refine s_valE (some 9) (.int .i64 (IntKind.i64.wrap (((i % 8 : Nat) : Int) * 8))) (.int .i64 (((i % 8) * 8 : Nat) : Int)) (fun w => by kernel_rfl) (int_eq (wrapMul_i64 (a := i % 8) (b := 8) (by omega))) (by kernel_rfl) ?_
  refine s_valE (some 10) (.int .u64 (IntKind.u64.wrap ((((BitVec.toNat (BitVec.ofNat 64 b) : Nat) : Int)) * 2 ^ (min ((i % 8) * 8) 64)))) (.int .u64 ((BitVec.toNat ((BitVec.ofNat 64 b) <<< ((i % 8) * 8)) : Nat) : Int)) (fun w => by kernel_rfl) (bv_shl_u64 (BitVec.ofNat 64 b) ((i % 8) * 8)) (by kernel_rfl) ?_
  refine s_val (some 4) (.int .u64 ((BitVec.toNat ((BitVec.ofNat 64 b) <<< ((i % 8) * 8)) : Nat) : Int)) (fun w => by kernel_rfl) (by kernel_rfl) ?_
  refine s_nil ?_
  refine g_ret (by kernel_rfl) ?_
  show ∃ vs, Res _ _ _ _ vs ∧ _
  refine ⟨[.int .u64 ((BitVec.toNat ((BitVec.ofNat 64 b) <<< ((i % 8) * 8)) : Nat) : Int)], (.tmp (.int .u64 ((BitVec.toNat ((BitVec.ofNat 64 b) <<< ((i % 8) * 8)) : Nat) : Int)) (by kernel_rfl) .nil), ?_, H0.below⟩
  rfl

set_option maxRecDepth 100000 in
set_option maxHeartbeats 2000000 in
theorem take_fn (s : List (BitVec 64)) (n : Nat) (t : ByteArray) (hs : s.length = 25) (hn : n < 136) (ht : ByteArray.size t < 4611686018427387904) : FnP Tryd.prog 16 #[svn s, .int .i64 ((n : Nat) : Int), .string t] (Marks) (.tuple #[svn (takeB (s, n) (tl t)).1, .int .i64 (((takeB (s, n) (tl t)).2 : Nat) : Int)]) := by
  refine FnP.intro (c := codeOf Tryd.f16) [.cell 6 26, .tmp 7] 34 Tryd.func16 (by kernel_rfl) (by kernel_rfl) (by kernel_rfl) fun w hpre => ?_
  have H0 := St.start w
  refine g_sreg [0, 1, 2] (by kernel_rfl) (by kernel_rfl) ?_
  refine s_box H0 (some 3) 26 (.tmp 0) (svn s) (by kernel_rfl) (by kernel_rfl) (by kernel_rfl) ?_
  intro b1 w1 H1; clear H0
  refine s_alloc H1 (some 6) 26 (.agg #[.int .u64 0, .int .u64 0, .int .u64 0, .int .u64 0, .int .u64 0, .int .u64 0, .int .u64 0, .int .u64 0, .int .u64 0, .int .u64 0, .int .u64 0, .int .u64 0, .int .u64 0, .int .u64 0, .int .u64 0, .int .u64 0, .int .u64 0, .int .u64 0, .int .u64 0, .int .u64 0, .int .u64 0, .int .u64 0, .int .u64 0, .int .u64 0, .int .u64 0]) (by kernel_rfl) (by kernel_rfl) (by kernel_rfl) ?_
  intro b2 w2 H2; clear H1
  refine s_val (some 7) (.int .i64 0) (fun w => by kernel_rfl) (by kernel_rfl) ?_
  refine s_nil ?_
  refine g_seq (by kernel_rfl) ?_
  refine g_sreg [0, 1, 2] (by kernel_rfl) (by kernel_rfl) ?_
  refine s_val (some 9) (.string t) (fun w => by kernel_rfl) (by kernel_rfl) ?_
  refine s_val (some 10) (.int .i64 ((ByteArray.size t : Nat) : Int)) (fun w => by kernel_rfl) (by kernel_rfl) ?_
  refine s_val (some 11) (.int .i64 0) (fun w => by kernel_rfl) (by kernel_rfl) ?_
  refine s_nil ?_
  refine g_block 0 (by kernel_rfl) ?_
  have HF1 : St w.heap.size w w2 [(b2, Obj.cells #[.int .u64 0, .int .u64 0, .int .u64 0, .int .u64 0, .int .u64 0, .int .u64 0, .int .u64 0, .int .u64 0, .int .u64 0, .int .u64 0, .int .u64 0, .int .u64 0, .int .u64 0, .int .u64 0, .int .u64 0, .int .u64 0, .int .u64 0, .int .u64 0, .int .u64 0, .int .u64 0, .int .u64 0, .int .u64 0, .int .u64 0, .int .u64 0, .int .u64 0] 26 (0, 0)), (b1, Obj.cells (Value.cells (svn s)) 26 (0, 0))] := H2.front 0 (by kernel_rfl) (by kernel_rfl)
  have HF2 : St w.heap.size w w2 [(b1, Obj.cells (Value.cells (svn s)) 26 (0, 0)), (b2, Obj.cells #[.int .u64 0, .int .u64 0, .int .u64 0, .int .u64 0, .int .u64 0, .int .u64 0, .int .u64 0, .int .u64 0, .int .u64 0, .int .u64 0, .int .u64 0, .int .u64 0, .int .u64 0, .int .u64 0, .int .u64 0, .int .u64 0, .int .u64 0, .int .u64 0, .int .u64 0, .int .u64 0, .int .u64 0, .int .u64 0, .int .u64 0, .int .u64 0, .int .u64 0] 26 (0, 0))] := HF1.front 1 (by kernel_rfl) (by kernel_rfl)
  refine g_loop (by kernel_rfl) (fun m ρ ww => ∃ (s1 : List (BitVec 64)) (n1 : Nat) (k : Nat), ByteArray.size t - k = m ∧ (s1.length = 25) ∧ (n1 < 136) ∧ (k ≤ ByteArray.size t) ∧ (takeB (s, n) ((tl t).take k) = (s1, n1)) ∧ St w.heap.size w ww [(b1, Obj.cells (Value.cells (svn s1)) 26 (0, 0)), (b2, Obj.cells #[.int .u64 0, .int .u64 0, .int .u64 0, .int .u64 0, .int .u64 0, .int .u64 0, .int .u64 0, .int .u64 0, .int .u64 0, .int .u64 0, .int .u64 0, .int .u64 0, .int .u64 0, .int .u64 0, .int .u64 0, .int .u64 0, .int .u64 0, .int .u64 0, .int .u64 0, .int .u64 0, .int .u64 0, .int .u64 0, .int .u64 0, .int .u64 0, .int .u64 0] 26 (0, 0))] ∧ Is [(0, svn s), (1, .int .i64 ((n1 : Nat) : Int)), (2, .string t), (3, .pointer (some ⟨b1, 0, none⟩)), (6, .pointer (some ⟨b2, 0, none⟩)), (7, .int .i64 0), (10, .int .i64 ((ByteArray.size t : Nat) : Int)), (11, .int .i64 ((k : Nat) : Int))] ρ) (ByteArray.size t - 0) ⟨s, n, 0, rfl, hs, hn, (by omega), rfl, HF2, (Is.of ⟨(by kernel_rfl), (by kernel_rfl), (by kernel_rfl), (by kernel_rfl), (by kernel_rfl), (by kernel_rfl), (by kernel_rfl), (by kernel_rfl), trivial⟩)⟩ ?_
  clear HF2
  rintro _ _ w3 ⟨s1, n1, k, rfl, hs1, hn1, hk, htk, H3, _, rfl⟩
  have hbl := by_lt t k
  refine g_sreg [0] (by kernel_rfl) (by kernel_rfl) ?_
  by_cases hc3 : (k : Nat) < ByteArray.size t
  · skip
    refine s_valE (some 12) (.bool (decide (((k : Nat) : Int) < ((ByteArray.size t : Nat) : Int)))) (.bool true) (fun w => by kernel_rfl) (bool_eq (decide_eq_true (by omega))) (by kernel_rfl) ?_
    refine s_nil ?_
    refine g_seq (by kernel_rfl) ?_
    refine g_cond_t (by kernel_rfl) (by kernel_rfl) ?_
    refine g_skip (by kernel_rfl) ?_
    show WP _ _ _ _ _ _
    refine g_seq (by kernel_rfl) ?_
    refine g_block 1 (by kernel_rfl) ?_
    refine g_sreg [0, 1] (by kernel_rfl) (by kernel_rfl) ?_
    refine s_val (some 13) (.int .i64 ((k : Nat) : Int)) (fun w => by kernel_rfl) (by kernel_rfl) ?_
    refine s_val (some 8) (.int .i64 ((k : Nat) : Int)) (fun w => by kernel_rfl) (by kernel_rfl) ?_
    refine s_nil ?_
    refine D2.g_sdraw [0, 1, 2, 3, 4, 5, 6, 7, 8, 9, 10, 11] [((some 14), fun _ => .int .i64 ((n1 : Nat) : Int)), ((some 15), fun _ => .int .i64 ((n1 / 8 : Nat) : Int)), ((some 16), fun _ => .pointer (some ⟨b1, 0 + (n1 / 8) * 1, none⟩)), ((some 17), fun _ => .int .u64 ((BitVec.toNat (nth s1 (n1 / 8)) : Nat) : Int)), ((some 18), fun _ => .string t), ((some 19), fun _ => .int .i64 ((k : Nat) : Int)), ((some 20), fun _ => .int .u8 ((by_ t k : Nat) : Int)), ((some 21), fun _ => .int .i64 ((n1 : Nat) : Int)), ((some 22), fun _ => .int .u64 ((BitVec.toNat (liftB (BitVec.ofNat 64 (by_ t k)) n1) : Nat) : Int)), ((some 23), fun _ => .int .u64 ((BitVec.toNat ((nth s1 (n1 / 8)) ^^^ (liftB (BitVec.ofNat 64 (by_ t k)) n1)) : Nat) : Int)), ((some 24), fun _ => .pointer (some ⟨b1, 0 + (n1 / 8) * 1, none⟩)), (none, fun _ => undef)] (D2.Pre w.heap.size w (fun L g => [(true, (bif L 11 then (b1, Obj.cells (Value.cells (svn (lay s1 n1 (BitVec.ofNat 64 (by_ t k))))) 26 (0, 0)) else (b1, Obj.cells (Value.cells (svn s1)) 26 (0, 0)))), (true, (b2, Obj.cells #[.int .u64 0, .int .u64 0, .int .u64 0, .int .u64 0, .int .u64 0, .int .u64 0, .int .u64 0, .int .u64 0, .int .u64 0, .int .u64 0, .int .u64 0, .int .u64 0, .int .u64 0, .int .u64 0, .int .u64 0, .int .u64 0, .int .u64 0, .int .u64 0, .int .u64 0, .int .u64 0, .int .u64 0, .int .u64 0, .int .u64 0, .int .u64 0, .int .u64 0] 26 (0, 0)))]) (fun L g => True)) (by kernel_rfl) (by kernel_rfl) (by kernel_rfl) (by kernel_rfl) ⟨D2.StE.of H3.drew _ (by kernel_rfl), trivial⟩ ⟨?_, ?_, ?_, ?_, ?_, ?_, ?_, ?_, ?_, ?_, ?_, ?_, trivial⟩ ?_
    · exact D2.gv_val (fun _ _ _ h => h) (fun g w => by kernel_rfl)
    · exact D2.gv_valE (fun _ _ _ h => h) (V' := .int .i64 (IntKind.i64.wrap (((n1 : Nat) : Int).tdiv 8))) (fun g w => by kernel_rfl) (int_eq (quoN_i64 (a := n1) (b := 8) (by omega)))
    · exact D2.gv_op (fun _ _ _ h => h) _ (fun g => by kernel_rfl) (fun g => (fun o w ho => idxA_run (kd := .i64) (t := 26) (n := 25) (size := 1) (by kernel_rfl) (x := (.tmp 3)) (y := (.tmp 15)) b1 0 (n1 / 8) ho (by kernel_rfl) (by kernel_rfl) (by omega) w))
    · exact D2.gv_load1 25 (.tmp 16) 0 (fun g => b1) (fun g => 0 + (n1 / 8) * 1) (fun g => (Value.cells (svn s1))) 26 (0, 0) (fun _ _ _ h => h) (fun g => by kernel_rfl) (fun g => by kernel_rfl) (fun L g hN => (by have hL11 : L 11 = false := (hN.post 11 (by kernel_rfl)); exact D2.ent_get' (p := true) (e := (bif L 11 then (b1, Obj.cells (Value.cells (svn (lay s1 n1 (BitVec.ofNat 64 (by_ t k))))) 26 (0, 0)) else (b1, Obj.cells (Value.cells (svn s1)) 26 (0, 0)))) (by kernel_rfl) (by rfl) (by simp only [hL11, cond_true, cond_false] <;> rfl))) (by kernel_rfl) (fun L g hN hF => by exact (svn_at s1 (n1 / 8) _ (by omega) (by omega)))
    · exact D2.gv_val (fun _ _ _ h => h) (fun g w => by kernel_rfl)
    · exact D2.gv_val (fun _ _ _ h => h) (fun g w => by kernel_rfl)
    · exact D2.gv_op (fun _ _ _ h => h) _ (fun g => by kernel_rfl) (fun g => (fun o w ho => sindex_run (t := 9) (kd := .i64) (by kernel_rfl) (x := (.tmp 18)) (y := (.tmp 19)) t k ho (by kernel_rfl) (by kernel_rfl) (by omega) w))
    · exact D2.gv_val (fun _ _ _ h => h) (fun g w => by kernel_rfl)
    · exact D2.gv_call 25 #[.int .u8 ((by_ t k : Nat) : Int), .int .i64 ((n1 : Nat) : Int)] (fun _ _ _ h => h) (lift_fn (by_ t k) n1 (by omega)) (fun g w => by kernel_rfl)
    · exact D2.gv_valE (fun _ _ _ h => h) (V' := .int .u64 (Go.bits .xor .u64 (((BitVec.toNat (nth s1 (n1 / 8)) : Nat) : Int)) (((BitVec.toNat (liftB (BitVec.ofNat 64 (by_ t k)) n1) : Nat) : Int)))) (fun g w => by kernel_rfl) (bv_xor_u64 (nth s1 (n1 / 8)) (liftB (BitVec.ofNat 64 (by_ t k)) n1))
    · exact D2.gv_op (fun _ _ _ h => h) _ (fun g => by kernel_rfl) (fun g => (fun o w ho => idxA_run (kd := .i64) (t := 26) (n := 25) (size := 1) (by kernel_rfl) (x := (.tmp 3)) (y := (.tmp 15)) b1 0 (n1 / 8) ho (by kernel_rfl) (by kernel_rfl) (by omega) w))
    · exact D2.gv_store 0 25 (.tmp 24) (.tmp 23) (fun g => b1) (fun g => 0 + (n1 / 8) * 1) (Value.cells (svn s1)) (Value.cells (svn (lay s1 n1 (BitVec.ofNat 64 (by_ t k))))) 26 (.int .u64 ((BitVec.toNat ((nth s1 (n1 / 8)) ^^^ (liftB (BitVec.ofNat 64 (by_ t k)) n1)) : Nat) : Int)) (fun g => by kernel_rfl) (fun g => by kernel_rfl) (fun g => by kernel_rfl) (by kernel_rfl) (by kernel_rfl) (fun g => (by show _ + 1 ≤ 25; omega)) (fun g => (svn_put s1 (n1 / 8) _ ((nth s1 (n1 / 8)) ^^^ (liftB (BitVec.ofNat 64 (by_ t k)) n1)) hs1 (by omega) (by omega))) (fun L g hN => ⟨(by have hL11 : L 11 = false := hN.1; exact D2.ent_get' (p := true) (e := (bif L 11 then (b1, Obj.cells (Value.cells (svn (lay s1 n1 (BitVec.ofNat 64 (by_ t k))))) 26 (0, 0)) else (b1, Obj.cells (Value.cells (svn s1)) 26 (0, 0)))) (by kernel_rfl) (by rfl) (by simp only [hL11, cond_true, cond_false] <;> rfl)), (by kernel_rfl)⟩) (fun L g hN hF => hF)
    intro L0 G4 w4 hall HL; clear H3
    have H4 : St w.heap.size w w4 [(b1, Obj.cells (Value.cells (svn (lay s1 n1 (BitVec.ofNat 64 (by_ t k))))) 26 (0, 0)), (b2, Obj.cells #[.int .u64 0, .int .u64 0, .int .u64 0, .int .u64 0, .int .u64 0, .int .u64 0, .int .u64 0, .int .u64 0, .int .u64 0, .int .u64 0, .int .u64 0, .int .u64 0, .int .u64 0, .int .u64 0, .int .u64 0, .int .u64 0, .int .u64 0, .int .u64 0, .int .u64 0, .int .u64 0, .int .u64 0, .int .u64 0, .int .u64 0, .int .u64 0, .int .u64 0] 26 (0, 0))] := by have e11 := hall 11 (Nat.le_of_ble_eq_true (by kernel_rfl)); have hS := D2.StE.st HL.1; simp only [e11, cond_true, D2.pres] at hS; exact hS
    clear HL hall
    refine g_sreg [0, 1, 2] (by kernel_rfl) (by kernel_rfl) ?_
    refine s_val (some 25) (.int .i64 ((n1 : Nat) : Int)) (fun w => by kernel_rfl) (by kernel_rfl) ?_
    refine s_valE (some 26) (.int .i64 (IntKind.i64.wrap (((n1 : Nat) : Int) + 1))) (.int .i64 ((n1 + 1 : Nat) : Int)) (fun w => by kernel_rfl) (int_eq (wrapAdd_i64 (a := n1) (b := 1) (by omega))) (by kernel_rfl) ?_
    refine s_val (some 1) (.int .i64 ((n1 + 1 : Nat) : Int)) (fun w => by kernel_rfl) (by kernel_rfl) ?_
    refine s_nil ?_
    refine g_sreg [0, 1] (by kernel_rfl) (by kernel_rfl) ?_
    refine s_val (some 27) (.int .i64 ((n1 + 1 : Nat) : Int)) (fun w => by kernel_rfl) (by kernel_rfl) ?_
    by_cases hc4 : (n1 + 1 : Nat) = 136
    · skip
      refine s_valE (some 28) (.bool (((n1 + 1 : Nat) : Int) == 136)) (.bool true) (fun w => by kernel_rfl) (bool_eq (beq_iff_eq.2 (by omega))) (by kernel_rfl) ?_
      refine s_nil ?_
      refine g_cond_t (by kernel_rfl) (by kernel_rfl) ?_
      refine g_reg0 [0, 1, 2, 3] (by kernel_rfl) ?_
      refine s_load H4 (some 29) 26 (.tmp 3) 0 b1 (Value.cells (svn (lay s1 n1 (BitVec.ofNat 64 (by_ t k))))) 26 (0, 0) (by kernel_rfl) (by kernel_rfl) (by kernel_rfl) (by kernel_rfl) (by kernel_rfl) ?_
      refine s_callP H4 (some 30) 10 #[svn (lay s1 n1 (BitVec.ofNat 64 (by_ t k)))] (Marks) (svn (mix (lay s1 n1 (BitVec.ofNat 64 (by_ t k))))) (mix_fn (lay s1 n1 (BitVec.ofNat 64 (by_ t k)))) (Marks.old H4 rfl hpre) (fun w => by kernel_rfl) (by kernel_rfl) ?_
      intro w5 H5; clear H4
      refine s_store H5 0 [(b1, Obj.cells (Value.cells (svn (mix (lay s1 n1 (BitVec.ofNat 64 (by_ t k)))))) 26 (0, 0)), (b2, Obj.cells #[.int .u64 0, .int .u64 0, .int .u64 0, .int .u64 0, .int .u64 0, .int .u64 0, .int .u64 0, .int .u64 0, .int .u64 0, .int .u64 0, .int .u64 0, .int .u64 0, .int .u64 0, .int .u64 0, .int .u64 0, .int .u64 0, .int .u64 0, .int .u64 0, .int .u64 0, .int .u64 0, .int .u64 0, .int .u64 0, .int .u64 0, .int .u64 0, .int .u64 0] 26 (0, 0))] 26 (.tmp 3) (.tmp 30) b1 (0) (Value.cells (svn (lay s1 n1 (BitVec.ofNat 64 (by_ t k))))) (Value.cells (svn (mix (lay s1 n1 (BitVec.ofNat 64 (by_ t k)))))) 26 (svn (mix (lay s1 n1 (BitVec.ofNat 64 (by_ t k))))) (by kernel_rfl) (by kernel_rfl) (by kernel_rfl) (by kernel_rfl) (by kernel_rfl) (by kernel_rfl) (of_decide_eq_true (by kernel_rfl)) (by kernel_rfl) (by kernel_rfl) ?_
      intro w6 H6; clear H5
      refine s_val (some 1) (.int .i64 0) (fun w => by kernel_rfl) (by kernel_rfl) ?_
      refine s_nil ?_
      show WP _ _ _ _ _ _
      refine g_reg0 [0, 1] (by kernel_rfl) ?_
      refine s_valE (some 31) (.int .i64 (IntKind.i64.wrap (((k : Nat) : Int) + 1))) (.int .i64 ((k + 1 : Nat) : Int)) (fun w => by kernel_rfl) (int_eq (wrapAdd_i64 (a := k) (b := 1) (by omega))) (by kernel_rfl) ?_
      refine s_val (some 11) (.int .i64 ((k + 1 : Nat) : Int)) (fun w => by kernel_rfl) (by kernel_rfl) ?_
      refine s_nil ?_
      show ∃ m, _ ∧ _
      exact ⟨_, (by omega), (mix (lay s1 n1 (BitVec.ofNat 64 (by_ t k)))), 0, (k + 1), rfl, (mix_len (lay_len _ _ hs1)), (by omega), (by omega), ((take_step htk (by omega)).trans (if_pos (by omega))), H6, (Is.of ⟨(by kernel_rfl), (by kernel_rfl), (by kernel_rfl), (by kernel_rfl), (by kernel_rfl), (by kernel_rfl), (by kernel_rfl), (by kernel_rfl), trivial⟩)⟩
    · skip
      refine s_valE (some 28) (.bool (((n1 + 1 : Nat) : Int) == 136)) (.bool false) (fun w => by kernel_rfl) (bool_eq (beq_eq_false_iff_ne.2 (by omega))) (by kernel_rfl) ?_
      refine s_nil ?_
      refine g_cond_f (by kernel_rfl) (by kernel_rfl) ?_
      refine g_skip (by kernel_rfl) ?_
      show WP _ _ _ _ _ _
      refine g_reg0 [0, 1] (by kernel_rfl) ?_
      refine s_valE (some 31) (.int .i64 (IntKind.i64.wrap (((k : Nat) : Int) + 1))) (.int .i64 ((k + 1 : Nat) : Int)) (fun w => by kernel_rfl) (int_eq (wrapAdd_i64 (a := k) (b := 1) (by omega))) (by kernel_rfl) ?_
      refine s_val (some 11) (.int .i64 ((k + 1 : Nat) : Int)) (fun w => by kernel_rfl) (by kernel_rfl) ?_
      refine s_nil ?_
      show ∃ m, _ ∧ _
      exact ⟨_, (by omega), (lay s1 n1 (BitVec.ofNat 64 (by_ t k))), (n1 + 1), (k + 1), rfl, (lay_len _ _ hs1), (by omega), (by omega), ((take_step htk (by omega)).trans (if_neg (by omega))), H4, (Is.of ⟨(by kernel_rfl), (by kernel_rfl), (by kernel_rfl), (by kernel_rfl), (by kernel_rfl), (by kernel_rfl), (by kernel_rfl), (by kernel_rfl), trivial⟩)⟩
  · skip
    refine s_valE (some 12) (.bool (decide (((k : Nat) : Int) < ((ByteArray.size t : Nat) : Int)))) (.bool false) (fun w => by kernel_rfl) (bool_eq (decide_eq_false (by omega))) (by kernel_rfl) ?_
    refine s_nil ?_
    refine g_seq (by kernel_rfl) ?_
    refine g_cond_f (by kernel_rfl) (by kernel_rfl) ?_
    refine g_exit 0 (by kernel_rfl) ?_
    show WP _ _ _ _ _ _
    refine g_sreg [0, 1, 2, 3] (by kernel_rfl) (by kernel_rfl) ?_
    refine s_load H3 (some 32) 26 (.tmp 3) 0 b1 (Value.cells (svn s1)) 26 (0, 0) (by kernel_rfl) (by kernel_rfl) (by kernel_rfl) (by kernel_rfl) (by kernel_rfl) ?_
    refine s_val (some 33) (.int .i64 ((n1 : Nat) : Int)) (fun w => by kernel_rfl) (by kernel_rfl) ?_
    refine s_store H3 1 [(b1, Obj.cells (Value.cells (svn s1)) 26 (0, 0)), (b2, Obj.cells (Value.cells (svn s1)) 26 (0, 0))] 26 (.tmp 6) (.tmp 32) b2 (0) #[.int .u64 0, .int .u64 0, .int .u64 0, .int .u64 0, .int .u64 0, .int .u64 0, .int .u64 0, .int .u64 0, .int .u64 0, .int .u64 0, .int .u64 0, .int .u64 0, .int .u64 0, .int .u64 0, .int .u64 0, .int .u64 0, .int .u64 0, .int .u64 0, .int .u64 0, .int .u64 0, .int .u64 0, .int .u64 0, .int .u64 0, .int .u64 0, .int .u64 0] (Value.cells (svn s1)) 26 (svn s1) (by kernel_rfl) (by kernel_rfl) (by kernel_rfl) (by kernel_rfl) (by kernel_rfl) (by kernel_rfl) (of_decide_eq_true (by kernel_rfl)) (by kernel_rfl) (by kernel_rfl) ?_
    intro w7 H7; clear H3
    refine s_val (some 7) (.int .i64 ((n1 : Nat) : Int)) (fun w => by kernel_rfl) (by kernel_rfl) ?_
    refine s_nil ?_
    refine g_ret (by kernel_rfl) ?_
    show ∃ vs, Res _ _ _ _ vs ∧ _
    refine ⟨[svn s1, .int .i64 ((n1 : Nat) : Int)], (.agg (b := b2) (Value.cells (svn s1)) 26 (0, 0) (by kernel_rfl) (H7.get 1 (by kernel_rfl)) (by kernel_rfl) (.tmp (.int .i64 ((n1 : Nat) : Int)) (by kernel_rfl) .nil)), ?_, H7.below⟩
    rw [List.take_of_length_le (show (tl t).length ≤ k by rw [tl_len]; omega)] at htk; rw [htk]; rfl

set_option maxRecDepth 100000 in
set_option maxHeartbeats 2000000 in
theorem end_fn (s : List (BitVec 64)) (n : Nat) (hs : s.length = 25) (hn : n < 136) : Fn Tryd.prog 18 #[svn s, .int .i64 ((n : Nat) : Int)] (svn (endB (s, n))) := by
  refine Fn.intro (c := codeOf Tryd.f18) [.cell 4 26] 19 Tryd.func18 (by kernel_rfl) (by kernel_rfl) (by kernel_rfl) fun w => ?_
  have H0 := St.start w
  refine g_sreg [0, 1] (by kernel_rfl) (by kernel_rfl) ?_
  refine s_box H0 (some 2) 26 (.tmp 0) (svn s) (by kernel_rfl) (by kernel_rfl) (by kernel_rfl) ?_
  intro b1 w1 H1; clear H0
  refine s_alloc H1 (some 4) 26 (.agg #[.int .u64 0, .int .u64 0, .int .u64 0, .int .u64 0, .int .u64 0, .int .u64 0, .int .u64 0, .int .u64 0, .int .u64 0, .int .u64 0, .int .u64 0, .int .u64 0, .int .u64 0, .int .u64 0, .int .u64 0, .int .u64 0, .int .u64 0, .int .u64 0, .int .u64 0, .int .u64 0, .int .u64 0, .int .u64 0, .int .u64 0, .int .u64 0, .int .u64 0]) (by kernel_rfl) (by kernel_rfl) (by kernel_rfl) ?_
  intro b2 w2 H2; clear H1
  refine s_nil ?_
  refine D2.g_sdraw [0, 1, 2, 3, 4, 5, 6, 7, 8] [((some 5), fun _ => .int .i64 ((n : Nat) : Int)), ((some 6), fun _ => .int .i64 ((n / 8 : Nat) : Int)), ((some 7), fun _ => .pointer (some ⟨b1, 0 + (n / 8) * 1, none⟩)), ((some 8), fun _ => .int .u64 ((BitVec.toNat (nth s (n / 8)) : Nat) : Int)), ((some 9), fun _ => .int .i64 ((n : Nat) : Int)), ((some 10), fun _ => .int .u64 ((BitVec.toNat (liftB (BitVec.ofNat 64 1) n) : Nat) : Int)), ((some 11), fun _ => .int .u64 ((BitVec.toNat ((nth s (n / 8)) ^^^ (liftB (BitVec.ofNat 64 1) n)) : Nat) : Int)), ((some 12), fun _ => .pointer (some ⟨b1, 0 + (n / 8) * 1, none⟩)), (none, fun _ => undef)] (D2.Pre w.heap.size w (fun L g => [(true, (b2, Obj.cells #[.int .u64 0, .int .u64 0, .int .u64 0, .int .u64 0, .int .u64 0, .int .u64 0, .int .u64 0, .int .u64 0, .int .u64 0, .int .u64 0, .int .u64 0, .int .u64 0, .int .u64 0, .int .u64 0, .int .u64 0, .int .u64 0, .int .u64 0, .int .u64 0, .int .u64 0, .int .u64 0, .int .u64 0, .int .u64 0, .int .u64 0, .int .u64 0, .int .u64 0] 26 (0, 0))), (true, (bif L 8 then (b1, Obj.cells (Value.cells (svn (lay s n 1))) 26 (0, 0)) else (b1, Obj.cells (Value.cells (svn s)) 26 (0, 0))))]) (fun L g => True)) (by kernel_rfl) (by kernel_rfl) (by kernel_rfl) (by kernel_rfl) ⟨D2.StE.of H2.drew _ (by kernel_rfl), trivial⟩ ⟨?_, ?_, ?_, ?_, ?_, ?_, ?_, ?_, ?_, trivial⟩ ?_
  · exact D2.gv_val (fun _ _ _ h => h) (fun g w => by kernel_rfl)
  · exact D2.gv_valE (fun _ _ _ h => h) (V' := .int .i64 (IntKind.i64.wrap (((n : Nat) : Int).tdiv 8))) (fun g w => by kernel_rfl) (int_eq (quoN_i64 (a := n) (b := 8) (by omega)))
  · exact D2.gv_op (fun _ _ _ h => h) _ (fun g => by kernel_rfl) (fun g => (fun o w ho => idxA_run (kd := .i64) (t := 26) (n := 25) (size := 1) (by kernel_rfl) (x := (.tmp 2)) (y := (.tmp 6)) b1 0 (n / 8) ho (by kernel_rfl) (by kernel_rfl) (by omega) w))
  · exact D2.gv_load1 25 (.tmp 7) 1 (fun g => b1) (fun g => 0 + (n / 8) * 1) (fun g => (Value.cells (svn s))) 26 (0, 0) (fun _ _ _ h => h) (fun g => by kernel_rfl) (fun g => by kernel_rfl) (fun L g hN => (by have hL8 : L 8 = false := (hN.post 8 (by kernel_rfl)); exact D2.ent_get' (p := true) (e := (bif L 8 then (b1, Obj.cells (Value.cells (svn (lay s n 1))) 26 (0, 0)) else (b1, Obj.cells (Value.cells (svn s)) 26 (0, 0)))) (by kernel_rfl) (by rfl) (by simp only [hL8, cond_true, cond_false] <;> rfl))) (by kernel_rfl) (fun L g hN hF => by exact (svn_at s (n / 8) _ (by omega) (by omega)))
  · exact D2.gv_val (fun _ _ _ h => h) (fun g w => by kernel_rfl)
  · exact D2.gv_call 25 #[.int .u8 1, .int .i64 ((n : Nat) : Int)] (fun _ _ _ h => h) (lift_fn 1 n (by omega)) (fun g w => by kernel_rfl)
  · exact D2.gv_valE (fun _ _ _ h => h) (V' := .int .u64 (Go.bits .xor .u64 (((BitVec.toNat (nth s (n / 8)) : Nat) : Int)) (((BitVec.toNat (liftB (BitVec.ofNat 64 1) n) : Nat) : Int)))) (fun g w => by kernel_rfl) (bv_xor_u64 (nth s (n / 8)) (liftB (BitVec.ofNat 64 1) n))
  · exact D2.gv_op (fun _ _ _ h => h) _ (fun g => by kernel_rfl) (fun g => (fun o w ho => idxA_run (kd := .i64) (t := 26) (n := 25) (size := 1) (by kernel_rfl) (x := (.tmp 2)) (y := (.tmp 6)) b1 0 (n / 8) ho (by kernel_rfl) (by kernel_rfl) (by omega) w))
  · exact D2.gv_store 1 25 (.tmp 12) (.tmp 11) (fun g => b1) (fun g => 0 + (n / 8) * 1) (Value.cells (svn s)) (Value.cells (svn (lay s n 1))) 26 (.int .u64 ((BitVec.toNat ((nth s (n / 8)) ^^^ (liftB (BitVec.ofNat 64 1) n)) : Nat) : Int)) (fun g => by kernel_rfl) (fun g => by kernel_rfl) (fun g => by kernel_rfl) (by kernel_rfl) (by kernel_rfl) (fun g => (by show _ + 1 ≤ 25; omega)) (fun g => (svn_put s (n / 8) _ ((nth s (n / 8)) ^^^ (liftB (BitVec.ofNat 64 1) n)) hs (by omega) (by omega))) (fun L g hN => ⟨(by have hL8 : L 8 = false := hN.1; exact D2.ent_get' (p := true) (e := (bif L 8 then (b1, Obj.cells (Value.cells (svn (lay s n 1))) 26 (0, 0)) else (b1, Obj.cells (Value.cells (svn s)) 26 (0, 0)))) (by kernel_rfl) (by rfl) (by simp only [hL8, cond_true, cond_false] <;> rfl)), (by kernel_rfl)⟩) (fun L g hN hF => hF)
  intro L0 G3 w3 hall HL; clear H2
  have H3 : St w.heap.size w w3 [(b2, Obj.cells #[.int .u64 0, .int .u64 0, .int .u64 0, .int .u64 0, .int .u64 0, .int .u64 0, .int .u64 0, .int .u64 0, .int .u64 0, .int .u64 0, .int .u64 0, .int .u64 0, .int .u64 0, .int .u64 0, .int .u64 0, .int .u64 0, .int .u64 0, .int .u64 0, .int .u64 0, .int .u64 0, .int .u64 0, .int .u64 0, .int .u64 0, .int .u64 0, .int .u64 0] 26 (0, 0)), (b1, Obj.cells (Value.cells (svn (lay s n 1))) 26 (0, 0))] := by have e8 := hall 8 (Nat.le_of_ble_eq_true (by kernel_rfl)); have hS := D2.StE.st HL.1; simp only [e8, cond_true, D2.pres] at hS; exact hS
  clear HL hall
  refine D2.g_sdraw [0, 1, 2, 3, 4, 5] [((some 13), fun _ => .pointer (some ⟨b1, 16, none⟩)), ((some 14), fun _ => .int .u64 ((BitVec.toNat (nth (lay s n 1) 16) : Nat) : Int)), ((some 15), fun _ => .int .u64 ((BitVec.toNat (liftB (BitVec.ofNat 64 128) 135) : Nat) : Int)), ((some 16), fun _ => .int .u64 ((BitVec.toNat ((nth (lay s n 1) 16) ^^^ (liftB (BitVec.ofNat 64 128) 135)) : Nat) : Int)), ((some 17), fun _ => .pointer (some ⟨b1, 16, none⟩)), (none, fun _ => undef)] (D2.Pre w.heap.size w (fun L g => [(true, (b2, Obj.cells #[.int .u64 0, .int .u64 0, .int .u64 0, .int .u64 0, .int .u64 0, .int .u64 0, .int .u64 0, .int .u64 0, .int .u64 0, .int .u64 0, .int .u64 0, .int .u64 0, .int .u64 0, .int .u64 0, .int .u64 0, .int .u64 0, .int .u64 0, .int .u64 0, .int .u64 0, .int .u64 0, .int .u64 0, .int .u64 0, .int .u64 0, .int .u64 0, .int .u64 0] 26 (0, 0))), (true, (bif L 5 then (b1, Obj.cells (Value.cells (svn (lay (lay s n 1) 135 128))) 26 (0, 0)) else (b1, Obj.cells (Value.cells (svn (lay s n 1))) 26 (0, 0))))]) (fun L g => True)) (by kernel_rfl) (by kernel_rfl) (by kernel_rfl) (by kernel_rfl) ⟨D2.StE.of H3.drew _ (by kernel_rfl), trivial⟩ ⟨?_, ?_, ?_, ?_, ?_, ?_, trivial⟩ ?_
  · exact D2.gv_val (fun _ _ _ h => h) (fun g w => by kernel_rfl)
  · exact D2.gv_load1 25 (.tmp 13) 1 (fun g => b1) (fun g => 16) (fun g => (Value.cells (svn (lay s n 1)))) 26 (0, 0) (fun _ _ _ h => h) (fun g => by kernel_rfl) (fun g => by kernel_rfl) (fun L g hN => (by have hL5 : L 5 = false := (hN.post 5 (by kernel_rfl)); exact D2.ent_get' (p := true) (e := (bif L 5 then (b1, Obj.cells (Value.cells (svn (lay (lay s n 1) 135 128))) 26 (0, 0)) else (b1, Obj.cells (Value.cells (svn (lay s n 1))) 26 (0, 0)))) (by kernel_rfl) (by rfl) (by simp only [hL5, cond_true, cond_false] <;> rfl))) (by kernel_rfl) (fun L g hN hF => by kernel_rfl)
  · exact D2.gv_call 25 #[.int .u8 128, .int .i64 135] (fun _ _ _ h => h) (lift_fn 128 135 (by omega)) (fun g w => by kernel_rfl)
  · exact D2.gv_valE (fun _ _ _ h => h) (V' := .int .u64 (Go.bits .xor .u64 (((BitVec.toNat (nth (lay s n 1) 16) : Nat) : Int)) (((BitVec.toNat (liftB (BitVec.ofNat 64 128) 135) : Nat) : Int)))) (fun g w => by kernel_rfl) (bv_xor_u64 (nth (lay s n 1) 16) (liftB (BitVec.ofNat 64 128) 135))
  · exact D2.gv_val (fun _ _ _ h => h) (fun g w => by kernel_rfl)
  · exact D2.gv_store 1 25 (.tmp 17) (.tmp 16) (fun g => b1) (fun g => 16) (Value.cells (svn (lay s n 1))) (Value.cells (svn (lay (lay s n 1) 135 128))) 26 (.int .u64 ((BitVec.toNat ((nth (lay s n 1) 16) ^^^ (liftB (BitVec.ofNat 64 128) 135)) : Nat) : Int)) (fun g => by kernel_rfl) (fun g => by kernel_rfl) (fun g => by kernel_rfl) (by kernel_rfl) (by kernel_rfl) (fun g => (of_decide_eq_true (by kernel_rfl))) (fun g => (svn_put (lay s n 1) 16 16 _ (lay_len _ _ hs) rfl (by omega))) (fun L g hN => ⟨(by have hL5 : L 5 = false := hN.1; exact D2.ent_get' (p := true) (e := (bif L 5 then (b1, Obj.cells (Value.cells (svn (lay (lay s n 1) 135 128))) 26 (0, 0)) else (b1, Obj.cells (Value.cells (svn (lay s n 1))) 26 (0, 0)))) (by kernel_rfl) (by rfl) (by simp only [hL5, cond_true, cond_false] <;> rfl)), (by kernel_rfl)⟩) (fun L g hN hF => hF)
  intro L0 G4 w4 hall HL; clear H3
  have H4 : St w.heap.size w w4 [(b2, Obj.cells #[.int .u64 0, .int .u64 0, .int .u64 0, .int .u64 0, .int .u64 0, .int .u64 0, .int .u64 0, .int .u64 0, .int .u64 0, .int .u64 0, .int .u64 0, .int .u64 0, .int .u64 0, .int .u64 0, .int .u64 0, .int .u64 0, .int .u64 0, .int .u64 0, .int .u64 0, .int .u64 0, .int .u64 0, .int .u64 0, .int .u64 0, .int .u64 0, .int .u64 0] 26 (0, 0)), (b1, Obj.cells (Value.cells (svn (lay (lay s n 1) 135 128))) 26 (0, 0))] := by have e5 := hall 5 (Nat.le_of_ble_eq_true (by kernel_rfl)); have hS := D2.StE.st HL.1; simp only [e5, cond_true, D2.pres] at hS; exact hS
  clear HL hall
  refine g_sreg [0, 1] (by kernel_rfl) (by kernel_rfl) ?_
  refine s_load H4 (some 18) 26 (.tmp 2) 1 b1 (Value.cells (svn (lay (lay s n 1) 135 128))) 26 (0, 0) (by kernel_rfl) (by kernel_rfl) (by kernel_rfl) (by kernel_rfl) (by kernel_rfl) ?_
  refine s_store H4 0 [(b2, Obj.cells (Value.cells (svn (lay (lay s n 1) 135 128))) 26 (0, 0)), (b1, Obj.cells (Value.cells (svn (lay (lay s n 1) 135 128))) 26 (0, 0))] 26 (.tmp 4) (.tmp 18) b2 (0) #[.int .u64 0, .int .u64 0, .int .u64 0, .int .u64 0, .int .u64 0, .int .u64 0, .int .u64 0, .int .u64 0, .int .u64 0, .int .u64 0, .int .u64 0, .int .u64 0, .int .u64 0, .int .u64 0, .int .u64 0, .int .u64 0, .int .u64 0, .int .u64 0, .int .u64 0, .int .u64 0, .int .u64 0, .int .u64 0, .int .u64 0, .int .u64 0, .int .u64 0] (Value.cells (svn (lay (lay s n 1) 135 128))) 26 (svn (lay (lay s n 1) 135 128)) (by kernel_rfl) (by kernel_rfl) (by kernel_rfl) (by kernel_rfl) (by kernel_rfl) (by kernel_rfl) (of_decide_eq_true (by kernel_rfl)) (by kernel_rfl) (by kernel_rfl) ?_
  intro w5 H5; clear H4
  refine s_nil ?_
  refine g_ret (by kernel_rfl) ?_
  show ∃ vs, Res _ _ _ _ vs ∧ _
  refine ⟨[svn (lay (lay s n 1) 135 128)], (.agg (b := b2) (Value.cells (svn (lay (lay s n 1) 135 128))) 26 (0, 0) (by kernel_rfl) (H5.get 0 (by kernel_rfl)) (by kernel_rfl) .nil), ?_, H5.below⟩
  rfl
end Go.Proofs.YtddhadddpllbcaaDoor
