/-
  The law U256Bytes, walked.
-/
import Derived.Test.YthomanpefekaaaaNum
import Derived.Test.YthomanpefekaaaaUlib
import Derived.Test.YthomanpefekaaaaRefM
import Derived.Test.YthomanpefekaaaaRefB
import Derived.Test.YthomanpefekaaaaAlive
namespace Go.Proofs.Ythomanpefekaaaa
open Go Go.RowKit
set_option linter.unusedVariables false
set_option maxRecDepth 100000 in
theorem rfrom_fn (s : ByteArray) (hs : ByteArray.size s ≤ 32) : Fn Try.prog 20 #[.string s] (uv (sv (tl s))) := by
  refine Fn.intro (c := codeOf Try.f20) [.cell 2 24] 23 Try.func20 (by kernel_rfl) (by kernel_rfl) (by kernel_rfl) fun w => ?_
  have H0 := St.start w
  refine g_sreg [0] (by kernel_rfl) (by kernel_rfl) ?_
  refine s_alloc H0 (some 2) 24 (.agg #[.int .u64 0, .int .u64 0, .int .u64 0, .int .u64 0]) (by kernel_rfl) (by kernel_rfl) (by kernel_rfl) ?_
  intro b1 w1 H1; clear H0
  refine s_nil ?_
  refine g_sreg [0, 1] (by kernel_rfl) (by kernel_rfl) ?_
  refine s_new H1 (some 5) (fun b => .slice (some ⟨b, 0, none⟩) 0 0) #[] 3 (fun w => by kernel_rfl) (by kernel_rfl) ?_
  intro b2 w2 H2; clear H1
  refine s_val (some 3) (.slice (some ⟨b2, 0, none⟩) 0 0) (fun w => by kernel_rfl) (by kernel_rfl) ?_
  refine s_nil ?_
  refine g_seq (by kernel_rfl) ?_
  refine g_sreg [0] (by kernel_rfl) (by kernel_rfl) ?_
  refine s_val (some 4) (.int .i64 0) (fun w => by kernel_rfl) (by kernel_rfl) ?_
  refine s_nil ?_
  refine g_block 0 (by kernel_rfl) ?_
  have HF1 : St w.heap.size w w2 [(b2, Obj.cells #[] 3 (0, 0)), (b1, Obj.cells #[.int .u64 0, .int .u64 0, .int .u64 0, .int .u64 0] 24 (0, 0))] := H2.front 0 (by kernel_rfl) (by kernel_rfl)
  have HF2 : St w.heap.size w w2 [(b1, Obj.cells #[.int .u64 0, .int .u64 0, .int .u64 0, .int .u64 0] 24 (0, 0)), (b2, Obj.cells #[] 3 (0, 0))] := HF1.front 1 (by kernel_rfl) (by kernel_rfl)
  refine g_loop (by kernel_rfl) (fun m ρ ww => ∃ (b : Nat) (cap : Nat) (n : Nat) (cur : Array Value) (l : List Nat) (k : Nat), ByteArray.size s + 1 - k = m ∧ (n = List.length l) ∧ (Rw 1 cur cap n (cellsD l)) ∧ (Ok l) ∧ (vl l = sv (List.take k (tl s))) ∧ (n ≤ 3 * k) ∧ (k ≤ ByteArray.size s) ∧ St w.heap.size w ww [(b1, Obj.cells #[.int .u64 0, .int .u64 0, .int .u64 0, .int .u64 0] 24 (0, 0)), (b, Obj.cells cur 3 (0, 0))] ∧ Is [(0, .string s), (2, .pointer (some ⟨b1, 0, none⟩)), (3, .slice (some ⟨b, 0, none⟩) n cap), (4, .int .i64 ((k : Nat) : Int))] ρ) (ByteArray.size s + 1 - 0) ⟨b2, 0, 0, #[], [], 0, rfl, rfl, (Rw.lit #[] 0 rfl (by unfold maxLen; omega)), (by intro d hd; cases hd), rfl, (by omega), (by omega), HF2, (Is.of ⟨(by kernel_rfl), (by kernel_rfl), (by kernel_rfl), (by kernel_rfl), trivial⟩)⟩ ?_
  clear HF2
  rintro _ _ w3 ⟨b, cap, n, cur, l, k, rfl, hn, hr, hok, hv, hl, hk, H3, _, rfl⟩
  have hby := by_lt s k; have h256 : vl [256] = 256 := rfl; have hl256 : List.length [256] = 1 := rfl; have hlb : List.length [by_ s k] = 1 := rfl; have hvb : vl [by_ s k] = by_ s k := by simp [vl]
  refine g_seq (by kernel_rfl) ?_
  refine g_sreg [0, 1, 2, 3] (by kernel_rfl) (by kernel_rfl) ?_
  refine s_val (some 6) (.int .i64 ((k : Nat) : Int)) (fun w => by kernel_rfl) (by kernel_rfl) ?_
  refine s_val (some 7) (.string s) (fun w => by kernel_rfl) (by kernel_rfl) ?_
  refine s_val (some 8) (.int .i64 ((ByteArray.size s : Nat) : Int)) (fun w => by kernel_rfl) (by kernel_rfl) ?_
  by_cases hc3 : (k : Nat) < ByteArray.size s
  · skip
    refine s_valE (some 9) (.bool (decide (((k : Nat) : Int) < ((ByteArray.size s : Nat) : Int)))) (.bool true) (fun w => by kernel_rfl) (bool_eq (decide_eq_true (by omega))) (by kernel_rfl) ?_
    refine s_nil ?_
    refine g_cond_t (by kernel_rfl) (by kernel_rfl) ?_
    refine g_skip (by kernel_rfl) ?_
    show WP _ _ _ _ _ _
    refine g_seq (by kernel_rfl) ?_
    refine g_block 1 (by kernel_rfl) ?_
    refine D2.g_draw0 [0, 1, 2, 3, 4, 5, 6, 7, 8, 9] [((some 12), fun _ => .slice (some ⟨b, 0, none⟩) n cap), ((some 13), fun b => .slice (some ⟨b.b, 0, none⟩) 1 1), ((some 14), fun x => .slice (some ⟨x.b, 0, none⟩) x.n x.cap), ((some 15), fun _ => .string s), ((some 16), fun _ => .int .i64 ((k : Nat) : Int)), ((some 17), fun _ => .int .u8 ((by_ s k : Nat) : Int)), ((some 18), fun _ => .int .i64 ((by_ s k : Nat) : Int)), ((some 19), fun b => .slice (some ⟨b.b, 0, none⟩) 1 1), ((some 20), fun x => .slice (some ⟨x.b, 0, none⟩) x.n x.cap), ((some 3), fun y => .slice (some ⟨y.b, 0, none⟩) (y.n) (y.cap))] (D2.Pre w.heap.size w (fun L g => [(true, (b1, Obj.cells #[.int .u64 0, .int .u64 0, .int .u64 0, .int .u64 0] 24 (0, 0))), (true, (b, Obj.cells cur 3 (0, 0))), (L 1, ((g 1).b, Obj.cells #[.int .i64 256] 3 (0, 0))), (L 2, ((g 2).b, Obj.cells ((g 2).cur) 3 (0, 0))), (L 7, ((g 7).b, Obj.cells #[.int .i64 ((by_ s k : Nat) : Int)] 3 (0, 0))), (L 8, ((g 8).b, Obj.cells ((g 8).cur) 3 (0, 0)))]) (fun L g => (L 2 = true → ((g 2).n = List.length ((g 2).l) ∧ Rw 1 (g 2).cur (g 2).cap (g 2).n (cellsD ((g 2).l)) ∧ Ok ((g 2).l) ∧ (vl ((g 2).l) = vl l * vl ([256]) ∧ List.length ((g 2).l) = List.length l + List.length ([256]) + 1))) ∧ (L 8 = true → ((g 8).n = List.length ((g 8).l) ∧ Rw 1 (g 8).cur (g 8).cap (g 8).n (cellsD ((g 8).l)) ∧ Ok ((g 8).l) ∧ (vl ((g 8).l) = vl ((g 2).l) + vl ([by_ s k]) ∧ List.length ((g 8).l) ≤ max (List.length ((g 2).l)) (List.length ([by_ s k])) + 1 ∧ max (List.length ((g 2).l)) (List.length ([by_ s k])) ≤ List.length ((g 8).l)))) ∧ (L 9 = true → g 9 = g 8) ∧ True)) (by kernel_rfl) (by kernel_rfl) (by kernel_rfl) ⟨D2.StE.of H3.drew _ (by kernel_rfl), ⟨(fun h => nomatch h), (fun h => nomatch h), (fun h => nomatch h), trivial⟩⟩ ⟨?_, ?_, ?_, ?_, ?_, ?_, ?_, ?_, ?_, ?_, trivial⟩ ?_
    · exact D2.gv_val (fun _ _ _ h => h) (fun g w => by kernel_rfl)
    · exact D2.gv_new (fun b => .slice (some ⟨b, 0, none⟩) 1 1) #[.int .i64 256] 3 2 (fun g w => by kernel_rfl) (fun L g b hN => (by kernel_rfl)) (fun L g b hN hF => hF)
    · exact D2.gv_callS 42 (fun g => #[.slice (some ⟨b, 0, none⟩) n cap, .slice (some ⟨(g 1).b, 0, none⟩) 1 1]) (fun g => fun w => w.heap[b]? = some (.cells cur 3 (0, 0)) ∧ w.heap[(g 1).b]? = some (.cells #[.int .i64 256] 3 (0, 0))) 3 1 (fun g curZ capZ nZ lZ => (nZ = List.length lZ ∧ Rw 1 curZ capZ nZ (cellsD lZ) ∧ Ok lZ ∧ (vl lZ = vl l * vl ([256]) ∧ List.length lZ = List.length l + List.length ([256]) + 1))) 3 (fun L g hN hF => by exact times_fn l ([256]) b n cap ((g 1).b) 1 1 cur #[.int .i64 256] hn rfl hr (Rw.lit #[.int .i64 256] 1 (by rfl) (by unfold maxLen; omega)) hok (by intro d hd; simp at hd; omega) (by omega) (by simp)) (fun L g w hN hE hF => by exact ⟨(hE.get 1 (by kernel_rfl)), (hE.get 2 (by have hL1 : L 1 = true := (hN.bef 1 (by kernel_rfl)); exact D2.ent_get' (p := L 1) (e := ((g 1).b, Obj.cells #[.int .i64 256] 3 (0, 0))) (by kernel_rfl) (by exact hL1) (by simp only [hL1, cond_true, cond_false] <;> rfl)))⟩) (fun g w => by kernel_rfl) (fun L g x hN => (by kernel_rfl)) (fun L g x hN hF hS => ⟨fun _ => hS, (fun hx => nomatch (Eq.trans (Eq.symm (show L 8 = true from hx)) (hN.post 8 (by kernel_rfl)))), hF.2.2.1, trivial⟩)
    · exact D2.gv_val (fun _ _ _ h => h) (fun g w => by kernel_rfl)
    · exact D2.gv_val (fun _ _ _ h => h) (fun g w => by kernel_rfl)
    · exact D2.gv_op (fun _ _ _ h => h) _ (fun g => by kernel_rfl) (fun g => (fun o w ho => sindex_run (t := 9) (kd := .i64) (by kernel_rfl) (x := (.tmp 15)) (y := (.tmp 16)) s k ho (by kernel_rfl) (by kernel_rfl) (by omega) w))
    · exact D2.gv_valE (fun _ _ _ h => h) (V' := .int .i64 (IntKind.i64.wrap (((by_ s k : Nat) : Int)))) (fun g w => by kernel_rfl) (int_eq (wrapN_i64 (a := by_ s k) (by omega)))
    · exact D2.gv_new (fun b => .slice (some ⟨b, 0, none⟩) 1 1) #[.int .i64 ((by_ s k : Nat) : Int)] 3 4 (fun g w => by kernel_rfl) (fun L g b hN => (by kernel_rfl)) (fun L g b hN hF => hF)
    · exact D2.gv_callS 38 (fun g => #[.slice (some ⟨(g 2).b, 0, none⟩) ((g 2).n) ((g 2).cap), .slice (some ⟨(g 7).b, 0, none⟩) 1 1]) (fun g => fun w => w.heap[(g 2).b]? = some (.cells (g 2).cur 3 (0, 0)) ∧ w.heap[(g 7).b]? = some (.cells #[.int .i64 ((by_ s k : Nat) : Int)] 3 (0, 0))) 3 1 (fun g curZ capZ nZ lZ => (nZ = List.length lZ ∧ Rw 1 curZ capZ nZ (cellsD lZ) ∧ Ok lZ ∧ (vl lZ = vl ((g 2).l) + vl ([by_ s k]) ∧ List.length lZ ≤ max (List.length ((g 2).l)) (List.length ([by_ s k])) + 1 ∧ max (List.length ((g 2).l)) (List.length ([by_ s k])) ≤ List.length lZ))) 5 (fun L g hN hF => by have hf2 := (hF.1 (hN.bef 2 (by kernel_rfl))); exact sum_fn ((g 2).l) ([by_ s k]) ((g 2).b) ((g 2).n) ((g 2).cap) ((g 7).b) 1 1 ((g 2).cur) #[.int .i64 ((by_ s k : Nat) : Int)] hf2.1 rfl hf2.2.1 (Rw.lit #[.int .i64 ((by_ s k : Nat) : Int)] 1 (by rfl) (by unfold maxLen; omega)) hf2.2.2.1 (by intro d hd; simp at hd; omega) (by have := hf2.2.2.2; omega) (by simp)) (fun L g w hN hE hF => by have hf2 := (hF.1 (hN.bef 2 (by kernel_rfl))); exact ⟨(hE.get 3 (by have hL2 : L 2 = true := (hN.bef 2 (by kernel_rfl)); exact D2.ent_get' (p := L 2) (e := ((g 2).b, Obj.cells ((g 2).cur) 3 (0, 0))) (by kernel_rfl) (by exact hL2) (by simp only [hL2, cond_true, cond_false] <;> rfl))), (hE.get 4 (by have hL7 : L 7 = true := (hN.bef 7 (by kernel_rfl)); exact D2.ent_get' (p := L 7) (e := ((g 7).b, Obj.cells #[.int .i64 ((by_ s k : Nat) : Int)] 3 (0, 0))) (by kernel_rfl) (by exact hL7) (by simp only [hL7, cond_true, cond_false] <;> rfl)))⟩) (fun g w => by kernel_rfl) (fun L g x hN => (by kernel_rfl)) (fun L g x hN hF hS => ⟨hF.1, fun _ => hS, (fun hx => nomatch (Eq.trans (Eq.symm (show L 9 = true from hx)) (hN.post 9 (by kernel_rfl)))), trivial⟩)
    · exact D2.gv_valG (fun g => g 8) (fun L g w hN hp => ⟨hp.1, hp.2.1, hp.2.2.1, fun _ => rfl, trivial⟩) (fun g w => by kernel_rfl)
    intro L0 G4 w4 hall HL; clear H3
    have H4 : St w.heap.size w w4 [(b1, Obj.cells #[.int .u64 0, .int .u64 0, .int .u64 0, .int .u64 0] 24 (0, 0)), (b, Obj.cells cur 3 (0, 0)), ((G4 1).b, Obj.cells #[.int .i64 256] 3 (0, 0)), ((G4 2).b, Obj.cells ((G4 2).cur) 3 (0, 0)), ((G4 7).b, Obj.cells #[.int .i64 ((by_ s k : Nat) : Int)] 3 (0, 0)), ((G4 8).b, Obj.cells ((G4 8).cur) 3 (0, 0))] := by have e1 := hall 1 (Nat.le_of_ble_eq_true (by kernel_rfl)); have e2 := hall 2 (Nat.le_of_ble_eq_true (by kernel_rfl)); have e7 := hall 7 (Nat.le_of_ble_eq_true (by kernel_rfl)); have e8 := hall 8 (Nat.le_of_ble_eq_true (by kernel_rfl)); have e9 := hall 9 (Nat.le_of_ble_eq_true (by kernel_rfl)); have hS := D2.StE.st HL.1; simp only [e1, e2, e7, e8, e9, cond_true, D2.pres] at hS; exact hS
    have hf2_4 : ((G4 2).n = List.length ((G4 2).l) ∧ Rw 1 (G4 2).cur (G4 2).cap (G4 2).n (cellsD ((G4 2).l)) ∧ Ok ((G4 2).l) ∧ (vl ((G4 2).l) = vl l * vl ([256]) ∧ List.length ((G4 2).l) = List.length l + List.length ([256]) + 1)) := HL.2.1 (hall 2 (Nat.le_of_ble_eq_true (by kernel_rfl)))
    have hf8_4 : ((G4 8).n = List.length ((G4 8).l) ∧ Rw 1 (G4 8).cur (G4 8).cap (G4 8).n (cellsD ((G4 8).l)) ∧ Ok ((G4 8).l) ∧ (vl ((G4 8).l) = vl ((G4 2).l) + vl ([by_ s k]) ∧ List.length ((G4 8).l) ≤ max (List.length ((G4 2).l)) (List.length ([by_ s k])) + 1 ∧ max (List.length ((G4 2).l)) (List.length ([by_ s k])) ≤ List.length ((G4 8).l))) := HL.2.2.1 (hall 8 (Nat.le_of_ble_eq_true (by kernel_rfl)))
    have hf9_4 : G4 9 = G4 8 := HL.2.2.2.1 (hall 9 (Nat.le_of_ble_eq_true (by kernel_rfl)))
    clear HL hall
    rw [← hf9_4] at H4 hf8_4
    show WP _ _ _ _ _ _
    refine g_reg0 [0, 1, 2] (by kernel_rfl) ?_
    refine s_val (some 10) (.int .i64 ((k : Nat) : Int)) (fun w => by kernel_rfl) (by kernel_rfl) ?_
    refine s_valE (some 11) (.int .i64 (IntKind.i64.wrap (((k : Nat) : Int) + 1))) (.int .i64 ((k + 1 : Nat) : Int)) (fun w => by kernel_rfl) (int_eq (wrapAdd_i64 (a := k) (b := 1) (by omega))) (by kernel_rfl) ?_
    refine s_val (some 4) (.int .i64 ((k + 1 : Nat) : Int)) (fun w => by kernel_rfl) (by kernel_rfl) ?_
    refine s_nil ?_
    have hst := sv_take s k (by omega)
    have HD4 : St w.heap.size w w4 [(b1, Obj.cells #[.int .u64 0, .int .u64 0, .int .u64 0, .int .u64 0] 24 (0, 0)), ((G4 9).b, Obj.cells ((G4 9).cur) 3 (0, 0))] := H4.sub (List.Sublist.cons_cons _ (List.Sublist.cons _ (List.Sublist.cons _ (List.Sublist.cons _ (List.Sublist.cons _ (List.Sublist.cons_cons _ List.Sublist.slnil))))))
    show ∃ m, _ ∧ _
    exact ⟨_, (by omega), (G4 9).b, (G4 9).cap, (G4 9).n, (G4 9).cur, (G4 9).l, k + 1, rfl, hf8_4.1, hf8_4.2.1, hf8_4.2.2.1, (by have e8 := hf8_4.2.2.2; have e2 := hf2_4.2.2.2; rw [hst, e8.1, e2.1, hvb, h256, hv]; omega), (by have e8 := hf8_4.2.2.2; have e2 := hf2_4.2.2.2; have e0 := hf8_4.1; omega), (by omega), HD4, (Is.of ⟨(by kernel_rfl), (by kernel_rfl), (by kernel_rfl), (by kernel_rfl), trivial⟩)⟩
  · skip
    refine s_valE (some 9) (.bool (decide (((k : Nat) : Int) < ((ByteArray.size s : Nat) : Int)))) (.bool false) (fun w => by kernel_rfl) (bool_eq (decide_eq_false (by omega))) (by kernel_rfl) ?_
    refine s_nil ?_
    refine g_cond_f (by kernel_rfl) (by kernel_rfl) ?_
    refine g_exit 0 (by kernel_rfl) ?_
    show WP _ _ _ _ _ _
    refine g_sreg [0, 1, 2] (by kernel_rfl) (by kernel_rfl) ?_
    refine s_val (some 21) (.slice (some ⟨b, 0, none⟩) n cap) (fun w => by kernel_rfl) (by kernel_rfl) ?_
    refine s_callP H3 (some 22) 10 #[.slice (some ⟨b, 0, none⟩) n cap] (fun w => w.heap[b]? = some (.cells cur 3 (0, 0))) (uv (sv (tl s))) (by have hnum := to_fn l b n cap cur hn hr (by omega) hok; have heq : (vl l % big) = (sv (tl s)) := (by rw [hv, show k = ByteArray.size s by omega, List.take_of_length_le (Nat.le_of_eq (tl_len s)), Nat.mod_eq_of_lt (sv_big s hs)]); rw [heq] at hnum; exact hnum) (H3.get 1 (by kernel_rfl)) (fun w => by kernel_rfl) (by kernel_rfl) ?_
    intro w5 H5; clear H3
    refine s_store H5 0 [(b1, Obj.cells (Value.cells (uv (sv (tl s)))) 24 (0, 0)), (b, Obj.cells cur 3 (0, 0))] 24 (.tmp 2) (.tmp 22) b1 (0) #[.int .u64 0, .int .u64 0, .int .u64 0, .int .u64 0] (Value.cells (uv (sv (tl s)))) 24 (uv (sv (tl s))) (by kernel_rfl) (by kernel_rfl) (by kernel_rfl) (by kernel_rfl) (by kernel_rfl) (by kernel_rfl) (of_decide_eq_true (by kernel_rfl)) (by kernel_rfl) (by kernel_rfl) ?_
    intro w6 H6; clear H5
    refine s_nil ?_
    refine g_ret (by kernel_rfl) ?_
    show ∃ vs, Res _ _ _ _ vs ∧ _
    refine ⟨[uv (sv (tl s))], (.agg (b := b1) (Value.cells (uv (sv (tl s)))) 24 (0, 0) (by kernel_rfl) (H6.get 0 (by kernel_rfl)) (by kernel_rfl) .nil), ?_, H6.below⟩
    rfl

theorem bit_none (A : Nat) (i : Int) (h : i < 0 ∨ 256 ≤ i) : Fn Try.prog 18 #[uv A, .int .i64 i] (.bool false) := by
  have e : bt A i = false := by unfold bt; rcases h with h | h <;> simp <;> omega
  have := bit_fn A i
  rwa [e] at this
theorem bit_some (A k : Nat) (h : k < 256) : Fn Try.prog 18 #[uv A, .int .i64 ((k : Nat) : Int)] (.bool (Nat.testBit A k)) := by
  have e : bt A ((k : Nat) : Int) = Nat.testBit A k := by unfold bt; simp; omega
  have := bit_fn A ((k : Nat) : Int)
  rwa [e] at this
theorem bit_q0 (A k : Nat) (hq : k / 64 = 0) : (((A % 18446744073709551616 / 2 ^ (k % 64) % 2 : Nat) : Int) == 1) = Nat.testBit A k := by
  have e := testBit_word A k (k % 64) 0 (by omega) (by omega) (A % 18446744073709551616) (by simp)
  rw [e, Bool.eq_iff_iff]; simp only [beq_iff_eq]; omega
theorem bit_q1 (A k : Nat) (hq : k / 64 = 1) : (((A / 18446744073709551616 % 18446744073709551616 / 2 ^ (k % 64) % 2 : Nat) : Int) == 1) = Nat.testBit A k := by
  have e := testBit_word A k (k % 64) 1 (by omega) (by omega) (A / 18446744073709551616 % 18446744073709551616) (by rfl)
  rw [e, Bool.eq_iff_iff]; simp only [beq_iff_eq]; omega
theorem bit_q2 (A k : Nat) (hq : k / 64 = 2) : (((A / 340282366920938463463374607431768211456 % 18446744073709551616 / 2 ^ (k % 64) % 2 : Nat) : Int) == 1) = Nat.testBit A k := by
  have e := testBit_word A k (k % 64) 2 (by omega) (by omega) (A / 340282366920938463463374607431768211456 % 18446744073709551616) (by rfl)
  rw [e, Bool.eq_iff_iff]; simp only [beq_iff_eq]; omega
theorem bit_q3 (A k : Nat) (hq : k / 64 = 3) : (((A / 6277101735386680763835789423207666416102355444464034512896 % 18446744073709551616 / 2 ^ (k % 64) % 2 : Nat) : Int) == 1) = Nat.testBit A k := by
  have e := testBit_word A k (k % 64) 3 (by omega) (by omega) (A / 6277101735386680763835789423207666416102355444464034512896 % 18446744073709551616) (by rfl)
  rw [e, Bool.eq_iff_iff]; simp only [beq_iff_eq]; omega
set_option maxRecDepth 100000 in
theorem bytes_slo (A : Nat) (hA : A < big) (s : ByteArray) (hs : ByteArray.size s ≤ 9223372036854775807) (i : Int) (hi : i < 0) (n : Nat) (hn : n < 18446744073709551616) (hle : ByteArray.size (ByteArray.extract s 0 (min (ByteArray.size s) 40)) ≤ 32) : Fn Try.prog 4 #[uv A, .string s, .int .i64 i, .int .u64 ((n : Nat) : Int)] (.bool true) := by
  have hsz : ByteArray.size (ByteArray.extract s 0 (min (ByteArray.size s) 40)) = min (ByteArray.size s) 40 := by rw [← tl_len, tl_extract]; simp [tl_len]
  refine Fn.intro (c := codeOf Try.f4) [.tmp 8] 91 Try.func4 (by kernel_rfl) (by kernel_rfl) (by kernel_rfl) fun w => ?_
  have H0 := St.start w
  refine g_sreg [0, 1] (by kernel_rfl) (by kernel_rfl) ?_
  refine s_box H0 (some 4) 24 (.tmp 0) (uv A) (by kernel_rfl) (by kernel_rfl) (by kernel_rfl) ?_
  intro b1 w1 H1; clear H0
  refine s_val (some 8) (.bool false) (fun w => by kernel_rfl) (by kernel_rfl) ?_
  refine s_nil ?_
  refine g_sreg [0, 1, 2, 3, 4, 5] (by kernel_rfl) (by kernel_rfl) ?_
  refine s_val (some 12) (.string s) (fun w => by kernel_rfl) (by kernel_rfl) ?_
  refine s_val (some 13) (.string s) (fun w => by kernel_rfl) (by kernel_rfl) ?_
  refine s_val (some 14) (.int .i64 ((ByteArray.size s : Nat) : Int)) (fun w => by kernel_rfl) (by kernel_rfl) ?_
  refine s_valE (some 15) (.int .i64 (if (40 : Int) < (((ByteArray.size s : Nat) : Int) : Int) then (40 : Int) else (((ByteArray.size s : Nat) : Int) : Int))) (.int .i64 ((min (ByteArray.size s) 40 : Nat) : Int)) (fun w => by kernel_rfl) (int_eq (minN (ByteArray.size s) 40)) (by kernel_rfl) ?_
  refine s_op (some 16) _ (.string (ByteArray.extract s 0 (min (ByteArray.size s) 40))) (by kernel_rfl) (by kernel_rfl) (fun o w ho => scut_run (t := 9) (kd := .i64) (by kernel_rfl) (x := (.tmp 12)) (y := (.tmp 15)) s (min (ByteArray.size s) 40) ho (by kernel_rfl) (by kernel_rfl) (by omega) w) ?_
  refine s_val (some 1) (.string (ByteArray.extract s 0 (min (ByteArray.size s) 40))) (fun w => by kernel_rfl) (by kernel_rfl) ?_
  refine s_nil ?_
  refine g_sreg [0, 1, 2, 3, 4, 5, 6, 7] (by kernel_rfl) (by kernel_rfl) ?_
  refine s_val (some 18) (.string (ByteArray.extract s 0 (min (ByteArray.size s) 40))) (fun w => by kernel_rfl) (by kernel_rfl) ?_
  refine s_call H1 (some 19) 13 #[.string (ByteArray.extract s 0 (min (ByteArray.size s) 40))] (.tuple #[uv (sv (tl (ByteArray.extract s 0 (min (ByteArray.size s) 40)))), .int .i64 0]) (from_short (ByteArray.extract s 0 (min (ByteArray.size s) 40)) hle) (fun w => by kernel_rfl) (by kernel_rfl) ?_
  intro w2 H2; clear H1
  refine s_val (some 17) (.tuple #[uv (sv (tl (ByteArray.extract s 0 (min (ByteArray.size s) 40)))), .int .i64 0]) (fun w => by kernel_rfl) (by kernel_rfl) ?_
  refine s_val (some 20) (uv (sv (tl (ByteArray.extract s 0 (min (ByteArray.size s) 40))))) (fun w => by kernel_rfl) (by kernel_rfl) ?_
  refine s_val (some 21) (.int .i64 0) (fun w => by kernel_rfl) (by kernel_rfl) ?_
  refine s_alloc H2 (some 9) 24 (.agg #[.int .u64 0, .int .u64 0, .int .u64 0, .int .u64 0]) (by kernel_rfl) (by kernel_rfl) (by kernel_rfl) ?_
  intro b2 w3 H3; clear H2
  refine s_store H3 0 [(b2, Obj.cells (Value.cells (uv (sv (tl (ByteArray.extract s 0 (min (ByteArray.size s) 40)))))) 24 (0, 0)), (b1, Obj.cells (Value.cells (uv A)) 24 (0, 0))] 24 (.tmp 9) (.tmp 20) b2 (0) #[.int .u64 0, .int .u64 0, .int .u64 0, .int .u64 0] (Value.cells (uv (sv (tl (ByteArray.extract s 0 (min (ByteArray.size s) 40)))))) 24 (uv (sv (tl (ByteArray.extract s 0 (min (ByteArray.size s) 40))))) (by kernel_rfl) (by kernel_rfl) (by kernel_rfl) (by kernel_rfl) (by kernel_rfl) (by kernel_rfl) (of_decide_eq_true (by kernel_rfl)) (by kernel_rfl) (by kernel_rfl) ?_
  intro w4 H4; clear H3
  refine s_val (some 10) (.int .i64 0) (fun w => by kernel_rfl) (by kernel_rfl) ?_
  refine s_nil ?_
  refine g_sreg [0, 1, 2, 3, 4, 5, 6, 7, 8, 9, 10, 11, 12, 13, 14, 15, 16, 17, 18, 19, 20, 21] (by kernel_rfl) (by kernel_rfl) ?_
  refine s_val (some 22) (.int .i64 i) (fun w => by kernel_rfl) (by kernel_rfl) ?_
  refine s_valE (some 23) (.bool (decide (0 ≤ i))) (.bool false) (fun w => by kernel_rfl) (bool_eq (decide_eq_false (by omega))) (by kernel_rfl) ?_
  refine s_val (some 24) (.bool false) (fun w => by kernel_rfl) (by kernel_rfl) ?_
  refine s_not (some 25) (by kernel_rfl) (by kernel_rfl) ?_
  refine s_not (some 26) (by kernel_rfl) (by kernel_rfl) ?_
  refine s_val (some 27) (.bool false) (fun w => by kernel_rfl) (by kernel_rfl) ?_
  refine s_val (some 28) (.bool false) (fun w => by kernel_rfl) (by kernel_rfl) ?_
  refine s_not (some 29) (by kernel_rfl) (by kernel_rfl) ?_
  refine s_not (some 30) (by kernel_rfl) (by kernel_rfl) ?_
  refine s_not (some 31) (by kernel_rfl) (by kernel_rfl) ?_
  refine s_not (some 32) (by kernel_rfl) (by kernel_rfl) ?_
  refine s_not (some 33) (by kernel_rfl) (by kernel_rfl) ?_
  refine s_not (some 34) (by kernel_rfl) (by kernel_rfl) ?_
  refine s_not (some 35) (by kernel_rfl) (by kernel_rfl) ?_
  refine s_not (some 36) (by kernel_rfl) (by kernel_rfl) ?_
  refine s_not (some 37) (by kernel_rfl) (by kernel_rfl) ?_
  refine s_not (some 38) (by kernel_rfl) (by kernel_rfl) ?_
  refine s_not (some 39) (by kernel_rfl) (by kernel_rfl) ?_
  refine s_not (some 40) (by kernel_rfl) (by kernel_rfl) ?_
  refine s_not (some 41) (by kernel_rfl) (by kernel_rfl) ?_
  refine s_val (some 42) (.bool false) (fun w => by kernel_rfl) (by kernel_rfl) ?_
  refine s_val (some 11) (.bool false) (fun w => by kernel_rfl) (by kernel_rfl) ?_
  refine s_nil ?_
  refine g_seq (by kernel_rfl) ?_
  refine D2.g_sdraw [0, 1, 2, 3, 4, 5, 6, 7, 8, 9, 10, 11, 12, 13, 14, 15, 16, 17, 18, 19, 20, 21, 22, 23, 24, 25, 26, 27, 28, 29] [((some 43), fun _ => uv A), ((some 44), fun _ => .string (bs A)), ((some 45), fun _ => uv A), ((some 46), fun _ => .string (bs A)), ((some 47), fun _ => .bool false), ((some 48), fun _ => .bool false), ((some 49), fun _ => uv A), ((some 50), fun _ => .int .i64 ((len A : Nat) : Int)), ((some 51), fun _ => uv A), ((some 52), fun _ => .int .i64 ((len A : Nat) : Int)), ((some 53), fun _ => .bool false), ((some 54), fun _ => .bool false), ((some 55), fun _ => .bool false), ((some 56), fun _ => uv A), ((some 57), fun _ => .int .i64 i), ((some 58), fun _ => .bool false), ((some 59), fun _ => .bool false), ((some 60), fun _ => .bool false), ((some 61), fun _ => .bool false), ((some 62), fun _ => .bool false), ((some 63), fun _ => .int .u64 ((n : Nat) : Int)), ((some 64), fun _ => uv n), ((some 65), fun _ => .int .u64 ((n : Nat) : Int)), ((some 66), fun _ => uv n), ((some 67), fun _ => .bool false), ((some 68), fun _ => .bool false), ((some 69), fun _ => .bool false), ((some 70), fun _ => .bool true), ((some 71), fun _ => .bool false), ((some 72), fun _ => .bool false)] (D2.Pre w.heap.size w (fun L g => [(true, (b2, Obj.cells (Value.cells (uv (sv (tl (ByteArray.extract s 0 (min (ByteArray.size s) 40)))))) 24 (0, 0))), (true, (b1, Obj.cells (Value.cells (uv A)) 24 (0, 0)))]) (fun L g => True)) (by kernel_rfl) (by kernel_rfl) (by kernel_rfl) (by kernel_rfl) ⟨D2.StE.of H4.drew _ (by kernel_rfl), trivial⟩ ⟨?_, ?_, ?_, ?_, ?_, ?_, ?_, ?_, ?_, ?_, ?_, ?_, ?_, ?_, ?_, ?_, ?_, ?_, ?_, ?_, ?_, ?_, ?_, ?_, ?_, ?_, ?_, ?_, ?_, ?_, trivial⟩ ?_
  · exact D2.gv_load 24 (.tmp 4) 1 (fun g => b1) (Value.cells (uv A)) 24 (0, 0) (fun _ _ _ h => h) (fun g => by kernel_rfl) (fun g => by kernel_rfl) (fun L g hN => (by kernel_rfl)) (by kernel_rfl)
  · exact D2.gv_call 14 #[uv A] (fun _ _ _ h => h) (bytes_any A hA) (fun g w => by kernel_rfl)
  · exact D2.gv_load 24 (.tmp 4) 1 (fun g => b1) (Value.cells (uv A)) 24 (0, 0) (fun _ _ _ h => h) (fun g => by kernel_rfl) (fun g => by kernel_rfl) (fun L g hN => (by kernel_rfl)) (by kernel_rfl)
  · exact D2.gv_call 15 #[uv A] (fun _ _ _ h => h) (refbytes_fn A hA) (fun g w => by kernel_rfl)
  · exact D2.gv_valE (fun _ _ _ h => h) (V' := .bool (!(ByteArray.toList (bs A) == ByteArray.toList (bs A)))) (fun g w => by kernel_rfl) (bool_eq (by rw [str_self (bs A)]; rfl))
  · exact D2.gv_val (fun _ _ _ h => h) (fun g w => by kernel_rfl)
  · exact D2.gv_load 24 (.tmp 4) 1 (fun g => b1) (Value.cells (uv A)) 24 (0, 0) (fun _ _ _ h => h) (fun g => by kernel_rfl) (fun g => by kernel_rfl) (fun L g hN => (by kernel_rfl)) (by kernel_rfl)
  · exact D2.gv_call 16 #[uv A] (fun _ _ _ h => h) (len_fn A hA) (fun g w => by kernel_rfl)
  · exact D2.gv_load 24 (.tmp 4) 1 (fun g => b1) (Value.cells (uv A)) 24 (0, 0) (fun _ _ _ h => h) (fun g => by kernel_rfl) (fun g => by kernel_rfl) (fun L g hN => (by kernel_rfl)) (by kernel_rfl)
  · exact D2.gv_call 17 #[uv A] (fun _ _ _ h => h) (refbits_fn A hA) (fun g w => by kernel_rfl)
  · exact D2.gv_valE (fun _ _ _ h => h) (V' := .bool (!(((len A : Nat) : Int) == ((len A : Nat) : Int)))) (fun g w => by kernel_rfl) (bool_eq (by rw [beq_iff_eq.2 (by omega)]; rfl))
  · exact D2.gv_val (fun _ _ _ h => h) (fun g w => by kernel_rfl)
  · exact D2.gv_val (fun _ _ _ h => h) (fun g w => by kernel_rfl)
  · exact D2.gv_load 24 (.tmp 4) 1 (fun g => b1) (Value.cells (uv A)) 24 (0, 0) (fun _ _ _ h => h) (fun g => by kernel_rfl) (fun g => by kernel_rfl) (fun L g hN => (by kernel_rfl)) (by kernel_rfl)
  · exact D2.gv_val (fun _ _ _ h => h) (fun g w => by kernel_rfl)
  · exact D2.gv_call 18 #[uv A, .int .i64 i] (fun _ _ _ h => h) (bit_none A i (by omega)) (fun g w => by kernel_rfl)
  · exact D2.gv_val (fun _ _ _ h => h) (fun g w => by kernel_rfl)
  · exact D2.gv_val (fun _ _ _ h => h) (fun g w => by kernel_rfl)
  · exact D2.gv_val (fun _ _ _ h => h) (fun g w => by kernel_rfl)
  · exact D2.gv_val (fun _ _ _ h => h) (fun g w => by kernel_rfl)
  · exact D2.gv_val (fun _ _ _ h => h) (fun g w => by kernel_rfl)
  · exact D2.gv_call 19 #[.int .u64 ((n : Nat) : Int)] (fun _ _ _ h => h) (small_fn n (by omega)) (fun g w => by kernel_rfl)
  · exact D2.gv_val (fun _ _ _ h => h) (fun g w => by kernel_rfl)
  · exact D2.gv_valE (fun _ _ _ h => h) (V' := .agg #[.int .u64 ((n : Nat) : Int), .int .u64 0, .int .u64 0, .int .u64 0]) (fun g w => by kernel_rfl) (uv_small n (by omega))
  · exact D2.gv_opE (fun _ _ _ h => h) _ (V' := .bool (!decide (n = n))) (fun g => by kernel_rfl) (fun g => (fun o w ho => neU_run (x := (.tmp 64)) (y := (.tmp 66)) n n (by unfold big; omega) (by unfold big; omega) w ho (by kernel_rfl) (by kernel_rfl))) (by rw [decide_eq_true rfl] <;> rfl)
  · exact D2.gv_val (fun _ _ _ h => h) (fun g w => by kernel_rfl)
  · exact D2.gv_val (fun _ _ _ h => h) (fun g w => by kernel_rfl)
  · exact D2.gv_call 8 #[] (fun _ _ _ h => h) alive_any (fun g w => by kernel_rfl)
  · exact D2.gv_val (fun _ _ _ h => h) (fun g w => by kernel_rfl)
  · exact D2.gv_val (fun _ _ _ h => h) (fun g w => by kernel_rfl)
  intro L0 G5 w5 hall HL; clear H4
  have H5 : St w.heap.size w w5 [(b2, Obj.cells (Value.cells (uv (sv (tl (ByteArray.extract s 0 (min (ByteArray.size s) 40)))))) 24 (0, 0)), (b1, Obj.cells (Value.cells (uv A)) 24 (0, 0))] := D2.StE.st HL.1
  clear HL hall
  refine g_cond_f (by kernel_rfl) (by kernel_rfl) ?_
  refine g_skip (by kernel_rfl) ?_
  show WP _ _ _ _ _ _
  refine g_seq (by kernel_rfl) ?_
  refine g_sreg [0, 1, 2] (by kernel_rfl) (by kernel_rfl) ?_
  refine s_val (some 73) (.string (ByteArray.extract s 0 (min (ByteArray.size s) 40))) (fun w => by kernel_rfl) (by kernel_rfl) ?_
  refine s_val (some 74) (.int .i64 ((ByteArray.size (ByteArray.extract s 0 (min (ByteArray.size s) 40)) : Nat) : Int)) (fun w => by kernel_rfl) (by kernel_rfl) ?_
  refine s_valE (some 75) (.bool (decide (32 < ((ByteArray.size (ByteArray.extract s 0 (min (ByteArray.size s) 40)) : Nat) : Int)))) (.bool false) (fun w => by kernel_rfl) (bool_eq (decide_eq_false (by omega))) (by kernel_rfl) ?_
  refine s_nil ?_
  refine g_cond_f (by kernel_rfl) (by kernel_rfl) ?_
  refine g_skip (by kernel_rfl) ?_
  show WP _ _ _ _ _ _
  refine D2.g_sdraw [0, 1, 2, 3, 4, 5, 6, 7, 8] [((some 83), fun _ => .int .i64 0), ((some 84), fun _ => .bool true), ((some 85), fun _ => .bool true), ((some 86), fun _ => uv (sv (tl (ByteArray.extract s 0 (min (ByteArray.size s) 40))))), ((some 87), fun _ => .string (ByteArray.extract s 0 (min (ByteArray.size s) 40))), ((some 88), fun _ => uv (sv (tl (ByteArray.extract s 0 (min (ByteArray.size s) 40))))), ((some 89), fun _ => .bool true), ((some 90), fun _ => .bool true), ((some 8), fun _ => .bool true)] (D2.Pre w.heap.size w (fun L g => [(true, (b2, Obj.cells (Value.cells (uv (sv (tl (ByteArray.extract s 0 (min (ByteArray.size s) 40)))))) 24 (0, 0))), (true, (b1, Obj.cells (Value.cells (uv A)) 24 (0, 0)))]) (fun L g => True)) (by kernel_rfl) (by kernel_rfl) (by kernel_rfl) (by kernel_rfl) ⟨D2.StE.of H5.drew _ (by kernel_rfl), trivial⟩ ⟨?_, ?_, ?_, ?_, ?_, ?_, ?_, ?_, ?_, trivial⟩ ?_
  · exact D2.gv_val (fun _ _ _ h => h) (fun g w => by kernel_rfl)
  · exact D2.gv_val (fun _ _ _ h => h) (fun g w => by kernel_rfl)
  · exact D2.gv_val (fun _ _ _ h => h) (fun g w => by kernel_rfl)
  · exact D2.gv_load 24 (.tmp 9) 0 (fun g => b2) (Value.cells (uv (sv (tl (ByteArray.extract s 0 (min (ByteArray.size s) 40)))))) 24 (0, 0) (fun _ _ _ h => h) (fun g => by kernel_rfl) (fun g => by kernel_rfl) (fun L g hN => (by kernel_rfl)) (by kernel_rfl)
  · exact D2.gv_val (fun _ _ _ h => h) (fun g w => by kernel_rfl)
  · exact D2.gv_call 20 #[.string (ByteArray.extract s 0 (min (ByteArray.size s) 40))] (fun _ _ _ h => h) (rfrom_fn (ByteArray.extract s 0 (min (ByteArray.size s) 40)) hle) (fun g w => by kernel_rfl)
  · exact D2.gv_opE (fun _ _ _ h => h) _ (V' := .bool (decide ((sv (tl (ByteArray.extract s 0 (min (ByteArray.size s) 40)))) = (sv (tl (ByteArray.extract s 0 (min (ByteArray.size s) 40))))))) (fun g => by kernel_rfl) (fun g => (fun o w ho => eqU_run (x := (.tmp 86)) (y := (.tmp 88)) (sv (tl (ByteArray.extract s 0 (min (ByteArray.size s) 40)))) (sv (tl (ByteArray.extract s 0 (min (ByteArray.size s) 40)))) (sv_big (ByteArray.extract s 0 (min (ByteArray.size s) 40)) hle) (sv_big (ByteArray.extract s 0 (min (ByteArray.size s) 40)) hle) w ho (by kernel_rfl) (by kernel_rfl))) (by rw [decide_eq_true rfl] <;> rfl)
  · exact D2.gv_val (fun _ _ _ h => h) (fun g w => by kernel_rfl)
  · exact D2.gv_val (fun _ _ _ h => h) (fun g w => by kernel_rfl)
  intro L0 G6 w6 hall HL; clear H5
  have H6 : St w.heap.size w w6 [(b2, Obj.cells (Value.cells (uv (sv (tl (ByteArray.extract s 0 (min (ByteArray.size s) 40)))))) 24 (0, 0)), (b1, Obj.cells (Value.cells (uv A)) 24 (0, 0))] := D2.StE.st HL.1
  clear HL hall
  refine g_ret (by kernel_rfl) ?_
  show ∃ vs, Res _ _ _ _ vs ∧ _
  refine ⟨[.bool true], (.tmp (.bool true) (by kernel_rfl) .nil), ?_, H6.below⟩
  rfl

set_option maxRecDepth 100000 in
theorem bytes_shi (A : Nat) (hA : A < big) (s : ByteArray) (hs : ByteArray.size s ≤ 9223372036854775807) (i : Int) (hi : 256 ≤ i) (n : Nat) (hn : n < 18446744073709551616) (hle : ByteArray.size (ByteArray.extract s 0 (min (ByteArray.size s) 40)) ≤ 32) : Fn Try.prog 4 #[uv A, .string s, .int .i64 i, .int .u64 ((n : Nat) : Int)] (.bool true) := by
  have hsz : ByteArray.size (ByteArray.extract s 0 (min (ByteArray.size s) 40)) = min (ByteArray.size s) 40 := by rw [← tl_len, tl_extract]; simp [tl_len]
  refine Fn.intro (c := codeOf Try.f4) [.tmp 8] 91 Try.func4 (by kernel_rfl) (by kernel_rfl) (by kernel_rfl) fun w => ?_
  have H0 := St.start w
  refine g_sreg [0, 1] (by kernel_rfl) (by kernel_rfl) ?_
  refine s_box H0 (some 4) 24 (.tmp 0) (uv A) (by kernel_rfl) (by kernel_rfl) (by kernel_rfl) ?_
  intro b1 w1 H1; clear H0
  refine s_val (some 8) (.bool false) (fun w => by kernel_rfl) (by kernel_rfl) ?_
  refine s_nil ?_
  refine g_sreg [0, 1, 2, 3, 4, 5] (by kernel_rfl) (by kernel_rfl) ?_
  refine s_val (some 12) (.string s) (fun w => by kernel_rfl) (by kernel_rfl) ?_
  refine s_val (some 13) (.string s) (fun w => by kernel_rfl) (by kernel_rfl) ?_
  refine s_val (some 14) (.int .i64 ((ByteArray.size s : Nat) : Int)) (fun w => by kernel_rfl) (by kernel_rfl) ?_
  refine s_valE (some 15) (.int .i64 (if (40 : Int) < (((ByteArray.size s : Nat) : Int) : Int) then (40 : Int) else (((ByteArray.size s : Nat) : Int) : Int))) (.int .i64 ((min (ByteArray.size s) 40 : Nat) : Int)) (fun w => by kernel_rfl) (int_eq (minN (ByteArray.size s) 40)) (by kernel_rfl) ?_
  refine s_op (some 16) _ (.string (ByteArray.extract s 0 (min (ByteArray.size s) 40))) (by kernel_rfl) (by kernel_rfl) (fun o w ho => scut_run (t := 9) (kd := .i64) (by kernel_rfl) (x := (.tmp 12)) (y := (.tmp 15)) s (min (ByteArray.size s) 40) ho (by kernel_rfl) (by kernel_rfl) (by omega) w) ?_
  refine s_val (some 1) (.string (ByteArray.extract s 0 (min (ByteArray.size s) 40))) (fun w => by kernel_rfl) (by kernel_rfl) ?_
  refine s_nil ?_
  refine g_sreg [0, 1, 2, 3, 4, 5, 6, 7] (by kernel_rfl) (by kernel_rfl) ?_
  refine s_val (some 18) (.string (ByteArray.extract s 0 (min (ByteArray.size s) 40))) (fun w => by kernel_rfl) (by kernel_rfl) ?_
  refine s_call H1 (some 19) 13 #[.string (ByteArray.extract s 0 (min (ByteArray.size s) 40))] (.tuple #[uv (sv (tl (ByteArray.extract s 0 (min (ByteArray.size s) 40)))), .int .i64 0]) (from_short (ByteArray.extract s 0 (min (ByteArray.size s) 40)) hle) (fun w => by kernel_rfl) (by kernel_rfl) ?_
  intro w2 H2; clear H1
  refine s_val (some 17) (.tuple #[uv (sv (tl (ByteArray.extract s 0 (min (ByteArray.size s) 40)))), .int .i64 0]) (fun w => by kernel_rfl) (by kernel_rfl) ?_
  refine s_val (some 20) (uv (sv (tl (ByteArray.extract s 0 (min (ByteArray.size s) 40))))) (fun w => by kernel_rfl) (by kernel_rfl) ?_
  refine s_val (some 21) (.int .i64 0) (fun w => by kernel_rfl) (by kernel_rfl) ?_
  refine s_alloc H2 (some 9) 24 (.agg #[.int .u64 0, .int .u64 0, .int .u64 0, .int .u64 0]) (by kernel_rfl) (by kernel_rfl) (by kernel_rfl) ?_
  intro b2 w3 H3; clear H2
  refine s_store H3 0 [(b2, Obj.cells (Value.cells (uv (sv (tl (ByteArray.extract s 0 (min (ByteArray.size s) 40)))))) 24 (0, 0)), (b1, Obj.cells (Value.cells (uv A)) 24 (0, 0))] 24 (.tmp 9) (.tmp 20) b2 (0) #[.int .u64 0, .int .u64 0, .int .u64 0, .int .u64 0] (Value.cells (uv (sv (tl (ByteArray.extract s 0 (min (ByteArray.size s) 40)))))) 24 (uv (sv (tl (ByteArray.extract s 0 (min (ByteArray.size s) 40))))) (by kernel_rfl) (by kernel_rfl) (by kernel_rfl) (by kernel_rfl) (by kernel_rfl) (by kernel_rfl) (of_decide_eq_true (by kernel_rfl)) (by kernel_rfl) (by kernel_rfl) ?_
  intro w4 H4; clear H3
  refine s_val (some 10) (.int .i64 0) (fun w => by kernel_rfl) (by kernel_rfl) ?_
  refine s_nil ?_
  refine g_sreg [0, 1, 2, 3, 4, 5, 6, 7, 8, 9, 10, 11, 12, 13, 14, 15, 16, 17, 18, 19, 20, 21] (by kernel_rfl) (by kernel_rfl) ?_
  refine s_val (some 22) (.int .i64 i) (fun w => by kernel_rfl) (by kernel_rfl) ?_
  refine s_valE (some 23) (.bool (decide (0 ≤ i))) (.bool true) (fun w => by kernel_rfl) (bool_eq (decide_eq_true (by omega))) (by kernel_rfl) ?_
  refine s_val (some 24) (.bool true) (fun w => by kernel_rfl) (by kernel_rfl) ?_
  refine s_val (some 25) (.int .i64 i) (fun w => by kernel_rfl) (by kernel_rfl) ?_
  refine s_valE (some 26) (.bool (decide (i < 256))) (.bool false) (fun w => by kernel_rfl) (bool_eq (decide_eq_false (by omega))) (by kernel_rfl) ?_
  refine s_val (some 27) (.bool false) (fun w => by kernel_rfl) (by kernel_rfl) ?_
  refine s_val (some 28) (.bool false) (fun w => by kernel_rfl) (by kernel_rfl) ?_
  refine s_not (some 29) (by kernel_rfl) (by kernel_rfl) ?_
  refine s_not (some 30) (by kernel_rfl) (by kernel_rfl) ?_
  refine s_not (some 31) (by kernel_rfl) (by kernel_rfl) ?_
  refine s_not (some 32) (by kernel_rfl) (by kernel_rfl) ?_
  refine s_not (some 33) (by kernel_rfl) (by kernel_rfl) ?_
  refine s_not (some 34) (by kernel_rfl) (by kernel_rfl) ?_
  refine s_not (some 35) (by kernel_rfl) (by kernel_rfl) ?_
  refine s_not (some 36) (by kernel_rfl) (by kernel_rfl) ?_
  refine s_not (some 37) (by kernel_rfl) (by kernel_rfl) ?_
  refine s_not (some 38) (by kernel_rfl) (by kernel_rfl) ?_
  refine s_not (some 39) (by kernel_rfl) (by kernel_rfl) ?_
  refine s_not (some 40) (by kernel_rfl) (by kernel_rfl) ?_
  refine s_not (some 41) (by kernel_rfl) (by kernel_rfl) ?_
  refine s_val (some 42) (.bool false) (fun w => by kernel_rfl) (by kernel_rfl) ?_
  refine s_val (some 11) (.bool false) (fun w => by kernel_rfl) (by kernel_rfl) ?_
  refine s_nil ?_
  refine g_seq (by kernel_rfl) ?_
  refine D2.g_sdraw [0, 1, 2, 3, 4, 5, 6, 7, 8, 9, 10, 11, 12, 13, 14, 15, 16, 17, 18, 19, 20, 21, 22, 23, 24, 25, 26, 27, 28, 29] [((some 43), fun _ => uv A), ((some 44), fun _ => .string (bs A)), ((some 45), fun _ => uv A), ((some 46), fun _ => .string (bs A)), ((some 47), fun _ => .bool false), ((some 48), fun _ => .bool false), ((some 49), fun _ => uv A), ((some 50), fun _ => .int .i64 ((len A : Nat) : Int)), ((some 51), fun _ => uv A), ((some 52), fun _ => .int .i64 ((len A : Nat) : Int)), ((some 53), fun _ => .bool false), ((some 54), fun _ => .bool false), ((some 55), fun _ => .bool false), ((some 56), fun _ => uv A), ((some 57), fun _ => .int .i64 i), ((some 58), fun _ => .bool false), ((some 59), fun _ => .bool false), ((some 60), fun _ => .bool false), ((some 61), fun _ => .bool false), ((some 62), fun _ => .bool false), ((some 63), fun _ => .int .u64 ((n : Nat) : Int)), ((some 64), fun _ => uv n), ((some 65), fun _ => .int .u64 ((n : Nat) : Int)), ((some 66), fun _ => uv n), ((some 67), fun _ => .bool false), ((some 68), fun _ => .bool false), ((some 69), fun _ => .bool false), ((some 70), fun _ => .bool true), ((some 71), fun _ => .bool false), ((some 72), fun _ => .bool false)] (D2.Pre w.heap.size w (fun L g => [(true, (b2, Obj.cells (Value.cells (uv (sv (tl (ByteArray.extract s 0 (min (ByteArray.size s) 40)))))) 24 (0, 0))), (true, (b1, Obj.cells (Value.cells (uv A)) 24 (0, 0)))]) (fun L g => True)) (by kernel_rfl) (by kernel_rfl) (by kernel_rfl) (by kernel_rfl) ⟨D2.StE.of H4.drew _ (by kernel_rfl), trivial⟩ ⟨?_, ?_, ?_, ?_, ?_, ?_, ?_, ?_, ?_, ?_, ?_, ?_, ?_, ?_, ?_, ?_, ?_, ?_, ?_, ?_, ?_, ?_, ?_, ?_, ?_, ?_, ?_, ?_, ?_, ?_, trivial⟩ ?_
  · exact D2.gv_load 24 (.tmp 4) 1 (fun g => b1) (Value.cells (uv A)) 24 (0, 0) (fun _ _ _ h => h) (fun g => by kernel_rfl) (fun g => by kernel_rfl) (fun L g hN => (by kernel_rfl)) (by kernel_rfl)
  · exact D2.gv_call 14 #[uv A] (fun _ _ _ h => h) (bytes_any A hA) (fun g w => by kernel_rfl)
  · exact D2.gv_load 24 (.tmp 4) 1 (fun g => b1) (Value.cells (uv A)) 24 (0, 0) (fun _ _ _ h => h) (fun g => by kernel_rfl) (fun g => by kernel_rfl) (fun L g hN => (by kernel_rfl)) (by kernel_rfl)
  · exact D2.gv_call 15 #[uv A] (fun _ _ _ h => h) (refbytes_fn A hA) (fun g w => by kernel_rfl)
  · exact D2.gv_valE (fun _ _ _ h => h) (V' := .bool (!(ByteArray.toList (bs A) == ByteArray.toList (bs A)))) (fun g w => by kernel_rfl) (bool_eq (by rw [str_self (bs A)]; rfl))
  · exact D2.gv_val (fun _ _ _ h => h) (fun g w => by kernel_rfl)
  · exact D2.gv_load 24 (.tmp 4) 1 (fun g => b1) (Value.cells (uv A)) 24 (0, 0) (fun _ _ _ h => h) (fun g => by kernel_rfl) (fun g => by kernel_rfl) (fun L g hN => (by kernel_rfl)) (by kernel_rfl)
  · exact D2.gv_call 16 #[uv A] (fun _ _ _ h => h) (len_fn A hA) (fun g w => by kernel_rfl)
  · exact D2.gv_load 24 (.tmp 4) 1 (fun g => b1) (Value.cells (uv A)) 24 (0, 0) (fun _ _ _ h => h) (fun g => by kernel_rfl) (fun g => by kernel_rfl) (fun L g hN => (by kernel_rfl)) (by kernel_rfl)
  · exact D2.gv_call 17 #[uv A] (fun _ _ _ h => h) (refbits_fn A hA) (fun g w => by kernel_rfl)
  · exact D2.gv_valE (fun _ _ _ h => h) (V' := .bool (!(((len A : Nat) : Int) == ((len A : Nat) : Int)))) (fun g w => by kernel_rfl) (bool_eq (by rw [beq_iff_eq.2 (by omega)]; rfl))
  · exact D2.gv_val (fun _ _ _ h => h) (fun g w => by kernel_rfl)
  · exact D2.gv_val (fun _ _ _ h => h) (fun g w => by kernel_rfl)
  · exact D2.gv_load 24 (.tmp 4) 1 (fun g => b1) (Value.cells (uv A)) 24 (0, 0) (fun _ _ _ h => h) (fun g => by kernel_rfl) (fun g => by kernel_rfl) (fun L g hN => (by kernel_rfl)) (by kernel_rfl)
  · exact D2.gv_val (fun _ _ _ h => h) (fun g w => by kernel_rfl)
  · exact D2.gv_call 18 #[uv A, .int .i64 i] (fun _ _ _ h => h) (bit_none A i (by omega)) (fun g w => by kernel_rfl)
  · exact D2.gv_val (fun _ _ _ h => h) (fun g w => by kernel_rfl)
  · exact D2.gv_val (fun _ _ _ h => h) (fun g w => by kernel_rfl)
  · exact D2.gv_val (fun _ _ _ h => h) (fun g w => by kernel_rfl)
  · exact D2.gv_val (fun _ _ _ h => h) (fun g w => by kernel_rfl)
  · exact D2.gv_val (fun _ _ _ h => h) (fun g w => by kernel_rfl)
  · exact D2.gv_call 19 #[.int .u64 ((n : Nat) : Int)] (fun _ _ _ h => h) (small_fn n (by omega)) (fun g w => by kernel_rfl)
  · exact D2.gv_val (fun _ _ _ h => h) (fun g w => by kernel_rfl)
  · exact D2.gv_valE (fun _ _ _ h => h) (V' := .agg #[.int .u64 ((n : Nat) : Int), .int .u64 0, .int .u64 0, .int .u64 0]) (fun g w => by kernel_rfl) (uv_small n (by omega))
  · exact D2.gv_opE (fun _ _ _ h => h) _ (V' := .bool (!decide (n = n))) (fun g => by kernel_rfl) (fun g => (fun o w ho => neU_run (x := (.tmp 64)) (y := (.tmp 66)) n n (by unfold big; omega) (by unfold big; omega) w ho (by kernel_rfl) (by kernel_rfl))) (by rw [decide_eq_true rfl] <;> rfl)
  · exact D2.gv_val (fun _ _ _ h => h) (fun g w => by kernel_rfl)
  · exact D2.gv_val (fun _ _ _ h => h) (fun g w => by kernel_rfl)
  · exact D2.gv_call 8 #[] (fun _ _ _ h => h) alive_any (fun g w => by kernel_rfl)
  · exact D2.gv_val (fun _ _ _ h => h) (fun g w => by kernel_rfl)
  · exact D2.gv_val (fun _ _ _ h => h) (fun g w => by kernel_rfl)
  intro L0 G5 w5 hall HL; clear H4
  have H5 : St w.heap.size w w5 [(b2, Obj.cells (Value.cells (uv (sv (tl (ByteArray.extract s 0 (min (ByteArray.size s) 40)))))) 24 (0, 0)), (b1, Obj.cells (Value.cells (uv A)) 24 (0, 0))] := D2.StE.st HL.1
  clear HL hall
  refine g_cond_f (by kernel_rfl) (by kernel_rfl) ?_
  refine g_skip (by kernel_rfl) ?_
  show WP _ _ _ _ _ _
  refine g_seq (by kernel_rfl) ?_
  refine g_sreg [0, 1, 2] (by kernel_rfl) (by kernel_rfl) ?_
  refine s_val (some 73) (.string (ByteArray.extract s 0 (min (ByteArray.size s) 40))) (fun w => by kernel_rfl) (by kernel_rfl) ?_
  refine s_val (some 74) (.int .i64 ((ByteArray.size (ByteArray.extract s 0 (min (ByteArray.size s) 40)) : Nat) : Int)) (fun w => by kernel_rfl) (by kernel_rfl) ?_
  refine s_valE (some 75) (.bool (decide (32 < ((ByteArray.size (ByteArray.extract s 0 (min (ByteArray.size s) 40)) : Nat) : Int)))) (.bool false) (fun w => by kernel_rfl) (bool_eq (decide_eq_false (by omega))) (by kernel_rfl) ?_
  refine s_nil ?_
  refine g_cond_f (by kernel_rfl) (by kernel_rfl) ?_
  refine g_skip (by kernel_rfl) ?_
  show WP _ _ _ _ _ _
  refine D2.g_sdraw [0, 1, 2, 3, 4, 5, 6, 7, 8] [((some 83), fun _ => .int .i64 0), ((some 84), fun _ => .bool true), ((some 85), fun _ => .bool true), ((some 86), fun _ => uv (sv (tl (ByteArray.extract s 0 (min (ByteArray.size s) 40))))), ((some 87), fun _ => .string (ByteArray.extract s 0 (min (ByteArray.size s) 40))), ((some 88), fun _ => uv (sv (tl (ByteArray.extract s 0 (min (ByteArray.size s) 40))))), ((some 89), fun _ => .bool true), ((some 90), fun _ => .bool true), ((some 8), fun _ => .bool true)] (D2.Pre w.heap.size w (fun L g => [(true, (b2, Obj.cells (Value.cells (uv (sv (tl (ByteArray.extract s 0 (min (ByteArray.size s) 40)))))) 24 (0, 0))), (true, (b1, Obj.cells (Value.cells (uv A)) 24 (0, 0)))]) (fun L g => True)) (by kernel_rfl) (by kernel_rfl) (by kernel_rfl) (by kernel_rfl) ⟨D2.StE.of H5.drew _ (by kernel_rfl), trivial⟩ ⟨?_, ?_, ?_, ?_, ?_, ?_, ?_, ?_, ?_, trivial⟩ ?_
  · exact D2.gv_val (fun _ _ _ h => h) (fun g w => by kernel_rfl)
  · exact D2.gv_val (fun _ _ _ h => h) (fun g w => by kernel_rfl)
  · exact D2.gv_val (fun _ _ _ h => h) (fun g w => by kernel_rfl)
  · exact D2.gv_load 24 (.tmp 9) 0 (fun g => b2) (Value.cells (uv (sv (tl (ByteArray.extract s 0 (min (ByteArray.size s) 40)))))) 24 (0, 0) (fun _ _ _ h => h) (fun g => by kernel_rfl) (fun g => by kernel_rfl) (fun L g hN => (by kernel_rfl)) (by kernel_rfl)
  · exact D2.gv_val (fun _ _ _ h => h) (fun g w => by kernel_rfl)
  · exact D2.gv_call 20 #[.string (ByteArray.extract s 0 (min (ByteArray.size s) 40))] (fun _ _ _ h => h) (rfrom_fn (ByteArray.extract s 0 (min (ByteArray.size s) 40)) hle) (fun g w => by kernel_rfl)
  · exact D2.gv_opE (fun _ _ _ h => h) _ (V' := .bool (decide ((sv (tl (ByteArray.extract s 0 (min (ByteArray.size s) 40)))) = (sv (tl (ByteArray.extract s 0 (min (ByteArray.size s) 40))))))) (fun g => by kernel_rfl) (fun g => (fun o w ho => eqU_run (x := (.tmp 86)) (y := (.tmp 88)) (sv (tl (ByteArray.extract s 0 (min (ByteArray.size s) 40)))) (sv (tl (ByteArray.extract s 0 (min (ByteArray.size s) 40)))) (sv_big (ByteArray.extract s 0 (min (ByteArray.size s) 40)) hle) (sv_big (ByteArray.extract s 0 (min (ByteArray.size s) 40)) hle) w ho (by kernel_rfl) (by kernel_rfl))) (by rw [decide_eq_true rfl] <;> rfl)
  · exact D2.gv_val (fun _ _ _ h => h) (fun g w => by kernel_rfl)
  · exact D2.gv_val (fun _ _ _ h => h) (fun g w => by kernel_rfl)
  intro L0 G6 w6 hall HL; clear H5
  have H6 : St w.heap.size w w6 [(b2, Obj.cells (Value.cells (uv (sv (tl (ByteArray.extract s 0 (min (ByteArray.size s) 40)))))) 24 (0, 0)), (b1, Obj.cells (Value.cells (uv A)) 24 (0, 0))] := D2.StE.st HL.1
  clear HL hall
  refine g_ret (by kernel_rfl) ?_
  show ∃ vs, Res _ _ _ _ vs ∧ _
  refine ⟨[.bool true], (.tmp (.bool true) (by kernel_rfl) .nil), ?_, H6.below⟩
  rfl

set_option maxRecDepth 100000 in
theorem bytes_s0 (A : Nat) (hA : A < big) (s : ByteArray) (hs : ByteArray.size s ≤ 9223372036854775807) (k : Nat) (hk : k < 256) (hq : k / 64 = 0) (n : Nat) (hn : n < 18446744073709551616) (hle : ByteArray.size (ByteArray.extract s 0 (min (ByteArray.size s) 40)) ≤ 32) : Fn Try.prog 4 #[uv A, .string s, .int .i64 ((k : Nat) : Int), .int .u64 ((n : Nat) : Int)] (.bool true) := by
  have hsz : ByteArray.size (ByteArray.extract s 0 (min (ByteArray.size s) 40)) = min (ByteArray.size s) 40 := by rw [← tl_len, tl_extract]; simp [tl_len]
  have hsh := Nat.div_le_self (A % 18446744073709551616) (2 ^ (k % 64))
  refine Fn.intro (c := codeOf Try.f4) [.tmp 8] 91 Try.func4 (by kernel_rfl) (by kernel_rfl) (by kernel_rfl) fun w => ?_
  have H0 := St.start w
  refine g_sreg [0, 1] (by kernel_rfl) (by kernel_rfl) ?_
  refine s_box H0 (some 4) 24 (.tmp 0) (uv A) (by kernel_rfl) (by kernel_rfl) (by kernel_rfl) ?_
  intro b1 w1 H1; clear H0
  refine s_val (some 8) (.bool false) (fun w => by kernel_rfl) (by kernel_rfl) ?_
  refine s_nil ?_
  refine g_sreg [0, 1, 2, 3, 4, 5] (by kernel_rfl) (by kernel_rfl) ?_
  refine s_val (some 12) (.string s) (fun w => by kernel_rfl) (by kernel_rfl) ?_
  refine s_val (some 13) (.string s) (fun w => by kernel_rfl) (by kernel_rfl) ?_
  refine s_val (some 14) (.int .i64 ((ByteArray.size s : Nat) : Int)) (fun w => by kernel_rfl) (by kernel_rfl) ?_
  refine s_valE (some 15) (.int .i64 (if (40 : Int) < (((ByteArray.size s : Nat) : Int) : Int) then (40 : Int) else (((ByteArray.size s : Nat) : Int) : Int))) (.int .i64 ((min (ByteArray.size s) 40 : Nat) : Int)) (fun w => by kernel_rfl) (int_eq (minN (ByteArray.size s) 40)) (by kernel_rfl) ?_
  refine s_op (some 16) _ (.string (ByteArray.extract s 0 (min (ByteArray.size s) 40))) (by kernel_rfl) (by kernel_rfl) (fun o w ho => scut_run (t := 9) (kd := .i64) (by kernel_rfl) (x := (.tmp 12)) (y := (.tmp 15)) s (min (ByteArray.size s) 40) ho (by kernel_rfl) (by kernel_rfl) (by omega) w) ?_
  refine s_val (some 1) (.string (ByteArray.extract s 0 (min (ByteArray.size s) 40))) (fun w => by kernel_rfl) (by kernel_rfl) ?_
  refine s_nil ?_
  refine g_sreg [0, 1, 2, 3, 4, 5, 6, 7] (by kernel_rfl) (by kernel_rfl) ?_
  refine s_val (some 18) (.string (ByteArray.extract s 0 (min (ByteArray.size s) 40))) (fun w => by kernel_rfl) (by kernel_rfl) ?_
  refine s_call H1 (some 19) 13 #[.string (ByteArray.extract s 0 (min (ByteArray.size s) 40))] (.tuple #[uv (sv (tl (ByteArray.extract s 0 (min (ByteArray.size s) 40)))), .int .i64 0]) (from_short (ByteArray.extract s 0 (min (ByteArray.size s) 40)) hle) (fun w => by kernel_rfl) (by kernel_rfl) ?_
  intro w2 H2; clear H1
  refine s_val (some 17) (.tuple #[uv (sv (tl (ByteArray.extract s 0 (min (ByteArray.size s) 40)))), .int .i64 0]) (fun w => by kernel_rfl) (by kernel_rfl) ?_
  refine s_val (some 20) (uv (sv (tl (ByteArray.extract s 0 (min (ByteArray.size s) 40))))) (fun w => by kernel_rfl) (by kernel_rfl) ?_
  refine s_val (some 21) (.int .i64 0) (fun w => by kernel_rfl) (by kernel_rfl) ?_
  refine s_alloc H2 (some 9) 24 (.agg #[.int .u64 0, .int .u64 0, .int .u64 0, .int .u64 0]) (by kernel_rfl) (by kernel_rfl) (by kernel_rfl) ?_
  intro b2 w3 H3; clear H2
  refine s_store H3 0 [(b2, Obj.cells (Value.cells (uv (sv (tl (ByteArray.extract s 0 (min (ByteArray.size s) 40)))))) 24 (0, 0)), (b1, Obj.cells (Value.cells (uv A)) 24 (0, 0))] 24 (.tmp 9) (.tmp 20) b2 (0) #[.int .u64 0, .int .u64 0, .int .u64 0, .int .u64 0] (Value.cells (uv (sv (tl (ByteArray.extract s 0 (min (ByteArray.size s) 40)))))) 24 (uv (sv (tl (ByteArray.extract s 0 (min (ByteArray.size s) 40))))) (by kernel_rfl) (by kernel_rfl) (by kernel_rfl) (by kernel_rfl) (by kernel_rfl) (by kernel_rfl) (of_decide_eq_true (by kernel_rfl)) (by kernel_rfl) (by kernel_rfl) ?_
  intro w4 H4; clear H3
  refine s_val (some 10) (.int .i64 0) (fun w => by kernel_rfl) (by kernel_rfl) ?_
  refine s_nil ?_
  refine g_sreg [0, 1, 2, 3, 4, 5, 6, 7, 8, 9, 10, 11, 12, 13, 14, 15, 16, 17, 18, 19, 20, 21] (by kernel_rfl) (by kernel_rfl) ?_
  refine s_val (some 22) (.int .i64 ((k : Nat) : Int)) (fun w => by kernel_rfl) (by kernel_rfl) ?_
  refine s_valE (some 23) (.bool (decide (0 ≤ ((k : Nat) : Int)))) (.bool true) (fun w => by kernel_rfl) (bool_eq (decide_eq_true (by omega))) (by kernel_rfl) ?_
  refine s_val (some 24) (.bool true) (fun w => by kernel_rfl) (by kernel_rfl) ?_
  refine s_val (some 25) (.int .i64 ((k : Nat) : Int)) (fun w => by kernel_rfl) (by kernel_rfl) ?_
  refine s_valE (some 26) (.bool (decide (((k : Nat) : Int) < 256))) (.bool true) (fun w => by kernel_rfl) (bool_eq (decide_eq_true (by omega))) (by kernel_rfl) ?_
  refine s_val (some 27) (.bool true) (fun w => by kernel_rfl) (by kernel_rfl) ?_
  refine s_val (some 28) (.bool true) (fun w => by kernel_rfl) (by kernel_rfl) ?_
  refine s_val (some 29) (.int .i64 ((k : Nat) : Int)) (fun w => by kernel_rfl) (by kernel_rfl) ?_
  refine s_valE (some 30) (.int .i64 (if (0 : Int) > (((k : Nat) : Int) : Int) then (0 : Int) else (((k : Nat) : Int) : Int))) (.int .i64 ((k : Nat) : Int)) (fun w => by kernel_rfl) (int_eq (by split <;> omega)) (by kernel_rfl) ?_
  refine s_valE (some 31) (.int .i64 (IntKind.i64.wrap (((k : Nat) : Int).tdiv 64))) (.int .i64 ((k / 64 : Nat) : Int)) (fun w => by kernel_rfl) (int_eq (quoN_i64 (a := k) (b := 64) (by omega))) (by kernel_rfl) ?_
  refine s_valE (some 32) (.int .i64 (Int.tmod ((k / 64 : Nat) : Int) 4)) (.int .i64 0) (fun w => by kernel_rfl) (int_eq (show Int.tmod (((k / 64 : Nat)) : Int) ((4 : Nat) : Int) = ((0 : Nat) : Int) by rw [remN]; omega)) (by kernel_rfl) ?_
  refine s_val (some 33) (.pointer (some ⟨b1, 0, none⟩)) (fun w => by kernel_rfl) (by kernel_rfl) ?_
  refine s_load1 H4 (some 34) 22 (.tmp 33) 1 b1 0 (Value.cells (uv A)) 24 (0, 0) (.int .u64 ((A % 18446744073709551616 : Nat) : Int)) (by kernel_rfl) (by kernel_rfl) (by kernel_rfl) (by kernel_rfl) (by kernel_rfl) (by kernel_rfl) ?_
  refine s_val (some 35) (.int .i64 ((k : Nat) : Int)) (fun w => by kernel_rfl) (by kernel_rfl) ?_
  refine s_valE (some 36) (.int .i64 (if (0 : Int) > (((k : Nat) : Int) : Int) then (0 : Int) else (((k : Nat) : Int) : Int))) (.int .i64 ((k : Nat) : Int)) (fun w => by kernel_rfl) (int_eq (by split <;> omega)) (by kernel_rfl) ?_
  refine s_valE (some 37) (.int .u64 (IntKind.u64.wrap (((k : Nat) : Int)))) (.int .u64 ((k : Nat) : Int)) (fun w => by kernel_rfl) (int_eq (wrapN_u64 (a := k) (by omega))) (by kernel_rfl) ?_
  refine s_valE (some 38) (.int .u64 (Int.tmod ((k : Nat) : Int) 64)) (.int .u64 ((k % 64 : Nat) : Int)) (fun w => by kernel_rfl) (int_eq (remN k 64)) (by kernel_rfl) ?_
  refine s_valE (some 39) (.int .u64 (Int.fdiv ((A % 18446744073709551616 : Nat) : Int) (2 ^ (min (k % 64) 64)))) (.int .u64 (((A % 18446744073709551616) / 2 ^ (k % 64) : Nat) : Int)) (fun w => by kernel_rfl) (int_eq (shr_min (A % 18446744073709551616) (k % 64) 64 (by omega))) (by kernel_rfl) ?_
  refine s_valE (some 40) (.int .u64 (Go.bits .and .u64 ((((A % 18446744073709551616) / 2 ^ (k % 64) : Nat) : Int)) 1)) (.int .u64 ((((A % 18446744073709551616) / 2 ^ (k % 64)) % 2 : Nat) : Int)) (fun w => by kernel_rfl) (int_eq (andN1 (a := (A % 18446744073709551616) / 2 ^ (k % 64)) (by omega))) (by kernel_rfl) ?_
  refine s_valE (some 41) (.bool (((((A % 18446744073709551616) / 2 ^ (k % 64)) % 2 : Nat) : Int) == 1)) (.bool (Nat.testBit A k)) (fun w => by kernel_rfl) (bool_eq (bit_q0 A k hq)) (by kernel_rfl) ?_
  refine s_val (some 42) (.bool (Nat.testBit A k)) (fun w => by kernel_rfl) (by kernel_rfl) ?_
  refine s_val (some 11) (.bool (Nat.testBit A k)) (fun w => by kernel_rfl) (by kernel_rfl) ?_
  refine s_nil ?_
  refine g_seq (by kernel_rfl) ?_
  refine D2.g_sdraw [0, 1, 2, 3, 4, 5, 6, 7, 8, 9, 10, 11, 12, 13, 14, 15, 16, 17, 18, 19, 20, 21, 22, 23, 24, 25, 26, 27, 28, 29] [((some 43), fun _ => uv A), ((some 44), fun _ => .string (bs A)), ((some 45), fun _ => uv A), ((some 46), fun _ => .string (bs A)), ((some 47), fun _ => .bool false), ((some 48), fun _ => .bool false), ((some 49), fun _ => uv A), ((some 50), fun _ => .int .i64 ((len A : Nat) : Int)), ((some 51), fun _ => uv A), ((some 52), fun _ => .int .i64 ((len A : Nat) : Int)), ((some 53), fun _ => .bool false), ((some 54), fun _ => .bool false), ((some 55), fun _ => .bool false), ((some 56), fun _ => uv A), ((some 57), fun _ => .int .i64 ((k : Nat) : Int)), ((some 58), fun _ => .bool (Nat.testBit A k)), ((some 59), fun _ => .bool (Nat.testBit A k)), ((some 60), fun _ => .bool false), ((some 61), fun _ => .bool false), ((some 62), fun _ => .bool false), ((some 63), fun _ => .int .u64 ((n : Nat) : Int)), ((some 64), fun _ => uv n), ((some 65), fun _ => .int .u64 ((n : Nat) : Int)), ((some 66), fun _ => uv n), ((some 67), fun _ => .bool false), ((some 68), fun _ => .bool false), ((some 69), fun _ => .bool false), ((some 70), fun _ => .bool true), ((some 71), fun _ => .bool false), ((some 72), fun _ => .bool false)] (D2.Pre w.heap.size w (fun L g => [(true, (b2, Obj.cells (Value.cells (uv (sv (tl (ByteArray.extract s 0 (min (ByteArray.size s) 40)))))) 24 (0, 0))), (true, (b1, Obj.cells (Value.cells (uv A)) 24 (0, 0)))]) (fun L g => True)) (by kernel_rfl) (by kernel_rfl) (by kernel_rfl) (by kernel_rfl) ⟨D2.StE.of H4.drew _ (by kernel_rfl), trivial⟩ ⟨?_, ?_, ?_, ?_, ?_, ?_, ?_, ?_, ?_, ?_, ?_, ?_, ?_, ?_, ?_, ?_, ?_, ?_, ?_, ?_, ?_, ?_, ?_, ?_, ?_, ?_, ?_, ?_, ?_, ?_, trivial⟩ ?_
  · exact D2.gv_load 24 (.tmp 4) 1 (fun g => b1) (Value.cells (uv A)) 24 (0, 0) (fun _ _ _ h => h) (fun g => by kernel_rfl) (fun g => by kernel_rfl) (fun L g hN => (by kernel_rfl)) (by kernel_rfl)
  · exact D2.gv_call 14 #[uv A] (fun _ _ _ h => h) (bytes_any A hA) (fun g w => by kernel_rfl)
  · exact D2.gv_load 24 (.tmp 4) 1 (fun g => b1) (Value.cells (uv A)) 24 (0, 0) (fun _ _ _ h => h) (fun g => by kernel_rfl) (fun g => by kernel_rfl) (fun L g hN => (by kernel_rfl)) (by kernel_rfl)
  · exact D2.gv_call 15 #[uv A] (fun _ _ _ h => h) (refbytes_fn A hA) (fun g w => by kernel_rfl)
  · exact D2.gv_valE (fun _ _ _ h => h) (V' := .bool (!(ByteArray.toList (bs A) == ByteArray.toList (bs A)))) (fun g w => by kernel_rfl) (bool_eq (by rw [str_self (bs A)]; rfl))
  · exact D2.gv_val (fun _ _ _ h => h) (fun g w => by kernel_rfl)
  · exact D2.gv_load 24 (.tmp 4) 1 (fun g => b1) (Value.cells (uv A)) 24 (0, 0) (fun _ _ _ h => h) (fun g => by kernel_rfl) (fun g => by kernel_rfl) (fun L g hN => (by kernel_rfl)) (by kernel_rfl)
  · exact D2.gv_call 16 #[uv A] (fun _ _ _ h => h) (len_fn A hA) (fun g w => by kernel_rfl)
  · exact D2.gv_load 24 (.tmp 4) 1 (fun g => b1) (Value.cells (uv A)) 24 (0, 0) (fun _ _ _ h => h) (fun g => by kernel_rfl) (fun g => by kernel_rfl) (fun L g hN => (by kernel_rfl)) (by kernel_rfl)
  · exact D2.gv_call 17 #[uv A] (fun _ _ _ h => h) (refbits_fn A hA) (fun g w => by kernel_rfl)
  · exact D2.gv_valE (fun _ _ _ h => h) (V' := .bool (!(((len A : Nat) : Int) == ((len A : Nat) : Int)))) (fun g w => by kernel_rfl) (bool_eq (by rw [beq_iff_eq.2 (by omega)]; rfl))
  · exact D2.gv_val (fun _ _ _ h => h) (fun g w => by kernel_rfl)
  · exact D2.gv_val (fun _ _ _ h => h) (fun g w => by kernel_rfl)
  · exact D2.gv_load 24 (.tmp 4) 1 (fun g => b1) (Value.cells (uv A)) 24 (0, 0) (fun _ _ _ h => h) (fun g => by kernel_rfl) (fun g => by kernel_rfl) (fun L g hN => (by kernel_rfl)) (by kernel_rfl)
  · exact D2.gv_val (fun _ _ _ h => h) (fun g w => by kernel_rfl)
  · exact D2.gv_call 18 #[uv A, .int .i64 ((k : Nat) : Int)] (fun _ _ _ h => h) (bit_some A k hk) (fun g w => by kernel_rfl)
  · exact D2.gv_val (fun _ _ _ h => h) (fun g w => by kernel_rfl)
  · exact D2.gv_valE (fun _ _ _ h => h) (V' := .bool (!(Nat.testBit A k == Nat.testBit A k))) (fun g w => by kernel_rfl) (bool_eq (by rw [beq_self_eq_true]; rfl))
  · exact D2.gv_val (fun _ _ _ h => h) (fun g w => by kernel_rfl)
  · exact D2.gv_val (fun _ _ _ h => h) (fun g w => by kernel_rfl)
  · exact D2.gv_val (fun _ _ _ h => h) (fun g w => by kernel_rfl)
  · exact D2.gv_call 19 #[.int .u64 ((n : Nat) : Int)] (fun _ _ _ h => h) (small_fn n (by omega)) (fun g w => by kernel_rfl)
  · exact D2.gv_val (fun _ _ _ h => h) (fun g w => by kernel_rfl)
  · exact D2.gv_valE (fun _ _ _ h => h) (V' := .agg #[.int .u64 ((n : Nat) : Int), .int .u64 0, .int .u64 0, .int .u64 0]) (fun g w => by kernel_rfl) (uv_small n (by omega))
  · exact D2.gv_opE (fun _ _ _ h => h) _ (V' := .bool (!decide (n = n))) (fun g => by kernel_rfl) (fun g => (fun o w ho => neU_run (x := (.tmp 64)) (y := (.tmp 66)) n n (by unfold big; omega) (by unfold big; omega) w ho (by kernel_rfl) (by kernel_rfl))) (by rw [decide_eq_true rfl] <;> rfl)
  · exact D2.gv_val (fun _ _ _ h => h) (fun g w => by kernel_rfl)
  · exact D2.gv_val (fun _ _ _ h => h) (fun g w => by kernel_rfl)
  · exact D2.gv_call 8 #[] (fun _ _ _ h => h) alive_any (fun g w => by kernel_rfl)
  · exact D2.gv_val (fun _ _ _ h => h) (fun g w => by kernel_rfl)
  · exact D2.gv_val (fun _ _ _ h => h) (fun g w => by kernel_rfl)
  intro L0 G5 w5 hall HL; clear H4
  have H5 : St w.heap.size w w5 [(b2, Obj.cells (Value.cells (uv (sv (tl (ByteArray.extract s 0 (min (ByteArray.size s) 40)))))) 24 (0, 0)), (b1, Obj.cells (Value.cells (uv A)) 24 (0, 0))] := D2.StE.st HL.1
  clear HL hall
  refine g_cond_f (by kernel_rfl) (by kernel_rfl) ?_
  refine g_skip (by kernel_rfl) ?_
  show WP _ _ _ _ _ _
  refine g_seq (by kernel_rfl) ?_
  refine g_sreg [0, 1, 2] (by kernel_rfl) (by kernel_rfl) ?_
  refine s_val (some 73) (.string (ByteArray.extract s 0 (min (ByteArray.size s) 40))) (fun w => by kernel_rfl) (by kernel_rfl) ?_
  refine s_val (some 74) (.int .i64 ((ByteArray.size (ByteArray.extract s 0 (min (ByteArray.size s) 40)) : Nat) : Int)) (fun w => by kernel_rfl) (by kernel_rfl) ?_
  refine s_valE (some 75) (.bool (decide (32 < ((ByteArray.size (ByteArray.extract s 0 (min (ByteArray.size s) 40)) : Nat) : Int)))) (.bool false) (fun w => by kernel_rfl) (bool_eq (decide_eq_false (by omega))) (by kernel_rfl) ?_
  refine s_nil ?_
  refine g_cond_f (by kernel_rfl) (by kernel_rfl) ?_
  refine g_skip (by kernel_rfl) ?_
  show WP _ _ _ _ _ _
  refine D2.g_sdraw [0, 1, 2, 3, 4, 5, 6, 7, 8] [((some 83), fun _ => .int .i64 0), ((some 84), fun _ => .bool true), ((some 85), fun _ => .bool true), ((some 86), fun _ => uv (sv (tl (ByteArray.extract s 0 (min (ByteArray.size s) 40))))), ((some 87), fun _ => .string (ByteArray.extract s 0 (min (ByteArray.size s) 40))), ((some 88), fun _ => uv (sv (tl (ByteArray.extract s 0 (min (ByteArray.size s) 40))))), ((some 89), fun _ => .bool true), ((some 90), fun _ => .bool true), ((some 8), fun _ => .bool true)] (D2.Pre w.heap.size w (fun L g => [(true, (b2, Obj.cells (Value.cells (uv (sv (tl (ByteArray.extract s 0 (min (ByteArray.size s) 40)))))) 24 (0, 0))), (true, (b1, Obj.cells (Value.cells (uv A)) 24 (0, 0)))]) (fun L g => True)) (by kernel_rfl) (by kernel_rfl) (by kernel_rfl) (by kernel_rfl) ⟨D2.StE.of H5.drew _ (by kernel_rfl), trivial⟩ ⟨?_, ?_, ?_, ?_, ?_, ?_, ?_, ?_, ?_, trivial⟩ ?_
  · exact D2.gv_val (fun _ _ _ h => h) (fun g w => by kernel_rfl)
  · exact D2.gv_val (fun _ _ _ h => h) (fun g w => by kernel_rfl)
  · exact D2.gv_val (fun _ _ _ h => h) (fun g w => by kernel_rfl)
  · exact D2.gv_load 24 (.tmp 9) 0 (fun g => b2) (Value.cells (uv (sv (tl (ByteArray.extract s 0 (min (ByteArray.size s) 40)))))) 24 (0, 0) (fun _ _ _ h => h) (fun g => by kernel_rfl) (fun g => by kernel_rfl) (fun L g hN => (by kernel_rfl)) (by kernel_rfl)
  · exact D2.gv_val (fun _ _ _ h => h) (fun g w => by kernel_rfl)
  · exact D2.gv_call 20 #[.string (ByteArray.extract s 0 (min (ByteArray.size s) 40))] (fun _ _ _ h => h) (rfrom_fn (ByteArray.extract s 0 (min (ByteArray.size s) 40)) hle) (fun g w => by kernel_rfl)
  · exact D2.gv_opE (fun _ _ _ h => h) _ (V' := .bool (decide ((sv (tl (ByteArray.extract s 0 (min (ByteArray.size s) 40)))) = (sv (tl (ByteArray.extract s 0 (min (ByteArray.size s) 40))))))) (fun g => by kernel_rfl) (fun g => (fun o w ho => eqU_run (x := (.tmp 86)) (y := (.tmp 88)) (sv (tl (ByteArray.extract s 0 (min (ByteArray.size s) 40)))) (sv (tl (ByteArray.extract s 0 (min (ByteArray.size s) 40)))) (sv_big (ByteArray.extract s 0 (min (ByteArray.size s) 40)) hle) (sv_big (ByteArray.extract s 0 (min (ByteArray.size s) 40)) hle) w ho (by kernel_rfl) (by kernel_rfl))) (by rw [decide_eq_true rfl] <;> rfl)
  · exact D2.gv_val (fun _ _ _ h => h) (fun g w => by kernel_rfl)
  · exact D2.gv_val (fun _ _ _ h => h) (fun g w => by kernel_rfl)
  intro L0 G6 w6 hall HL; clear H5
  have H6 : St w.heap.size w w6 [(b2, Obj.cells (Value.cells (uv (sv (tl (ByteArray.extract s 0 (min (ByteArray.size s) 40)))))) 24 (0, 0)), (b1, Obj.cells (Value.cells (uv A)) 24 (0, 0))] := D2.StE.st HL.1
  clear HL hall
  refine g_ret (by kernel_rfl) ?_
  show ∃ vs, Res _ _ _ _ vs ∧ _
  refine ⟨[.bool true], (.tmp (.bool true) (by kernel_rfl) .nil), ?_, H6.below⟩
  rfl

set_option maxRecDepth 100000 in
theorem bytes_s1 (A : Nat) (hA : A < big) (s : ByteArray) (hs : ByteArray.size s ≤ 9223372036854775807) (k : Nat) (hk : k < 256) (hq : k / 64 = 1) (n : Nat) (hn : n < 18446744073709551616) (hle : ByteArray.size (ByteArray.extract s 0 (min (ByteArray.size s) 40)) ≤ 32) : Fn Try.prog 4 #[uv A, .string s, .int .i64 ((k : Nat) : Int), .int .u64 ((n : Nat) : Int)] (.bool true) := by
  have hsz : ByteArray.size (ByteArray.extract s 0 (min (ByteArray.size s) 40)) = min (ByteArray.size s) 40 := by rw [← tl_len, tl_extract]; simp [tl_len]
  have hsh := Nat.div_le_self (A / 18446744073709551616 % 18446744073709551616) (2 ^ (k % 64))
  refine Fn.intro (c := codeOf Try.f4) [.tmp 8] 91 Try.func4 (by kernel_rfl) (by kernel_rfl) (by kernel_rfl) fun w => ?_
  have H0 := St.start w
  refine g_sreg [0, 1] (by kernel_rfl) (by kernel_rfl) ?_
  refine s_box H0 (some 4) 24 (.tmp 0) (uv A) (by kernel_rfl) (by kernel_rfl) (by kernel_rfl) ?_
  intro b1 w1 H1; clear H0
  refine s_val (some 8) (.bool false) (fun w => by kernel_rfl) (by kernel_rfl) ?_
  refine s_nil ?_
  refine g_sreg [0, 1, 2, 3, 4, 5] (by kernel_rfl) (by kernel_rfl) ?_
  refine s_val (some 12) (.string s) (fun w => by kernel_rfl) (by kernel_rfl) ?_
  refine s_val (some 13) (.string s) (fun w => by kernel_rfl) (by kernel_rfl) ?_
  refine s_val (some 14) (.int .i64 ((ByteArray.size s : Nat) : Int)) (fun w => by kernel_rfl) (by kernel_rfl) ?_
  refine s_valE (some 15) (.int .i64 (if (40 : Int) < (((ByteArray.size s : Nat) : Int) : Int) then (40 : Int) else (((ByteArray.size s : Nat) : Int) : Int))) (.int .i64 ((min (ByteArray.size s) 40 : Nat) : Int)) (fun w => by kernel_rfl) (int_eq (minN (ByteArray.size s) 40)) (by kernel_rfl) ?_
  refine s_op (some 16) _ (.string (ByteArray.extract s 0 (min (ByteArray.size s) 40))) (by kernel_rfl) (by kernel_rfl) (fun o w ho => scut_run (t := 9) (kd := .i64) (by kernel_rfl) (x := (.tmp 12)) (y := (.tmp 15)) s (min (ByteArray.size s) 40) ho (by kernel_rfl) (by kernel_rfl) (by omega) w) ?_
  refine s_val (some 1) (.string (ByteArray.extract s 0 (min (ByteArray.size s) 40))) (fun w => by kernel_rfl) (by kernel_rfl) ?_
  refine s_nil ?_
  refine g_sreg [0, 1, 2, 3, 4, 5, 6, 7] (by kernel_rfl) (by kernel_rfl) ?_
  refine s_val (some 18) (.string (ByteArray.extract s 0 (min (ByteArray.size s) 40))) (fun w => by kernel_rfl) (by kernel_rfl) ?_
  refine s_call H1 (some 19) 13 #[.string (ByteArray.extract s 0 (min (ByteArray.size s) 40))] (.tuple #[uv (sv (tl (ByteArray.extract s 0 (min (ByteArray.size s) 40)))), .int .i64 0]) (from_short (ByteArray.extract s 0 (min (ByteArray.size s) 40)) hle) (fun w => by kernel_rfl) (by kernel_rfl) ?_
  intro w2 H2; clear H1
  refine s_val (some 17) (.tuple #[uv (sv (tl (ByteArray.extract s 0 (min (ByteArray.size s) 40)))), .int .i64 0]) (fun w => by kernel_rfl) (by kernel_rfl) ?_
  refine s_val (some 20) (uv (sv (tl (ByteArray.extract s 0 (min (ByteArray.size s) 40))))) (fun w => by kernel_rfl) (by kernel_rfl) ?_
  refine s_val (some 21) (.int .i64 0) (fun w => by kernel_rfl) (by kernel_rfl) ?_
  refine s_alloc H2 (some 9) 24 (.agg #[.int .u64 0, .int .u64 0, .int .u64 0, .int .u64 0]) (by kernel_rfl) (by kernel_rfl) (by kernel_rfl) ?_
  intro b2 w3 H3; clear H2
  refine s_store H3 0 [(b2, Obj.cells (Value.cells (uv (sv (tl (ByteArray.extract s 0 (min (ByteArray.size s) 40)))))) 24 (0, 0)), (b1, Obj.cells (Value.cells (uv A)) 24 (0, 0))] 24 (.tmp 9) (.tmp 20) b2 (0) #[.int .u64 0, .int .u64 0, .int .u64 0, .int .u64 0] (Value.cells (uv (sv (tl (ByteArray.extract s 0 (min (ByteArray.size s) 40)))))) 24 (uv (sv (tl (ByteArray.extract s 0 (min (ByteArray.size s) 40))))) (by kernel_rfl) (by kernel_rfl) (by kernel_rfl) (by kernel_rfl) (by kernel_rfl) (by kernel_rfl) (of_decide_eq_true (by kernel_rfl)) (by kernel_rfl) (by kernel_rfl) ?_
  intro w4 H4; clear H3
  refine s_val (some 10) (.int .i64 0) (fun w => by kernel_rfl) (by kernel_rfl) ?_
  refine s_nil ?_
  refine g_sreg [0, 1, 2, 3, 4, 5, 6, 7, 8, 9, 10, 11, 12, 13, 14, 15, 16, 17, 18, 19, 20, 21] (by kernel_rfl) (by kernel_rfl) ?_
  refine s_val (some 22) (.int .i64 ((k : Nat) : Int)) (fun w => by kernel_rfl) (by kernel_rfl) ?_
  refine s_valE (some 23) (.bool (decide (0 ≤ ((k : Nat) : Int)))) (.bool true) (fun w => by kernel_rfl) (bool_eq (decide_eq_true (by omega))) (by kernel_rfl) ?_
  refine s_val (some 24) (.bool true) (fun w => by kernel_rfl) (by kernel_rfl) ?_
  refine s_val (some 25) (.int .i64 ((k : Nat) : Int)) (fun w => by kernel_rfl) (by kernel_rfl) ?_
  refine s_valE (some 26) (.bool (decide (((k : Nat) : Int) < 256))) (.bool true) (fun w => by kernel_rfl) (bool_eq (decide_eq_true (by omega))) (by kernel_rfl) ?_
  refine s_val (some 27) (.bool true) (fun w => by kernel_rfl) (by kernel_rfl) ?_
  refine s_val (some 28) (.bool true) (fun w => by kernel_rfl) (by kernel_rfl) ?_
  refine s_val (some 29) (.int .i64 ((k : Nat) : Int)) (fun w => by kernel_rfl) (by kernel_rfl) ?_
  refine s_valE (some 30) (.int .i64 (if (0 : Int) > (((k : Nat) : Int) : Int) then (0 : Int) else (((k : Nat) : Int) : Int))) (.int .i64 ((k : Nat) : Int)) (fun w => by kernel_rfl) (int_eq (by split <;> omega)) (by kernel_rfl) ?_
  refine s_valE (some 31) (.int .i64 (IntKind.i64.wrap (((k : Nat) : Int).tdiv 64))) (.int .i64 ((k / 64 : Nat) : Int)) (fun w => by kernel_rfl) (int_eq (quoN_i64 (a := k) (b := 64) (by omega))) (by kernel_rfl) ?_
  refine s_valE (some 32) (.int .i64 (Int.tmod ((k / 64 : Nat) : Int) 4)) (.int .i64 1) (fun w => by kernel_rfl) (int_eq (show Int.tmod (((k / 64 : Nat)) : Int) ((4 : Nat) : Int) = ((1 : Nat) : Int) by rw [remN]; omega)) (by kernel_rfl) ?_
  refine s_val (some 33) (.pointer (some ⟨b1, 1, none⟩)) (fun w => by kernel_rfl) (by kernel_rfl) ?_
  refine s_load1 H4 (some 34) 22 (.tmp 33) 1 b1 1 (Value.cells (uv A)) 24 (0, 0) (.int .u64 ((A / 18446744073709551616 % 18446744073709551616 : Nat) : Int)) (by kernel_rfl) (by kernel_rfl) (by kernel_rfl) (by kernel_rfl) (by kernel_rfl) (by kernel_rfl) ?_
  refine s_val (some 35) (.int .i64 ((k : Nat) : Int)) (fun w => by kernel_rfl) (by kernel_rfl) ?_
  refine s_valE (some 36) (.int .i64 (if (0 : Int) > (((k : Nat) : Int) : Int) then (0 : Int) else (((k : Nat) : Int) : Int))) (.int .i64 ((k : Nat) : Int)) (fun w => by kernel_rfl) (int_eq (by split <;> omega)) (by kernel_rfl) ?_
  refine s_valE (some 37) (.int .u64 (IntKind.u64.wrap (((k : Nat) : Int)))) (.int .u64 ((k : Nat) : Int)) (fun w => by kernel_rfl) (int_eq (wrapN_u64 (a := k) (by omega))) (by kernel_rfl) ?_
  refine s_valE (some 38) (.int .u64 (Int.tmod ((k : Nat) : Int) 64)) (.int .u64 ((k % 64 : Nat) : Int)) (fun w => by kernel_rfl) (int_eq (remN k 64)) (by kernel_rfl) ?_
  refine s_valE (some 39) (.int .u64 (Int.fdiv ((A / 18446744073709551616 % 18446744073709551616 : Nat) : Int) (2 ^ (min (k % 64) 64)))) (.int .u64 (((A / 18446744073709551616 % 18446744073709551616) / 2 ^ (k % 64) : Nat) : Int)) (fun w => by kernel_rfl) (int_eq (shr_min (A / 18446744073709551616 % 18446744073709551616) (k % 64) 64 (by omega))) (by kernel_rfl) ?_
  refine s_valE (some 40) (.int .u64 (Go.bits .and .u64 ((((A / 18446744073709551616 % 18446744073709551616) / 2 ^ (k % 64) : Nat) : Int)) 1)) (.int .u64 ((((A / 18446744073709551616 % 18446744073709551616) / 2 ^ (k % 64)) % 2 : Nat) : Int)) (fun w => by kernel_rfl) (int_eq (andN1 (a := (A / 18446744073709551616 % 18446744073709551616) / 2 ^ (k % 64)) (by omega))) (by kernel_rfl) ?_
  refine s_valE (some 41) (.bool (((((A / 18446744073709551616 % 18446744073709551616) / 2 ^ (k % 64)) % 2 : Nat) : Int) == 1)) (.bool (Nat.testBit A k)) (fun w => by kernel_rfl) (bool_eq (bit_q1 A k hq)) (by kernel_rfl) ?_
  refine s_val (some 42) (.bool (Nat.testBit A k)) (fun w => by kernel_rfl) (by kernel_rfl) ?_
  refine s_val (some 11) (.bool (Nat.testBit A k)) (fun w => by kernel_rfl) (by kernel_rfl) ?_
  refine s_nil ?_
  refine g_seq (by kernel_rfl) ?_
  refine D2.g_sdraw [0, 1, 2, 3, 4, 5, 6, 7, 8, 9, 10, 11, 12, 13, 14, 15, 16, 17, 18, 19, 20, 21, 22, 23, 24, 25, 26, 27, 28, 29] [((some 43), fun _ => uv A), ((some 44), fun _ => .string (bs A)), ((some 45), fun _ => uv A), ((some 46), fun _ => .string (bs A)), ((some 47), fun _ => .bool false), ((some 48), fun _ => .bool false), ((some 49), fun _ => uv A), ((some 50), fun _ => .int .i64 ((len A : Nat) : Int)), ((some 51), fun _ => uv A), ((some 52), fun _ => .int .i64 ((len A : Nat) : Int)), ((some 53), fun _ => .bool false), ((some 54), fun _ => .bool false), ((some 55), fun _ => .bool false), ((some 56), fun _ => uv A), ((some 57), fun _ => .int .i64 ((k : Nat) : Int)), ((some 58), fun _ => .bool (Nat.testBit A k)), ((some 59), fun _ => .bool (Nat.testBit A k)), ((some 60), fun _ => .bool false), ((some 61), fun _ => .bool false), ((some 62), fun _ => .bool false), ((some 63), fun _ => .int .u64 ((n : Nat) : Int)), ((some 64), fun _ => uv n), ((some 65), fun _ => .int .u64 ((n : Nat) : Int)), ((some 66), fun _ => uv n), ((some 67), fun _ => .bool false), ((some 68), fun _ => .bool false), ((some 69), fun _ => .bool false), ((some 70), fun _ => .bool true), ((some 71), fun _ => .bool false), ((some 72), fun _ => .bool false)] (D2.Pre w.heap.size w (fun L g => [(true, (b2, Obj.cells (Value.cells (uv (sv (tl (ByteArray.extract s 0 (min (ByteArray.size s) 40)))))) 24 (0, 0))), (true, (b1, Obj.cells (Value.cells (uv A)) 24 (0, 0)))]) (fun L g => True)) (by kernel_rfl) (by kernel_rfl) (by kernel_rfl) (by kernel_rfl) ⟨D2.StE.of H4.drew _ (by kernel_rfl), trivial⟩ ⟨?_, ?_, ?_, ?_, ?_, ?_, ?_, ?_, ?_, ?_, ?_, ?_, ?_, ?_, ?_, ?_, ?_, ?_, ?_, ?_, ?_, ?_, ?_, ?_, ?_, ?_, ?_, ?_, ?_, ?_, trivial⟩ ?_
  · exact D2.gv_load 24 (.tmp 4) 1 (fun g => b1) (Value.cells (uv A)) 24 (0, 0) (fun _ _ _ h => h) (fun g => by kernel_rfl) (fun g => by kernel_rfl) (fun L g hN => (by kernel_rfl)) (by kernel_rfl)
  · exact D2.gv_call 14 #[uv A] (fun _ _ _ h => h) (bytes_any A hA) (fun g w => by kernel_rfl)
  · exact D2.gv_load 24 (.tmp 4) 1 (fun g => b1) (Value.cells (uv A)) 24 (0, 0) (fun _ _ _ h => h) (fun g => by kernel_rfl) (fun g => by kernel_rfl) (fun L g hN => (by kernel_rfl)) (by kernel_rfl)
  · exact D2.gv_call 15 #[uv A] (fun _ _ _ h => h) (refbytes_fn A hA) (fun g w => by kernel_rfl)
  · exact D2.gv_valE (fun _ _ _ h => h) (V' := .bool (!(ByteArray.toList (bs A) == ByteArray.toList (bs A)))) (fun g w => by kernel_rfl) (bool_eq (by rw [str_self (bs A)]; rfl))
  · exact D2.gv_val (fun _ _ _ h => h) (fun g w => by kernel_rfl)
  · exact D2.gv_load 24 (.tmp 4) 1 (fun g => b1) (Value.cells (uv A)) 24 (0, 0) (fun _ _ _ h => h) (fun g => by kernel_rfl) (fun g => by kernel_rfl) (fun L g hN => (by kernel_rfl)) (by kernel_rfl)
  · exact D2.gv_call 16 #[uv A] (fun _ _ _ h => h) (len_fn A hA) (fun g w => by kernel_rfl)
  · exact D2.gv_load 24 (.tmp 4) 1 (fun g => b1) (Value.cells (uv A)) 24 (0, 0) (fun _ _ _ h => h) (fun g => by kernel_rfl) (fun g => by kernel_rfl) (fun L g hN => (by kernel_rfl)) (by kernel_rfl)
  · exact D2.gv_call 17 #[uv A] (fun _ _ _ h => h) (refbits_fn A hA) (fun g w => by kernel_rfl)
  · exact D2.gv_valE (fun _ _ _ h => h) (V' := .bool (!(((len A : Nat) : Int) == ((len A : Nat) : Int)))) (fun g w => by kernel_rfl) (bool_eq (by rw [beq_iff_eq.2 (by omega)]; rfl))
  · exact D2.gv_val (fun _ _ _ h => h) (fun g w => by kernel_rfl)
  · exact D2.gv_val (fun _ _ _ h => h) (fun g w => by kernel_rfl)
  · exact D2.gv_load 24 (.tmp 4) 1 (fun g => b1) (Value.cells (uv A)) 24 (0, 0) (fun _ _ _ h => h) (fun g => by kernel_rfl) (fun g => by kernel_rfl) (fun L g hN => (by kernel_rfl)) (by kernel_rfl)
  · exact D2.gv_val (fun _ _ _ h => h) (fun g w => by kernel_rfl)
  · exact D2.gv_call 18 #[uv A, .int .i64 ((k : Nat) : Int)] (fun _ _ _ h => h) (bit_some A k hk) (fun g w => by kernel_rfl)
  · exact D2.gv_val (fun _ _ _ h => h) (fun g w => by kernel_rfl)
  · exact D2.gv_valE (fun _ _ _ h => h) (V' := .bool (!(Nat.testBit A k == Nat.testBit A k))) (fun g w => by kernel_rfl) (bool_eq (by rw [beq_self_eq_true]; rfl))
  · exact D2.gv_val (fun _ _ _ h => h) (fun g w => by kernel_rfl)
  · exact D2.gv_val (fun _ _ _ h => h) (fun g w => by kernel_rfl)
  · exact D2.gv_val (fun _ _ _ h => h) (fun g w => by kernel_rfl)
  · exact D2.gv_call 19 #[.int .u64 ((n : Nat) : Int)] (fun _ _ _ h => h) (small_fn n (by omega)) (fun g w => by kernel_rfl)
  · exact D2.gv_val (fun _ _ _ h => h) (fun g w => by kernel_rfl)
  · exact D2.gv_valE (fun _ _ _ h => h) (V' := .agg #[.int .u64 ((n : Nat) : Int), .int .u64 0, .int .u64 0, .int .u64 0]) (fun g w => by kernel_rfl) (uv_small n (by omega))
  · exact D2.gv_opE (fun _ _ _ h => h) _ (V' := .bool (!decide (n = n))) (fun g => by kernel_rfl) (fun g => (fun o w ho => neU_run (x := (.tmp 64)) (y := (.tmp 66)) n n (by unfold big; omega) (by unfold big; omega) w ho (by kernel_rfl) (by kernel_rfl))) (by rw [decide_eq_true rfl] <;> rfl)
  · exact D2.gv_val (fun _ _ _ h => h) (fun g w => by kernel_rfl)
  · exact D2.gv_val (fun _ _ _ h => h) (fun g w => by kernel_rfl)
  · exact D2.gv_call 8 #[] (fun _ _ _ h => h) alive_any (fun g w => by kernel_rfl)
  · exact D2.gv_val (fun _ _ _ h => h) (fun g w => by kernel_rfl)
  · exact D2.gv_val (fun _ _ _ h => h) (fun g w => by kernel_rfl)
  intro L0 G5 w5 hall HL; clear H4
  have H5 : St w.heap.size w w5 [(b2, Obj.cells (Value.cells (uv (sv (tl (ByteArray.extract s 0 (min (ByteArray.size s) 40)))))) 24 (0, 0)), (b1, Obj.cells (Value.cells (uv A)) 24 (0, 0))] := D2.StE.st HL.1
  clear HL hall
  refine g_cond_f (by kernel_rfl) (by kernel_rfl) ?_
  refine g_skip (by kernel_rfl) ?_
  show WP _ _ _ _ _ _
  refine g_seq (by kernel_rfl) ?_
  refine g_sreg [0, 1, 2] (by kernel_rfl) (by kernel_rfl) ?_
  refine s_val (some 73) (.string (ByteArray.extract s 0 (min (ByteArray.size s) 40))) (fun w => by kernel_rfl) (by kernel_rfl) ?_
  refine s_val (some 74) (.int .i64 ((ByteArray.size (ByteArray.extract s 0 (min (ByteArray.size s) 40)) : Nat) : Int)) (fun w => by kernel_rfl) (by kernel_rfl) ?_
  refine s_valE (some 75) (.bool (decide (32 < ((ByteArray.size (ByteArray.extract s 0 (min (ByteArray.size s) 40)) : Nat) : Int)))) (.bool false) (fun w => by kernel_rfl) (bool_eq (decide_eq_false (by omega))) (by kernel_rfl) ?_
  refine s_nil ?_
  refine g_cond_f (by kernel_rfl) (by kernel_rfl) ?_
  refine g_skip (by kernel_rfl) ?_
  show WP _ _ _ _ _ _
  refine D2.g_sdraw [0, 1, 2, 3, 4, 5, 6, 7, 8] [((some 83), fun _ => .int .i64 0), ((some 84), fun _ => .bool true), ((some 85), fun _ => .bool true), ((some 86), fun _ => uv (sv (tl (ByteArray.extract s 0 (min (ByteArray.size s) 40))))), ((some 87), fun _ => .string (ByteArray.extract s 0 (min (ByteArray.size s) 40))), ((some 88), fun _ => uv (sv (tl (ByteArray.extract s 0 (min (ByteArray.size s) 40))))), ((some 89), fun _ => .bool true), ((some 90), fun _ => .bool true), ((some 8), fun _ => .bool true)] (D2.Pre w.heap.size w (fun L g => [(true, (b2, Obj.cells (Value.cells (uv (sv (tl (ByteArray.extract s 0 (min (ByteArray.size s) 40)))))) 24 (0, 0))), (true, (b1, Obj.cells (Value.cells (uv A)) 24 (0, 0)))]) (fun L g => True)) (by kernel_rfl) (by kernel_rfl) (by kernel_rfl) (by kernel_rfl) ⟨D2.StE.of H5.drew _ (by kernel_rfl), trivial⟩ ⟨?_, ?_, ?_, ?_, ?_, ?_, ?_, ?_, ?_, trivial⟩ ?_
  · exact D2.gv_val (fun _ _ _ h => h) (fun g w => by kernel_rfl)
  · exact D2.gv_val (fun _ _ _ h => h) (fun g w => by kernel_rfl)
  · exact D2.gv_val (fun _ _ _ h => h) (fun g w => by kernel_rfl)
  · exact D2.gv_load 24 (.tmp 9) 0 (fun g => b2) (Value.cells (uv (sv (tl (ByteArray.extract s 0 (min (ByteArray.size s) 40)))))) 24 (0, 0) (fun _ _ _ h => h) (fun g => by kernel_rfl) (fun g => by kernel_rfl) (fun L g hN => (by kernel_rfl)) (by kernel_rfl)
  · exact D2.gv_val (fun _ _ _ h => h) (fun g w => by kernel_rfl)
  · exact D2.gv_call 20 #[.string (ByteArray.extract s 0 (min (ByteArray.size s) 40))] (fun _ _ _ h => h) (rfrom_fn (ByteArray.extract s 0 (min (ByteArray.size s) 40)) hle) (fun g w => by kernel_rfl)
  · exact D2.gv_opE (fun _ _ _ h => h) _ (V' := .bool (decide ((sv (tl (ByteArray.extract s 0 (min (ByteArray.size s) 40)))) = (sv (tl (ByteArray.extract s 0 (min (ByteArray.size s) 40))))))) (fun g => by kernel_rfl) (fun g => (fun o w ho => eqU_run (x := (.tmp 86)) (y := (.tmp 88)) (sv (tl (ByteArray.extract s 0 (min (ByteArray.size s) 40)))) (sv (tl (ByteArray.extract s 0 (min (ByteArray.size s) 40)))) (sv_big (ByteArray.extract s 0 (min (ByteArray.size s) 40)) hle) (sv_big (ByteArray.extract s 0 (min (ByteArray.size s) 40)) hle) w ho (by kernel_rfl) (by kernel_rfl))) (by rw [decide_eq_true rfl] <;> rfl)
  · exact D2.gv_val (fun _ _ _ h => h) (fun g w => by kernel_rfl)
  · exact D2.gv_val (fun _ _ _ h => h) (fun g w => by kernel_rfl)
  intro L0 G6 w6 hall HL; clear H5
  have H6 : St w.heap.size w w6 [(b2, Obj.cells (Value.cells (uv (sv (tl (ByteArray.extract s 0 (min (ByteArray.size s) 40)))))) 24 (0, 0)), (b1, Obj.cells (Value.cells (uv A)) 24 (0, 0))] := D2.StE.st HL.1
  clear HL hall
  refine g_ret (by kernel_rfl) ?_
  show ∃ vs, Res _ _ _ _ vs ∧ _
  refine ⟨[.bool true], (.tmp (.bool true) (by kernel_rfl) .nil), ?_, H6.below⟩
  rfl

set_option maxRecDepth 100000 in
theorem bytes_s2 (A : Nat) (hA : A < big) (s : ByteArray) (hs : ByteArray.size s ≤ 9223372036854775807) (k : Nat) (hk : k < 256) (hq : k / 64 = 2) (n : Nat) (hn : n < 18446744073709551616) (hle : ByteArray.size (ByteArray.extract s 0 (min (ByteArray.size s) 40)) ≤ 32) : Fn Try.prog 4 #[uv A, .string s, .int .i64 ((k : Nat) : Int), .int .u64 ((n : Nat) : Int)] (.bool true) := by
  have hsz : ByteArray.size (ByteArray.extract s 0 (min (ByteArray.size s) 40)) = min (ByteArray.size s) 40 := by rw [← tl_len, tl_extract]; simp [tl_len]
  have hsh := Nat.div_le_self (A / 340282366920938463463374607431768211456 % 18446744073709551616) (2 ^ (k % 64))
  refine Fn.intro (c := codeOf Try.f4) [.tmp 8] 91 Try.func4 (by kernel_rfl) (by kernel_rfl) (by kernel_rfl) fun w => ?_
  have H0 := St.start w
  refine g_sreg [0, 1] (by kernel_rfl) (by kernel_rfl) ?_
  refine s_box H0 (some 4) 24 (.tmp 0) (uv A) (by kernel_rfl) (by kernel_rfl) (by kernel_rfl) ?_
  intro b1 w1 H1; clear H0
  refine s_val (some 8) (.bool false) (fun w => by kernel_rfl) (by kernel_rfl) ?_
  refine s_nil ?_
  refine g_sreg [0, 1, 2, 3, 4, 5] (by kernel_rfl) (by kernel_rfl) ?_
  refine s_val (some 12) (.string s) (fun w => by kernel_rfl) (by kernel_rfl) ?_
  refine s_val (some 13) (.string s) (fun w => by kernel_rfl) (by kernel_rfl) ?_
  refine s_val (some 14) (.int .i64 ((ByteArray.size s : Nat) : Int)) (fun w => by kernel_rfl) (by kernel_rfl) ?_
  refine s_valE (some 15) (.int .i64 (if (40 : Int) < (((ByteArray.size s : Nat) : Int) : Int) then (40 : Int) else (((ByteArray.size s : Nat) : Int) : Int))) (.int .i64 ((min (ByteArray.size s) 40 : Nat) : Int)) (fun w => by kernel_rfl) (int_eq (minN (ByteArray.size s) 40)) (by kernel_rfl) ?_
  refine s_op (some 16) _ (.string (ByteArray.extract s 0 (min (ByteArray.size s) 40))) (by kernel_rfl) (by kernel_rfl) (fun o w ho => scut_run (t := 9) (kd := .i64) (by kernel_rfl) (x := (.tmp 12)) (y := (.tmp 15)) s (min (ByteArray.size s) 40) ho (by kernel_rfl) (by kernel_rfl) (by omega) w) ?_
  refine s_val (some 1) (.string (ByteArray.extract s 0 (min (ByteArray.size s) 40))) (fun w => by kernel_rfl) (by kernel_rfl) ?_
  refine s_nil ?_
  refine g_sreg [0, 1, 2, 3, 4, 5, 6, 7] (by kernel_rfl) (by kernel_rfl) ?_
  refine s_val (some 18) (.string (ByteArray.extract s 0 (min (ByteArray.size s) 40))) (fun w => by kernel_rfl) (by kernel_rfl) ?_
  refine s_call H1 (some 19) 13 #[.string (ByteArray.extract s 0 (min (ByteArray.size s) 40))] (.tuple #[uv (sv (tl (ByteArray.extract s 0 (min (ByteArray.size s) 40)))), .int .i64 0]) (from_short (ByteArray.extract s 0 (min (ByteArray.size s) 40)) hle) (fun w => by kernel_rfl) (by kernel_rfl) ?_
  intro w2 H2; clear H1
  refine s_val (some 17) (.tuple #[uv (sv (tl (ByteArray.extract s 0 (min (ByteArray.size s) 40)))), .int .i64 0]) (fun w => by kernel_rfl) (by kernel_rfl) ?_
  refine s_val (some 20) (uv (sv (tl (ByteArray.extract s 0 (min (ByteArray.size s) 40))))) (fun w => by kernel_rfl) (by kernel_rfl) ?_
  refine s_val (some 21) (.int .i64 0) (fun w => by kernel_rfl) (by kernel_rfl) ?_
  refine s_alloc H2 (some 9) 24 (.agg #[.int .u64 0, .int .u64 0, .int .u64 0, .int .u64 0]) (by kernel_rfl) (by kernel_rfl) (by kernel_rfl) ?_
  intro b2 w3 H3; clear H2
  refine s_store H3 0 [(b2, Obj.cells (Value.cells (uv (sv (tl (ByteArray.extract s 0 (min (ByteArray.size s) 40)))))) 24 (0, 0)), (b1, Obj.cells (Value.cells (uv A)) 24 (0, 0))] 24 (.tmp 9) (.tmp 20) b2 (0) #[.int .u64 0, .int .u64 0, .int .u64 0, .int .u64 0] (Value.cells (uv (sv (tl (ByteArray.extract s 0 (min (ByteArray.size s) 40)))))) 24 (uv (sv (tl (ByteArray.extract s 0 (min (ByteArray.size s) 40))))) (by kernel_rfl) (by kernel_rfl) (by kernel_rfl) (by kernel_rfl) (by kernel_rfl) (by kernel_rfl) (of_decide_eq_true (by kernel_rfl)) (by kernel_rfl) (by kernel_rfl) ?_
  intro w4 H4; clear H3
  refine s_val (some 10) (.int .i64 0) (fun w => by kernel_rfl) (by kernel_rfl) ?_
  refine s_nil ?_
  refine g_sreg [0, 1, 2, 3, 4, 5, 6, 7, 8, 9, 10, 11, 12, 13, 14, 15, 16, 17, 18, 19, 20, 21] (by kernel_rfl) (by kernel_rfl) ?_
  refine s_val (some 22) (.int .i64 ((k : Nat) : Int)) (fun w => by kernel_rfl) (by kernel_rfl) ?_
  refine s_valE (some 23) (.bool (decide (0 ≤ ((k : Nat) : Int)))) (.bool true) (fun w => by kernel_rfl) (bool_eq (decide_eq_true (by omega))) (by kernel_rfl) ?_
  refine s_val (some 24) (.bool true) (fun w => by kernel_rfl) (by kernel_rfl) ?_
  refine s_val (some 25) (.int .i64 ((k : Nat) : Int)) (fun w => by kernel_rfl) (by kernel_rfl) ?_
  refine s_valE (some 26) (.bool (decide (((k : Nat) : Int) < 256))) (.bool true) (fun w => by kernel_rfl) (bool_eq (decide_eq_true (by omega))) (by kernel_rfl) ?_
  refine s_val (some 27) (.bool true) (fun w => by kernel_rfl) (by kernel_rfl) ?_
  refine s_val (some 28) (.bool true) (fun w => by kernel_rfl) (by kernel_rfl) ?_
  refine s_val (some 29) (.int .i64 ((k : Nat) : Int)) (fun w => by kernel_rfl) (by kernel_rfl) ?_
  refine s_valE (some 30) (.int .i64 (if (0 : Int) > (((k : Nat) : Int) : Int) then (0 : Int) else (((k : Nat) : Int) : Int))) (.int .i64 ((k : Nat) : Int)) (fun w => by kernel_rfl) (int_eq (by split <;> omega)) (by kernel_rfl) ?_
  refine s_valE (some 31) (.int .i64 (IntKind.i64.wrap (((k : Nat) : Int).tdiv 64))) (.int .i64 ((k / 64 : Nat) : Int)) (fun w => by kernel_rfl) (int_eq (quoN_i64 (a := k) (b := 64) (by omega))) (by kernel_rfl) ?_
  refine s_valE (some 32) (.int .i64 (Int.tmod ((k / 64 : Nat) : Int) 4)) (.int .i64 2) (fun w => by kernel_rfl) (int_eq (show Int.tmod (((k / 64 : Nat)) : Int) ((4 : Nat) : Int) = ((2 : Nat) : Int) by rw [remN]; omega)) (by kernel_rfl) ?_
  refine s_val (some 33) (.pointer (some ⟨b1, 2, none⟩)) (fun w => by kernel_rfl) (by kernel_rfl) ?_
  refine s_load1 H4 (some 34) 22 (.tmp 33) 1 b1 2 (Value.cells (uv A)) 24 (0, 0) (.int .u64 ((A / 340282366920938463463374607431768211456 % 18446744073709551616 : Nat) : Int)) (by kernel_rfl) (by kernel_rfl) (by kernel_rfl) (by kernel_rfl) (by kernel_rfl) (by kernel_rfl) ?_
  refine s_val (some 35) (.int .i64 ((k : Nat) : Int)) (fun w => by kernel_rfl) (by kernel_rfl) ?_
  refine s_valE (some 36) (.int .i64 (if (0 : Int) > (((k : Nat) : Int) : Int) then (0 : Int) else (((k : Nat) : Int) : Int))) (.int .i64 ((k : Nat) : Int)) (fun w => by kernel_rfl) (int_eq (by split <;> omega)) (by kernel_rfl) ?_
  refine s_valE (some 37) (.int .u64 (IntKind.u64.wrap (((k : Nat) : Int)))) (.int .u64 ((k : Nat) : Int)) (fun w => by kernel_rfl) (int_eq (wrapN_u64 (a := k) (by omega))) (by kernel_rfl) ?_
  refine s_valE (some 38) (.int .u64 (Int.tmod ((k : Nat) : Int) 64)) (.int .u64 ((k % 64 : Nat) : Int)) (fun w => by kernel_rfl) (int_eq (remN k 64)) (by kernel_rfl) ?_
  refine s_valE (some 39) (.int .u64 (Int.fdiv ((A / 340282366920938463463374607431768211456 % 18446744073709551616 : Nat) : Int) (2 ^ (min (k % 64) 64)))) (.int .u64 (((A / 340282366920938463463374607431768211456 % 18446744073709551616) / 2 ^ (k % 64) : Nat) : Int)) (fun w => by kernel_rfl) (int_eq (shr_min (A / 340282366920938463463374607431768211456 % 18446744073709551616) (k % 64) 64 (by omega))) (by kernel_rfl) ?_
  refine s_valE (some 40) (.int .u64 (Go.bits .and .u64 ((((A / 340282366920938463463374607431768211456 % 18446744073709551616) / 2 ^ (k % 64) : Nat) : Int)) 1)) (.int .u64 ((((A / 340282366920938463463374607431768211456 % 18446744073709551616) / 2 ^ (k % 64)) % 2 : Nat) : Int)) (fun w => by kernel_rfl) (int_eq (andN1 (a := (A / 340282366920938463463374607431768211456 % 18446744073709551616) / 2 ^ (k % 64)) (by omega))) (by kernel_rfl) ?_
  refine s_valE (some 41) (.bool (((((A / 340282366920938463463374607431768211456 % 18446744073709551616) / 2 ^ (k % 64)) % 2 : Nat) : Int) == 1)) (.bool (Nat.testBit A k)) (fun w => by kernel_rfl) (bool_eq (bit_q2 A k hq)) (by kernel_rfl) ?_
  refine s_val (some 42) (.bool (Nat.testBit A k)) (fun w => by kernel_rfl) (by kernel_rfl) ?_
  refine s_val (some 11) (.bool (Nat.testBit A k)) (fun w => by kernel_rfl) (by kernel_rfl) ?_
  refine s_nil ?_
  refine g_seq (by kernel_rfl) ?_
  refine D2.g_sdraw [0, 1, 2, 3, 4, 5, 6, 7, 8, 9, 10, 11, 12, 13, 14, 15, 16, 17, 18, 19, 20, 21, 22, 23, 24, 25, 26, 27, 28, 29] [((some 43), fun _ => uv A), ((some 44), fun _ => .string (bs A)), ((some 45), fun _ => uv A), ((some 46), fun _ => .string (bs A)), ((some 47), fun _ => .bool false), ((some 48), fun _ => .bool false), ((some 49), fun _ => uv A), ((some 50), fun _ => .int .i64 ((len A : Nat) : Int)), ((some 51), fun _ => uv A), ((some 52), fun _ => .int .i64 ((len A : Nat) : Int)), ((some 53), fun _ => .bool false), ((some 54), fun _ => .bool false), ((some 55), fun _ => .bool false), ((some 56), fun _ => uv A), ((some 57), fun _ => .int .i64 ((k : Nat) : Int)), ((some 58), fun _ => .bool (Nat.testBit A k)), ((some 59), fun _ => .bool (Nat.testBit A k)), ((some 60), fun _ => .bool false), ((some 61), fun _ => .bool false), ((some 62), fun _ => .bool false), ((some 63), fun _ => .int .u64 ((n : Nat) : Int)), ((some 64), fun _ => uv n), ((some 65), fun _ => .int .u64 ((n : Nat) : Int)), ((some 66), fun _ => uv n), ((some 67), fun _ => .bool false), ((some 68), fun _ => .bool false), ((some 69), fun _ => .bool false), ((some 70), fun _ => .bool true), ((some 71), fun _ => .bool false), ((some 72), fun _ => .bool false)] (D2.Pre w.heap.size w (fun L g => [(true, (b2, Obj.cells (Value.cells (uv (sv (tl (ByteArray.extract s 0 (min (ByteArray.size s) 40)))))) 24 (0, 0))), (true, (b1, Obj.cells (Value.cells (uv A)) 24 (0, 0)))]) (fun L g => True)) (by kernel_rfl) (by kernel_rfl) (by kernel_rfl) (by kernel_rfl) ⟨D2.StE.of H4.drew _ (by kernel_rfl), trivial⟩ ⟨?_, ?_, ?_, ?_, ?_, ?_, ?_, ?_, ?_, ?_, ?_, ?_, ?_, ?_, ?_, ?_, ?_, ?_, ?_, ?_, ?_, ?_, ?_, ?_, ?_, ?_, ?_, ?_, ?_, ?_, trivial⟩ ?_
  · exact D2.gv_load 24 (.tmp 4) 1 (fun g => b1) (Value.cells (uv A)) 24 (0, 0) (fun _ _ _ h => h) (fun g => by kernel_rfl) (fun g => by kernel_rfl) (fun L g hN => (by kernel_rfl)) (by kernel_rfl)
  · exact D2.gv_call 14 #[uv A] (fun _ _ _ h => h) (bytes_any A hA) (fun g w => by kernel_rfl)
  · exact D2.gv_load 24 (.tmp 4) 1 (fun g => b1) (Value.cells (uv A)) 24 (0, 0) (fun _ _ _ h => h) (fun g => by kernel_rfl) (fun g => by kernel_rfl) (fun L g hN => (by kernel_rfl)) (by kernel_rfl)
  · exact D2.gv_call 15 #[uv A] (fun _ _ _ h => h) (refbytes_fn A hA) (fun g w => by kernel_rfl)
  · exact D2.gv_valE (fun _ _ _ h => h) (V' := .bool (!(ByteArray.toList (bs A) == ByteArray.toList (bs A)))) (fun g w => by kernel_rfl) (bool_eq (by rw [str_self (bs A)]; rfl))
  · exact D2.gv_val (fun _ _ _ h => h) (fun g w => by kernel_rfl)
  · exact D2.gv_load 24 (.tmp 4) 1 (fun g => b1) (Value.cells (uv A)) 24 (0, 0) (fun _ _ _ h => h) (fun g => by kernel_rfl) (fun g => by kernel_rfl) (fun L g hN => (by kernel_rfl)) (by kernel_rfl)
  · exact D2.gv_call 16 #[uv A] (fun _ _ _ h => h) (len_fn A hA) (fun g w => by kernel_rfl)
  · exact D2.gv_load 24 (.tmp 4) 1 (fun g => b1) (Value.cells (uv A)) 24 (0, 0) (fun _ _ _ h => h) (fun g => by kernel_rfl) (fun g => by kernel_rfl) (fun L g hN => (by kernel_rfl)) (by kernel_rfl)
  · exact D2.gv_call 17 #[uv A] (fun _ _ _ h => h) (refbits_fn A hA) (fun g w => by kernel_rfl)
  · exact D2.gv_valE (fun _ _ _ h => h) (V' := .bool (!(((len A : Nat) : Int) == ((len A : Nat) : Int)))) (fun g w => by kernel_rfl) (bool_eq (by rw [beq_iff_eq.2 (by omega)]; rfl))
  · exact D2.gv_val (fun _ _ _ h => h) (fun g w => by kernel_rfl)
  · exact D2.gv_val (fun _ _ _ h => h) (fun g w => by kernel_rfl)
  · exact D2.gv_load 24 (.tmp 4) 1 (fun g => b1) (Value.cells (uv A)) 24 (0, 0) (fun _ _ _ h => h) (fun g => by kernel_rfl) (fun g => by kernel_rfl) (fun L g hN => (by kernel_rfl)) (by kernel_rfl)
  · exact D2.gv_val (fun _ _ _ h => h) (fun g w => by kernel_rfl)
  · exact D2.gv_call 18 #[uv A, .int .i64 ((k : Nat) : Int)] (fun _ _ _ h => h) (bit_some A k hk) (fun g w => by kernel_rfl)
  · exact D2.gv_val (fun _ _ _ h => h) (fun g w => by kernel_rfl)
  · exact D2.gv_valE (fun _ _ _ h => h) (V' := .bool (!(Nat.testBit A k == Nat.testBit A k))) (fun g w => by kernel_rfl) (bool_eq (by rw [beq_self_eq_true]; rfl))
  · exact D2.gv_val (fun _ _ _ h => h) (fun g w => by kernel_rfl)
  · exact D2.gv_val (fun _ _ _ h => h) (fun g w => by kernel_rfl)
  · exact D2.gv_val (fun _ _ _ h => h) (fun g w => by kernel_rfl)
  · exact D2.gv_call 19 #[.int .u64 ((n : Nat) : Int)] (fun _ _ _ h => h) (small_fn n (by omega)) (fun g w => by kernel_rfl)
  · exact D2.gv_val (fun _ _ _ h => h) (fun g w => by kernel_rfl)
  · exact D2.gv_valE (fun _ _ _ h => h) (V' := .agg #[.int .u64 ((n : Nat) : Int), .int .u64 0, .int .u64 0, .int .u64 0]) (fun g w => by kernel_rfl) (uv_small n (by omega))
  · exact D2.gv_opE (fun _ _ _ h => h) _ (V' := .bool (!decide (n = n))) (fun g => by kernel_rfl) (fun g => (fun o w ho => neU_run (x := (.tmp 64)) (y := (.tmp 66)) n n (by unfold big; omega) (by unfold big; omega) w ho (by kernel_rfl) (by kernel_rfl))) (by rw [decide_eq_true rfl] <;> rfl)
  · exact D2.gv_val (fun _ _ _ h => h) (fun g w => by kernel_rfl)
  · exact D2.gv_val (fun _ _ _ h => h) (fun g w => by kernel_rfl)
  · exact D2.gv_call 8 #[] (fun _ _ _ h => h) alive_any (fun g w => by kernel_rfl)
  · exact D2.gv_val (fun _ _ _ h => h) (fun g w => by kernel_rfl)
  · exact D2.gv_val (fun _ _ _ h => h) (fun g w => by kernel_rfl)
  intro L0 G5 w5 hall HL; clear H4
  have H5 : St w.heap.size w w5 [(b2, Obj.cells (Value.cells (uv (sv (tl (ByteArray.extract s 0 (min (ByteArray.size s) 40)))))) 24 (0, 0)), (b1, Obj.cells (Value.cells (uv A)) 24 (0, 0))] := D2.StE.st HL.1
  clear HL hall
  refine g_cond_f (by kernel_rfl) (by kernel_rfl) ?_
  refine g_skip (by kernel_rfl) ?_
  show WP _ _ _ _ _ _
  refine g_seq (by kernel_rfl) ?_
  refine g_sreg [0, 1, 2] (by kernel_rfl) (by kernel_rfl) ?_
  refine s_val (some 73) (.string (ByteArray.extract s 0 (min (ByteArray.size s) 40))) (fun w => by kernel_rfl) (by kernel_rfl) ?_
  refine s_val (some 74) (.int .i64 ((ByteArray.size (ByteArray.extract s 0 (min (ByteArray.size s) 40)) : Nat) : Int)) (fun w => by kernel_rfl) (by kernel_rfl) ?_
  refine s_valE (some 75) (.bool (decide (32 < ((ByteArray.size (ByteArray.extract s 0 (min (ByteArray.size s) 40)) : Nat) : Int)))) (.bool false) (fun w => by kernel_rfl) (bool_eq (decide_eq_false (by omega))) (by kernel_rfl) ?_
  refine s_nil ?_
  refine g_cond_f (by kernel_rfl) (by kernel_rfl) ?_
  refine g_skip (by kernel_rfl) ?_
  show WP _ _ _ _ _ _
  refine D2.g_sdraw [0, 1, 2, 3, 4, 5, 6, 7, 8] [((some 83), fun _ => .int .i64 0), ((some 84), fun _ => .bool true), ((some 85), fun _ => .bool true), ((some 86), fun _ => uv (sv (tl (ByteArray.extract s 0 (min (ByteArray.size s) 40))))), ((some 87), fun _ => .string (ByteArray.extract s 0 (min (ByteArray.size s) 40))), ((some 88), fun _ => uv (sv (tl (ByteArray.extract s 0 (min (ByteArray.size s) 40))))), ((some 89), fun _ => .bool true), ((some 90), fun _ => .bool true), ((some 8), fun _ => .bool true)] (D2.Pre w.heap.size w (fun L g => [(true, (b2, Obj.cells (Value.cells (uv (sv (tl (ByteArray.extract s 0 (min (ByteArray.size s) 40)))))) 24 (0, 0))), (true, (b1, Obj.cells (Value.cells (uv A)) 24 (0, 0)))]) (fun L g => True)) (by kernel_rfl) (by kernel_rfl) (by kernel_rfl) (by kernel_rfl) ⟨D2.StE.of H5.drew _ (by kernel_rfl), trivial⟩ ⟨?_, ?_, ?_, ?_, ?_, ?_, ?_, ?_, ?_, trivial⟩ ?_
  · exact D2.gv_val (fun _ _ _ h => h) (fun g w => by kernel_rfl)
  · exact D2.gv_val (fun _ _ _ h => h) (fun g w => by kernel_rfl)
  · exact D2.gv_val (fun _ _ _ h => h) (fun g w => by kernel_rfl)
  · exact D2.gv_load 24 (.tmp 9) 0 (fun g => b2) (Value.cells (uv (sv (tl (ByteArray.extract s 0 (min (ByteArray.size s) 40)))))) 24 (0, 0) (fun _ _ _ h => h) (fun g => by kernel_rfl) (fun g => by kernel_rfl) (fun L g hN => (by kernel_rfl)) (by kernel_rfl)
  · exact D2.gv_val (fun _ _ _ h => h) (fun g w => by kernel_rfl)
  · exact D2.gv_call 20 #[.string (ByteArray.extract s 0 (min (ByteArray.size s) 40))] (fun _ _ _ h => h) (rfrom_fn (ByteArray.extract s 0 (min (ByteArray.size s) 40)) hle) (fun g w => by kernel_rfl)
  · exact D2.gv_opE (fun _ _ _ h => h) _ (V' := .bool (decide ((sv (tl (ByteArray.extract s 0 (min (ByteArray.size s) 40)))) = (sv (tl (ByteArray.extract s 0 (min (ByteArray.size s) 40))))))) (fun g => by kernel_rfl) (fun g => (fun o w ho => eqU_run (x := (.tmp 86)) (y := (.tmp 88)) (sv (tl (ByteArray.extract s 0 (min (ByteArray.size s) 40)))) (sv (tl (ByteArray.extract s 0 (min (ByteArray.size s) 40)))) (sv_big (ByteArray.extract s 0 (min (ByteArray.size s) 40)) hle) (sv_big (ByteArray.extract s 0 (min (ByteArray.size s) 40)) hle) w ho (by kernel_rfl) (by kernel_rfl))) (by rw [decide_eq_true rfl] <;> rfl)
  · exact D2.gv_val (fun _ _ _ h => h) (fun g w => by kernel_rfl)
  · exact D2.gv_val (fun _ _ _ h => h) (fun g w => by kernel_rfl)
  intro L0 G6 w6 hall HL; clear H5
  have H6 : St w.heap.size w w6 [(b2, Obj.cells (Value.cells (uv (sv (tl (ByteArray.extract s 0 (min (ByteArray.size s) 40)))))) 24 (0, 0)), (b1, Obj.cells (Value.cells (uv A)) 24 (0, 0))] := D2.StE.st HL.1
  clear HL hall
  refine g_ret (by kernel_rfl) ?_
  show ∃ vs, Res _ _ _ _ vs ∧ _
  refine ⟨[.bool true], (.tmp (.bool true) (by kernel_rfl) .nil), ?_, H6.below⟩
  rfl

set_option maxRecDepth 100000 in
theorem bytes_s3 (A : Nat) (hA : A < big) (s : ByteArray) (hs : ByteArray.size s ≤ 9223372036854775807) (k : Nat) (hk : k < 256) (hq : k / 64 = 3) (n : Nat) (hn : n < 18446744073709551616) (hle : ByteArray.size (ByteArray.extract s 0 (min (ByteArray.size s) 40)) ≤ 32) : Fn Try.prog 4 #[uv A, .string s, .int .i64 ((k : Nat) : Int), .int .u64 ((n : Nat) : Int)] (.bool true) := by
  have hsz : ByteArray.size (ByteArray.extract s 0 (min (ByteArray.size s) 40)) = min (ByteArray.size s) 40 := by rw [← tl_len, tl_extract]; simp [tl_len]
  have hsh := Nat.div_le_self (A / 6277101735386680763835789423207666416102355444464034512896 % 18446744073709551616) (2 ^ (k % 64))
  refine Fn.intro (c := codeOf Try.f4) [.tmp 8] 91 Try.func4 (by kernel_rfl) (by kernel_rfl) (by kernel_rfl) fun w => ?_
  have H0 := St.start w
  refine g_sreg [0, 1] (by kernel_rfl) (by kernel_rfl) ?_
  refine s_box H0 (some 4) 24 (.tmp 0) (uv A) (by kernel_rfl) (by kernel_rfl) (by kernel_rfl) ?_
  intro b1 w1 H1; clear H0
  refine s_val (some 8) (.bool false) (fun w => by kernel_rfl) (by kernel_rfl) ?_
  refine s_nil ?_
  refine g_sreg [0, 1, 2, 3, 4, 5] (by kernel_rfl) (by kernel_rfl) ?_
  refine s_val (some 12) (.string s) (fun w => by kernel_rfl) (by kernel_rfl) ?_
  refine s_val (some 13) (.string s) (fun w => by kernel_rfl) (by kernel_rfl) ?_
  refine s_val (some 14) (.int .i64 ((ByteArray.size s : Nat) : Int)) (fun w => by kernel_rfl) (by kernel_rfl) ?_
  refine s_valE (some 15) (.int .i64 (if (40 : Int) < (((ByteArray.size s : Nat) : Int) : Int) then (40 : Int) else (((ByteArray.size s : Nat) : Int) : Int))) (.int .i64 ((min (ByteArray.size s) 40 : Nat) : Int)) (fun w => by kernel_rfl) (int_eq (minN (ByteArray.size s) 40)) (by kernel_rfl) ?_
  refine s_op (some 16) _ (.string (ByteArray.extract s 0 (min (ByteArray.size s) 40))) (by kernel_rfl) (by kernel_rfl) (fun o w ho => scut_run (t := 9) (kd := .i64) (by kernel_rfl) (x := (.tmp 12)) (y := (.tmp 15)) s (min (ByteArray.size s) 40) ho (by kernel_rfl) (by kernel_rfl) (by omega) w) ?_
  refine s_val (some 1) (.string (ByteArray.extract s 0 (min (ByteArray.size s) 40))) (fun w => by kernel_rfl) (by kernel_rfl) ?_
  refine s_nil ?_
  refine g_sreg [0, 1, 2, 3, 4, 5, 6, 7] (by kernel_rfl) (by kernel_rfl) ?_
  refine s_val (some 18) (.string (ByteArray.extract s 0 (min (ByteArray.size s) 40))) (fun w => by kernel_rfl) (by kernel_rfl) ?_
  refine s_call H1 (some 19) 13 #[.string (ByteArray.extract s 0 (min (ByteArray.size s) 40))] (.tuple #[uv (sv (tl (ByteArray.extract s 0 (min (ByteArray.size s) 40)))), .int .i64 0]) (from_short (ByteArray.extract s 0 (min (ByteArray.size s) 40)) hle) (fun w => by kernel_rfl) (by kernel_rfl) ?_
  intro w2 H2; clear H1
  refine s_val (some 17) (.tuple #[uv (sv (tl (ByteArray.extract s 0 (min (ByteArray.size s) 40)))), .int .i64 0]) (fun w => by kernel_rfl) (by kernel_rfl) ?_
  refine s_val (some 20) (uv (sv (tl (ByteArray.extract s 0 (min (ByteArray.size s) 40))))) (fun w => by kernel_rfl) (by kernel_rfl) ?_
  refine s_val (some 21) (.int .i64 0) (fun w => by kernel_rfl) (by kernel_rfl) ?_
  refine s_alloc H2 (some 9) 24 (.agg #[.int .u64 0, .int .u64 0, .int .u64 0, .int .u64 0]) (by kernel_rfl) (by kernel_rfl) (by kernel_rfl) ?_
  intro b2 w3 H3; clear H2
  refine s_store H3 0 [(b2, Obj.cells (Value.cells (uv (sv (tl (ByteArray.extract s 0 (min (ByteArray.size s) 40)))))) 24 (0, 0)), (b1, Obj.cells (Value.cells (uv A)) 24 (0, 0))] 24 (.tmp 9) (.tmp 20) b2 (0) #[.int .u64 0, .int .u64 0, .int .u64 0, .int .u64 0] (Value.cells (uv (sv (tl (ByteArray.extract s 0 (min (ByteArray.size s) 40)))))) 24 (uv (sv (tl (ByteArray.extract s 0 (min (ByteArray.size s) 40))))) (by kernel_rfl) (by kernel_rfl) (by kernel_rfl) (by kernel_rfl) (by kernel_rfl) (by kernel_rfl) (of_decide_eq_true (by kernel_rfl)) (by kernel_rfl) (by kernel_rfl) ?_
  intro w4 H4; clear H3
  refine s_val (some 10) (.int .i64 0) (fun w => by kernel_rfl) (by kernel_rfl) ?_
  refine s_nil ?_
  refine g_sreg [0, 1, 2, 3, 4, 5, 6, 7, 8, 9, 10, 11, 12, 13, 14, 15, 16, 17, 18, 19, 20, 21] (by kernel_rfl) (by kernel_rfl) ?_
  refine s_val (some 22) (.int .i64 ((k : Nat) : Int)) (fun w => by kernel_rfl) (by kernel_rfl) ?_
  refine s_valE (some 23) (.bool (decide (0 ≤ ((k : Nat) : Int)))) (.bool true) (fun w => by kernel_rfl) (bool_eq (decide_eq_true (by omega))) (by kernel_rfl) ?_
  refine s_val (some 24) (.bool true) (fun w => by kernel_rfl) (by kernel_rfl) ?_
  refine s_val (some 25) (.int .i64 ((k : Nat) : Int)) (fun w => by kernel_rfl) (by kernel_rfl) ?_
  refine s_valE (some 26) (.bool (decide (((k : Nat) : Int) < 256))) (.bool true) (fun w => by kernel_rfl) (bool_eq (decide_eq_true (by omega))) (by kernel_rfl) ?_
  refine s_val (some 27) (.bool true) (fun w => by kernel_rfl) (by kernel_rfl) ?_
  refine s_val (some 28) (.bool true) (fun w => by kernel_rfl) (by kernel_rfl) ?_
  refine s_val (some 29) (.int .i64 ((k : Nat) : Int)) (fun w => by kernel_rfl) (by kernel_rfl) ?_
  refine s_valE (some 30) (.int .i64 (if (0 : Int) > (((k : Nat) : Int) : Int) then (0 : Int) else (((k : Nat) : Int) : Int))) (.int .i64 ((k : Nat) : Int)) (fun w => by kernel_rfl) (int_eq (by split <;> omega)) (by kernel_rfl) ?_
  refine s_valE (some 31) (.int .i64 (IntKind.i64.wrap (((k : Nat) : Int).tdiv 64))) (.int .i64 ((k / 64 : Nat) : Int)) (fun w => by kernel_rfl) (int_eq (quoN_i64 (a := k) (b := 64) (by omega))) (by kernel_rfl) ?_
  refine s_valE (some 32) (.int .i64 (Int.tmod ((k / 64 : Nat) : Int) 4)) (.int .i64 3) (fun w => by kernel_rfl) (int_eq (show Int.tmod (((k / 64 : Nat)) : Int) ((4 : Nat) : Int) = ((3 : Nat) : Int) by rw [remN]; omega)) (by kernel_rfl) ?_
  refine s_val (some 33) (.pointer (some ⟨b1, 3, none⟩)) (fun w => by kernel_rfl) (by kernel_rfl) ?_
  refine s_load1 H4 (some 34) 22 (.tmp 33) 1 b1 3 (Value.cells (uv A)) 24 (0, 0) (.int .u64 ((A / 6277101735386680763835789423207666416102355444464034512896 % 18446744073709551616 : Nat) : Int)) (by kernel_rfl) (by kernel_rfl) (by kernel_rfl) (by kernel_rfl) (by kernel_rfl) (by kernel_rfl) ?_
  refine s_val (some 35) (.int .i64 ((k : Nat) : Int)) (fun w => by kernel_rfl) (by kernel_rfl) ?_
  refine s_valE (some 36) (.int .i64 (if (0 : Int) > (((k : Nat) : Int) : Int) then (0 : Int) else (((k : Nat) : Int) : Int))) (.int .i64 ((k : Nat) : Int)) (fun w => by kernel_rfl) (int_eq (by split <;> omega)) (by kernel_rfl) ?_
  refine s_valE (some 37) (.int .u64 (IntKind.u64.wrap (((k : Nat) : Int)))) (.int .u64 ((k : Nat) : Int)) (fun w => by kernel_rfl) (int_eq (wrapN_u64 (a := k) (by omega))) (by kernel_rfl) ?_
  refine s_valE (some 38) (.int .u64 (Int.tmod ((k : Nat) : Int) 64)) (.int .u64 ((k % 64 : Nat) : Int)) (fun w => by kernel_rfl) (int_eq (remN k 64)) (by kernel_rfl) ?_
  refine s_valE (some 39) (.int .u64 (Int.fdiv ((A / 6277101735386680763835789423207666416102355444464034512896 % 18446744073709551616 : Nat) : Int) (2 ^ (min (k % 64) 64)))) (.int .u64 (((A / 6277101735386680763835789423207666416102355444464034512896 % 18446744073709551616) / 2 ^ (k % 64) : Nat) : Int)) (fun w => by kernel_rfl) (int_eq (shr_min (A / 6277101735386680763835789423207666416102355444464034512896 % 18446744073709551616) (k % 64) 64 (by omega))) (by kernel_rfl) ?_
  refine s_valE (some 40) (.int .u64 (Go.bits .and .u64 ((((A / 6277101735386680763835789423207666416102355444464034512896 % 18446744073709551616) / 2 ^ (k % 64) : Nat) : Int)) 1)) (.int .u64 ((((A / 6277101735386680763835789423207666416102355444464034512896 % 18446744073709551616) / 2 ^ (k % 64)) % 2 : Nat) : Int)) (fun w => by kernel_rfl) (int_eq (andN1 (a := (A / 6277101735386680763835789423207666416102355444464034512896 % 18446744073709551616) / 2 ^ (k % 64)) (by omega))) (by kernel_rfl) ?_
  refine s_valE (some 41) (.bool (((((A / 6277101735386680763835789423207666416102355444464034512896 % 18446744073709551616) / 2 ^ (k % 64)) % 2 : Nat) : Int) == 1)) (.bool (Nat.testBit A k)) (fun w => by kernel_rfl) (bool_eq (bit_q3 A k hq)) (by kernel_rfl) ?_
  refine s_val (some 42) (.bool (Nat.testBit A k)) (fun w => by kernel_rfl) (by kernel_rfl) ?_
  refine s_val (some 11) (.bool (Nat.testBit A k)) (fun w => by kernel_rfl) (by kernel_rfl) ?_
  refine s_nil ?_
  refine g_seq (by kernel_rfl) ?_
  refine D2.g_sdraw [0, 1, 2, 3, 4, 5, 6, 7, 8, 9, 10, 11, 12, 13, 14, 15, 16, 17, 18, 19, 20, 21, 22, 23, 24, 25, 26, 27, 28, 29] [((some 43), fun _ => uv A), ((some 44), fun _ => .string (bs A)), ((some 45), fun _ => uv A), ((some 46), fun _ => .string (bs A)), ((some 47), fun _ => .bool false), ((some 48), fun _ => .bool false), ((some 49), fun _ => uv A), ((some 50), fun _ => .int .i64 ((len A : Nat) : Int)), ((some 51), fun _ => uv A), ((some 52), fun _ => .int .i64 ((len A : Nat) : Int)), ((some 53), fun _ => .bool false), ((some 54), fun _ => .bool false), ((some 55), fun _ => .bool false), ((some 56), fun _ => uv A), ((some 57), fun _ => .int .i64 ((k : Nat) : Int)), ((some 58), fun _ => .bool (Nat.testBit A k)), ((some 59), fun _ => .bool (Nat.testBit A k)), ((some 60), fun _ => .bool false), ((some 61), fun _ => .bool false), ((some 62), fun _ => .bool false), ((some 63), fun _ => .int .u64 ((n : Nat) : Int)), ((some 64), fun _ => uv n), ((some 65), fun _ => .int .u64 ((n : Nat) : Int)), ((some 66), fun _ => uv n), ((some 67), fun _ => .bool false), ((some 68), fun _ => .bool false), ((some 69), fun _ => .bool false), ((some 70), fun _ => .bool true), ((some 71), fun _ => .bool false), ((some 72), fun _ => .bool false)] (D2.Pre w.heap.size w (fun L g => [(true, (b2, Obj.cells (Value.cells (uv (sv (tl (ByteArray.extract s 0 (min (ByteArray.size s) 40)))))) 24 (0, 0))), (true, (b1, Obj.cells (Value.cells (uv A)) 24 (0, 0)))]) (fun L g => True)) (by kernel_rfl) (by kernel_rfl) (by kernel_rfl) (by kernel_rfl) ⟨D2.StE.of H4.drew _ (by kernel_rfl), trivial⟩ ⟨?_, ?_, ?_, ?_, ?_, ?_, ?_, ?_, ?_, ?_, ?_, ?_, ?_, ?_, ?_, ?_, ?_, ?_, ?_, ?_, ?_, ?_, ?_, ?_, ?_, ?_, ?_, ?_, ?_, ?_, trivial⟩ ?_
  · exact D2.gv_load 24 (.tmp 4) 1 (fun g => b1) (Value.cells (uv A)) 24 (0, 0) (fun _ _ _ h => h) (fun g => by kernel_rfl) (fun g => by kernel_rfl) (fun L g hN => (by kernel_rfl)) (by kernel_rfl)
  · exact D2.gv_call 14 #[uv A] (fun _ _ _ h => h) (bytes_any A hA) (fun g w => by kernel_rfl)
  · exact D2.gv_load 24 (.tmp 4) 1 (fun g => b1) (Value.cells (uv A)) 24 (0, 0) (fun _ _ _ h => h) (fun g => by kernel_rfl) (fun g => by kernel_rfl) (fun L g hN => (by kernel_rfl)) (by kernel_rfl)
  · exact D2.gv_call 15 #[uv A] (fun _ _ _ h => h) (refbytes_fn A hA) (fun g w => by kernel_rfl)
  · exact D2.gv_valE (fun _ _ _ h => h) (V' := .bool (!(ByteArray.toList (bs A) == ByteArray.toList (bs A)))) (fun g w => by kernel_rfl) (bool_eq (by rw [str_self (bs A)]; rfl))
  · exact D2.gv_val (fun _ _ _ h => h) (fun g w => by kernel_rfl)
  · exact D2.gv_load 24 (.tmp 4) 1 (fun g => b1) (Value.cells (uv A)) 24 (0, 0) (fun _ _ _ h => h) (fun g => by kernel_rfl) (fun g => by kernel_rfl) (fun L g hN => (by kernel_rfl)) (by kernel_rfl)
  · exact D2.gv_call 16 #[uv A] (fun _ _ _ h => h) (len_fn A hA) (fun g w => by kernel_rfl)
  · exact D2.gv_load 24 (.tmp 4) 1 (fun g => b1) (Value.cells (uv A)) 24 (0, 0) (fun _ _ _ h => h) (fun g => by kernel_rfl) (fun g => by kernel_rfl) (fun L g hN => (by kernel_rfl)) (by kernel_rfl)
  · exact D2.gv_call 17 #[uv A] (fun _ _ _ h => h) (refbits_fn A hA) (fun g w => by kernel_rfl)
  · exact D2.gv_valE (fun _ _ _ h => h) (V' := .bool (!(((len A : Nat) : Int) == ((len A : Nat) : Int)))) (fun g w => by kernel_rfl) (bool_eq (by rw [beq_iff_eq.2 (by omega)]; rfl))
  · exact D2.gv_val (fun _ _ _ h => h) (fun g w => by kernel_rfl)
  · exact D2.gv_val (fun _ _ _ h => h) (fun g w => by kernel_rfl)
  · exact D2.gv_load 24 (.tmp 4) 1 (fun g => b1) (Value.cells (uv A)) 24 (0, 0) (fun _ _ _ h => h) (fun g => by kernel_rfl) (fun g => by kernel_rfl) (fun L g hN => (by kernel_rfl)) (by kernel_rfl)
  · exact D2.gv_val (fun _ _ _ h => h) (fun g w => by kernel_rfl)
  · exact D2.gv_call 18 #[uv A, .int .i64 ((k : Nat) : Int)] (fun _ _ _ h => h) (bit_some A k hk) (fun g w => by kernel_rfl)
  · exact D2.gv_val (fun _ _ _ h => h) (fun g w => by kernel_rfl)
  · exact D2.gv_valE (fun _ _ _ h => h) (V' := .bool (!(Nat.testBit A k == Nat.testBit A k))) (fun g w => by kernel_rfl) (bool_eq (by rw [beq_self_eq_true]; rfl))
  · exact D2.gv_val (fun _ _ _ h => h) (fun g w => by kernel_rfl)
  · exact D2.gv_val (fun _ _ _ h => h) (fun g w => by kernel_rfl)
  · exact D2.gv_val (fun _ _ _ h => h) (fun g w => by kernel_rfl)
  · exact D2.gv_call 19 #[.int .u64 ((n : Nat) : Int)] (fun _ _ _ h => h) (small_fn n (by omega)) (fun g w => by kernel_rfl)
  · exact D2.gv_val (fun _ _ _ h => h) (fun g w => by kernel_rfl)
  · exact D2.gv_valE (fun _ _ _ h => h) (V' := .agg #[.int .u64 ((n : Nat) : Int), .int .u64 0, .int .u64 0, .int .u64 0]) (fun g w => by kernel_rfl) (uv_small n (by omega))
  · exact D2.gv_opE (fun _ _ _ h => h) _ (V' := .bool (!decide (n = n))) (fun g => by kernel_rfl) (fun g => (fun o w ho => neU_run (x := (.tmp 64)) (y := (.tmp 66)) n n (by unfold big; omega) (by unfold big; omega) w ho (by kernel_rfl) (by kernel_rfl))) (by rw [decide_eq_true rfl] <;> rfl)
  · exact D2.gv_val (fun _ _ _ h => h) (fun g w => by kernel_rfl)
  · exact D2.gv_val (fun _ _ _ h => h) (fun g w => by kernel_rfl)
  · exact D2.gv_call 8 #[] (fun _ _ _ h => h) alive_any (fun g w => by kernel_rfl)
  · exact D2.gv_val (fun _ _ _ h => h) (fun g w => by kernel_rfl)
  · exact D2.gv_val (fun _ _ _ h => h) (fun g w => by kernel_rfl)
  intro L0 G5 w5 hall HL; clear H4
  have H5 : St w.heap.size w w5 [(b2, Obj.cells (Value.cells (uv (sv (tl (ByteArray.extract s 0 (min (ByteArray.size s) 40)))))) 24 (0, 0)), (b1, Obj.cells (Value.cells (uv A)) 24 (0, 0))] := D2.StE.st HL.1
  clear HL hall
  refine g_cond_f (by kernel_rfl) (by kernel_rfl) ?_
  refine g_skip (by kernel_rfl) ?_
  show WP _ _ _ _ _ _
  refine g_seq (by kernel_rfl) ?_
  refine g_sreg [0, 1, 2] (by kernel_rfl) (by kernel_rfl) ?_
  refine s_val (some 73) (.string (ByteArray.extract s 0 (min (ByteArray.size s) 40))) (fun w => by kernel_rfl) (by kernel_rfl) ?_
  refine s_val (some 74) (.int .i64 ((ByteArray.size (ByteArray.extract s 0 (min (ByteArray.size s) 40)) : Nat) : Int)) (fun w => by kernel_rfl) (by kernel_rfl) ?_
  refine s_valE (some 75) (.bool (decide (32 < ((ByteArray.size (ByteArray.extract s 0 (min (ByteArray.size s) 40)) : Nat) : Int)))) (.bool false) (fun w => by kernel_rfl) (bool_eq (decide_eq_false (by omega))) (by kernel_rfl) ?_
  refine s_nil ?_
  refine g_cond_f (by kernel_rfl) (by kernel_rfl) ?_
  refine g_skip (by kernel_rfl) ?_
  show WP _ _ _ _ _ _
  refine D2.g_sdraw [0, 1, 2, 3, 4, 5, 6, 7, 8] [((some 83), fun _ => .int .i64 0), ((some 84), fun _ => .bool true), ((some 85), fun _ => .bool true), ((some 86), fun _ => uv (sv (tl (ByteArray.extract s 0 (min (ByteArray.size s) 40))))), ((some 87), fun _ => .string (ByteArray.extract s 0 (min (ByteArray.size s) 40))), ((some 88), fun _ => uv (sv (tl (ByteArray.extract s 0 (min (ByteArray.size s) 40))))), ((some 89), fun _ => .bool true), ((some 90), fun _ => .bool true), ((some 8), fun _ => .bool true)] (D2.Pre w.heap.size w (fun L g => [(true, (b2, Obj.cells (Value.cells (uv (sv (tl (ByteArray.extract s 0 (min (ByteArray.size s) 40)))))) 24 (0, 0))), (true, (b1, Obj.cells (Value.cells (uv A)) 24 (0, 0)))]) (fun L g => True)) (by kernel_rfl) (by kernel_rfl) (by kernel_rfl) (by kernel_rfl) ⟨D2.StE.of H5.drew _ (by kernel_rfl), trivial⟩ ⟨?_, ?_, ?_, ?_, ?_, ?_, ?_, ?_, ?_, trivial⟩ ?_
  · exact D2.gv_val (fun _ _ _ h => h) (fun g w => by kernel_rfl)
  · exact D2.gv_val (fun _ _ _ h => h) (fun g w => by kernel_rfl)
  · exact D2.gv_val (fun _ _ _ h => h) (fun g w => by kernel_rfl)
  · exact D2.gv_load 24 (.tmp 9) 0 (fun g => b2) (Value.cells (uv (sv (tl (ByteArray.extract s 0 (min (ByteArray.size s) 40)))))) 24 (0, 0) (fun _ _ _ h => h) (fun g => by kernel_rfl) (fun g => by kernel_rfl) (fun L g hN => (by kernel_rfl)) (by kernel_rfl)
  · exact D2.gv_val (fun _ _ _ h => h) (fun g w => by kernel_rfl)
  · exact D2.gv_call 20 #[.string (ByteArray.extract s 0 (min (ByteArray.size s) 40))] (fun _ _ _ h => h) (rfrom_fn (ByteArray.extract s 0 (min (ByteArray.size s) 40)) hle) (fun g w => by kernel_rfl)
  · exact D2.gv_opE (fun _ _ _ h => h) _ (V' := .bool (decide ((sv (tl (ByteArray.extract s 0 (min (ByteArray.size s) 40)))) = (sv (tl (ByteArray.extract s 0 (min (ByteArray.size s) 40))))))) (fun g => by kernel_rfl) (fun g => (fun o w ho => eqU_run (x := (.tmp 86)) (y := (.tmp 88)) (sv (tl (ByteArray.extract s 0 (min (ByteArray.size s) 40)))) (sv (tl (ByteArray.extract s 0 (min (ByteArray.size s) 40)))) (sv_big (ByteArray.extract s 0 (min (ByteArray.size s) 40)) hle) (sv_big (ByteArray.extract s 0 (min (ByteArray.size s) 40)) hle) w ho (by kernel_rfl) (by kernel_rfl))) (by rw [decide_eq_true rfl] <;> rfl)
  · exact D2.gv_val (fun _ _ _ h => h) (fun g w => by kernel_rfl)
  · exact D2.gv_val (fun _ _ _ h => h) (fun g w => by kernel_rfl)
  intro L0 G6 w6 hall HL; clear H5
  have H6 : St w.heap.size w w6 [(b2, Obj.cells (Value.cells (uv (sv (tl (ByteArray.extract s 0 (min (ByteArray.size s) 40)))))) 24 (0, 0)), (b1, Obj.cells (Value.cells (uv A)) 24 (0, 0))] := D2.StE.st HL.1
  clear HL hall
  refine g_ret (by kernel_rfl) ?_
  show ∃ vs, Res _ _ _ _ vs ∧ _
  refine ⟨[.bool true], (.tmp (.bool true) (by kernel_rfl) .nil), ?_, H6.below⟩
  rfl

set_option maxRecDepth 100000 in
theorem bytes_llo (A : Nat) (hA : A < big) (s : ByteArray) (hs : ByteArray.size s ≤ 9223372036854775807) (i : Int) (hi : i < 0) (n : Nat) (hn : n < 18446744073709551616) (hle : 32 < ByteArray.size (ByteArray.extract s 0 (min (ByteArray.size s) 40))) : Fn Try.prog 4 #[uv A, .string s, .int .i64 i, .int .u64 ((n : Nat) : Int)] (.bool true) := by
  have hsz : ByteArray.size (ByteArray.extract s 0 (min (ByteArray.size s) 40)) = min (ByteArray.size s) 40 := by rw [← tl_len, tl_extract]; simp [tl_len]
  refine Fn.intro (c := codeOf Try.f4) [.tmp 8] 91 Try.func4 (by kernel_rfl) (by kernel_rfl) (by kernel_rfl) fun w => ?_
  have H0 := St.start w
  refine g_sreg [0, 1] (by kernel_rfl) (by kernel_rfl) ?_
  refine s_box H0 (some 4) 24 (.tmp 0) (uv A) (by kernel_rfl) (by kernel_rfl) (by kernel_rfl) ?_
  intro b1 w1 H1; clear H0
  refine s_val (some 8) (.bool false) (fun w => by kernel_rfl) (by kernel_rfl) ?_
  refine s_nil ?_
  refine g_sreg [0, 1, 2, 3, 4, 5] (by kernel_rfl) (by kernel_rfl) ?_
  refine s_val (some 12) (.string s) (fun w => by kernel_rfl) (by kernel_rfl) ?_
  refine s_val (some 13) (.string s) (fun w => by kernel_rfl) (by kernel_rfl) ?_
  refine s_val (some 14) (.int .i64 ((ByteArray.size s : Nat) : Int)) (fun w => by kernel_rfl) (by kernel_rfl) ?_
  refine s_valE (some 15) (.int .i64 (if (40 : Int) < (((ByteArray.size s : Nat) : Int) : Int) then (40 : Int) else (((ByteArray.size s : Nat) : Int) : Int))) (.int .i64 ((min (ByteArray.size s) 40 : Nat) : Int)) (fun w => by kernel_rfl) (int_eq (minN (ByteArray.size s) 40)) (by kernel_rfl) ?_
  refine s_op (some 16) _ (.string (ByteArray.extract s 0 (min (ByteArray.size s) 40))) (by kernel_rfl) (by kernel_rfl) (fun o w ho => scut_run (t := 9) (kd := .i64) (by kernel_rfl) (x := (.tmp 12)) (y := (.tmp 15)) s (min (ByteArray.size s) 40) ho (by kernel_rfl) (by kernel_rfl) (by omega) w) ?_
  refine s_val (some 1) (.string (ByteArray.extract s 0 (min (ByteArray.size s) 40))) (fun w => by kernel_rfl) (by kernel_rfl) ?_
  refine s_nil ?_
  refine g_sreg [0, 1, 2, 3, 4, 5, 6, 7] (by kernel_rfl) (by kernel_rfl) ?_
  refine s_val (some 18) (.string (ByteArray.extract s 0 (min (ByteArray.size s) 40))) (fun w => by kernel_rfl) (by kernel_rfl) ?_
  refine s_call H1 (some 19) 13 #[.string (ByteArray.extract s 0 (min (ByteArray.size s) 40))] (.tuple #[.agg #[.int .u64 0, .int .u64 0, .int .u64 0, .int .u64 0], .int .i64 4]) (from_long (ByteArray.extract s 0 (min (ByteArray.size s) 40)) hle (by omega)) (fun w => by kernel_rfl) (by kernel_rfl) ?_
  intro w2 H2; clear H1
  refine s_val (some 17) (.tuple #[.agg #[.int .u64 0, .int .u64 0, .int .u64 0, .int .u64 0], .int .i64 4]) (fun w => by kernel_rfl) (by kernel_rfl) ?_
  refine s_val (some 20) (.agg #[.int .u64 0, .int .u64 0, .int .u64 0, .int .u64 0]) (fun w => by kernel_rfl) (by kernel_rfl) ?_
  refine s_val (some 21) (.int .i64 4) (fun w => by kernel_rfl) (by kernel_rfl) ?_
  refine s_alloc H2 (some 9) 24 (.agg #[.int .u64 0, .int .u64 0, .int .u64 0, .int .u64 0]) (by kernel_rfl) (by kernel_rfl) (by kernel_rfl) ?_
  intro b2 w3 H3; clear H2
  refine s_store H3 0 [(b2, Obj.cells #[.int .u64 0, .int .u64 0, .int .u64 0, .int .u64 0] 24 (0, 0)), (b1, Obj.cells (Value.cells (uv A)) 24 (0, 0))] 24 (.tmp 9) (.tmp 20) b2 (0) #[.int .u64 0, .int .u64 0, .int .u64 0, .int .u64 0] #[.int .u64 0, .int .u64 0, .int .u64 0, .int .u64 0] 24 (.agg #[.int .u64 0, .int .u64 0, .int .u64 0, .int .u64 0]) (by kernel_rfl) (by kernel_rfl) (by kernel_rfl) (by kernel_rfl) (by kernel_rfl) (by kernel_rfl) (of_decide_eq_true (by kernel_rfl)) (by kernel_rfl) (by kernel_rfl) ?_
  intro w4 H4; clear H3
  refine s_val (some 10) (.int .i64 4) (fun w => by kernel_rfl) (by kernel_rfl) ?_
  refine s_nil ?_
  refine g_sreg [0, 1, 2, 3, 4, 5, 6, 7, 8, 9, 10, 11, 12, 13, 14, 15, 16, 17, 18, 19, 20, 21] (by kernel_rfl) (by kernel_rfl) ?_
  refine s_val (some 22) (.int .i64 i) (fun w => by kernel_rfl) (by kernel_rfl) ?_
  refine s_valE (some 23) (.bool (decide (0 ≤ i))) (.bool false) (fun w => by kernel_rfl) (bool_eq (decide_eq_false (by omega))) (by kernel_rfl) ?_
  refine s_val (some 24) (.bool false) (fun w => by kernel_rfl) (by kernel_rfl) ?_
  refine s_not (some 25) (by kernel_rfl) (by kernel_rfl) ?_
  refine s_not (some 26) (by kernel_rfl) (by kernel_rfl) ?_
  refine s_val (some 27) (.bool false) (fun w => by kernel_rfl) (by kernel_rfl) ?_
  refine s_val (some 28) (.bool false) (fun w => by kernel_rfl) (by kernel_rfl) ?_
  refine s_not (some 29) (by kernel_rfl) (by kernel_rfl) ?_
  refine s_not (some 30) (by kernel_rfl) (by kernel_rfl) ?_
  refine s_not (some 31) (by kernel_rfl) (by kernel_rfl) ?_
  refine s_not (some 32) (by kernel_rfl) (by kernel_rfl) ?_
  refine s_not (some 33) (by kernel_rfl) (by kernel_rfl) ?_
  refine s_not (some 34) (by kernel_rfl) (by kernel_rfl) ?_
  refine s_not (some 35) (by kernel_rfl) (by kernel_rfl) ?_
  refine s_not (some 36) (by kernel_rfl) (by kernel_rfl) ?_
  refine s_not (some 37) (by kernel_rfl) (by kernel_rfl) ?_
  refine s_not (some 38) (by kernel_rfl) (by kernel_rfl) ?_
  refine s_not (some 39) (by kernel_rfl) (by kernel_rfl) ?_
  refine s_not (some 40) (by kernel_rfl) (by kernel_rfl) ?_
  refine s_not (some 41) (by kernel_rfl) (by kernel_rfl) ?_
  refine s_val (some 42) (.bool false) (fun w => by kernel_rfl) (by kernel_rfl) ?_
  refine s_val (some 11) (.bool false) (fun w => by kernel_rfl) (by kernel_rfl) ?_
  refine s_nil ?_
  refine g_seq (by kernel_rfl) ?_
  refine D2.g_sdraw [0, 1, 2, 3, 4, 5, 6, 7, 8, 9, 10, 11, 12, 13, 14, 15, 16, 17, 18, 19, 20, 21, 22, 23, 24, 25, 26, 27, 28, 29] [((some 43), fun _ => uv A), ((some 44), fun _ => .string (bs A)), ((some 45), fun _ => uv A), ((some 46), fun _ => .string (bs A)), ((some 47), fun _ => .bool false), ((some 48), fun _ => .bool false), ((some 49), fun _ => uv A), ((some 50), fun _ => .int .i64 ((len A : Nat) : Int)), ((some 51), fun _ => uv A), ((some 52), fun _ => .int .i64 ((len A : Nat) : Int)), ((some 53), fun _ => .bool false), ((some 54), fun _ => .bool false), ((some 55), fun _ => .bool false), ((some 56), fun _ => uv A), ((some 57), fun _ => .int .i64 i), ((some 58), fun _ => .bool false), ((some 59), fun _ => .bool false), ((some 60), fun _ => .bool false), ((some 61), fun _ => .bool false), ((some 62), fun _ => .bool false), ((some 63), fun _ => .int .u64 ((n : Nat) : Int)), ((some 64), fun _ => uv n), ((some 65), fun _ => .int .u64 ((n : Nat) : Int)), ((some 66), fun _ => uv n), ((some 67), fun _ => .bool false), ((some 68), fun _ => .bool false), ((some 69), fun _ => .bool false), ((some 70), fun _ => .bool true), ((some 71), fun _ => .bool false), ((some 72), fun _ => .bool false)] (D2.Pre w.heap.size w (fun L g => [(true, (b2, Obj.cells #[.int .u64 0, .int .u64 0, .int .u64 0, .int .u64 0] 24 (0, 0))), (true, (b1, Obj.cells (Value.cells (uv A)) 24 (0, 0)))]) (fun L g => True)) (by kernel_rfl) (by kernel_rfl) (by kernel_rfl) (by kernel_rfl) ⟨D2.StE.of H4.drew _ (by kernel_rfl), trivial⟩ ⟨?_, ?_, ?_, ?_, ?_, ?_, ?_, ?_, ?_, ?_, ?_, ?_, ?_, ?_, ?_, ?_, ?_, ?_, ?_, ?_, ?_, ?_, ?_, ?_, ?_, ?_, ?_, ?_, ?_, ?_, trivial⟩ ?_
  · exact D2.gv_load 24 (.tmp 4) 1 (fun g => b1) (Value.cells (uv A)) 24 (0, 0) (fun _ _ _ h => h) (fun g => by kernel_rfl) (fun g => by kernel_rfl) (fun L g hN => (by kernel_rfl)) (by kernel_rfl)
  · exact D2.gv_call 14 #[uv A] (fun _ _ _ h => h) (bytes_any A hA) (fun g w => by kernel_rfl)
  · exact D2.gv_load 24 (.tmp 4) 1 (fun g => b1) (Value.cells (uv A)) 24 (0, 0) (fun _ _ _ h => h) (fun g => by kernel_rfl) (fun g => by kernel_rfl) (fun L g hN => (by kernel_rfl)) (by kernel_rfl)
  · exact D2.gv_call 15 #[uv A] (fun _ _ _ h => h) (refbytes_fn A hA) (fun g w => by kernel_rfl)
  · exact D2.gv_valE (fun _ _ _ h => h) (V' := .bool (!(ByteArray.toList (bs A) == ByteArray.toList (bs A)))) (fun g w => by kernel_rfl) (bool_eq (by rw [str_self (bs A)]; rfl))
  · exact D2.gv_val (fun _ _ _ h => h) (fun g w => by kernel_rfl)
  · exact D2.gv_load 24 (.tmp 4) 1 (fun g => b1) (Value.cells (uv A)) 24 (0, 0) (fun _ _ _ h => h) (fun g => by kernel_rfl) (fun g => by kernel_rfl) (fun L g hN => (by kernel_rfl)) (by kernel_rfl)
  · exact D2.gv_call 16 #[uv A] (fun _ _ _ h => h) (len_fn A hA) (fun g w => by kernel_rfl)
  · exact D2.gv_load 24 (.tmp 4) 1 (fun g => b1) (Value.cells (uv A)) 24 (0, 0) (fun _ _ _ h => h) (fun g => by kernel_rfl) (fun g => by kernel_rfl) (fun L g hN => (by kernel_rfl)) (by kernel_rfl)
  · exact D2.gv_call 17 #[uv A] (fun _ _ _ h => h) (refbits_fn A hA) (fun g w => by kernel_rfl)
  · exact D2.gv_valE (fun _ _ _ h => h) (V' := .bool (!(((len A : Nat) : Int) == ((len A : Nat) : Int)))) (fun g w => by kernel_rfl) (bool_eq (by rw [beq_iff_eq.2 (by omega)]; rfl))
  · exact D2.gv_val (fun _ _ _ h => h) (fun g w => by kernel_rfl)
  · exact D2.gv_val (fun _ _ _ h => h) (fun g w => by kernel_rfl)
  · exact D2.gv_load 24 (.tmp 4) 1 (fun g => b1) (Value.cells (uv A)) 24 (0, 0) (fun _ _ _ h => h) (fun g => by kernel_rfl) (fun g => by kernel_rfl) (fun L g hN => (by kernel_rfl)) (by kernel_rfl)
  · exact D2.gv_val (fun _ _ _ h => h) (fun g w => by kernel_rfl)
  · exact D2.gv_call 18 #[uv A, .int .i64 i] (fun _ _ _ h => h) (bit_none A i (by omega)) (fun g w => by kernel_rfl)
  · exact D2.gv_val (fun _ _ _ h => h) (fun g w => by kernel_rfl)
  · exact D2.gv_val (fun _ _ _ h => h) (fun g w => by kernel_rfl)
  · exact D2.gv_val (fun _ _ _ h => h) (fun g w => by kernel_rfl)
  · exact D2.gv_val (fun _ _ _ h => h) (fun g w => by kernel_rfl)
  · exact D2.gv_val (fun _ _ _ h => h) (fun g w => by kernel_rfl)
  · exact D2.gv_call 19 #[.int .u64 ((n : Nat) : Int)] (fun _ _ _ h => h) (small_fn n (by omega)) (fun g w => by kernel_rfl)
  · exact D2.gv_val (fun _ _ _ h => h) (fun g w => by kernel_rfl)
  · exact D2.gv_valE (fun _ _ _ h => h) (V' := .agg #[.int .u64 ((n : Nat) : Int), .int .u64 0, .int .u64 0, .int .u64 0]) (fun g w => by kernel_rfl) (uv_small n (by omega))
  · exact D2.gv_opE (fun _ _ _ h => h) _ (V' := .bool (!decide (n = n))) (fun g => by kernel_rfl) (fun g => (fun o w ho => neU_run (x := (.tmp 64)) (y := (.tmp 66)) n n (by unfold big; omega) (by unfold big; omega) w ho (by kernel_rfl) (by kernel_rfl))) (by rw [decide_eq_true rfl] <;> rfl)
  · exact D2.gv_val (fun _ _ _ h => h) (fun g w => by kernel_rfl)
  · exact D2.gv_val (fun _ _ _ h => h) (fun g w => by kernel_rfl)
  · exact D2.gv_call 8 #[] (fun _ _ _ h => h) alive_any (fun g w => by kernel_rfl)
  · exact D2.gv_val (fun _ _ _ h => h) (fun g w => by kernel_rfl)
  · exact D2.gv_val (fun _ _ _ h => h) (fun g w => by kernel_rfl)
  intro L0 G5 w5 hall HL; clear H4
  have H5 : St w.heap.size w w5 [(b2, Obj.cells #[.int .u64 0, .int .u64 0, .int .u64 0, .int .u64 0] 24 (0, 0)), (b1, Obj.cells (Value.cells (uv A)) 24 (0, 0))] := D2.StE.st HL.1
  clear HL hall
  refine g_cond_f (by kernel_rfl) (by kernel_rfl) ?_
  refine g_skip (by kernel_rfl) ?_
  show WP _ _ _ _ _ _
  refine g_seq (by kernel_rfl) ?_
  refine g_sreg [0, 1, 2] (by kernel_rfl) (by kernel_rfl) ?_
  refine s_val (some 73) (.string (ByteArray.extract s 0 (min (ByteArray.size s) 40))) (fun w => by kernel_rfl) (by kernel_rfl) ?_
  refine s_val (some 74) (.int .i64 ((ByteArray.size (ByteArray.extract s 0 (min (ByteArray.size s) 40)) : Nat) : Int)) (fun w => by kernel_rfl) (by kernel_rfl) ?_
  refine s_valE (some 75) (.bool (decide (32 < ((ByteArray.size (ByteArray.extract s 0 (min (ByteArray.size s) 40)) : Nat) : Int)))) (.bool true) (fun w => by kernel_rfl) (bool_eq (decide_eq_true (by omega))) (by kernel_rfl) ?_
  refine s_nil ?_
  refine g_cond_t (by kernel_rfl) (by kernel_rfl) ?_
  refine g_sreg [0, 1, 2, 3, 4, 5, 6, 7] (by kernel_rfl) (by kernel_rfl) ?_
  refine s_val (some 76) (.int .i64 4) (fun w => by kernel_rfl) (by kernel_rfl) ?_
  refine s_val (some 77) (.bool true) (fun w => by kernel_rfl) (by kernel_rfl) ?_
  refine s_val (some 78) (.bool true) (fun w => by kernel_rfl) (by kernel_rfl) ?_
  refine s_load H5 (some 79) 24 (.tmp 9) 0 b2 #[.int .u64 0, .int .u64 0, .int .u64 0, .int .u64 0] 24 (0, 0) (by kernel_rfl) (by kernel_rfl) (by kernel_rfl) (by kernel_rfl) (by kernel_rfl) ?_
  refine s_val (some 80) (.agg #[.int .u64 0, .int .u64 0, .int .u64 0, .int .u64 0]) (fun w => by kernel_rfl) (by kernel_rfl) ?_
  refine s_opE (some 81) _ (.bool (decide (0 = 0))) (.bool true) (by kernel_rfl) (fun o w ho => eqU_run (x := (.tmp 79)) (y := (.tmp 80)) 0 0 (by unfold big; omega) (by unfold big; omega) w ho (by kernel_rfl) (by kernel_rfl)) (by rw [decide_eq_true rfl] <;> rfl) (by kernel_rfl) ?_
  refine s_val (some 82) (.bool true) (fun w => by kernel_rfl) (by kernel_rfl) ?_
  refine s_val (some 8) (.bool true) (fun w => by kernel_rfl) (by kernel_rfl) ?_
  refine s_nil ?_
  refine g_ret (by kernel_rfl) ?_
  show ∃ vs, Res _ _ _ _ vs ∧ _
  refine ⟨[.bool true], (.tmp (.bool true) (by kernel_rfl) .nil), ?_, H5.below⟩
  rfl

set_option maxRecDepth 100000 in
theorem bytes_lhi (A : Nat) (hA : A < big) (s : ByteArray) (hs : ByteArray.size s ≤ 9223372036854775807) (i : Int) (hi : 256 ≤ i) (n : Nat) (hn : n < 18446744073709551616) (hle : 32 < ByteArray.size (ByteArray.extract s 0 (min (ByteArray.size s) 40))) : Fn Try.prog 4 #[uv A, .string s, .int .i64 i, .int .u64 ((n : Nat) : Int)] (.bool true) := by
  have hsz : ByteArray.size (ByteArray.extract s 0 (min (ByteArray.size s) 40)) = min (ByteArray.size s) 40 := by rw [← tl_len, tl_extract]; simp [tl_len]
  refine Fn.intro (c := codeOf Try.f4) [.tmp 8] 91 Try.func4 (by kernel_rfl) (by kernel_rfl) (by kernel_rfl) fun w => ?_
  have H0 := St.start w
  refine g_sreg [0, 1] (by kernel_rfl) (by kernel_rfl) ?_
  refine s_box H0 (some 4) 24 (.tmp 0) (uv A) (by kernel_rfl) (by kernel_rfl) (by kernel_rfl) ?_
  intro b1 w1 H1; clear H0
  refine s_val (some 8) (.bool false) (fun w => by kernel_rfl) (by kernel_rfl) ?_
  refine s_nil ?_
  refine g_sreg [0, 1, 2, 3, 4, 5] (by kernel_rfl) (by kernel_rfl) ?_
  refine s_val (some 12) (.string s) (fun w => by kernel_rfl) (by kernel_rfl) ?_
  refine s_val (some 13) (.string s) (fun w => by kernel_rfl) (by kernel_rfl) ?_
  refine s_val (some 14) (.int .i64 ((ByteArray.size s : Nat) : Int)) (fun w => by kernel_rfl) (by kernel_rfl) ?_
  refine s_valE (some 15) (.int .i64 (if (40 : Int) < (((ByteArray.size s : Nat) : Int) : Int) then (40 : Int) else (((ByteArray.size s : Nat) : Int) : Int))) (.int .i64 ((min (ByteArray.size s) 40 : Nat) : Int)) (fun w => by kernel_rfl) (int_eq (minN (ByteArray.size s) 40)) (by kernel_rfl) ?_
  refine s_op (some 16) _ (.string (ByteArray.extract s 0 (min (ByteArray.size s) 40))) (by kernel_rfl) (by kernel_rfl) (fun o w ho => scut_run (t := 9) (kd := .i64) (by kernel_rfl) (x := (.tmp 12)) (y := (.tmp 15)) s (min (ByteArray.size s) 40) ho (by kernel_rfl) (by kernel_rfl) (by omega) w) ?_
  refine s_val (some 1) (.string (ByteArray.extract s 0 (min (ByteArray.size s) 40))) (fun w => by kernel_rfl) (by kernel_rfl) ?_
  refine s_nil ?_
  refine g_sreg [0, 1, 2, 3, 4, 5, 6, 7] (by kernel_rfl) (by kernel_rfl) ?_
  refine s_val (some 18) (.string (ByteArray.extract s 0 (min (ByteArray.size s) 40))) (fun w => by kernel_rfl) (by kernel_rfl) ?_
  refine s_call H1 (some 19) 13 #[.string (ByteArray.extract s 0 (min (ByteArray.size s) 40))] (.tuple #[.agg #[.int .u64 0, .int .u64 0, .int .u64 0, .int .u64 0], .int .i64 4]) (from_long (ByteArray.extract s 0 (min (ByteArray.size s) 40)) hle (by omega)) (fun w => by kernel_rfl) (by kernel_rfl) ?_
  intro w2 H2; clear H1
  refine s_val (some 17) (.tuple #[.agg #[.int .u64 0, .int .u64 0, .int .u64 0, .int .u64 0], .int .i64 4]) (fun w => by kernel_rfl) (by kernel_rfl) ?_
  refine s_val (some 20) (.agg #[.int .u64 0, .int .u64 0, .int .u64 0, .int .u64 0]) (fun w => by kernel_rfl) (by kernel_rfl) ?_
  refine s_val (some 21) (.int .i64 4) (fun w => by kernel_rfl) (by kernel_rfl) ?_
  refine s_alloc H2 (some 9) 24 (.agg #[.int .u64 0, .int .u64 0, .int .u64 0, .int .u64 0]) (by kernel_rfl) (by kernel_rfl) (by kernel_rfl) ?_
  intro b2 w3 H3; clear H2
  refine s_store H3 0 [(b2, Obj.cells #[.int .u64 0, .int .u64 0, .int .u64 0, .int .u64 0] 24 (0, 0)), (b1, Obj.cells (Value.cells (uv A)) 24 (0, 0))] 24 (.tmp 9) (.tmp 20) b2 (0) #[.int .u64 0, .int .u64 0, .int .u64 0, .int .u64 0] #[.int .u64 0, .int .u64 0, .int .u64 0, .int .u64 0] 24 (.agg #[.int .u64 0, .int .u64 0, .int .u64 0, .int .u64 0]) (by kernel_rfl) (by kernel_rfl) (by kernel_rfl) (by kernel_rfl) (by kernel_rfl) (by kernel_rfl) (of_decide_eq_true (by kernel_rfl)) (by kernel_rfl) (by kernel_rfl) ?_
  intro w4 H4; clear H3
  refine s_val (some 10) (.int .i64 4) (fun w => by kernel_rfl) (by kernel_rfl) ?_
  refine s_nil ?_
  refine g_sreg [0, 1, 2, 3, 4, 5, 6, 7, 8, 9, 10, 11, 12, 13, 14, 15, 16, 17, 18, 19, 20, 21] (by kernel_rfl) (by kernel_rfl) ?_
  refine s_val (some 22) (.int .i64 i) (fun w => by kernel_rfl) (by kernel_rfl) ?_
  refine s_valE (some 23) (.bool (decide (0 ≤ i))) (.bool true) (fun w => by kernel_rfl) (bool_eq (decide_eq_true (by omega))) (by kernel_rfl) ?_
  refine s_val (some 24) (.bool true) (fun w => by kernel_rfl) (by kernel_rfl) ?_
  refine s_val (some 25) (.int .i64 i) (fun w => by kernel_rfl) (by kernel_rfl) ?_
  refine s_valE (some 26) (.bool (decide (i < 256))) (.bool false) (fun w => by kernel_rfl) (bool_eq (decide_eq_false (by omega))) (by kernel_rfl) ?_
  refine s_val (some 27) (.bool false) (fun w => by kernel_rfl) (by kernel_rfl) ?_
  refine s_val (some 28) (.bool false) (fun w => by kernel_rfl) (by kernel_rfl) ?_
  refine s_not (some 29) (by kernel_rfl) (by kernel_rfl) ?_
  refine s_not (some 30) (by kernel_rfl) (by kernel_rfl) ?_
  refine s_not (some 31) (by kernel_rfl) (by kernel_rfl) ?_
  refine s_not (some 32) (by kernel_rfl) (by kernel_rfl) ?_
  refine s_not (some 33) (by kernel_rfl) (by kernel_rfl) ?_
  refine s_not (some 34) (by kernel_rfl) (by kernel_rfl) ?_
  refine s_not (some 35) (by kernel_rfl) (by kernel_rfl) ?_
  refine s_not (some 36) (by kernel_rfl) (by kernel_rfl) ?_
  refine s_not (some 37) (by kernel_rfl) (by kernel_rfl) ?_
  refine s_not (some 38) (by kernel_rfl) (by kernel_rfl) ?_
  refine s_not (some 39) (by kernel_rfl) (by kernel_rfl) ?_
  refine s_not (some 40) (by kernel_rfl) (by kernel_rfl) ?_
  refine s_not (some 41) (by kernel_rfl) (by kernel_rfl) ?_
  refine s_val (some 42) (.bool false) (fun w => by kernel_rfl) (by kernel_rfl) ?_
  refine s_val (some 11) (.bool false) (fun w => by kernel_rfl) (by kernel_rfl) ?_
  refine s_nil ?_
  refine g_seq (by kernel_rfl) ?_
  refine D2.g_sdraw [0, 1, 2, 3, 4, 5, 6, 7, 8, 9, 10, 11, 12, 13, 14, 15, 16, 17, 18, 19, 20, 21, 22, 23, 24, 25, 26, 27, 28, 29] [((some 43), fun _ => uv A), ((some 44), fun _ => .string (bs A)), ((some 45), fun _ => uv A), ((some 46), fun _ => .string (bs A)), ((some 47), fun _ => .bool false), ((some 48), fun _ => .bool false), ((some 49), fun _ => uv A), ((some 50), fun _ => .int .i64 ((len A : Nat) : Int)), ((some 51), fun _ => uv A), ((some 52), fun _ => .int .i64 ((len A : Nat) : Int)), ((some 53), fun _ => .bool false), ((some 54), fun _ => .bool false), ((some 55), fun _ => .bool false), ((some 56), fun _ => uv A), ((some 57), fun _ => .int .i64 i), ((some 58), fun _ => .bool false), ((some 59), fun _ => .bool false), ((some 60), fun _ => .bool false), ((some 61), fun _ => .bool false), ((some 62), fun _ => .bool false), ((some 63), fun _ => .int .u64 ((n : Nat) : Int)), ((some 64), fun _ => uv n), ((some 65), fun _ => .int .u64 ((n : Nat) : Int)), ((some 66), fun _ => uv n), ((some 67), fun _ => .bool false), ((some 68), fun _ => .bool false), ((some 69), fun _ => .bool false), ((some 70), fun _ => .bool true), ((some 71), fun _ => .bool false), ((some 72), fun _ => .bool false)] (D2.Pre w.heap.size w (fun L g => [(true, (b2, Obj.cells #[.int .u64 0, .int .u64 0, .int .u64 0, .int .u64 0] 24 (0, 0))), (true, (b1, Obj.cells (Value.cells (uv A)) 24 (0, 0)))]) (fun L g => True)) (by kernel_rfl) (by kernel_rfl) (by kernel_rfl) (by kernel_rfl) ⟨D2.StE.of H4.drew _ (by kernel_rfl), trivial⟩ ⟨?_, ?_, ?_, ?_, ?_, ?_, ?_, ?_, ?_, ?_, ?_, ?_, ?_, ?_, ?_, ?_, ?_, ?_, ?_, ?_, ?_, ?_, ?_, ?_, ?_, ?_, ?_, ?_, ?_, ?_, trivial⟩ ?_
  · exact D2.gv_load 24 (.tmp 4) 1 (fun g => b1) (Value.cells (uv A)) 24 (0, 0) (fun _ _ _ h => h) (fun g => by kernel_rfl) (fun g => by kernel_rfl) (fun L g hN => (by kernel_rfl)) (by kernel_rfl)
  · exact D2.gv_call 14 #[uv A] (fun _ _ _ h => h) (bytes_any A hA) (fun g w => by kernel_rfl)
  · exact D2.gv_load 24 (.tmp 4) 1 (fun g => b1) (Value.cells (uv A)) 24 (0, 0) (fun _ _ _ h => h) (fun g => by kernel_rfl) (fun g => by kernel_rfl) (fun L g hN => (by kernel_rfl)) (by kernel_rfl)
  · exact D2.gv_call 15 #[uv A] (fun _ _ _ h => h) (refbytes_fn A hA) (fun g w => by kernel_rfl)
  · exact D2.gv_valE (fun _ _ _ h => h) (V' := .bool (!(ByteArray.toList (bs A) == ByteArray.toList (bs A)))) (fun g w => by kernel_rfl) (bool_eq (by rw [str_self (bs A)]; rfl))
  · exact D2.gv_val (fun _ _ _ h => h) (fun g w => by kernel_rfl)
  · exact D2.gv_load 24 (.tmp 4) 1 (fun g => b1) (Value.cells (uv A)) 24 (0, 0) (fun _ _ _ h => h) (fun g => by kernel_rfl) (fun g => by kernel_rfl) (fun L g hN => (by kernel_rfl)) (by kernel_rfl)
  · exact D2.gv_call 16 #[uv A] (fun _ _ _ h => h) (len_fn A hA) (fun g w => by kernel_rfl)
  · exact D2.gv_load 24 (.tmp 4) 1 (fun g => b1) (Value.cells (uv A)) 24 (0, 0) (fun _ _ _ h => h) (fun g => by kernel_rfl) (fun g => by kernel_rfl) (fun L g hN => (by kernel_rfl)) (by kernel_rfl)
  · exact D2.gv_call 17 #[uv A] (fun _ _ _ h => h) (refbits_fn A hA) (fun g w => by kernel_rfl)
  · exact D2.gv_valE (fun _ _ _ h => h) (V' := .bool (!(((len A : Nat) : Int) == ((len A : Nat) : Int)))) (fun g w => by kernel_rfl) (bool_eq (by rw [beq_iff_eq.2 (by omega)]; rfl))
  · exact D2.gv_val (fun _ _ _ h => h) (fun g w => by kernel_rfl)
  · exact D2.gv_val (fun _ _ _ h => h) (fun g w => by kernel_rfl)
  · exact D2.gv_load 24 (.tmp 4) 1 (fun g => b1) (Value.cells (uv A)) 24 (0, 0) (fun _ _ _ h => h) (fun g => by kernel_rfl) (fun g => by kernel_rfl) (fun L g hN => (by kernel_rfl)) (by kernel_rfl)
  · exact D2.gv_val (fun _ _ _ h => h) (fun g w => by kernel_rfl)
  · exact D2.gv_call 18 #[uv A, .int .i64 i] (fun _ _ _ h => h) (bit_none A i (by omega)) (fun g w => by kernel_rfl)
  · exact D2.gv_val (fun _ _ _ h => h) (fun g w => by kernel_rfl)
  · exact D2.gv_val (fun _ _ _ h => h) (fun g w => by kernel_rfl)
  · exact D2.gv_val (fun _ _ _ h => h) (fun g w => by kernel_rfl)
  · exact D2.gv_val (fun _ _ _ h => h) (fun g w => by kernel_rfl)
  · exact D2.gv_val (fun _ _ _ h => h) (fun g w => by kernel_rfl)
  · exact D2.gv_call 19 #[.int .u64 ((n : Nat) : Int)] (fun _ _ _ h => h) (small_fn n (by omega)) (fun g w => by kernel_rfl)
  · exact D2.gv_val (fun _ _ _ h => h) (fun g w => by kernel_rfl)
  · exact D2.gv_valE (fun _ _ _ h => h) (V' := .agg #[.int .u64 ((n : Nat) : Int), .int .u64 0, .int .u64 0, .int .u64 0]) (fun g w => by kernel_rfl) (uv_small n (by omega))
  · exact D2.gv_opE (fun _ _ _ h => h) _ (V' := .bool (!decide (n = n))) (fun g => by kernel_rfl) (fun g => (fun o w ho => neU_run (x := (.tmp 64)) (y := (.tmp 66)) n n (by unfold big; omega) (by unfold big; omega) w ho (by kernel_rfl) (by kernel_rfl))) (by rw [decide_eq_true rfl] <;> rfl)
  · exact D2.gv_val (fun _ _ _ h => h) (fun g w => by kernel_rfl)
  · exact D2.gv_val (fun _ _ _ h => h) (fun g w => by kernel_rfl)
  · exact D2.gv_call 8 #[] (fun _ _ _ h => h) alive_any (fun g w => by kernel_rfl)
  · exact D2.gv_val (fun _ _ _ h => h) (fun g w => by kernel_rfl)
  · exact D2.gv_val (fun _ _ _ h => h) (fun g w => by kernel_rfl)
  intro L0 G5 w5 hall HL; clear H4
  have H5 : St w.heap.size w w5 [(b2, Obj.cells #[.int .u64 0, .int .u64 0, .int .u64 0, .int .u64 0] 24 (0, 0)), (b1, Obj.cells (Value.cells (uv A)) 24 (0, 0))] := D2.StE.st HL.1
  clear HL hall
  refine g_cond_f (by kernel_rfl) (by kernel_rfl) ?_
  refine g_skip (by kernel_rfl) ?_
  show WP _ _ _ _ _ _
  refine g_seq (by kernel_rfl) ?_
  refine g_sreg [0, 1, 2] (by kernel_rfl) (by kernel_rfl) ?_
  refine s_val (some 73) (.string (ByteArray.extract s 0 (min (ByteArray.size s) 40))) (fun w => by kernel_rfl) (by kernel_rfl) ?_
  refine s_val (some 74) (.int .i64 ((ByteArray.size (ByteArray.extract s 0 (min (ByteArray.size s) 40)) : Nat) : Int)) (fun w => by kernel_rfl) (by kernel_rfl) ?_
  refine s_valE (some 75) (.bool (decide (32 < ((ByteArray.size (ByteArray.extract s 0 (min (ByteArray.size s) 40)) : Nat) : Int)))) (.bool true) (fun w => by kernel_rfl) (bool_eq (decide_eq_true (by omega))) (by kernel_rfl) ?_
  refine s_nil ?_
  refine g_cond_t (by kernel_rfl) (by kernel_rfl) ?_
  refine g_sreg [0, 1, 2, 3, 4, 5, 6, 7] (by kernel_rfl) (by kernel_rfl) ?_
  refine s_val (some 76) (.int .i64 4) (fun w => by kernel_rfl) (by kernel_rfl) ?_
  refine s_val (some 77) (.bool true) (fun w => by kernel_rfl) (by kernel_rfl) ?_
  refine s_val (some 78) (.bool true) (fun w => by kernel_rfl) (by kernel_rfl) ?_
  refine s_load H5 (some 79) 24 (.tmp 9) 0 b2 #[.int .u64 0, .int .u64 0, .int .u64 0, .int .u64 0] 24 (0, 0) (by kernel_rfl) (by kernel_rfl) (by kernel_rfl) (by kernel_rfl) (by kernel_rfl) ?_
  refine s_val (some 80) (.agg #[.int .u64 0, .int .u64 0, .int .u64 0, .int .u64 0]) (fun w => by kernel_rfl) (by kernel_rfl) ?_
  refine s_opE (some 81) _ (.bool (decide (0 = 0))) (.bool true) (by kernel_rfl) (fun o w ho => eqU_run (x := (.tmp 79)) (y := (.tmp 80)) 0 0 (by unfold big; omega) (by unfold big; omega) w ho (by kernel_rfl) (by kernel_rfl)) (by rw [decide_eq_true rfl] <;> rfl) (by kernel_rfl) ?_
  refine s_val (some 82) (.bool true) (fun w => by kernel_rfl) (by kernel_rfl) ?_
  refine s_val (some 8) (.bool true) (fun w => by kernel_rfl) (by kernel_rfl) ?_
  refine s_nil ?_
  refine g_ret (by kernel_rfl) ?_
  show ∃ vs, Res _ _ _ _ vs ∧ _
  refine ⟨[.bool true], (.tmp (.bool true) (by kernel_rfl) .nil), ?_, H5.below⟩
  rfl

set_option maxRecDepth 100000 in
theorem bytes_l0 (A : Nat) (hA : A < big) (s : ByteArray) (hs : ByteArray.size s ≤ 9223372036854775807) (k : Nat) (hk : k < 256) (hq : k / 64 = 0) (n : Nat) (hn : n < 18446744073709551616) (hle : 32 < ByteArray.size (ByteArray.extract s 0 (min (ByteArray.size s) 40))) : Fn Try.prog 4 #[uv A, .string s, .int .i64 ((k : Nat) : Int), .int .u64 ((n : Nat) : Int)] (.bool true) := by
  have hsz : ByteArray.size (ByteArray.extract s 0 (min (ByteArray.size s) 40)) = min (ByteArray.size s) 40 := by rw [← tl_len, tl_extract]; simp [tl_len]
  have hsh := Nat.div_le_self (A % 18446744073709551616) (2 ^ (k % 64))
  refine Fn.intro (c := codeOf Try.f4) [.tmp 8] 91 Try.func4 (by kernel_rfl) (by kernel_rfl) (by kernel_rfl) fun w => ?_
  have H0 := St.start w
  refine g_sreg [0, 1] (by kernel_rfl) (by kernel_rfl) ?_
  refine s_box H0 (some 4) 24 (.tmp 0) (uv A) (by kernel_rfl) (by kernel_rfl) (by kernel_rfl) ?_
  intro b1 w1 H1; clear H0
  refine s_val (some 8) (.bool false) (fun w => by kernel_rfl) (by kernel_rfl) ?_
  refine s_nil ?_
  refine g_sreg [0, 1, 2, 3, 4, 5] (by kernel_rfl) (by kernel_rfl) ?_
  refine s_val (some 12) (.string s) (fun w => by kernel_rfl) (by kernel_rfl) ?_
  refine s_val (some 13) (.string s) (fun w => by kernel_rfl) (by kernel_rfl) ?_
  refine s_val (some 14) (.int .i64 ((ByteArray.size s : Nat) : Int)) (fun w => by kernel_rfl) (by kernel_rfl) ?_
  refine s_valE (some 15) (.int .i64 (if (40 : Int) < (((ByteArray.size s : Nat) : Int) : Int) then (40 : Int) else (((ByteArray.size s : Nat) : Int) : Int))) (.int .i64 ((min (ByteArray.size s) 40 : Nat) : Int)) (fun w => by kernel_rfl) (int_eq (minN (ByteArray.size s) 40)) (by kernel_rfl) ?_
  refine s_op (some 16) _ (.string (ByteArray.extract s 0 (min (ByteArray.size s) 40))) (by kernel_rfl) (by kernel_rfl) (fun o w ho => scut_run (t := 9) (kd := .i64) (by kernel_rfl) (x := (.tmp 12)) (y := (.tmp 15)) s (min (ByteArray.size s) 40) ho (by kernel_rfl) (by kernel_rfl) (by omega) w) ?_
  refine s_val (some 1) (.string (ByteArray.extract s 0 (min (ByteArray.size s) 40))) (fun w => by kernel_rfl) (by kernel_rfl) ?_
  refine s_nil ?_
  refine g_sreg [0, 1, 2, 3, 4, 5, 6, 7] (by kernel_rfl) (by kernel_rfl) ?_
  refine s_val (some 18) (.string (ByteArray.extract s 0 (min (ByteArray.size s) 40))) (fun w => by kernel_rfl) (by kernel_rfl) ?_
  refine s_call H1 (some 19) 13 #[.string (ByteArray.extract s 0 (min (ByteArray.size s) 40))] (.tuple #[.agg #[.int .u64 0, .int .u64 0, .int .u64 0, .int .u64 0], .int .i64 4]) (from_long (ByteArray.extract s 0 (min (ByteArray.size s) 40)) hle (by omega)) (fun w => by kernel_rfl) (by kernel_rfl) ?_
  intro w2 H2; clear H1
  refine s_val (some 17) (.tuple #[.agg #[.int .u64 0, .int .u64 0, .int .u64 0, .int .u64 0], .int .i64 4]) (fun w => by kernel_rfl) (by kernel_rfl) ?_
  refine s_val (some 20) (.agg #[.int .u64 0, .int .u64 0, .int .u64 0, .int .u64 0]) (fun w => by kernel_rfl) (by kernel_rfl) ?_
  refine s_val (some 21) (.int .i64 4) (fun w => by kernel_rfl) (by kernel_rfl) ?_
  refine s_alloc H2 (some 9) 24 (.agg #[.int .u64 0, .int .u64 0, .int .u64 0, .int .u64 0]) (by kernel_rfl) (by kernel_rfl) (by kernel_rfl) ?_
  intro b2 w3 H3; clear H2
  refine s_store H3 0 [(b2, Obj.cells #[.int .u64 0, .int .u64 0, .int .u64 0, .int .u64 0] 24 (0, 0)), (b1, Obj.cells (Value.cells (uv A)) 24 (0, 0))] 24 (.tmp 9) (.tmp 20) b2 (0) #[.int .u64 0, .int .u64 0, .int .u64 0, .int .u64 0] #[.int .u64 0, .int .u64 0, .int .u64 0, .int .u64 0] 24 (.agg #[.int .u64 0, .int .u64 0, .int .u64 0, .int .u64 0]) (by kernel_rfl) (by kernel_rfl) (by kernel_rfl) (by kernel_rfl) (by kernel_rfl) (by kernel_rfl) (of_decide_eq_true (by kernel_rfl)) (by kernel_rfl) (by kernel_rfl) ?_
  intro w4 H4; clear H3
  refine s_val (some 10) (.int .i64 4) (fun w => by kernel_rfl) (by kernel_rfl) ?_
  refine s_nil ?_
  refine g_sreg [0, 1, 2, 3, 4, 5, 6, 7, 8, 9, 10, 11, 12, 13, 14, 15, 16, 17, 18, 19, 20, 21] (by kernel_rfl) (by kernel_rfl) ?_
  refine s_val (some 22) (.int .i64 ((k : Nat) : Int)) (fun w => by kernel_rfl) (by kernel_rfl) ?_
  refine s_valE (some 23) (.bool (decide (0 ≤ ((k : Nat) : Int)))) (.bool true) (fun w => by kernel_rfl) (bool_eq (decide_eq_true (by omega))) (by kernel_rfl) ?_
  refine s_val (some 24) (.bool true) (fun w => by kernel_rfl) (by kernel_rfl) ?_
  refine s_val (some 25) (.int .i64 ((k : Nat) : Int)) (fun w => by kernel_rfl) (by kernel_rfl) ?_
  refine s_valE (some 26) (.bool (decide (((k : Nat) : Int) < 256))) (.bool true) (fun w => by kernel_rfl) (bool_eq (decide_eq_true (by omega))) (by kernel_rfl) ?_
  refine s_val (some 27) (.bool true) (fun w => by kernel_rfl) (by kernel_rfl) ?_
  refine s_val (some 28) (.bool true) (fun w => by kernel_rfl) (by kernel_rfl) ?_
  refine s_val (some 29) (.int .i64 ((k : Nat) : Int)) (fun w => by kernel_rfl) (by kernel_rfl) ?_
  refine s_valE (some 30) (.int .i64 (if (0 : Int) > (((k : Nat) : Int) : Int) then (0 : Int) else (((k : Nat) : Int) : Int))) (.int .i64 ((k : Nat) : Int)) (fun w => by kernel_rfl) (int_eq (by split <;> omega)) (by kernel_rfl) ?_
  refine s_valE (some 31) (.int .i64 (IntKind.i64.wrap (((k : Nat) : Int).tdiv 64))) (.int .i64 ((k / 64 : Nat) : Int)) (fun w => by kernel_rfl) (int_eq (quoN_i64 (a := k) (b := 64) (by omega))) (by kernel_rfl) ?_
  refine s_valE (some 32) (.int .i64 (Int.tmod ((k / 64 : Nat) : Int) 4)) (.int .i64 0) (fun w => by kernel_rfl) (int_eq (show Int.tmod (((k / 64 : Nat)) : Int) ((4 : Nat) : Int) = ((0 : Nat) : Int) by rw [remN]; omega)) (by kernel_rfl) ?_
  refine s_val (some 33) (.pointer (some ⟨b1, 0, none⟩)) (fun w => by kernel_rfl) (by kernel_rfl) ?_
  refine s_load1 H4 (some 34) 22 (.tmp 33) 1 b1 0 (Value.cells (uv A)) 24 (0, 0) (.int .u64 ((A % 18446744073709551616 : Nat) : Int)) (by kernel_rfl) (by kernel_rfl) (by kernel_rfl) (by kernel_rfl) (by kernel_rfl) (by kernel_rfl) ?_
  refine s_val (some 35) (.int .i64 ((k : Nat) : Int)) (fun w => by kernel_rfl) (by kernel_rfl) ?_
  refine s_valE (some 36) (.int .i64 (if (0 : Int) > (((k : Nat) : Int) : Int) then (0 : Int) else (((k : Nat) : Int) : Int))) (.int .i64 ((k : Nat) : Int)) (fun w => by kernel_rfl) (int_eq (by split <;> omega)) (by kernel_rfl) ?_
  refine s_valE (some 37) (.int .u64 (IntKind.u64.wrap (((k : Nat) : Int)))) (.int .u64 ((k : Nat) : Int)) (fun w => by kernel_rfl) (int_eq (wrapN_u64 (a := k) (by omega))) (by kernel_rfl) ?_
  refine s_valE (some 38) (.int .u64 (Int.tmod ((k : Nat) : Int) 64)) (.int .u64 ((k % 64 : Nat) : Int)) (fun w => by kernel_rfl) (int_eq (remN k 64)) (by kernel_rfl) ?_
  refine s_valE (some 39) (.int .u64 (Int.fdiv ((A % 18446744073709551616 : Nat) : Int) (2 ^ (min (k % 64) 64)))) (.int .u64 (((A % 18446744073709551616) / 2 ^ (k % 64) : Nat) : Int)) (fun w => by kernel_rfl) (int_eq (shr_min (A % 18446744073709551616) (k % 64) 64 (by omega))) (by kernel_rfl) ?_
  refine s_valE (some 40) (.int .u64 (Go.bits .and .u64 ((((A % 18446744073709551616) / 2 ^ (k % 64) : Nat) : Int)) 1)) (.int .u64 ((((A % 18446744073709551616) / 2 ^ (k % 64)) % 2 : Nat) : Int)) (fun w => by kernel_rfl) (int_eq (andN1 (a := (A % 18446744073709551616) / 2 ^ (k % 64)) (by omega))) (by kernel_rfl) ?_
  refine s_valE (some 41) (.bool (((((A % 18446744073709551616) / 2 ^ (k % 64)) % 2 : Nat) : Int) == 1)) (.bool (Nat.testBit A k)) (fun w => by kernel_rfl) (bool_eq (bit_q0 A k hq)) (by kernel_rfl) ?_
  refine s_val (some 42) (.bool (Nat.testBit A k)) (fun w => by kernel_rfl) (by kernel_rfl) ?_
  refine s_val (some 11) (.bool (Nat.testBit A k)) (fun w => by kernel_rfl) (by kernel_rfl) ?_
  refine s_nil ?_
  refine g_seq (by kernel_rfl) ?_
  refine D2.g_sdraw [0, 1, 2, 3, 4, 5, 6, 7, 8, 9, 10, 11, 12, 13, 14, 15, 16, 17, 18, 19, 20, 21, 22, 23, 24, 25, 26, 27, 28, 29] [((some 43), fun _ => uv A), ((some 44), fun _ => .string (bs A)), ((some 45), fun _ => uv A), ((some 46), fun _ => .string (bs A)), ((some 47), fun _ => .bool false), ((some 48), fun _ => .bool false), ((some 49), fun _ => uv A), ((some 50), fun _ => .int .i64 ((len A : Nat) : Int)), ((some 51), fun _ => uv A), ((some 52), fun _ => .int .i64 ((len A : Nat) : Int)), ((some 53), fun _ => .bool false), ((some 54), fun _ => .bool false), ((some 55), fun _ => .bool false), ((some 56), fun _ => uv A), ((some 57), fun _ => .int .i64 ((k : Nat) : Int)), ((some 58), fun _ => .bool (Nat.testBit A k)), ((some 59), fun _ => .bool (Nat.testBit A k)), ((some 60), fun _ => .bool false), ((some 61), fun _ => .bool false), ((some 62), fun _ => .bool false), ((some 63), fun _ => .int .u64 ((n : Nat) : Int)), ((some 64), fun _ => uv n), ((some 65), fun _ => .int .u64 ((n : Nat) : Int)), ((some 66), fun _ => uv n), ((some 67), fun _ => .bool false), ((some 68), fun _ => .bool false), ((some 69), fun _ => .bool false), ((some 70), fun _ => .bool true), ((some 71), fun _ => .bool false), ((some 72), fun _ => .bool false)] (D2.Pre w.heap.size w (fun L g => [(true, (b2, Obj.cells #[.int .u64 0, .int .u64 0, .int .u64 0, .int .u64 0] 24 (0, 0))), (true, (b1, Obj.cells (Value.cells (uv A)) 24 (0, 0)))]) (fun L g => True)) (by kernel_rfl) (by kernel_rfl) (by kernel_rfl) (by kernel_rfl) ⟨D2.StE.of H4.drew _ (by kernel_rfl), trivial⟩ ⟨?_, ?_, ?_, ?_, ?_, ?_, ?_, ?_, ?_, ?_, ?_, ?_, ?_, ?_, ?_, ?_, ?_, ?_, ?_, ?_, ?_, ?_, ?_, ?_, ?_, ?_, ?_, ?_, ?_, ?_, trivial⟩ ?_
  · exact D2.gv_load 24 (.tmp 4) 1 (fun g => b1) (Value.cells (uv A)) 24 (0, 0) (fun _ _ _ h => h) (fun g => by kernel_rfl) (fun g => by kernel_rfl) (fun L g hN => (by kernel_rfl)) (by kernel_rfl)
  · exact D2.gv_call 14 #[uv A] (fun _ _ _ h => h) (bytes_any A hA) (fun g w => by kernel_rfl)
  · exact D2.gv_load 24 (.tmp 4) 1 (fun g => b1) (Value.cells (uv A)) 24 (0, 0) (fun _ _ _ h => h) (fun g => by kernel_rfl) (fun g => by kernel_rfl) (fun L g hN => (by kernel_rfl)) (by kernel_rfl)
  · exact D2.gv_call 15 #[uv A] (fun _ _ _ h => h) (refbytes_fn A hA) (fun g w => by kernel_rfl)
  · exact D2.gv_valE (fun _ _ _ h => h) (V' := .bool (!(ByteArray.toList (bs A) == ByteArray.toList (bs A)))) (fun g w => by kernel_rfl) (bool_eq (by rw [str_self (bs A)]; rfl))
  · exact D2.gv_val (fun _ _ _ h => h) (fun g w => by kernel_rfl)
  · exact D2.gv_load 24 (.tmp 4) 1 (fun g => b1) (Value.cells (uv A)) 24 (0, 0) (fun _ _ _ h => h) (fun g => by kernel_rfl) (fun g => by kernel_rfl) (fun L g hN => (by kernel_rfl)) (by kernel_rfl)
  · exact D2.gv_call 16 #[uv A] (fun _ _ _ h => h) (len_fn A hA) (fun g w => by kernel_rfl)
  · exact D2.gv_load 24 (.tmp 4) 1 (fun g => b1) (Value.cells (uv A)) 24 (0, 0) (fun _ _ _ h => h) (fun g => by kernel_rfl) (fun g => by kernel_rfl) (fun L g hN => (by kernel_rfl)) (by kernel_rfl)
  · exact D2.gv_call 17 #[uv A] (fun _ _ _ h => h) (refbits_fn A hA) (fun g w => by kernel_rfl)
  · exact D2.gv_valE (fun _ _ _ h => h) (V' := .bool (!(((len A : Nat) : Int) == ((len A : Nat) : Int)))) (fun g w => by kernel_rfl) (bool_eq (by rw [beq_iff_eq.2 (by omega)]; rfl))
  · exact D2.gv_val (fun _ _ _ h => h) (fun g w => by kernel_rfl)
  · exact D2.gv_val (fun _ _ _ h => h) (fun g w => by kernel_rfl)
  · exact D2.gv_load 24 (.tmp 4) 1 (fun g => b1) (Value.cells (uv A)) 24 (0, 0) (fun _ _ _ h => h) (fun g => by kernel_rfl) (fun g => by kernel_rfl) (fun L g hN => (by kernel_rfl)) (by kernel_rfl)
  · exact D2.gv_val (fun _ _ _ h => h) (fun g w => by kernel_rfl)
  · exact D2.gv_call 18 #[uv A, .int .i64 ((k : Nat) : Int)] (fun _ _ _ h => h) (bit_some A k hk) (fun g w => by kernel_rfl)
  · exact D2.gv_val (fun _ _ _ h => h) (fun g w => by kernel_rfl)
  · exact D2.gv_valE (fun _ _ _ h => h) (V' := .bool (!(Nat.testBit A k == Nat.testBit A k))) (fun g w => by kernel_rfl) (bool_eq (by rw [beq_self_eq_true]; rfl))
  · exact D2.gv_val (fun _ _ _ h => h) (fun g w => by kernel_rfl)
  · exact D2.gv_val (fun _ _ _ h => h) (fun g w => by kernel_rfl)
  · exact D2.gv_val (fun _ _ _ h => h) (fun g w => by kernel_rfl)
  · exact D2.gv_call 19 #[.int .u64 ((n : Nat) : Int)] (fun _ _ _ h => h) (small_fn n (by omega)) (fun g w => by kernel_rfl)
  · exact D2.gv_val (fun _ _ _ h => h) (fun g w => by kernel_rfl)
  · exact D2.gv_valE (fun _ _ _ h => h) (V' := .agg #[.int .u64 ((n : Nat) : Int), .int .u64 0, .int .u64 0, .int .u64 0]) (fun g w => by kernel_rfl) (uv_small n (by omega))
  · exact D2.gv_opE (fun _ _ _ h => h) _ (V' := .bool (!decide (n = n))) (fun g => by kernel_rfl) (fun g => (fun o w ho => neU_run (x := (.tmp 64)) (y := (.tmp 66)) n n (by unfold big; omega) (by unfold big; omega) w ho (by kernel_rfl) (by kernel_rfl))) (by rw [decide_eq_true rfl] <;> rfl)
  · exact D2.gv_val (fun _ _ _ h => h) (fun g w => by kernel_rfl)
  · exact D2.gv_val (fun _ _ _ h => h) (fun g w => by kernel_rfl)
  · exact D2.gv_call 8 #[] (fun _ _ _ h => h) alive_any (fun g w => by kernel_rfl)
  · exact D2.gv_val (fun _ _ _ h => h) (fun g w => by kernel_rfl)
  · exact D2.gv_val (fun _ _ _ h => h) (fun g w => by kernel_rfl)
  intro L0 G5 w5 hall HL; clear H4
  have H5 : St w.heap.size w w5 [(b2, Obj.cells #[.int .u64 0, .int .u64 0, .int .u64 0, .int .u64 0] 24 (0, 0)), (b1, Obj.cells (Value.cells (uv A)) 24 (0, 0))] := D2.StE.st HL.1
  clear HL hall
  refine g_cond_f (by kernel_rfl) (by kernel_rfl) ?_
  refine g_skip (by kernel_rfl) ?_
  show WP _ _ _ _ _ _
  refine g_seq (by kernel_rfl) ?_
  refine g_sreg [0, 1, 2] (by kernel_rfl) (by kernel_rfl) ?_
  refine s_val (some 73) (.string (ByteArray.extract s 0 (min (ByteArray.size s) 40))) (fun w => by kernel_rfl) (by kernel_rfl) ?_
  refine s_val (some 74) (.int .i64 ((ByteArray.size (ByteArray.extract s 0 (min (ByteArray.size s) 40)) : Nat) : Int)) (fun w => by kernel_rfl) (by kernel_rfl) ?_
  refine s_valE (some 75) (.bool (decide (32 < ((ByteArray.size (ByteArray.extract s 0 (min (ByteArray.size s) 40)) : Nat) : Int)))) (.bool true) (fun w => by kernel_rfl) (bool_eq (decide_eq_true (by omega))) (by kernel_rfl) ?_
  refine s_nil ?_
  refine g_cond_t (by kernel_rfl) (by kernel_rfl) ?_
  refine g_sreg [0, 1, 2, 3, 4, 5, 6, 7] (by kernel_rfl) (by kernel_rfl) ?_
  refine s_val (some 76) (.int .i64 4) (fun w => by kernel_rfl) (by kernel_rfl) ?_
  refine s_val (some 77) (.bool true) (fun w => by kernel_rfl) (by kernel_rfl) ?_
  refine s_val (some 78) (.bool true) (fun w => by kernel_rfl) (by kernel_rfl) ?_
  refine s_load H5 (some 79) 24 (.tmp 9) 0 b2 #[.int .u64 0, .int .u64 0, .int .u64 0, .int .u64 0] 24 (0, 0) (by kernel_rfl) (by kernel_rfl) (by kernel_rfl) (by kernel_rfl) (by kernel_rfl) ?_
  refine s_val (some 80) (.agg #[.int .u64 0, .int .u64 0, .int .u64 0, .int .u64 0]) (fun w => by kernel_rfl) (by kernel_rfl) ?_
  refine s_opE (some 81) _ (.bool (decide (0 = 0))) (.bool true) (by kernel_rfl) (fun o w ho => eqU_run (x := (.tmp 79)) (y := (.tmp 80)) 0 0 (by unfold big; omega) (by unfold big; omega) w ho (by kernel_rfl) (by kernel_rfl)) (by rw [decide_eq_true rfl] <;> rfl) (by kernel_rfl) ?_
  refine s_val (some 82) (.bool true) (fun w => by kernel_rfl) (by kernel_rfl) ?_
  refine s_val (some 8) (.bool true) (fun w => by kernel_rfl) (by kernel_rfl) ?_
  refine s_nil ?_
  refine g_ret (by kernel_rfl) ?_
  show ∃ vs, Res _ _ _ _ vs ∧ _
  refine ⟨[.bool true], (.tmp (.bool true) (by kernel_rfl) .nil), ?_, H5.below⟩
  rfl

set_option maxRecDepth 100000 in
theorem bytes_l1 (A : Nat) (hA : A < big) (s : ByteArray) (hs : ByteArray.size s ≤ 9223372036854775807) (k : Nat) (hk : k < 256) (hq : k / 64 = 1) (n : Nat) (hn : n < 18446744073709551616) (hle : 32 < ByteArray.size (ByteArray.extract s 0 (min (ByteArray.size s) 40))) : Fn Try.prog 4 #[uv A, .string s, .int .i64 ((k : Nat) : Int), .int .u64 ((n : Nat) : Int)] (.bool true) := by
  have hsz : ByteArray.size (ByteArray.extract s 0 (min (ByteArray.size s) 40)) = min (ByteArray.size s) 40 := by rw [← tl_len, tl_extract]; simp [tl_len]
  have hsh := Nat.div_le_self (A / 18446744073709551616 % 18446744073709551616) (2 ^ (k % 64))
  refine Fn.intro (c := codeOf Try.f4) [.tmp 8] 91 Try.func4 (by kernel_rfl) (by kernel_rfl) (by kernel_rfl) fun w => ?_
  have H0 := St.start w
  refine g_sreg [0, 1] (by kernel_rfl) (by kernel_rfl) ?_
  refine s_box H0 (some 4) 24 (.tmp 0) (uv A) (by kernel_rfl) (by kernel_rfl) (by kernel_rfl) ?_
  intro b1 w1 H1; clear H0
  refine s_val (some 8) (.bool false) (fun w => by kernel_rfl) (by kernel_rfl) ?_
  refine s_nil ?_
  refine g_sreg [0, 1, 2, 3, 4, 5] (by kernel_rfl) (by kernel_rfl) ?_
  refine s_val (some 12) (.string s) (fun w => by kernel_rfl) (by kernel_rfl) ?_
  refine s_val (some 13) (.string s) (fun w => by kernel_rfl) (by kernel_rfl) ?_
  refine s_val (some 14) (.int .i64 ((ByteArray.size s : Nat) : Int)) (fun w => by kernel_rfl) (by kernel_rfl) ?_
  refine s_valE (some 15) (.int .i64 (if (40 : Int) < (((ByteArray.size s : Nat) : Int) : Int) then (40 : Int) else (((ByteArray.size s : Nat) : Int) : Int))) (.int .i64 ((min (ByteArray.size s) 40 : Nat) : Int)) (fun w => by kernel_rfl) (int_eq (minN (ByteArray.size s) 40)) (by kernel_rfl) ?_
  refine s_op (some 16) _ (.string (ByteArray.extract s 0 (min (ByteArray.size s) 40))) (by kernel_rfl) (by kernel_rfl) (fun o w ho => scut_run (t := 9) (kd := .i64) (by kernel_rfl) (x := (.tmp 12)) (y := (.tmp 15)) s (min (ByteArray.size s) 40) ho (by kernel_rfl) (by kernel_rfl) (by omega) w) ?_
  refine s_val (some 1) (.string (ByteArray.extract s 0 (min (ByteArray.size s) 40))) (fun w => by kernel_rfl) (by kernel_rfl) ?_
  refine s_nil ?_
  refine g_sreg [0, 1, 2, 3, 4, 5, 6, 7] (by kernel_rfl) (by kernel_rfl) ?_
  refine s_val (some 18) (.string (ByteArray.extract s 0 (min (ByteArray.size s) 40))) (fun w => by kernel_rfl) (by kernel_rfl) ?_
  refine s_call H1 (some 19) 13 #[.string (ByteArray.extract s 0 (min (ByteArray.size s) 40))] (.tuple #[.agg #[.int .u64 0, .int .u64 0, .int .u64 0, .int .u64 0], .int .i64 4]) (from_long (ByteArray.extract s 0 (min (ByteArray.size s) 40)) hle (by omega)) (fun w => by kernel_rfl) (by kernel_rfl) ?_
  intro w2 H2; clear H1
  refine s_val (some 17) (.tuple #[.agg #[.int .u64 0, .int .u64 0, .int .u64 0, .int .u64 0], .int .i64 4]) (fun w => by kernel_rfl) (by kernel_rfl) ?_
  refine s_val (some 20) (.agg #[.int .u64 0, .int .u64 0, .int .u64 0, .int .u64 0]) (fun w => by kernel_rfl) (by kernel_rfl) ?_
  refine s_val (some 21) (.int .i64 4) (fun w => by kernel_rfl) (by kernel_rfl) ?_
  refine s_alloc H2 (some 9) 24 (.agg #[.int .u64 0, .int .u64 0, .int .u64 0, .int .u64 0]) (by kernel_rfl) (by kernel_rfl) (by kernel_rfl) ?_
  intro b2 w3 H3; clear H2
  refine s_store H3 0 [(b2, Obj.cells #[.int .u64 0, .int .u64 0, .int .u64 0, .int .u64 0] 24 (0, 0)), (b1, Obj.cells (Value.cells (uv A)) 24 (0, 0))] 24 (.tmp 9) (.tmp 20) b2 (0) #[.int .u64 0, .int .u64 0, .int .u64 0, .int .u64 0] #[.int .u64 0, .int .u64 0, .int .u64 0, .int .u64 0] 24 (.agg #[.int .u64 0, .int .u64 0, .int .u64 0, .int .u64 0]) (by kernel_rfl) (by kernel_rfl) (by kernel_rfl) (by kernel_rfl) (by kernel_rfl) (by kernel_rfl) (of_decide_eq_true (by kernel_rfl)) (by kernel_rfl) (by kernel_rfl) ?_
  intro w4 H4; clear H3
  refine s_val (some 10) (.int .i64 4) (fun w => by kernel_rfl) (by kernel_rfl) ?_
  refine s_nil ?_
  refine g_sreg [0, 1, 2, 3, 4, 5, 6, 7, 8, 9, 10, 11, 12, 13, 14, 15, 16, 17, 18, 19, 20, 21] (by kernel_rfl) (by kernel_rfl) ?_
  refine s_val (some 22) (.int .i64 ((k : Nat) : Int)) (fun w => by kernel_rfl) (by kernel_rfl) ?_
  refine s_valE (some 23) (.bool (decide (0 ≤ ((k : Nat) : Int)))) (.bool true) (fun w => by kernel_rfl) (bool_eq (decide_eq_true (by omega))) (by kernel_rfl) ?_
  refine s_val (some 24) (.bool true) (fun w => by kernel_rfl) (by kernel_rfl) ?_
  refine s_val (some 25) (.int .i64 ((k : Nat) : Int)) (fun w => by kernel_rfl) (by kernel_rfl) ?_
  refine s_valE (some 26) (.bool (decide (((k : Nat) : Int) < 256))) (.bool true) (fun w => by kernel_rfl) (bool_eq (decide_eq_true (by omega))) (by kernel_rfl) ?_
  refine s_val (some 27) (.bool true) (fun w => by kernel_rfl) (by kernel_rfl) ?_
  refine s_val (some 28) (.bool true) (fun w => by kernel_rfl) (by kernel_rfl) ?_
  refine s_val (some 29) (.int .i64 ((k : Nat) : Int)) (fun w => by kernel_rfl) (by kernel_rfl) ?_
  refine s_valE (some 30) (.int .i64 (if (0 : Int) > (((k : Nat) : Int) : Int) then (0 : Int) else (((k : Nat) : Int) : Int))) (.int .i64 ((k : Nat) : Int)) (fun w => by kernel_rfl) (int_eq (by split <;> omega)) (by kernel_rfl) ?_
  refine s_valE (some 31) (.int .i64 (IntKind.i64.wrap (((k : Nat) : Int).tdiv 64))) (.int .i64 ((k / 64 : Nat) : Int)) (fun w => by kernel_rfl) (int_eq (quoN_i64 (a := k) (b := 64) (by omega))) (by kernel_rfl) ?_
  refine s_valE (some 32) (.int .i64 (Int.tmod ((k / 64 : Nat) : Int) 4)) (.int .i64 1) (fun w => by kernel_rfl) (int_eq (show Int.tmod (((k / 64 : Nat)) : Int) ((4 : Nat) : Int) = ((1 : Nat) : Int) by rw [remN]; omega)) (by kernel_rfl) ?_
  refine s_val (some 33) (.pointer (some ⟨b1, 1, none⟩)) (fun w => by kernel_rfl) (by kernel_rfl) ?_
  refine s_load1 H4 (some 34) 22 (.tmp 33) 1 b1 1 (Value.cells (uv A)) 24 (0, 0) (.int .u64 ((A / 18446744073709551616 % 18446744073709551616 : Nat) : Int)) (by kernel_rfl) (by kernel_rfl) (by kernel_rfl) (by kernel_rfl) (by kernel_rfl) (by kernel_rfl) ?_
  refine s_val (some 35) (.int .i64 ((k : Nat) : Int)) (fun w => by kernel_rfl) (by kernel_rfl) ?_
  refine s_valE (some 36) (.int .i64 (if (0 : Int) > (((k : Nat) : Int) : Int) then (0 : Int) else (((k : Nat) : Int) : Int))) (.int .i64 ((k : Nat) : Int)) (fun w => by kernel_rfl) (int_eq (by split <;> omega)) (by kernel_rfl) ?_
  refine s_valE (some 37) (.int .u64 (IntKind.u64.wrap (((k : Nat) : Int)))) (.int .u64 ((k : Nat) : Int)) (fun w => by kernel_rfl) (int_eq (wrapN_u64 (a := k) (by omega))) (by kernel_rfl) ?_
  refine s_valE (some 38) (.int .u64 (Int.tmod ((k : Nat) : Int) 64)) (.int .u64 ((k % 64 : Nat) : Int)) (fun w => by kernel_rfl) (int_eq (remN k 64)) (by kernel_rfl) ?_
  refine s_valE (some 39) (.int .u64 (Int.fdiv ((A / 18446744073709551616 % 18446744073709551616 : Nat) : Int) (2 ^ (min (k % 64) 64)))) (.int .u64 (((A / 18446744073709551616 % 18446744073709551616) / 2 ^ (k % 64) : Nat) : Int)) (fun w => by kernel_rfl) (int_eq (shr_min (A / 18446744073709551616 % 18446744073709551616) (k % 64) 64 (by omega))) (by kernel_rfl) ?_
  refine s_valE (some 40) (.int .u64 (Go.bits .and .u64 ((((A / 18446744073709551616 % 18446744073709551616) / 2 ^ (k % 64) : Nat) : Int)) 1)) (.int .u64 ((((A / 18446744073709551616 % 18446744073709551616) / 2 ^ (k % 64)) % 2 : Nat) : Int)) (fun w => by kernel_rfl) (int_eq (andN1 (a := (A / 18446744073709551616 % 18446744073709551616) / 2 ^ (k % 64)) (by omega))) (by kernel_rfl) ?_
  refine s_valE (some 41) (.bool (((((A / 18446744073709551616 % 18446744073709551616) / 2 ^ (k % 64)) % 2 : Nat) : Int) == 1)) (.bool (Nat.testBit A k)) (fun w => by kernel_rfl) (bool_eq (bit_q1 A k hq)) (by kernel_rfl) ?_
  refine s_val (some 42) (.bool (Nat.testBit A k)) (fun w => by kernel_rfl) (by kernel_rfl) ?_
  refine s_val (some 11) (.bool (Nat.testBit A k)) (fun w => by kernel_rfl) (by kernel_rfl) ?_
  refine s_nil ?_
  refine g_seq (by kernel_rfl) ?_
  refine D2.g_sdraw [0, 1, 2, 3, 4, 5, 6, 7, 8, 9, 10, 11, 12, 13, 14, 15, 16, 17, 18, 19, 20, 21, 22, 23, 24, 25, 26, 27, 28, 29] [((some 43), fun _ => uv A), ((some 44), fun _ => .string (bs A)), ((some 45), fun _ => uv A), ((some 46), fun _ => .string (bs A)), ((some 47), fun _ => .bool false), ((some 48), fun _ => .bool false), ((some 49), fun _ => uv A), ((some 50), fun _ => .int .i64 ((len A : Nat) : Int)), ((some 51), fun _ => uv A), ((some 52), fun _ => .int .i64 ((len A : Nat) : Int)), ((some 53), fun _ => .bool false), ((some 54), fun _ => .bool false), ((some 55), fun _ => .bool false), ((some 56), fun _ => uv A), ((some 57), fun _ => .int .i64 ((k : Nat) : Int)), ((some 58), fun _ => .bool (Nat.testBit A k)), ((some 59), fun _ => .bool (Nat.testBit A k)), ((some 60), fun _ => .bool false), ((some 61), fun _ => .bool false), ((some 62), fun _ => .bool false), ((some 63), fun _ => .int .u64 ((n : Nat) : Int)), ((some 64), fun _ => uv n), ((some 65), fun _ => .int .u64 ((n : Nat) : Int)), ((some 66), fun _ => uv n), ((some 67), fun _ => .bool false), ((some 68), fun _ => .bool false), ((some 69), fun _ => .bool false), ((some 70), fun _ => .bool true), ((some 71), fun _ => .bool false), ((some 72), fun _ => .bool false)] (D2.Pre w.heap.size w (fun L g => [(true, (b2, Obj.cells #[.int .u64 0, .int .u64 0, .int .u64 0, .int .u64 0] 24 (0, 0))), (true, (b1, Obj.cells (Value.cells (uv A)) 24 (0, 0)))]) (fun L g => True)) (by kernel_rfl) (by kernel_rfl) (by kernel_rfl) (by kernel_rfl) ⟨D2.StE.of H4.drew _ (by kernel_rfl), trivial⟩ ⟨?_, ?_, ?_, ?_, ?_, ?_, ?_, ?_, ?_, ?_, ?_, ?_, ?_, ?_, ?_, ?_, ?_, ?_, ?_, ?_, ?_, ?_, ?_, ?_, ?_, ?_, ?_, ?_, ?_, ?_, trivial⟩ ?_
  · exact D2.gv_load 24 (.tmp 4) 1 (fun g => b1) (Value.cells (uv A)) 24 (0, 0) (fun _ _ _ h => h) (fun g => by kernel_rfl) (fun g => by kernel_rfl) (fun L g hN => (by kernel_rfl)) (by kernel_rfl)
  · exact D2.gv_call 14 #[uv A] (fun _ _ _ h => h) (bytes_any A hA) (fun g w => by kernel_rfl)
  · exact D2.gv_load 24 (.tmp 4) 1 (fun g => b1) (Value.cells (uv A)) 24 (0, 0) (fun _ _ _ h => h) (fun g => by kernel_rfl) (fun g => by kernel_rfl) (fun L g hN => (by kernel_rfl)) (by kernel_rfl)
  · exact D2.gv_call 15 #[uv A] (fun _ _ _ h => h) (refbytes_fn A hA) (fun g w => by kernel_rfl)
  · exact D2.gv_valE (fun _ _ _ h => h) (V' := .bool (!(ByteArray.toList (bs A) == ByteArray.toList (bs A)))) (fun g w => by kernel_rfl) (bool_eq (by rw [str_self (bs A)]; rfl))
  · exact D2.gv_val (fun _ _ _ h => h) (fun g w => by kernel_rfl)
  · exact D2.gv_load 24 (.tmp 4) 1 (fun g => b1) (Value.cells (uv A)) 24 (0, 0) (fun _ _ _ h => h) (fun g => by kernel_rfl) (fun g => by kernel_rfl) (fun L g hN => (by kernel_rfl)) (by kernel_rfl)
  · exact D2.gv_call 16 #[uv A] (fun _ _ _ h => h) (len_fn A hA) (fun g w => by kernel_rfl)
  · exact D2.gv_load 24 (.tmp 4) 1 (fun g => b1) (Value.cells (uv A)) 24 (0, 0) (fun _ _ _ h => h) (fun g => by kernel_rfl) (fun g => by kernel_rfl) (fun L g hN => (by kernel_rfl)) (by kernel_rfl)
  · exact D2.gv_call 17 #[uv A] (fun _ _ _ h => h) (refbits_fn A hA) (fun g w => by kernel_rfl)
  · exact D2.gv_valE (fun _ _ _ h => h) (V' := .bool (!(((len A : Nat) : Int) == ((len A : Nat) : Int)))) (fun g w => by kernel_rfl) (bool_eq (by rw [beq_iff_eq.2 (by omega)]; rfl))
  · exact D2.gv_val (fun _ _ _ h => h) (fun g w => by kernel_rfl)
  · exact D2.gv_val (fun _ _ _ h => h) (fun g w => by kernel_rfl)
  · exact D2.gv_load 24 (.tmp 4) 1 (fun g => b1) (Value.cells (uv A)) 24 (0, 0) (fun _ _ _ h => h) (fun g => by kernel_rfl) (fun g => by kernel_rfl) (fun L g hN => (by kernel_rfl)) (by kernel_rfl)
  · exact D2.gv_val (fun _ _ _ h => h) (fun g w => by kernel_rfl)
  · exact D2.gv_call 18 #[uv A, .int .i64 ((k : Nat) : Int)] (fun _ _ _ h => h) (bit_some A k hk) (fun g w => by kernel_rfl)
  · exact D2.gv_val (fun _ _ _ h => h) (fun g w => by kernel_rfl)
  · exact D2.gv_valE (fun _ _ _ h => h) (V' := .bool (!(Nat.testBit A k == Nat.testBit A k))) (fun g w => by kernel_rfl) (bool_eq (by rw [beq_self_eq_true]; rfl))
  · exact D2.gv_val (fun _ _ _ h => h) (fun g w => by kernel_rfl)
  · exact D2.gv_val (fun _ _ _ h => h) (fun g w => by kernel_rfl)
  · exact D2.gv_val (fun _ _ _ h => h) (fun g w => by kernel_rfl)
  · exact D2.gv_call 19 #[.int .u64 ((n : Nat) : Int)] (fun _ _ _ h => h) (small_fn n (by omega)) (fun g w => by kernel_rfl)
  · exact D2.gv_val (fun _ _ _ h => h) (fun g w => by kernel_rfl)
  · exact D2.gv_valE (fun _ _ _ h => h) (V' := .agg #[.int .u64 ((n : Nat) : Int), .int .u64 0, .int .u64 0, .int .u64 0]) (fun g w => by kernel_rfl) (uv_small n (by omega))
  · exact D2.gv_opE (fun _ _ _ h => h) _ (V' := .bool (!decide (n = n))) (fun g => by kernel_rfl) (fun g => (fun o w ho => neU_run (x := (.tmp 64)) (y := (.tmp 66)) n n (by unfold big; omega) (by unfold big; omega) w ho (by kernel_rfl) (by kernel_rfl))) (by rw [decide_eq_true rfl] <;> rfl)
  · exact D2.gv_val (fun _ _ _ h => h) (fun g w => by kernel_rfl)
  · exact D2.gv_val (fun _ _ _ h => h) (fun g w => by kernel_rfl)
  · exact D2.gv_call 8 #[] (fun _ _ _ h => h) alive_any (fun g w => by kernel_rfl)
  · exact D2.gv_val (fun _ _ _ h => h) (fun g w => by kernel_rfl)
  · exact D2.gv_val (fun _ _ _ h => h) (fun g w => by kernel_rfl)
  intro L0 G5 w5 hall HL; clear H4
  have H5 : St w.heap.size w w5 [(b2, Obj.cells #[.int .u64 0, .int .u64 0, .int .u64 0, .int .u64 0] 24 (0, 0)), (b1, Obj.cells (Value.cells (uv A)) 24 (0, 0))] := D2.StE.st HL.1
  clear HL hall
  refine g_cond_f (by kernel_rfl) (by kernel_rfl) ?_
  refine g_skip (by kernel_rfl) ?_
  show WP _ _ _ _ _ _
  refine g_seq (by kernel_rfl) ?_
  refine g_sreg [0, 1, 2] (by kernel_rfl) (by kernel_rfl) ?_
  refine s_val (some 73) (.string (ByteArray.extract s 0 (min (ByteArray.size s) 40))) (fun w => by kernel_rfl) (by kernel_rfl) ?_
  refine s_val (some 74) (.int .i64 ((ByteArray.size (ByteArray.extract s 0 (min (ByteArray.size s) 40)) : Nat) : Int)) (fun w => by kernel_rfl) (by kernel_rfl) ?_
  refine s_valE (some 75) (.bool (decide (32 < ((ByteArray.size (ByteArray.extract s 0 (min (ByteArray.size s) 40)) : Nat) : Int)))) (.bool true) (fun w => by kernel_rfl) (bool_eq (decide_eq_true (by omega))) (by kernel_rfl) ?_
  refine s_nil ?_
  refine g_cond_t (by kernel_rfl) (by kernel_rfl) ?_
  refine g_sreg [0, 1, 2, 3, 4, 5, 6, 7] (by kernel_rfl) (by kernel_rfl) ?_
  refine s_val (some 76) (.int .i64 4) (fun w => by kernel_rfl) (by kernel_rfl) ?_
  refine s_val (some 77) (.bool true) (fun w => by kernel_rfl) (by kernel_rfl) ?_
  refine s_val (some 78) (.bool true) (fun w => by kernel_rfl) (by kernel_rfl) ?_
  refine s_load H5 (some 79) 24 (.tmp 9) 0 b2 #[.int .u64 0, .int .u64 0, .int .u64 0, .int .u64 0] 24 (0, 0) (by kernel_rfl) (by kernel_rfl) (by kernel_rfl) (by kernel_rfl) (by kernel_rfl) ?_
  refine s_val (some 80) (.agg #[.int .u64 0, .int .u64 0, .int .u64 0, .int .u64 0]) (fun w => by kernel_rfl) (by kernel_rfl) ?_
  refine s_opE (some 81) _ (.bool (decide (0 = 0))) (.bool true) (by kernel_rfl) (fun o w ho => eqU_run (x := (.tmp 79)) (y := (.tmp 80)) 0 0 (by unfold big; omega) (by unfold big; omega) w ho (by kernel_rfl) (by kernel_rfl)) (by rw [decide_eq_true rfl] <;> rfl) (by kernel_rfl) ?_
  refine s_val (some 82) (.bool true) (fun w => by kernel_rfl) (by kernel_rfl) ?_
  refine s_val (some 8) (.bool true) (fun w => by kernel_rfl) (by kernel_rfl) ?_
  refine s_nil ?_
  refine g_ret (by kernel_rfl) ?_
  show ∃ vs, Res _ _ _ _ vs ∧ _
  refine ⟨[.bool true], (.tmp (.bool true) (by kernel_rfl) .nil), ?_, H5.below⟩
  rfl

set_option maxRecDepth 100000 in
theorem bytes_l2 (A : Nat) (hA : A < big) (s : ByteArray) (hs : ByteArray.size s ≤ 9223372036854775807) (k : Nat) (hk : k < 256) (hq : k / 64 = 2) (n : Nat) (hn : n < 18446744073709551616) (hle : 32 < ByteArray.size (ByteArray.extract s 0 (min (ByteArray.size s) 40))) : Fn Try.prog 4 #[uv A, .string s, .int .i64 ((k : Nat) : Int), .int .u64 ((n : Nat) : Int)] (.bool true) := by
  have hsz : ByteArray.size (ByteArray.extract s 0 (min (ByteArray.size s) 40)) = min (ByteArray.size s) 40 := by rw [← tl_len, tl_extract]; simp [tl_len]
  have hsh := Nat.div_le_self (A / 340282366920938463463374607431768211456 % 18446744073709551616) (2 ^ (k % 64))
  refine Fn.intro (c := codeOf Try.f4) [.tmp 8] 91 Try.func4 (by kernel_rfl) (by kernel_rfl) (by kernel_rfl) fun w => ?_
  have H0 := St.start w
  refine g_sreg [0, 1] (by kernel_rfl) (by kernel_rfl) ?_
  refine s_box H0 (some 4) 24 (.tmp 0) (uv A) (by kernel_rfl) (by kernel_rfl) (by kernel_rfl) ?_
  intro b1 w1 H1; clear H0
  refine s_val (some 8) (.bool false) (fun w => by kernel_rfl) (by kernel_rfl) ?_
  refine s_nil ?_
  refine g_sreg [0, 1, 2, 3, 4, 5] (by kernel_rfl) (by kernel_rfl) ?_
  refine s_val (some 12) (.string s) (fun w => by kernel_rfl) (by kernel_rfl) ?_
  refine s_val (some 13) (.string s) (fun w => by kernel_rfl) (by kernel_rfl) ?_
  refine s_val (some 14) (.int .i64 ((ByteArray.size s : Nat) : Int)) (fun w => by kernel_rfl) (by kernel_rfl) ?_
  refine s_valE (some 15) (.int .i64 (if (40 : Int) < (((ByteArray.size s : Nat) : Int) : Int) then (40 : Int) else (((ByteArray.size s : Nat) : Int) : Int))) (.int .i64 ((min (ByteArray.size s) 40 : Nat) : Int)) (fun w => by kernel_rfl) (int_eq (minN (ByteArray.size s) 40)) (by kernel_rfl) ?_
  refine s_op (some 16) _ (.string (ByteArray.extract s 0 (min (ByteArray.size s) 40))) (by kernel_rfl) (by kernel_rfl) (fun o w ho => scut_run (t := 9) (kd := .i64) (by kernel_rfl) (x := (.tmp 12)) (y := (.tmp 15)) s (min (ByteArray.size s) 40) ho (by kernel_rfl) (by kernel_rfl) (by omega) w) ?_
  refine s_val (some 1) (.string (ByteArray.extract s 0 (min (ByteArray.size s) 40))) (fun w => by kernel_rfl) (by kernel_rfl) ?_
  refine s_nil ?_
  refine g_sreg [0, 1, 2, 3, 4, 5, 6, 7] (by kernel_rfl) (by kernel_rfl) ?_
  refine s_val (some 18) (.string (ByteArray.extract s 0 (min (ByteArray.size s) 40))) (fun w => by kernel_rfl) (by kernel_rfl) ?_
  refine s_call H1 (some 19) 13 #[.string (ByteArray.extract s 0 (min (ByteArray.size s) 40))] (.tuple #[.agg #[.int .u64 0, .int .u64 0, .int .u64 0, .int .u64 0], .int .i64 4]) (from_long (ByteArray.extract s 0 (min (ByteArray.size s) 40)) hle (by omega)) (fun w => by kernel_rfl) (by kernel_rfl) ?_
  intro w2 H2; clear H1
  refine s_val (some 17) (.tuple #[.agg #[.int .u64 0, .int .u64 0, .int .u64 0, .int .u64 0], .int .i64 4]) (fun w => by kernel_rfl) (by kernel_rfl) ?_
  refine s_val (some 20) (.agg #[.int .u64 0, .int .u64 0, .int .u64 0, .int .u64 0]) (fun w => by kernel_rfl) (by kernel_rfl) ?_
  refine s_val (some 21) (.int .i64 4) (fun w => by kernel_rfl) (by kernel_rfl) ?_
  refine s_alloc H2 (some 9) 24 (.agg #[.int .u64 0, .int .u64 0, .int .u64 0, .int .u64 0]) (by kernel_rfl) (by kernel_rfl) (by kernel_rfl) ?_
  intro b2 w3 H3; clear H2
  refine s_store H3 0 [(b2, Obj.cells #[.int .u64 0, .int .u64 0, .int .u64 0, .int .u64 0] 24 (0, 0)), (b1, Obj.cells (Value.cells (uv A)) 24 (0, 0))] 24 (.tmp 9) (.tmp 20) b2 (0) #[.int .u64 0, .int .u64 0, .int .u64 0, .int .u64 0] #[.int .u64 0, .int .u64 0, .int .u64 0, .int .u64 0] 24 (.agg #[.int .u64 0, .int .u64 0, .int .u64 0, .int .u64 0]) (by kernel_rfl) (by kernel_rfl) (by kernel_rfl) (by kernel_rfl) (by kernel_rfl) (by kernel_rfl) (of_decide_eq_true (by kernel_rfl)) (by kernel_rfl) (by kernel_rfl) ?_
  intro w4 H4; clear H3
  refine s_val (some 10) (.int .i64 4) (fun w => by kernel_rfl) (by kernel_rfl) ?_
  refine s_nil ?_
  refine g_sreg [0, 1, 2, 3, 4, 5, 6, 7, 8, 9, 10, 11, 12, 13, 14, 15, 16, 17, 18, 19, 20, 21] (by kernel_rfl) (by kernel_rfl) ?_
  refine s_val (some 22) (.int .i64 ((k : Nat) : Int)) (fun w => by kernel_rfl) (by kernel_rfl) ?_
  refine s_valE (some 23) (.bool (decide (0 ≤ ((k : Nat) : Int)))) (.bool true) (fun w => by kernel_rfl) (bool_eq (decide_eq_true (by omega))) (by kernel_rfl) ?_
  refine s_val (some 24) (.bool true) (fun w => by kernel_rfl) (by kernel_rfl) ?_
  refine s_val (some 25) (.int .i64 ((k : Nat) : Int)) (fun w => by kernel_rfl) (by kernel_rfl) ?_
  refine s_valE (some 26) (.bool (decide (((k : Nat) : Int) < 256))) (.bool true) (fun w => by kernel_rfl) (bool_eq (decide_eq_true (by omega))) (by kernel_rfl) ?_
  refine s_val (some 27) (.bool true) (fun w => by kernel_rfl) (by kernel_rfl) ?_
  refine s_val (some 28) (.bool true) (fun w => by kernel_rfl) (by kernel_rfl) ?_
  refine s_val (some 29) (.int .i64 ((k : Nat) : Int)) (fun w => by kernel_rfl) (by kernel_rfl) ?_
  refine s_valE (some 30) (.int .i64 (if (0 : Int) > (((k : Nat) : Int) : Int) then (0 : Int) else (((k : Nat) : Int) : Int))) (.int .i64 ((k : Nat) : Int)) (fun w => by kernel_rfl) (int_eq (by split <;> omega)) (by kernel_rfl) ?_
  refine s_valE (some 31) (.int .i64 (IntKind.i64.wrap (((k : Nat) : Int).tdiv 64))) (.int .i64 ((k / 64 : Nat) : Int)) (fun w => by kernel_rfl) (int_eq (quoN_i64 (a := k) (b := 64) (by omega))) (by kernel_rfl) ?_
  refine s_valE (some 32) (.int .i64 (Int.tmod ((k / 64 : Nat) : Int) 4)) (.int .i64 2) (fun w => by kernel_rfl) (int_eq (show Int.tmod (((k / 64 : Nat)) : Int) ((4 : Nat) : Int) = ((2 : Nat) : Int) by rw [remN]; omega)) (by kernel_rfl) ?_
  refine s_val (some 33) (.pointer (some ⟨b1, 2, none⟩)) (fun w => by kernel_rfl) (by kernel_rfl) ?_
  refine s_load1 H4 (some 34) 22 (.tmp 33) 1 b1 2 (Value.cells (uv A)) 24 (0, 0) (.int .u64 ((A / 340282366920938463463374607431768211456 % 18446744073709551616 : Nat) : Int)) (by kernel_rfl) (by kernel_rfl) (by kernel_rfl) (by kernel_rfl) (by kernel_rfl) (by kernel_rfl) ?_
  refine s_val (some 35) (.int .i64 ((k : Nat) : Int)) (fun w => by kernel_rfl) (by kernel_rfl) ?_
  refine s_valE (some 36) (.int .i64 (if (0 : Int) > (((k : Nat) : Int) : Int) then (0 : Int) else (((k : Nat) : Int) : Int))) (.int .i64 ((k : Nat) : Int)) (fun w => by kernel_rfl) (int_eq (by split <;> omega)) (by kernel_rfl) ?_
  refine s_valE (some 37) (.int .u64 (IntKind.u64.wrap (((k : Nat) : Int)))) (.int .u64 ((k : Nat) : Int)) (fun w => by kernel_rfl) (int_eq (wrapN_u64 (a := k) (by omega))) (by kernel_rfl) ?_
  refine s_valE (some 38) (.int .u64 (Int.tmod ((k : Nat) : Int) 64)) (.int .u64 ((k % 64 : Nat) : Int)) (fun w => by kernel_rfl) (int_eq (remN k 64)) (by kernel_rfl) ?_
  refine s_valE (some 39) (.int .u64 (Int.fdiv ((A / 340282366920938463463374607431768211456 % 18446744073709551616 : Nat) : Int) (2 ^ (min (k % 64) 64)))) (.int .u64 (((A / 340282366920938463463374607431768211456 % 18446744073709551616) / 2 ^ (k % 64) : Nat) : Int)) (fun w => by kernel_rfl) (int_eq (shr_min (A / 340282366920938463463374607431768211456 % 18446744073709551616) (k % 64) 64 (by omega))) (by kernel_rfl) ?_
  refine s_valE (some 40) (.int .u64 (Go.bits .and .u64 ((((A / 340282366920938463463374607431768211456 % 18446744073709551616) / 2 ^ (k % 64) : Nat) : Int)) 1)) (.int .u64 ((((A / 340282366920938463463374607431768211456 % 18446744073709551616) / 2 ^ (k % 64)) % 2 : Nat) : Int)) (fun w => by kernel_rfl) (int_eq (andN1 (a := (A / 340282366920938463463374607431768211456 % 18446744073709551616) / 2 ^ (k % 64)) (by omega))) (by kernel_rfl) ?_
  refine s_valE (some 41) (.bool (((((A / 340282366920938463463374607431768211456 % 18446744073709551616) / 2 ^ (k % 64)) % 2 : Nat) : Int) == 1)) (.bool (Nat.testBit A k)) (fun w => by kernel_rfl) (bool_eq (bit_q2 A k hq)) (by kernel_rfl) ?_
  refine s_val (some 42) (.bool (Nat.testBit A k)) (fun w => by kernel_rfl) (by kernel_rfl) ?_
  refine s_val (some 11) (.bool (Nat.testBit A k)) (fun w => by kernel_rfl) (by kernel_rfl) ?_
  refine s_nil ?_
  refine g_seq (by kernel_rfl) ?_
  refine D2.g_sdraw [0, 1, 2, 3, 4, 5, 6, 7, 8, 9, 10, 11, 12, 13, 14, 15, 16, 17, 18, 19, 20, 21, 22, 23, 24, 25, 26, 27, 28, 29] [((some 43), fun _ => uv A), ((some 44), fun _ => .string (bs A)), ((some 45), fun _ => uv A), ((some 46), fun _ => .string (bs A)), ((some 47), fun _ => .bool false), ((some 48), fun _ => .bool false), ((some 49), fun _ => uv A), ((some 50), fun _ => .int .i64 ((len A : Nat) : Int)), ((some 51), fun _ => uv A), ((some 52), fun _ => .int .i64 ((len A : Nat) : Int)), ((some 53), fun _ => .bool false), ((some 54), fun _ => .bool false), ((some 55), fun _ => .bool false), ((some 56), fun _ => uv A), ((some 57), fun _ => .int .i64 ((k : Nat) : Int)), ((some 58), fun _ => .bool (Nat.testBit A k)), ((some 59), fun _ => .bool (Nat.testBit A k)), ((some 60), fun _ => .bool false), ((some 61), fun _ => .bool false), ((some 62), fun _ => .bool false), ((some 63), fun _ => .int .u64 ((n : Nat) : Int)), ((some 64), fun _ => uv n), ((some 65), fun _ => .int .u64 ((n : Nat) : Int)), ((some 66), fun _ => uv n), ((some 67), fun _ => .bool false), ((some 68), fun _ => .bool false), ((some 69), fun _ => .bool false), ((some 70), fun _ => .bool true), ((some 71), fun _ => .bool false), ((some 72), fun _ => .bool false)] (D2.Pre w.heap.size w (fun L g => [(true, (b2, Obj.cells #[.int .u64 0, .int .u64 0, .int .u64 0, .int .u64 0] 24 (0, 0))), (true, (b1, Obj.cells (Value.cells (uv A)) 24 (0, 0)))]) (fun L g => True)) (by kernel_rfl) (by kernel_rfl) (by kernel_rfl) (by kernel_rfl) ⟨D2.StE.of H4.drew _ (by kernel_rfl), trivial⟩ ⟨?_, ?_, ?_, ?_, ?_, ?_, ?_, ?_, ?_, ?_, ?_, ?_, ?_, ?_, ?_, ?_, ?_, ?_, ?_, ?_, ?_, ?_, ?_, ?_, ?_, ?_, ?_, ?_, ?_, ?_, trivial⟩ ?_
  · exact D2.gv_load 24 (.tmp 4) 1 (fun g => b1) (Value.cells (uv A)) 24 (0, 0) (fun _ _ _ h => h) (fun g => by kernel_rfl) (fun g => by kernel_rfl) (fun L g hN => (by kernel_rfl)) (by kernel_rfl)
  · exact D2.gv_call 14 #[uv A] (fun _ _ _ h => h) (bytes_any A hA) (fun g w => by kernel_rfl)
  · exact D2.gv_load 24 (.tmp 4) 1 (fun g => b1) (Value.cells (uv A)) 24 (0, 0) (fun _ _ _ h => h) (fun g => by kernel_rfl) (fun g => by kernel_rfl) (fun L g hN => (by kernel_rfl)) (by kernel_rfl)
  · exact D2.gv_call 15 #[uv A] (fun _ _ _ h => h) (refbytes_fn A hA) (fun g w => by kernel_rfl)
  · exact D2.gv_valE (fun _ _ _ h => h) (V' := .bool (!(ByteArray.toList (bs A) == ByteArray.toList (bs A)))) (fun g w => by kernel_rfl) (bool_eq (by rw [str_self (bs A)]; rfl))
  · exact D2.gv_val (fun _ _ _ h => h) (fun g w => by kernel_rfl)
  · exact D2.gv_load 24 (.tmp 4) 1 (fun g => b1) (Value.cells (uv A)) 24 (0, 0) (fun _ _ _ h => h) (fun g => by kernel_rfl) (fun g => by kernel_rfl) (fun L g hN => (by kernel_rfl)) (by kernel_rfl)
  · exact D2.gv_call 16 #[uv A] (fun _ _ _ h => h) (len_fn A hA) (fun g w => by kernel_rfl)
  · exact D2.gv_load 24 (.tmp 4) 1 (fun g => b1) (Value.cells (uv A)) 24 (0, 0) (fun _ _ _ h => h) (fun g => by kernel_rfl) (fun g => by kernel_rfl) (fun L g hN => (by kernel_rfl)) (by kernel_rfl)
  · exact D2.gv_call 17 #[uv A] (fun _ _ _ h => h) (refbits_fn A hA) (fun g w => by kernel_rfl)
  · exact D2.gv_valE (fun _ _ _ h => h) (V' := .bool (!(((len A : Nat) : Int) == ((len A : Nat) : Int)))) (fun g w => by kernel_rfl) (bool_eq (by rw [beq_iff_eq.2 (by omega)]; rfl))
  · exact D2.gv_val (fun _ _ _ h => h) (fun g w => by kernel_rfl)
  · exact D2.gv_val (fun _ _ _ h => h) (fun g w => by kernel_rfl)
  · exact D2.gv_load 24 (.tmp 4) 1 (fun g => b1) (Value.cells (uv A)) 24 (0, 0) (fun _ _ _ h => h) (fun g => by kernel_rfl) (fun g => by kernel_rfl) (fun L g hN => (by kernel_rfl)) (by kernel_rfl)
  · exact D2.gv_val (fun _ _ _ h => h) (fun g w => by kernel_rfl)
  · exact D2.gv_call 18 #[uv A, .int .i64 ((k : Nat) : Int)] (fun _ _ _ h => h) (bit_some A k hk) (fun g w => by kernel_rfl)
  · exact D2.gv_val (fun _ _ _ h => h) (fun g w => by kernel_rfl)
  · exact D2.gv_valE (fun _ _ _ h => h) (V' := .bool (!(Nat.testBit A k == Nat.testBit A k))) (fun g w => by kernel_rfl) (bool_eq (by rw [beq_self_eq_true]; rfl))
  · exact D2.gv_val (fun _ _ _ h => h) (fun g w => by kernel_rfl)
  · exact D2.gv_val (fun _ _ _ h => h) (fun g w => by kernel_rfl)
  · exact D2.gv_val (fun _ _ _ h => h) (fun g w => by kernel_rfl)
  · exact D2.gv_call 19 #[.int .u64 ((n : Nat) : Int)] (fun _ _ _ h => h) (small_fn n (by omega)) (fun g w => by kernel_rfl)
  · exact D2.gv_val (fun _ _ _ h => h) (fun g w => by kernel_rfl)
  · exact D2.gv_valE (fun _ _ _ h => h) (V' := .agg #[.int .u64 ((n : Nat) : Int), .int .u64 0, .int .u64 0, .int .u64 0]) (fun g w => by kernel_rfl) (uv_small n (by omega))
  · exact D2.gv_opE (fun _ _ _ h => h) _ (V' := .bool (!decide (n = n))) (fun g => by kernel_rfl) (fun g => (fun o w ho => neU_run (x := (.tmp 64)) (y := (.tmp 66)) n n (by unfold big; omega) (by unfold big; omega) w ho (by kernel_rfl) (by kernel_rfl))) (by rw [decide_eq_true rfl] <;> rfl)
  · exact D2.gv_val (fun _ _ _ h => h) (fun g w => by kernel_rfl)
  · exact D2.gv_val (fun _ _ _ h => h) (fun g w => by kernel_rfl)
  · exact D2.gv_call 8 #[] (fun _ _ _ h => h) alive_any (fun g w => by kernel_rfl)
  · exact D2.gv_val (fun _ _ _ h => h) (fun g w => by kernel_rfl)
  · exact D2.gv_val (fun _ _ _ h => h) (fun g w => by kernel_rfl)
  intro L0 G5 w5 hall HL; clear H4
  have H5 : St w.heap.size w w5 [(b2, Obj.cells #[.int .u64 0, .int .u64 0, .int .u64 0, .int .u64 0] 24 (0, 0)), (b1, Obj.cells (Value.cells (uv A)) 24 (0, 0))] := D2.StE.st HL.1
  clear HL hall
  refine g_cond_f (by kernel_rfl) (by kernel_rfl) ?_
  refine g_skip (by kernel_rfl) ?_
  show WP _ _ _ _ _ _
  refine g_seq (by kernel_rfl) ?_
  refine g_sreg [0, 1, 2] (by kernel_rfl) (by kernel_rfl) ?_
  refine s_val (some 73) (.string (ByteArray.extract s 0 (min (ByteArray.size s) 40))) (fun w => by kernel_rfl) (by kernel_rfl) ?_
  refine s_val (some 74) (.int .i64 ((ByteArray.size (ByteArray.extract s 0 (min (ByteArray.size s) 40)) : Nat) : Int)) (fun w => by kernel_rfl) (by kernel_rfl) ?_
  refine s_valE (some 75) (.bool (decide (32 < ((ByteArray.size (ByteArray.extract s 0 (min (ByteArray.size s) 40)) : Nat) : Int)))) (.bool true) (fun w => by kernel_rfl) (bool_eq (decide_eq_true (by omega))) (by kernel_rfl) ?_
  refine s_nil ?_
  refine g_cond_t (by kernel_rfl) (by kernel_rfl) ?_
  refine g_sreg [0, 1, 2, 3, 4, 5, 6, 7] (by kernel_rfl) (by kernel_rfl) ?_
  refine s_val (some 76) (.int .i64 4) (fun w => by kernel_rfl) (by kernel_rfl) ?_
  refine s_val (some 77) (.bool true) (fun w => by kernel_rfl) (by kernel_rfl) ?_
  refine s_val (some 78) (.bool true) (fun w => by kernel_rfl) (by kernel_rfl) ?_
  refine s_load H5 (some 79) 24 (.tmp 9) 0 b2 #[.int .u64 0, .int .u64 0, .int .u64 0, .int .u64 0] 24 (0, 0) (by kernel_rfl) (by kernel_rfl) (by kernel_rfl) (by kernel_rfl) (by kernel_rfl) ?_
  refine s_val (some 80) (.agg #[.int .u64 0, .int .u64 0, .int .u64 0, .int .u64 0]) (fun w => by kernel_rfl) (by kernel_rfl) ?_
  refine s_opE (some 81) _ (.bool (decide (0 = 0))) (.bool true) (by kernel_rfl) (fun o w ho => eqU_run (x := (.tmp 79)) (y := (.tmp 80)) 0 0 (by unfold big; omega) (by unfold big; omega) w ho (by kernel_rfl) (by kernel_rfl)) (by rw [decide_eq_true rfl] <;> rfl) (by kernel_rfl) ?_
  refine s_val (some 82) (.bool true) (fun w => by kernel_rfl) (by kernel_rfl) ?_
  refine s_val (some 8) (.bool true) (fun w => by kernel_rfl) (by kernel_rfl) ?_
  refine s_nil ?_
  refine g_ret (by kernel_rfl) ?_
  show ∃ vs, Res _ _ _ _ vs ∧ _
  refine ⟨[.bool true], (.tmp (.bool true) (by kernel_rfl) .nil), ?_, H5.below⟩
  rfl

set_option maxRecDepth 100000 in
theorem bytes_l3 (A : Nat) (hA : A < big) (s : ByteArray) (hs : ByteArray.size s ≤ 9223372036854775807) (k : Nat) (hk : k < 256) (hq : k / 64 = 3) (n : Nat) (hn : n < 18446744073709551616) (hle : 32 < ByteArray.size (ByteArray.extract s 0 (min (ByteArray.size s) 40))) : Fn Try.prog 4 #[uv A, .string s, .int .i64 ((k : Nat) : Int), .int .u64 ((n : Nat) : Int)] (.bool true) := by
  have hsz : ByteArray.size (ByteArray.extract s 0 (min (ByteArray.size s) 40)) = min (ByteArray.size s) 40 := by rw [← tl_len, tl_extract]; simp [tl_len]
  have hsh := Nat.div_le_self (A / 6277101735386680763835789423207666416102355444464034512896 % 18446744073709551616) (2 ^ (k % 64))
  refine Fn.intro (c := codeOf Try.f4) [.tmp 8] 91 Try.func4 (by kernel_rfl) (by kernel_rfl) (by kernel_rfl) fun w => ?_
  have H0 := St.start w
  refine g_sreg [0, 1] (by kernel_rfl) (by kernel_rfl) ?_
  refine s_box H0 (some 4) 24 (.tmp 0) (uv A) (by kernel_rfl) (by kernel_rfl) (by kernel_rfl) ?_
  intro b1 w1 H1; clear H0
  refine s_val (some 8) (.bool false) (fun w => by kernel_rfl) (by kernel_rfl) ?_
  refine s_nil ?_
  refine g_sreg [0, 1, 2, 3, 4, 5] (by kernel_rfl) (by kernel_rfl) ?_
  refine s_val (some 12) (.string s) (fun w => by kernel_rfl) (by kernel_rfl) ?_
  refine s_val (some 13) (.string s) (fun w => by kernel_rfl) (by kernel_rfl) ?_
  refine s_val (some 14) (.int .i64 ((ByteArray.size s : Nat) : Int)) (fun w => by kernel_rfl) (by kernel_rfl) ?_
  refine s_valE (some 15) (.int .i64 (if (40 : Int) < (((ByteArray.size s : Nat) : Int) : Int) then (40 : Int) else (((ByteArray.size s : Nat) : Int) : Int))) (.int .i64 ((min (ByteArray.size s) 40 : Nat) : Int)) (fun w => by kernel_rfl) (int_eq (minN (ByteArray.size s) 40)) (by kernel_rfl) ?_
  refine s_op (some 16) _ (.string (ByteArray.extract s 0 (min (ByteArray.size s) 40))) (by kernel_rfl) (by kernel_rfl) (fun o w ho => scut_run (t := 9) (kd := .i64) (by kernel_rfl) (x := (.tmp 12)) (y := (.tmp 15)) s (min (ByteArray.size s) 40) ho (by kernel_rfl) (by kernel_rfl) (by omega) w) ?_
  refine s_val (some 1) (.string (ByteArray.extract s 0 (min (ByteArray.size s) 40))) (fun w => by kernel_rfl) (by kernel_rfl) ?_
  refine s_nil ?_
  refine g_sreg [0, 1, 2, 3, 4, 5, 6, 7] (by kernel_rfl) (by kernel_rfl) ?_
  refine s_val (some 18) (.string (ByteArray.extract s 0 (min (ByteArray.size s) 40))) (fun w => by kernel_rfl) (by kernel_rfl) ?_
  refine s_call H1 (some 19) 13 #[.string (ByteArray.extract s 0 (min (ByteArray.size s) 40))] (.tuple #[.agg #[.int .u64 0, .int .u64 0, .int .u64 0, .int .u64 0], .int .i64 4]) (from_long (ByteArray.extract s 0 (min (ByteArray.size s) 40)) hle (by omega)) (fun w => by kernel_rfl) (by kernel_rfl) ?_
  intro w2 H2; clear H1
  refine s_val (some 17) (.tuple #[.agg #[.int .u64 0, .int .u64 0, .int .u64 0, .int .u64 0], .int .i64 4]) (fun w => by kernel_rfl) (by kernel_rfl) ?_
  refine s_val (some 20) (.agg #[.int .u64 0, .int .u64 0, .int .u64 0, .int .u64 0]) (fun w => by kernel_rfl) (by kernel_rfl) ?_
  refine s_val (some 21) (.int .i64 4) (fun w => by kernel_rfl) (by kernel_rfl) ?_
  refine s_alloc H2 (some 9) 24 (.agg #[.int .u64 0, .int .u64 0, .int .u64 0, .int .u64 0]) (by kernel_rfl) (by kernel_rfl) (by kernel_rfl) ?_
  intro b2 w3 H3; clear H2
  refine s_store H3 0 [(b2, Obj.cells #[.int .u64 0, .int .u64 0, .int .u64 0, .int .u64 0] 24 (0, 0)), (b1, Obj.cells (Value.cells (uv A)) 24 (0, 0))] 24 (.tmp 9) (.tmp 20) b2 (0) #[.int .u64 0, .int .u64 0, .int .u64 0, .int .u64 0] #[.int .u64 0, .int .u64 0, .int .u64 0, .int .u64 0] 24 (.agg #[.int .u64 0, .int .u64 0, .int .u64 0, .int .u64 0]) (by kernel_rfl) (by kernel_rfl) (by kernel_rfl) (by kernel_rfl) (by kernel_rfl) (by kernel_rfl) (of_decide_eq_true (by kernel_rfl)) (by kernel_rfl) (by kernel_rfl) ?_
  intro w4 H4; clear H3
  refine s_val (some 10) (.int .i64 4) (fun w => by kernel_rfl) (by kernel_rfl) ?_
  refine s_nil ?_
  refine g_sreg [0, 1, 2, 3, 4, 5, 6, 7, 8, 9, 10, 11, 12, 13, 14, 15, 16, 17, 18, 19, 20, 21] (by kernel_rfl) (by kernel_rfl) ?_
  refine s_val (some 22) (.int .i64 ((k : Nat) : Int)) (fun w => by kernel_rfl) (by kernel_rfl) ?_
  refine s_valE (some 23) (.bool (decide (0 ≤ ((k : Nat) : Int)))) (.bool true) (fun w => by kernel_rfl) (bool_eq (decide_eq_true (by omega))) (by kernel_rfl) ?_
  refine s_val (some 24) (.bool true) (fun w => by kernel_rfl) (by kernel_rfl) ?_
  refine s_val (some 25) (.int .i64 ((k : Nat) : Int)) (fun w => by kernel_rfl) (by kernel_rfl) ?_
  refine s_valE (some 26) (.bool (decide (((k : Nat) : Int) < 256))) (.bool true) (fun w => by kernel_rfl) (bool_eq (decide_eq_true (by omega))) (by kernel_rfl) ?_
  refine s_val (some 27) (.bool true) (fun w => by kernel_rfl) (by kernel_rfl) ?_
  refine s_val (some 28) (.bool true) (fun w => by kernel_rfl) (by kernel_rfl) ?_
  refine s_val (some 29) (.int .i64 ((k : Nat) : Int)) (fun w => by kernel_rfl) (by kernel_rfl) ?_
  refine s_valE (some 30) (.int .i64 (if (0 : Int) > (((k : Nat) : Int) : Int) then (0 : Int) else (((k : Nat) : Int) : Int))) (.int .i64 ((k : Nat) : Int)) (fun w => by kernel_rfl) (int_eq (by split <;> omega)) (by kernel_rfl) ?_
  refine s_valE (some 31) (.int .i64 (IntKind.i64.wrap (((k : Nat) : Int).tdiv 64))) (.int .i64 ((k / 64 : Nat) : Int)) (fun w => by kernel_rfl) (int_eq (quoN_i64 (a := k) (b := 64) (by omega))) (by kernel_rfl) ?_
  refine s_valE (some 32) (.int .i64 (Int.tmod ((k / 64 : Nat) : Int) 4)) (.int .i64 3) (fun w => by kernel_rfl) (int_eq (show Int.tmod (((k / 64 : Nat)) : Int) ((4 : Nat) : Int) = ((3 : Nat) : Int) by rw [remN]; omega)) (by kernel_rfl) ?_
  refine s_val (some 33) (.pointer (some ⟨b1, 3, none⟩)) (fun w => by kernel_rfl) (by kernel_rfl) ?_
  refine s_load1 H4 (some 34) 22 (.tmp 33) 1 b1 3 (Value.cells (uv A)) 24 (0, 0) (.int .u64 ((A / 6277101735386680763835789423207666416102355444464034512896 % 18446744073709551616 : Nat) : Int)) (by kernel_rfl) (by kernel_rfl) (by kernel_rfl) (by kernel_rfl) (by kernel_rfl) (by kernel_rfl) ?_
  refine s_val (some 35) (.int .i64 ((k : Nat) : Int)) (fun w => by kernel_rfl) (by kernel_rfl) ?_
  refine s_valE (some 36) (.int .i64 (if (0 : Int) > (((k : Nat) : Int) : Int) then (0 : Int) else (((k : Nat) : Int) : Int))) (.int .i64 ((k : Nat) : Int)) (fun w => by kernel_rfl) (int_eq (by split <;> omega)) (by kernel_rfl) ?_
  refine s_valE (some 37) (.int .u64 (IntKind.u64.wrap (((k : Nat) : Int)))) (.int .u64 ((k : Nat) : Int)) (fun w => by kernel_rfl) (int_eq (wrapN_u64 (a := k) (by omega))) (by kernel_rfl) ?_
  refine s_valE (some 38) (.int .u64 (Int.tmod ((k : Nat) : Int) 64)) (.int .u64 ((k % 64 : Nat) : Int)) (fun w => by kernel_rfl) (int_eq (remN k 64)) (by kernel_rfl) ?_
  refine s_valE (some 39) (.int .u64 (Int.fdiv ((A / 6277101735386680763835789423207666416102355444464034512896 % 18446744073709551616 : Nat) : Int) (2 ^ (min (k % 64) 64)))) (.int .u64 (((A / 6277101735386680763835789423207666416102355444464034512896 % 18446744073709551616) / 2 ^ (k % 64) : Nat) : Int)) (fun w => by kernel_rfl) (int_eq (shr_min (A / 6277101735386680763835789423207666416102355444464034512896 % 18446744073709551616) (k % 64) 64 (by omega))) (by kernel_rfl) ?_
  refine s_valE (some 40) (.int .u64 (Go.bits .and .u64 ((((A / 6277101735386680763835789423207666416102355444464034512896 % 18446744073709551616) / 2 ^ (k % 64) : Nat) : Int)) 1)) (.int .u64 ((((A / 6277101735386680763835789423207666416102355444464034512896 % 18446744073709551616) / 2 ^ (k % 64)) % 2 : Nat) : Int)) (fun w => by kernel_rfl) (int_eq (andN1 (a := (A / 6277101735386680763835789423207666416102355444464034512896 % 18446744073709551616) / 2 ^ (k % 64)) (by omega))) (by kernel_rfl) ?_
  refine s_valE (some 41) (.bool (((((A / 6277101735386680763835789423207666416102355444464034512896 % 18446744073709551616) / 2 ^ (k % 64)) % 2 : Nat) : Int) == 1)) (.bool (Nat.testBit A k)) (fun w => by kernel_rfl) (bool_eq (bit_q3 A k hq)) (by kernel_rfl) ?_
  refine s_val (some 42) (.bool (Nat.testBit A k)) (fun w => by kernel_rfl) (by kernel_rfl) ?_
  refine s_val (some 11) (.bool (Nat.testBit A k)) (fun w => by kernel_rfl) (by kernel_rfl) ?_
  refine s_nil ?_
  refine g_seq (by kernel_rfl) ?_
  refine D2.g_sdraw [0, 1, 2, 3, 4, 5, 6, 7, 8, 9, 10, 11, 12, 13, 14, 15, 16, 17, 18, 19, 20, 21, 22, 23, 24, 25, 26, 27, 28, 29] [((some 43), fun _ => uv A), ((some 44), fun _ => .string (bs A)), ((some 45), fun _ => uv A), ((some 46), fun _ => .string (bs A)), ((some 47), fun _ => .bool false), ((some 48), fun _ => .bool false), ((some 49), fun _ => uv A), ((some 50), fun _ => .int .i64 ((len A : Nat) : Int)), ((some 51), fun _ => uv A), ((some 52), fun _ => .int .i64 ((len A : Nat) : Int)), ((some 53), fun _ => .bool false), ((some 54), fun _ => .bool false), ((some 55), fun _ => .bool false), ((some 56), fun _ => uv A), ((some 57), fun _ => .int .i64 ((k : Nat) : Int)), ((some 58), fun _ => .bool (Nat.testBit A k)), ((some 59), fun _ => .bool (Nat.testBit A k)), ((some 60), fun _ => .bool false), ((some 61), fun _ => .bool false), ((some 62), fun _ => .bool false), ((some 63), fun _ => .int .u64 ((n : Nat) : Int)), ((some 64), fun _ => uv n), ((some 65), fun _ => .int .u64 ((n : Nat) : Int)), ((some 66), fun _ => uv n), ((some 67), fun _ => .bool false), ((some 68), fun _ => .bool false), ((some 69), fun _ => .bool false), ((some 70), fun _ => .bool true), ((some 71), fun _ => .bool false), ((some 72), fun _ => .bool false)] (D2.Pre w.heap.size w (fun L g => [(true, (b2, Obj.cells #[.int .u64 0, .int .u64 0, .int .u64 0, .int .u64 0] 24 (0, 0))), (true, (b1, Obj.cells (Value.cells (uv A)) 24 (0, 0)))]) (fun L g => True)) (by kernel_rfl) (by kernel_rfl) (by kernel_rfl) (by kernel_rfl) ⟨D2.StE.of H4.drew _ (by kernel_rfl), trivial⟩ ⟨?_, ?_, ?_, ?_, ?_, ?_, ?_, ?_, ?_, ?_, ?_, ?_, ?_, ?_, ?_, ?_, ?_, ?_, ?_, ?_, ?_, ?_, ?_, ?_, ?_, ?_, ?_, ?_, ?_, ?_, trivial⟩ ?_
  · exact D2.gv_load 24 (.tmp 4) 1 (fun g => b1) (Value.cells (uv A)) 24 (0, 0) (fun _ _ _ h => h) (fun g => by kernel_rfl) (fun g => by kernel_rfl) (fun L g hN => (by kernel_rfl)) (by kernel_rfl)
  · exact D2.gv_call 14 #[uv A] (fun _ _ _ h => h) (bytes_any A hA) (fun g w => by kernel_rfl)
  · exact D2.gv_load 24 (.tmp 4) 1 (fun g => b1) (Value.cells (uv A)) 24 (0, 0) (fun _ _ _ h => h) (fun g => by kernel_rfl) (fun g => by kernel_rfl) (fun L g hN => (by kernel_rfl)) (by kernel_rfl)
  · exact D2.gv_call 15 #[uv A] (fun _ _ _ h => h) (refbytes_fn A hA) (fun g w => by kernel_rfl)
  · exact D2.gv_valE (fun _ _ _ h => h) (V' := .bool (!(ByteArray.toList (bs A) == ByteArray.toList (bs A)))) (fun g w => by kernel_rfl) (bool_eq (by rw [str_self (bs A)]; rfl))
  · exact D2.gv_val (fun _ _ _ h => h) (fun g w => by kernel_rfl)
  · exact D2.gv_load 24 (.tmp 4) 1 (fun g => b1) (Value.cells (uv A)) 24 (0, 0) (fun _ _ _ h => h) (fun g => by kernel_rfl) (fun g => by kernel_rfl) (fun L g hN => (by kernel_rfl)) (by kernel_rfl)
  · exact D2.gv_call 16 #[uv A] (fun _ _ _ h => h) (len_fn A hA) (fun g w => by kernel_rfl)
  · exact D2.gv_load 24 (.tmp 4) 1 (fun g => b1) (Value.cells (uv A)) 24 (0, 0) (fun _ _ _ h => h) (fun g => by kernel_rfl) (fun g => by kernel_rfl) (fun L g hN => (by kernel_rfl)) (by kernel_rfl)
  · exact D2.gv_call 17 #[uv A] (fun _ _ _ h => h) (refbits_fn A hA) (fun g w => by kernel_rfl)
  · exact D2.gv_valE (fun _ _ _ h => h) (V' := .bool (!(((len A : Nat) : Int) == ((len A : Nat) : Int)))) (fun g w => by kernel_rfl) (bool_eq (by rw [beq_iff_eq.2 (by omega)]; rfl))
  · exact D2.gv_val (fun _ _ _ h => h) (fun g w => by kernel_rfl)
  · exact D2.gv_val (fun _ _ _ h => h) (fun g w => by kernel_rfl)
  · exact D2.gv_load 24 (.tmp 4) 1 (fun g => b1) (Value.cells (uv A)) 24 (0, 0) (fun _ _ _ h => h) (fun g => by kernel_rfl) (fun g => by kernel_rfl) (fun L g hN => (by kernel_rfl)) (by kernel_rfl)
  · exact D2.gv_val (fun _ _ _ h => h) (fun g w => by kernel_rfl)
  · exact D2.gv_call 18 #[uv A, .int .i64 ((k : Nat) : Int)] (fun _ _ _ h => h) (bit_some A k hk) (fun g w => by kernel_rfl)
  · exact D2.gv_val (fun _ _ _ h => h) (fun g w => by kernel_rfl)
  · exact D2.gv_valE (fun _ _ _ h => h) (V' := .bool (!(Nat.testBit A k == Nat.testBit A k))) (fun g w => by kernel_rfl) (bool_eq (by rw [beq_self_eq_true]; rfl))
  · exact D2.gv_val (fun _ _ _ h => h) (fun g w => by kernel_rfl)
  · exact D2.gv_val (fun _ _ _ h => h) (fun g w => by kernel_rfl)
  · exact D2.gv_val (fun _ _ _ h => h) (fun g w => by kernel_rfl)
  · exact D2.gv_call 19 #[.int .u64 ((n : Nat) : Int)] (fun _ _ _ h => h) (small_fn n (by omega)) (fun g w => by kernel_rfl)
  · exact D2.gv_val (fun _ _ _ h => h) (fun g w => by kernel_rfl)
  · exact D2.gv_valE (fun _ _ _ h => h) (V' := .agg #[.int .u64 ((n : Nat) : Int), .int .u64 0, .int .u64 0, .int .u64 0]) (fun g w => by kernel_rfl) (uv_small n (by omega))
  · exact D2.gv_opE (fun _ _ _ h => h) _ (V' := .bool (!decide (n = n))) (fun g => by kernel_rfl) (fun g => (fun o w ho => neU_run (x := (.tmp 64)) (y := (.tmp 66)) n n (by unfold big; omega) (by unfold big; omega) w ho (by kernel_rfl) (by kernel_rfl))) (by rw [decide_eq_true rfl] <;> rfl)
  · exact D2.gv_val (fun _ _ _ h => h) (fun g w => by kernel_rfl)
  · exact D2.gv_val (fun _ _ _ h => h) (fun g w => by kernel_rfl)
  · exact D2.gv_call 8 #[] (fun _ _ _ h => h) alive_any (fun g w => by kernel_rfl)
  · exact D2.gv_val (fun _ _ _ h => h) (fun g w => by kernel_rfl)
  · exact D2.gv_val (fun _ _ _ h => h) (fun g w => by kernel_rfl)
  intro L0 G5 w5 hall HL; clear H4
  have H5 : St w.heap.size w w5 [(b2, Obj.cells #[.int .u64 0, .int .u64 0, .int .u64 0, .int .u64 0] 24 (0, 0)), (b1, Obj.cells (Value.cells (uv A)) 24 (0, 0))] := D2.StE.st HL.1
  clear HL hall
  refine g_cond_f (by kernel_rfl) (by kernel_rfl) ?_
  refine g_skip (by kernel_rfl) ?_
  show WP _ _ _ _ _ _
  refine g_seq (by kernel_rfl) ?_
  refine g_sreg [0, 1, 2] (by kernel_rfl) (by kernel_rfl) ?_
  refine s_val (some 73) (.string (ByteArray.extract s 0 (min (ByteArray.size s) 40))) (fun w => by kernel_rfl) (by kernel_rfl) ?_
  refine s_val (some 74) (.int .i64 ((ByteArray.size (ByteArray.extract s 0 (min (ByteArray.size s) 40)) : Nat) : Int)) (fun w => by kernel_rfl) (by kernel_rfl) ?_
  refine s_valE (some 75) (.bool (decide (32 < ((ByteArray.size (ByteArray.extract s 0 (min (ByteArray.size s) 40)) : Nat) : Int)))) (.bool true) (fun w => by kernel_rfl) (bool_eq (decide_eq_true (by omega))) (by kernel_rfl) ?_
  refine s_nil ?_
  refine g_cond_t (by kernel_rfl) (by kernel_rfl) ?_
  refine g_sreg [0, 1, 2, 3, 4, 5, 6, 7] (by kernel_rfl) (by kernel_rfl) ?_
  refine s_val (some 76) (.int .i64 4) (fun w => by kernel_rfl) (by kernel_rfl) ?_
  refine s_val (some 77) (.bool true) (fun w => by kernel_rfl) (by kernel_rfl) ?_
  refine s_val (some 78) (.bool true) (fun w => by kernel_rfl) (by kernel_rfl) ?_
  refine s_load H5 (some 79) 24 (.tmp 9) 0 b2 #[.int .u64 0, .int .u64 0, .int .u64 0, .int .u64 0] 24 (0, 0) (by kernel_rfl) (by kernel_rfl) (by kernel_rfl) (by kernel_rfl) (by kernel_rfl) ?_
  refine s_val (some 80) (.agg #[.int .u64 0, .int .u64 0, .int .u64 0, .int .u64 0]) (fun w => by kernel_rfl) (by kernel_rfl) ?_
  refine s_opE (some 81) _ (.bool (decide (0 = 0))) (.bool true) (by kernel_rfl) (fun o w ho => eqU_run (x := (.tmp 79)) (y := (.tmp 80)) 0 0 (by unfold big; omega) (by unfold big; omega) w ho (by kernel_rfl) (by kernel_rfl)) (by rw [decide_eq_true rfl] <;> rfl) (by kernel_rfl) ?_
  refine s_val (some 82) (.bool true) (fun w => by kernel_rfl) (by kernel_rfl) ?_
  refine s_val (some 8) (.bool true) (fun w => by kernel_rfl) (by kernel_rfl) ?_
  refine s_nil ?_
  refine g_ret (by kernel_rfl) ?_
  show ∃ vs, Res _ _ _ _ vs ∧ _
  refine ⟨[.bool true], (.tmp (.bool true) (by kernel_rfl) .nil), ?_, H5.below⟩
  rfl

theorem bytes_walk (A : Nat) (hA : A < big) (s : ByteArray) (hs : ByteArray.size s ≤ 9223372036854775807) (i : Int) (n : Nat) (hn : n < 18446744073709551616) (w : World) : Calls Try.prog 4 #[uv A, .string s, .int .i64 i, .int .u64 ((n : Nat) : Int)] w fun e w' => e = .returned (.bool true) ∧ Below w.heap.size w w' := by
  by_cases hle : ByteArray.size (ByteArray.extract s 0 (min (ByteArray.size s) 40)) ≤ 32
  · skip
    by_cases h0 : i < 0
    · exact bytes_slo A hA s hs i h0 n hn hle w
    · by_cases h1 : 256 ≤ i
      · exact bytes_shi A hA s hs i h1 n hn hle w
      · obtain ⟨k, rfl⟩ := Int.eq_ofNat_of_zero_le (show 0 ≤ i by omega)
        have hk : k < 256 := by omega
        have hq : k / 64 = 0 ∨ k / 64 = 1 ∨ k / 64 = 2 ∨ k / 64 = 3 := by omega
        rcases hq with hq | hq | hq | hq
        · exact bytes_s0 A hA s hs k hk hq n hn hle w
        · exact bytes_s1 A hA s hs k hk hq n hn hle w
        · exact bytes_s2 A hA s hs k hk hq n hn hle w
        · exact bytes_s3 A hA s hs k hk hq n hn hle w
  · skip
    have hgt : 32 < ByteArray.size (ByteArray.extract s 0 (min (ByteArray.size s) 40)) := by omega
    by_cases h0 : i < 0
    · exact bytes_llo A hA s hs i h0 n hn hgt w
    · by_cases h1 : 256 ≤ i
      · exact bytes_lhi A hA s hs i h1 n hn hgt w
      · obtain ⟨k, rfl⟩ := Int.eq_ofNat_of_zero_le (show 0 ≤ i by omega)
        have hk : k < 256 := by omega
        have hq : k / 64 = 0 ∨ k / 64 = 1 ∨ k / 64 = 2 ∨ k / 64 = 3 := by omega
        rcases hq with hq | hq | hq | hq
        · exact bytes_l0 A hA s hs k hk hq n hn hgt w
        · exact bytes_l1 A hA s hs k hk hq n hn hgt w
        · exact bytes_l2 A hA s hs k hk hq n hn hgt w
        · exact bytes_l3 A hA s hs k hk hq n hn hgt w
end Go.Proofs.Ythomanpefekaaaa
