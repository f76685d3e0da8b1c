/-
  The reference of layer 2.
-/
import Derived.Test.YtljhbhhpfkmemaaNum
import Derived.Test.YtljhbhhpfkmemaaUlib
import Derived.Test.YtljhbhhpfkmemaaRefM
import Derived.Test.YtljhbhhpfkmemaaRefL
import Derived.Test.YtljhbhhpfkmemaaFieldM
namespace Go.Proofs.Ytljhbhhpfkmemaa
open Go Go.RowKit
set_option linter.unusedVariables false
theorem fSub_ref {A B M : Nat} (hM : 0 < M) (h : B ≤ A + (M + M)) : (A + (M + M) - B) % M = fSub A B M := by
  unfold fSub
  · have h1 := Nat.mod_lt B hM
    have h2 := Nat.div_add_mod B M
    have h3 : A + (M + M) - B + M * (B / M) = A + (M - B % M) + M := by omega
    have h4 : (A + (M + M) - B) % M = (A + (M + M) - B + M * (B / M)) % M := by rw [Nat.add_mul_mod_self_left]
    rw [h4, h3, Nat.add_mod_right]; exact (Nat.mod_add_mod A M _).symm

set_option maxRecDepth 100000 in
set_option maxHeartbeats 2000000 in
theorem modulus0_fn  : Fn Try.prog 48 #[.int .i64 0] (uv PR) := by
  refine Fn.intro (c := codeOf Try.f48) [.cell 2 24] 7 Try.func48 kr kr kr fun w => ?_
  have H0 := St.start w
  refine g_sreg [0] kr kr ?_
  refine s_alloc H0 (some 2) 24 (.agg Z4) kr kr kr ?_
  intro b1 w1 H1; clear H0
  refine s_nil ?_
  refine g_seq kr ?_
  refine g_sreg [0, 1] kr kr ?_
  refine s_val (some 3) (.int .i64 0) (fun w => kr) kr ?_
  refine s_val (some 4) (.bool true) (fun w => kr) kr ?_
  refine s_nil ?_
  refine g_cond_t kr kr ?_
  refine g_sreg [0, 1] kr kr ?_
  refine s_val (some 5) (.agg #[.int .u64 18446744069414583343, .int .u64 18446744073709551615, .int .u64 18446744073709551615, .int .u64 18446744073709551615]) (fun w => kr) kr ?_
  refine s_store H1 0 [(b1, Obj.cells #[.int .u64 18446744069414583343, .int .u64 18446744073709551615, .int .u64 18446744073709551615, .int .u64 18446744073709551615] 24 (0, 0))] 24 (.tmp 2) (.tmp 5) b1 (0) Z4 #[.int .u64 18446744069414583343, .int .u64 18446744073709551615, .int .u64 18446744073709551615, .int .u64 18446744073709551615] 24 (.agg #[.int .u64 18446744069414583343, .int .u64 18446744073709551615, .int .u64 18446744073709551615, .int .u64 18446744073709551615]) kr kr kr kr kr kr (of_decide_eq_true kr) kr kr ?_
  intro w2 H2; clear H1
  refine s_nil ?_
  refine g_ret kr ?_
  show ∃ vs, Res _ _ _ _ vs ∧ _
  refine ⟨[.agg #[.int .u64 18446744069414583343, .int .u64 18446744073709551615, .int .u64 18446744073709551615, .int .u64 18446744073709551615]], (.agg (b := b1) #[.int .u64 18446744069414583343, .int .u64 18446744073709551615, .int .u64 18446744073709551615, .int .u64 18446744073709551615] 24 (0, 0) kr (H2.get 0 kr) kr .nil), ?_, H2.below⟩
  kernel_rfl

set_option maxRecDepth 100000 in
set_option maxHeartbeats 2000000 in
theorem left020_fn (x : List Nat) (ba nx ca : Nat) (curA : Array Value) (hnx : nx = List.length x) (hA : Rw 1 curA ca nx (cellsD x)) (lx : List.length x ≤ 2000) (hx : Ok x) : FnP Try.prog 65 #[.slice (some ⟨ba, 0, none⟩) nx ca, .int .i64 0] (fun w => w.heap[ba]? = some (.cells curA 3 (0, 0))) (uv (vl x % PR)) := by
  subst hnx
  have hp : PR < big ∧ big < 2 * PR := pr_ok
  have hq : NR < big ∧ big < 2 * NR := nr_ok
  have hbig : 2 < big := by unfold big; omega
  refine FnP.intro (c := codeOf Try.f65) [.cell 4 24] 11 Try.func65 kr kr kr fun w hpre => ?_
  have H0 := St.start w
  refine g_sreg [0] kr kr ?_
  refine s_alloc H0 (some 4) 24 (.agg Z4) kr kr kr ?_
  intro b1 w1 H1; clear H0
  refine s_nil ?_
  refine g_sreg [0, 1, 2, 3, 4, 5, 6] kr kr ?_
  refine s_val (some 5) (.slice (some ⟨ba, 0, none⟩) (List.length x) ca) (fun w => kr) kr ?_
  refine s_val (some 6) (.int .i64 0) (fun w => kr) kr ?_
  refine s_call H1 (some 7) 48 #[.int .i64 0] (uv PR) modulus0_fn (fun w => kr) kr ?_
  intro w2 H2; clear H1
  refine s_callS H2 (some 8) 47 #[uv PR] (fun _ => True) 3 1 (fun curZ capZ nZ lZ => (nZ = List.length lZ ∧ Rw 1 curZ capZ nZ (cellsD lZ) ∧ Ok lZ ∧ (lZ = dgs PR 16 ∧ vl lZ = PR ∧ List.length lZ = 16))) (of_fn PR pr_ok.1) trivial kr kr ?_
  intro b_1 cap_2 n_3 cur_4 l_5 w3 H3 hs_6; clear H2
  obtain ⟨hs_6n, hs_6r, hs_6o, hs_6s⟩ := hs_6
  obtain ⟨hs_6a, hs_6b, hs_6c⟩ := hs_6s
  refine s_callS H3 (some 9) 72 #[.slice (some ⟨ba, 0, none⟩) (List.length x) ca, .slice (some ⟨b_1, 0, none⟩) n_3 cap_2] (fun w => w.heap[ba]? = some (.cells curA 3 (0, 0)) ∧ w.heap[b_1]? = some (.cells cur_4 3 (0, 0))) 3 1 (fun curZ capZ nZ lZ => (nZ = List.length lZ ∧ Rw 1 curZ capZ nZ (cellsD lZ) ∧ Ok lZ ∧ (vl lZ = vl x % vl l_5 ∧ 1 ≤ List.length lZ ∧ List.length lZ ≤ List.length l_5))) (left_fn x l_5 ba (List.length x) ca b_1 n_3 cap_2 curA cur_4 rfl hs_6n hA hs_6r hx hs_6o (by omega) (by omega) (by omega) (by omega)) (⟨(H3.old hpre (lt_of_heap hpre)), (H3.get 0 kr)⟩) kr kr ?_
  intro b_7 cap_8 n_9 cur_10 l_11 w4 H4 hs_12; clear H3
  obtain ⟨hs_12n, hs_12r, hs_12o, hs_12s⟩ := hs_12
  refine s_callP H4 (some 10) 71 #[.slice (some ⟨b_7, 0, none⟩) n_9 cap_8] (fun w => w.heap[b_7]? = some (.cells cur_10 3 (0, 0))) (uv (vl x % PR)) (by have hnum := to_fn l_11 b_7 n_9 cap_8 cur_10 hs_12n hs_12r (by omega) hs_12o; have heq : (vl l_11 % big) = (vl x % PR) := (by have hlt := Nat.mod_lt (vl x) (show 0 < PR by omega); rw [show vl l_11 = vl x % PR by rw [← hs_6b]; exact hs_12s.1]; exact Nat.mod_eq_of_lt (by omega)); rw [heq] at hnum; exact hnum) (H4.get 0 kr) (fun w => kr) kr ?_
  intro w5 H5; clear H4
  refine s_store H5 2 [(b_7, Od cur_10 3), (b_1, Od cur_4 3), (b1, Oc (uv (vl x % PR)) 24)] 24 (.tmp 4) (.tmp 10) b1 (0) Z4 (Value.cells (uv (vl x % PR))) 24 (uv (vl x % PR)) kr kr kr kr kr kr (of_decide_eq_true kr) kr kr ?_
  intro w6 H6; clear H5
  refine s_nil ?_
  refine g_ret kr ?_
  show ∃ vs, Res _ _ _ _ vs ∧ _
  refine ⟨[uv (vl x % PR)], (.agg (b := b1) (Value.cells (uv (vl x % PR))) 24 (0, 0) kr (H6.get 2 kr) kr .nil), ?_, H6.below⟩
  rfl

set_option maxRecDepth 100000 in
set_option maxHeartbeats 2000000 in
theorem radd0_fn (A B : Nat) (hA : A < big) (hB : B < big) : Fn Try.prog 54 #[uv A, uv B, .int .i64 0] (uv (fAdd A B PR)) := by
  have hp : PR < big ∧ big < 2 * PR := pr_ok
  have hq : NR < big ∧ big < 2 * NR := nr_ok
  have hbig : 2 < big := by unfold big; omega
  refine Fn.intro (c := codeOf Try.f54) [.cell 6 24] 14 Try.func54 kr kr kr fun w => ?_
  have H0 := St.start w
  refine g_sreg [0, 1, 2] kr kr ?_
  refine s_box H0 (some 3) 24 (.tmp 0) (uv A) kr kr kr ?_
  intro b1 w1 H1; clear H0
  refine s_box H1 (some 4) 24 (.tmp 1) (uv B) kr kr kr ?_
  intro b2 w2 H2; clear H1
  refine s_alloc H2 (some 6) 24 (.agg Z4) kr kr kr ?_
  intro b3 w3 H3; clear H2
  refine s_nil ?_
  refine D2.g_sdraw [0, 1, 2, 3, 4, 5, 6, 7] [((some 7), fun _ => uv A), ((some 8), fun x => .slice (some ⟨x.b, 0, none⟩) x.n x.cap), ((some 9), fun _ => uv B), ((some 10), fun x => .slice (some ⟨x.b, 0, none⟩) x.n x.cap), ((some 11), fun x => .slice (some ⟨x.b, 0, none⟩) x.n x.cap), ((some 12), fun _ => .int .i64 0), ((some 13), fun _ => uv (fAdd A B PR)), (none, fun _ => undef)] (D2.Pre w.heap.size w (fun L g => [(true, (bif L 7 then (b3, Oc (uv (fAdd A B PR)) 24) else (b3, Od Z4 24))), (true, (b2, Oc (uv B) 24)), (true, (b1, Oc (uv A) 24)), (L 1, ((g 1).b, Od ((g 1).cur) 3)), (L 3, ((g 3).b, Od ((g 3).cur) 3)), (L 4, ((g 4).b, Od ((g 4).cur) 3))]) (fun L g => (L 1 = true → ((g 1).n = List.length ((g 1).l) ∧ Rw 1 (g 1).cur (g 1).cap (g 1).n (cellsD ((g 1).l)) ∧ Ok ((g 1).l) ∧ ((g 1).l = dgs A 16 ∧ vl ((g 1).l) = A ∧ List.length ((g 1).l) = 16))) ∧ (L 3 = true → ((g 3).n = List.length ((g 3).l) ∧ Rw 1 (g 3).cur (g 3).cap (g 3).n (cellsD ((g 3).l)) ∧ Ok ((g 3).l) ∧ ((g 3).l = dgs B 16 ∧ vl ((g 3).l) = B ∧ List.length ((g 3).l) = 16))) ∧ (L 4 = true → ((g 4).n = List.length ((g 4).l) ∧ Rw 1 (g 4).cur (g 4).cap (g 4).n (cellsD ((g 4).l)) ∧ Ok ((g 4).l) ∧ (vl ((g 4).l) = vl ((g 1).l) + vl ((g 3).l) ∧ List.length ((g 4).l) ≤ max (List.length ((g 1).l)) (List.length ((g 3).l)) + 1 ∧ max (List.length ((g 1).l)) (List.length ((g 3).l)) ≤ List.length ((g 4).l)))) ∧ True)) kr kr kr kr ⟨D2.StE.of H3.drew _ kr, ⟨(fun h => nomatch h), (fun h => nomatch h), (fun h => nomatch h), trivial⟩⟩ ⟨?_, ?_, ?_, ?_, ?_, ?_, ?_, ?_, trivial⟩ ?_
  · exact D2.gv_load 24 (.tmp 3) 2 (fun g => b1) (Value.cells (uv A)) 24 (0, 0) (fun _ _ _ h => h) (fun g => kr) (fun g => kr) (fun L g hN => kr) kr
  · exact D2.gv_callS 47 (fun g => #[uv A]) (fun g => fun _ => True) 3 1 (fun g curZ capZ nZ lZ => (nZ = List.length lZ ∧ Rw 1 curZ capZ nZ (cellsD lZ) ∧ Ok lZ ∧ (lZ = dgs A 16 ∧ vl lZ = A ∧ List.length lZ = 16))) 3 (fun L g hN hF => by exact of_fn A hA) (fun L g w hN hE hF => by exact trivial) (fun g w => kr) (fun L g x hN => kr) (fun L g x hN hF hS => ⟨fun _ => hS, hF.2.1, (fun hx => nomatch (Eq.trans (Eq.symm (show L 4 = true from hx)) (hN.post 4 kr))), trivial⟩)
  · exact D2.gv_load 24 (.tmp 4) 1 (fun g => b2) (Value.cells (uv B)) 24 (0, 0) (fun _ _ _ h => h) (fun g => kr) (fun g => kr) (fun L g hN => kr) kr
  · exact D2.gv_callS 47 (fun g => #[uv B]) (fun g => fun _ => True) 3 1 (fun g curZ capZ nZ lZ => (nZ = List.length lZ ∧ Rw 1 curZ capZ nZ (cellsD lZ) ∧ Ok lZ ∧ (lZ = dgs B 16 ∧ vl lZ = B ∧ List.length lZ = 16))) 4 (fun L g hN hF => by exact of_fn B hB) (fun L g w hN hE hF => by exact trivial) (fun g w => kr) (fun L g x hN => kr) (fun L g x hN hF hS => ⟨hF.1, fun _ => hS, (fun hx => nomatch (Eq.trans (Eq.symm (show L 4 = true from hx)) (hN.post 4 kr))), trivial⟩)
  · exact D2.gv_callS 67 (fun g => #[.slice (some ⟨(g 1).b, 0, none⟩) ((g 1).n) ((g 1).cap), .slice (some ⟨(g 3).b, 0, none⟩) ((g 3).n) ((g 3).cap)]) (fun g => fun w => w.heap[(g 1).b]? = some (.cells (g 1).cur 3 (0, 0)) ∧ w.heap[(g 3).b]? = some (.cells (g 3).cur 3 (0, 0))) 3 1 (fun g curZ capZ nZ lZ => (nZ = List.length lZ ∧ Rw 1 curZ capZ nZ (cellsD lZ) ∧ Ok lZ ∧ (vl lZ = vl ((g 1).l) + vl ((g 3).l) ∧ List.length lZ ≤ max (List.length ((g 1).l)) (List.length ((g 3).l)) + 1 ∧ max (List.length ((g 1).l)) (List.length ((g 3).l)) ≤ List.length lZ))) 5 (fun L g hN hF => by have hf1 := (hF.1 (hN.bef 1 kr)); have hf3 := (hF.2.1 (hN.bef 3 kr)); exact sum_fn ((g 1).l) ((g 3).l) ((g 1).b) ((g 1).n) ((g 1).cap) ((g 3).b) ((g 3).n) ((g 3).cap) ((g 1).cur) ((g 3).cur) hf1.1 hf3.1 hf1.2.1 hf3.2.1 hf1.2.2.1 hf3.2.2.1 (by have := hf1.2.2.2; omega) (by have := hf3.2.2.2; omega)) (fun L g w hN hE hF => by have hf1 := (hF.1 (hN.bef 1 kr)); have hf3 := (hF.2.1 (hN.bef 3 kr)); exact ⟨(hE.get 3 (by have hL1 : L 1 = true := (hN.bef 1 kr); exact D2.ent_get' (p := L 1) (e := ((g 1).b, Od ((g 1).cur) 3)) kr (by exact hL1) (by simp only [hL1, cond_true, cond_false] <;> rfl))), (hE.get 4 (by have hL3 : L 3 = true := (hN.bef 3 kr); exact D2.ent_get' (p := L 3) (e := ((g 3).b, Od ((g 3).cur) 3)) kr (by exact hL3) (by simp only [hL3, cond_true, cond_false] <;> rfl)))⟩) (fun g w => kr) (fun L g x hN => kr) (fun L g x hN hF hS => ⟨hF.1, hF.2.1, fun _ => hS, trivial⟩)
  · exact D2.gv_val (fun _ _ _ h => h) (fun g w => kr)
  · exact D2.gv_callP 65 (fun g => #[.slice (some ⟨(g 4).b, 0, none⟩) ((g 4).n) ((g 4).cap), .int .i64 0]) (fun g => fun w => w.heap[(g 4).b]? = some (.cells (g 4).cur 3 (0, 0))) (fun _ _ _ h => h) (fun L g hN hF => by have hf4 := (hF.2.2.1 (hN.bef 4 kr)); have hf1 := (hF.1 (hN.2.2.yes 1 4 kr (hN.bef 4 kr))); have hf3 := (hF.2.1 (hN.2.2.yes 3 4 kr (hN.bef 4 kr))); exact (by have hnum := left020_fn ((g 4).l) ((g 4).b) ((g 4).n) ((g 4).cap) ((g 4).cur) hf4.1 hf4.2.1 (by have := hf4.2.2.2; omega) hf4.2.2.1; have heq : (vl ((g 4).l) % PR) = (fAdd A B PR) := (by have e1 := hf1.2.2.2; have e3 := hf3.2.2.2; have e4 := hf4.2.2.2; unfold fAdd; rw [show vl ((g 4).l) = A + B by omega]); rw [heq] at hnum; exact hnum)) (fun L g w hN hE hF => by have hf4 := (hF.2.2.1 (hN.bef 4 kr)); have hf1 := (hF.1 (hN.2.2.yes 1 4 kr (hN.bef 4 kr))); have hf3 := (hF.2.1 (hN.2.2.yes 3 4 kr (hN.bef 4 kr))); exact (hE.get 5 (by have hL4 : L 4 = true := (hN.bef 4 kr); exact D2.ent_get' (p := L 4) (e := ((g 4).b, Od ((g 4).cur) 3)) kr (by exact hL4) (by simp only [hL4, cond_true, cond_false] <;> rfl)))) (fun g w => kr)
  · exact D2.gv_store 0 24 (.tmp 6) (.tmp 13) (fun g => b3) (fun g => 0) Z4 (Value.cells (uv (fAdd A B PR))) 24 (uv (fAdd A B PR)) (fun g => kr) (fun g => kr) (fun g => kr) kr kr (fun g => (of_decide_eq_true kr)) (fun g => kr) (fun L g hN => ⟨(by have hL7 : L 7 = false := hN.1; exact D2.ent_get' (p := true) (e := (bif L 7 then (b3, Oc (uv (fAdd A B PR)) 24) else (b3, Od Z4 24))) kr (by rfl) (by simp only [hL7, cond_true, cond_false] <;> rfl)), kr⟩) (fun L g hN hF => hF)
  intro L0 G4 w4 hall HL; clear H3
  have H4 : St w.heap.size w w4 [(b3, Oc (uv (fAdd A B PR)) 24), (b2, Oc (uv B) 24), (b1, Oc (uv A) 24), ((G4 1).b, Od ((G4 1).cur) 3), ((G4 3).b, Od ((G4 3).cur) 3), ((G4 4).b, Od ((G4 4).cur) 3)] := by have e1 := hall 1 (Nat.le_of_ble_eq_true kr); have e3 := hall 3 (Nat.le_of_ble_eq_true kr); have e4 := hall 4 (Nat.le_of_ble_eq_true kr); have e7 := hall 7 (Nat.le_of_ble_eq_true kr); have hS := D2.StE.st HL.1; simp only [e1, e3, e4, e7, cond_true, D2.pres] at hS; exact hS
  have hf1_4 : ((G4 1).n = List.length ((G4 1).l) ∧ Rw 1 (G4 1).cur (G4 1).cap (G4 1).n (cellsD ((G4 1).l)) ∧ Ok ((G4 1).l) ∧ ((G4 1).l = dgs A 16 ∧ vl ((G4 1).l) = A ∧ List.length ((G4 1).l) = 16)) := HL.2.1 (hall 1 (Nat.le_of_ble_eq_true kr))
  have hf3_4 : ((G4 3).n = List.length ((G4 3).l) ∧ Rw 1 (G4 3).cur (G4 3).cap (G4 3).n (cellsD ((G4 3).l)) ∧ Ok ((G4 3).l) ∧ ((G4 3).l = dgs B 16 ∧ vl ((G4 3).l) = B ∧ List.length ((G4 3).l) = 16)) := HL.2.2.1 (hall 3 (Nat.le_of_ble_eq_true kr))
  have hf4_4 : ((G4 4).n = List.length ((G4 4).l) ∧ Rw 1 (G4 4).cur (G4 4).cap (G4 4).n (cellsD ((G4 4).l)) ∧ Ok ((G4 4).l) ∧ (vl ((G4 4).l) = vl ((G4 1).l) + vl ((G4 3).l) ∧ List.length ((G4 4).l) ≤ max (List.length ((G4 1).l)) (List.length ((G4 3).l)) + 1 ∧ max (List.length ((G4 1).l)) (List.length ((G4 3).l)) ≤ List.length ((G4 4).l))) := HL.2.2.2.1 (hall 4 (Nat.le_of_ble_eq_true kr))
  clear HL hall
  refine g_ret kr ?_
  show ∃ vs, Res _ _ _ _ vs ∧ _
  refine ⟨[uv (fAdd A B PR)], (.agg (b := b3) (Value.cells (uv (fAdd A B PR))) 24 (0, 0) kr (H4.get 0 kr) kr .nil), ?_, H4.below⟩
  rfl

set_option maxRecDepth 100000 in
set_option maxHeartbeats 2000000 in
theorem rsub0_fn (A B : Nat) (hA : A < big) (hB : B < big) : Fn Try.prog 58 #[uv A, uv B, .int .i64 0] (uv (fSub A B PR)) := by
  have hp : PR < big ∧ big < 2 * PR := pr_ok
  have hq : NR < big ∧ big < 2 * NR := nr_ok
  have hbig : 2 < big := by unfold big; omega
  refine Fn.intro (c := codeOf Try.f58) [.cell 6 24] 24 Try.func58 kr kr kr fun w => ?_
  have H0 := St.start w
  refine g_sreg [0, 1, 2] kr kr ?_
  refine s_box H0 (some 3) 24 (.tmp 0) (uv A) kr kr kr ?_
  intro b1 w1 H1; clear H0
  refine s_box H1 (some 4) 24 (.tmp 1) (uv B) kr kr kr ?_
  intro b2 w2 H2; clear H1
  refine s_alloc H2 (some 6) 24 (.agg Z4) kr kr kr ?_
  intro b3 w3 H3; clear H2
  refine s_nil ?_
  refine g_sreg [0, 1, 2, 3] kr kr ?_
  refine s_val (some 9) (.int .i64 0) (fun w => kr) kr ?_
  refine s_call H3 (some 10) 48 #[.int .i64 0] (uv PR) modulus0_fn (fun w => kr) kr ?_
  intro w4 H4; clear H3
  refine s_callS H4 (some 11) 47 #[uv PR] (fun _ => True) 3 1 (fun curZ capZ nZ lZ => (nZ = List.length lZ ∧ Rw 1 curZ capZ nZ (cellsD lZ) ∧ Ok lZ ∧ (lZ = dgs PR 16 ∧ vl lZ = PR ∧ List.length lZ = 16))) (of_fn PR pr_ok.1) trivial kr kr ?_
  intro b_1 cap_2 n_3 cur_4 l_5 w5 H5 hs_6; clear H4
  obtain ⟨hs_6n, hs_6r, hs_6o, hs_6s⟩ := hs_6
  obtain ⟨hs_6a, hs_6b, hs_6c⟩ := hs_6s
  refine s_val (some 7) (.slice (some ⟨b_1, 0, none⟩) n_3 cap_2) (fun w => kr) kr ?_
  refine s_nil ?_
  refine g_sreg [0, 1, 2, 3, 4, 5, 6] kr kr ?_
  refine s_load H5 (some 12) 24 (.tmp 3) 3 b1 (Value.cells (uv A)) 24 (0, 0) kr kr kr kr kr ?_
  refine s_callS H5 (some 13) 47 #[uv A] (fun _ => True) 3 1 (fun curZ capZ nZ lZ => (nZ = List.length lZ ∧ Rw 1 curZ capZ nZ (cellsD lZ) ∧ Ok lZ ∧ (lZ = dgs A 16 ∧ vl lZ = A ∧ List.length lZ = 16))) (of_fn A hA) trivial kr kr ?_
  intro b_7 cap_8 n_9 cur_10 l_11 w6 H6 hs_12; clear H5
  obtain ⟨hs_12n, hs_12r, hs_12o, hs_12s⟩ := hs_12
  obtain ⟨hs_12a, hs_12b, hs_12c⟩ := hs_12s
  refine s_val (some 14) (.slice (some ⟨b_1, 0, none⟩) n_3 cap_2) (fun w => kr) kr ?_
  refine s_val (some 15) (.slice (some ⟨b_1, 0, none⟩) n_3 cap_2) (fun w => kr) kr ?_
  refine s_callS H6 (some 16) 67 #[.slice (some ⟨b_1, 0, none⟩) n_3 cap_2, .slice (some ⟨b_1, 0, none⟩) n_3 cap_2] (fun w => w.heap[b_1]? = some (.cells cur_4 3 (0, 0)) ∧ w.heap[b_1]? = some (.cells cur_4 3 (0, 0))) 3 1 (fun curZ capZ nZ lZ => (nZ = List.length lZ ∧ Rw 1 curZ capZ nZ (cellsD lZ) ∧ Ok lZ ∧ (vl lZ = vl l_5 + vl l_5 ∧ List.length lZ ≤ max (List.length l_5) (List.length l_5) + 1 ∧ max (List.length l_5) (List.length l_5) ≤ List.length lZ))) (sum_fn l_5 l_5 b_1 n_3 cap_2 b_1 n_3 cap_2 cur_4 cur_4 hs_6n hs_6n hs_6r hs_6r hs_6o hs_6o (by omega) (by omega)) (⟨(H6.get 1 kr), (H6.get 1 kr)⟩) kr kr ?_
  intro b_13 cap_14 n_15 cur_16 l_17 w7 H7 hs_18; clear H6
  obtain ⟨hs_18n, hs_18r, hs_18o, hs_18s⟩ := hs_18
  refine s_callS H7 (some 17) 67 #[.slice (some ⟨b_7, 0, none⟩) n_9 cap_8, .slice (some ⟨b_13, 0, none⟩) n_15 cap_14] (fun w => w.heap[b_7]? = some (.cells cur_10 3 (0, 0)) ∧ w.heap[b_13]? = some (.cells cur_16 3 (0, 0))) 3 1 (fun curZ capZ nZ lZ => (nZ = List.length lZ ∧ Rw 1 curZ capZ nZ (cellsD lZ) ∧ Ok lZ ∧ (vl lZ = vl l_11 + vl l_17 ∧ List.length lZ ≤ max (List.length l_11) (List.length l_17) + 1 ∧ max (List.length l_11) (List.length l_17) ≤ List.length lZ))) (sum_fn l_11 l_17 b_7 n_9 cap_8 b_13 n_15 cap_14 cur_10 cur_16 hs_12n hs_18n hs_12r hs_18r hs_12o hs_18o (by omega) (by omega)) (⟨(H7.get 1 kr), (H7.get 0 kr)⟩) kr kr ?_
  intro b_19 cap_20 n_21 cur_22 l_23 w8 H8 hs_24; clear H7
  obtain ⟨hs_24n, hs_24r, hs_24o, hs_24s⟩ := hs_24
  refine s_val (some 8) (.slice (some ⟨b_19, 0, none⟩) n_21 cap_20) (fun w => kr) kr ?_
  refine s_nil ?_
  refine g_sreg [0, 1, 2, 3, 4, 5, 6] kr kr ?_
  refine s_val (some 18) (.slice (some ⟨b_19, 0, none⟩) n_21 cap_20) (fun w => kr) kr ?_
  refine s_load H8 (some 19) 24 (.tmp 4) 5 b2 (Value.cells (uv B)) 24 (0, 0) kr kr kr kr kr ?_
  refine s_callS H8 (some 20) 47 #[uv B] (fun _ => True) 3 1 (fun curZ capZ nZ lZ => (nZ = List.length lZ ∧ Rw 1 curZ capZ nZ (cellsD lZ) ∧ Ok lZ ∧ (lZ = dgs B 16 ∧ vl lZ = B ∧ List.length lZ = 16))) (of_fn B hB) trivial kr kr ?_
  intro b_25 cap_26 n_27 cur_28 l_29 w9 H9 hs_30; clear H8
  obtain ⟨hs_30n, hs_30r, hs_30o, hs_30s⟩ := hs_30
  obtain ⟨hs_30a, hs_30b, hs_30c⟩ := hs_30s
  refine s_callS H9 (some 21) 68 #[.slice (some ⟨b_19, 0, none⟩) n_21 cap_20, .slice (some ⟨b_25, 0, none⟩) n_27 cap_26] (fun w => w.heap[b_19]? = some (.cells cur_22 3 (0, 0)) ∧ w.heap[b_25]? = some (.cells cur_28 3 (0, 0))) 3 1 (fun curZ capZ nZ lZ => (nZ = List.length lZ ∧ Rw 1 curZ capZ nZ (cellsD lZ) ∧ Ok lZ ∧ (vl lZ = vl l_23 - vl l_29 ∧ List.length lZ = List.length l_23))) (take_fn l_23 l_29 b_19 n_21 cap_20 b_25 n_27 cap_26 cur_22 cur_28 hs_24n hs_30n hs_24r hs_30r hs_24o hs_30o (by omega) (by omega) (by omega)) (⟨(H9.get 1 kr), (H9.get 0 kr)⟩) kr kr ?_
  intro b_31 cap_32 n_33 cur_34 l_35 w10 H10 hs_36; clear H9
  obtain ⟨hs_36n, hs_36r, hs_36o, hs_36s⟩ := hs_36
  refine s_val (some 22) (.int .i64 0) (fun w => kr) kr ?_
  refine s_callP H10 (some 23) 65 #[.slice (some ⟨b_31, 0, none⟩) n_33 cap_32, .int .i64 0] (fun w => w.heap[b_31]? = some (.cells cur_34 3 (0, 0))) (uv (fSub A B PR)) (by have hnum := left020_fn l_35 b_31 n_33 cap_32 cur_34 hs_36n hs_36r (by omega) hs_36o; have heq : (vl l_35 % PR) = (fSub A B PR) := (by rw [show vl l_35 = A + (PR + PR) - B by omega]; exact fSub_ref (by omega) (by omega)); rw [heq] at hnum; exact hnum) (H10.get 0 kr) (fun w => kr) kr ?_
  intro w11 H11; clear H10
  refine s_store H11 6 [(b_31, Od cur_34 3), (b_25, Od cur_28 3), (b_19, Od cur_22 3), (b_13, Od cur_16 3), (b_7, Od cur_10 3), (b_1, Od cur_4 3), (b3, Oc (uv (fSub A B PR)) 24), (b2, Oc (uv B) 24), (b1, Oc (uv A) 24)] 24 (.tmp 6) (.tmp 23) b3 (0) Z4 (Value.cells (uv (fSub A B PR))) 24 (uv (fSub A B PR)) kr kr kr kr kr kr (of_decide_eq_true kr) kr kr ?_
  intro w12 H12; clear H11
  refine s_nil ?_
  refine g_ret kr ?_
  show ∃ vs, Res _ _ _ _ vs ∧ _
  refine ⟨[uv (fSub A B PR)], (.agg (b := b3) (Value.cells (uv (fSub A B PR))) 24 (0, 0) kr (H12.get 6 kr) kr .nil), ?_, H12.below⟩
  rfl

set_option maxRecDepth 100000 in
set_option maxHeartbeats 2000000 in
theorem rmul0_fn (A B : Nat) (hA : A < big) (hB : B < big) : Fn Try.prog 53 #[uv A, uv B, .int .i64 0] (uv (fMul A B PR)) := by
  have hp : PR < big ∧ big < 2 * PR := pr_ok
  have hq : NR < big ∧ big < 2 * NR := nr_ok
  have hbig : 2 < big := by unfold big; omega
  refine Fn.intro (c := codeOf Try.f53) [.cell 6 24] 14 Try.func53 kr kr kr fun w => ?_
  have H0 := St.start w
  refine g_sreg [0, 1, 2] kr kr ?_
  refine s_box H0 (some 3) 24 (.tmp 0) (uv A) kr kr kr ?_
  intro b1 w1 H1; clear H0
  refine s_box H1 (some 4) 24 (.tmp 1) (uv B) kr kr kr ?_
  intro b2 w2 H2; clear H1
  refine s_alloc H2 (some 6) 24 (.agg Z4) kr kr kr ?_
  intro b3 w3 H3; clear H2
  refine s_nil ?_
  refine D2.g_sdraw [0, 1, 2, 3, 4, 5, 6, 7] [((some 7), fun _ => uv A), ((some 8), fun x => .slice (some ⟨x.b, 0, none⟩) x.n x.cap), ((some 9), fun _ => uv B), ((some 10), fun x => .slice (some ⟨x.b, 0, none⟩) x.n x.cap), ((some 11), fun x => .slice (some ⟨x.b, 0, none⟩) x.n x.cap), ((some 12), fun _ => .int .i64 0), ((some 13), fun _ => uv (fMul A B PR)), (none, fun _ => undef)] (D2.Pre w.heap.size w (fun L g => [(true, (bif L 7 then (b3, Oc (uv (fMul A B PR)) 24) else (b3, Od Z4 24))), (true, (b2, Oc (uv B) 24)), (true, (b1, Oc (uv A) 24)), (L 1, ((g 1).b, Od ((g 1).cur) 3)), (L 3, ((g 3).b, Od ((g 3).cur) 3)), (L 4, ((g 4).b, Od ((g 4).cur) 3))]) (fun L g => (L 1 = true → ((g 1).n = List.length ((g 1).l) ∧ Rw 1 (g 1).cur (g 1).cap (g 1).n (cellsD ((g 1).l)) ∧ Ok ((g 1).l) ∧ ((g 1).l = dgs A 16 ∧ vl ((g 1).l) = A ∧ List.length ((g 1).l) = 16))) ∧ (L 3 = true → ((g 3).n = List.length ((g 3).l) ∧ Rw 1 (g 3).cur (g 3).cap (g 3).n (cellsD ((g 3).l)) ∧ Ok ((g 3).l) ∧ ((g 3).l = dgs B 16 ∧ vl ((g 3).l) = B ∧ List.length ((g 3).l) = 16))) ∧ (L 4 = true → ((g 4).n = List.length ((g 4).l) ∧ Rw 1 (g 4).cur (g 4).cap (g 4).n (cellsD ((g 4).l)) ∧ Ok ((g 4).l) ∧ (vl ((g 4).l) = vl ((g 1).l) * vl ((g 3).l) ∧ List.length ((g 4).l) = List.length ((g 1).l) + List.length ((g 3).l) + 1))) ∧ True)) kr kr kr kr ⟨D2.StE.of H3.drew _ kr, ⟨(fun h => nomatch h), (fun h => nomatch h), (fun h => nomatch h), trivial⟩⟩ ⟨?_, ?_, ?_, ?_, ?_, ?_, ?_, ?_, trivial⟩ ?_
  · exact D2.gv_load 24 (.tmp 3) 2 (fun g => b1) (Value.cells (uv A)) 24 (0, 0) (fun _ _ _ h => h) (fun g => kr) (fun g => kr) (fun L g hN => kr) kr
  · exact D2.gv_callS 47 (fun g => #[uv A]) (fun g => fun _ => True) 3 1 (fun g curZ capZ nZ lZ => (nZ = List.length lZ ∧ Rw 1 curZ capZ nZ (cellsD lZ) ∧ Ok lZ ∧ (lZ = dgs A 16 ∧ vl lZ = A ∧ List.length lZ = 16))) 3 (fun L g hN hF => by exact of_fn A hA) (fun L g w hN hE hF => by exact trivial) (fun g w => kr) (fun L g x hN => kr) (fun L g x hN hF hS => ⟨fun _ => hS, hF.2.1, (fun hx => nomatch (Eq.trans (Eq.symm (show L 4 = true from hx)) (hN.post 4 kr))), trivial⟩)
  · exact D2.gv_load 24 (.tmp 4) 1 (fun g => b2) (Value.cells (uv B)) 24 (0, 0) (fun _ _ _ h => h) (fun g => kr) (fun g => kr) (fun L g hN => kr) kr
  · exact D2.gv_callS 47 (fun g => #[uv B]) (fun g => fun _ => True) 3 1 (fun g curZ capZ nZ lZ => (nZ = List.length lZ ∧ Rw 1 curZ capZ nZ (cellsD lZ) ∧ Ok lZ ∧ (lZ = dgs B 16 ∧ vl lZ = B ∧ List.length lZ = 16))) 4 (fun L g hN hF => by exact of_fn B hB) (fun L g w hN hE hF => by exact trivial) (fun g w => kr) (fun L g x hN => kr) (fun L g x hN hF hS => ⟨hF.1, fun _ => hS, (fun hx => nomatch (Eq.trans (Eq.symm (show L 4 = true from hx)) (hN.post 4 kr))), trivial⟩)
  · exact D2.gv_callS 66 (fun g => #[.slice (some ⟨(g 1).b, 0, none⟩) ((g 1).n) ((g 1).cap), .slice (some ⟨(g 3).b, 0, none⟩) ((g 3).n) ((g 3).cap)]) (fun g => fun w => w.heap[(g 1).b]? = some (.cells (g 1).cur 3 (0, 0)) ∧ w.heap[(g 3).b]? = some (.cells (g 3).cur 3 (0, 0))) 3 1 (fun g curZ capZ nZ lZ => (nZ = List.length lZ ∧ Rw 1 curZ capZ nZ (cellsD lZ) ∧ Ok lZ ∧ (vl lZ = vl ((g 1).l) * vl ((g 3).l) ∧ List.length lZ = List.length ((g 1).l) + List.length ((g 3).l) + 1))) 5 (fun L g hN hF => by have hf1 := (hF.1 (hN.bef 1 kr)); have hf3 := (hF.2.1 (hN.bef 3 kr)); exact times_fn ((g 1).l) ((g 3).l) ((g 1).b) ((g 1).n) ((g 1).cap) ((g 3).b) ((g 3).n) ((g 3).cap) ((g 1).cur) ((g 3).cur) hf1.1 hf3.1 hf1.2.1 hf3.2.1 hf1.2.2.1 hf3.2.2.1 (by have := hf1.2.2.2; omega) (by have := hf3.2.2.2; omega)) (fun L g w hN hE hF => by have hf1 := (hF.1 (hN.bef 1 kr)); have hf3 := (hF.2.1 (hN.bef 3 kr)); exact ⟨(hE.get 3 (by have hL1 : L 1 = true := (hN.bef 1 kr); exact D2.ent_get' (p := L 1) (e := ((g 1).b, Od ((g 1).cur) 3)) kr (by exact hL1) (by simp only [hL1, cond_true, cond_false] <;> rfl))), (hE.get 4 (by have hL3 : L 3 = true := (hN.bef 3 kr); exact D2.ent_get' (p := L 3) (e := ((g 3).b, Od ((g 3).cur) 3)) kr (by exact hL3) (by simp only [hL3, cond_true, cond_false] <;> rfl)))⟩) (fun g w => kr) (fun L g x hN => kr) (fun L g x hN hF hS => ⟨hF.1, hF.2.1, fun _ => hS, trivial⟩)
  · exact D2.gv_val (fun _ _ _ h => h) (fun g w => kr)
  · exact D2.gv_callP 65 (fun g => #[.slice (some ⟨(g 4).b, 0, none⟩) ((g 4).n) ((g 4).cap), .int .i64 0]) (fun g => fun w => w.heap[(g 4).b]? = some (.cells (g 4).cur 3 (0, 0))) (fun _ _ _ h => h) (fun L g hN hF => by have hf4 := (hF.2.2.1 (hN.bef 4 kr)); have hf1 := (hF.1 (hN.2.2.yes 1 4 kr (hN.bef 4 kr))); have hf3 := (hF.2.1 (hN.2.2.yes 3 4 kr (hN.bef 4 kr))); exact (by have hnum := left020_fn ((g 4).l) ((g 4).b) ((g 4).n) ((g 4).cap) ((g 4).cur) hf4.1 hf4.2.1 (by have := hf4.2.2.2; omega) hf4.2.2.1; have heq : (vl ((g 4).l) % PR) = (fMul A B PR) := (by have e1 := hf1.2.2.2; have e3 := hf3.2.2.2; have e4 := hf4.2.2.2; unfold fMul; rw [e4.1, e1.2.1, e3.2.1]); rw [heq] at hnum; exact hnum)) (fun L g w hN hE hF => by have hf4 := (hF.2.2.1 (hN.bef 4 kr)); have hf1 := (hF.1 (hN.2.2.yes 1 4 kr (hN.bef 4 kr))); have hf3 := (hF.2.1 (hN.2.2.yes 3 4 kr (hN.bef 4 kr))); exact (hE.get 5 (by have hL4 : L 4 = true := (hN.bef 4 kr); exact D2.ent_get' (p := L 4) (e := ((g 4).b, Od ((g 4).cur) 3)) kr (by exact hL4) (by simp only [hL4, cond_true, cond_false] <;> rfl)))) (fun g w => kr)
  · exact D2.gv_store 0 24 (.tmp 6) (.tmp 13) (fun g => b3) (fun g => 0) Z4 (Value.cells (uv (fMul A B PR))) 24 (uv (fMul A B PR)) (fun g => kr) (fun g => kr) (fun g => kr) kr kr (fun g => (of_decide_eq_true kr)) (fun g => kr) (fun L g hN => ⟨(by have hL7 : L 7 = false := hN.1; exact D2.ent_get' (p := true) (e := (bif L 7 then (b3, Oc (uv (fMul A B PR)) 24) else (b3, Od Z4 24))) kr (by rfl) (by simp only [hL7, cond_true, cond_false] <;> rfl)), kr⟩) (fun L g hN hF => hF)
  intro L0 G4 w4 hall HL; clear H3
  have H4 : St w.heap.size w w4 [(b3, Oc (uv (fMul A B PR)) 24), (b2, Oc (uv B) 24), (b1, Oc (uv A) 24), ((G4 1).b, Od ((G4 1).cur) 3), ((G4 3).b, Od ((G4 3).cur) 3), ((G4 4).b, Od ((G4 4).cur) 3)] := by have e1 := hall 1 (Nat.le_of_ble_eq_true kr); have e3 := hall 3 (Nat.le_of_ble_eq_true kr); have e4 := hall 4 (Nat.le_of_ble_eq_true kr); have e7 := hall 7 (Nat.le_of_ble_eq_true kr); have hS := D2.StE.st HL.1; simp only [e1, e3, e4, e7, cond_true, D2.pres] at hS; exact hS
  have hf1_4 : ((G4 1).n = List.length ((G4 1).l) ∧ Rw 1 (G4 1).cur (G4 1).cap (G4 1).n (cellsD ((G4 1).l)) ∧ Ok ((G4 1).l) ∧ ((G4 1).l = dgs A 16 ∧ vl ((G4 1).l) = A ∧ List.length ((G4 1).l) = 16)) := HL.2.1 (hall 1 (Nat.le_of_ble_eq_true kr))
  have hf3_4 : ((G4 3).n = List.length ((G4 3).l) ∧ Rw 1 (G4 3).cur (G4 3).cap (G4 3).n (cellsD ((G4 3).l)) ∧ Ok ((G4 3).l) ∧ ((G4 3).l = dgs B 16 ∧ vl ((G4 3).l) = B ∧ List.length ((G4 3).l) = 16)) := HL.2.2.1 (hall 3 (Nat.le_of_ble_eq_true kr))
  have hf4_4 : ((G4 4).n = List.length ((G4 4).l) ∧ Rw 1 (G4 4).cur (G4 4).cap (G4 4).n (cellsD ((G4 4).l)) ∧ Ok ((G4 4).l) ∧ (vl ((G4 4).l) = vl ((G4 1).l) * vl ((G4 3).l) ∧ List.length ((G4 4).l) = List.length ((G4 1).l) + List.length ((G4 3).l) + 1)) := HL.2.2.2.1 (hall 4 (Nat.le_of_ble_eq_true kr))
  clear HL hall
  refine g_ret kr ?_
  show ∃ vs, Res _ _ _ _ vs ∧ _
  refine ⟨[uv (fMul A B PR)], (.agg (b := b3) (Value.cells (uv (fMul A B PR))) 24 (0, 0) kr (H4.get 0 kr) kr .nil), ?_, H4.below⟩
  rfl

end Go.Proofs.Ytljhbhhpfkmemaa
