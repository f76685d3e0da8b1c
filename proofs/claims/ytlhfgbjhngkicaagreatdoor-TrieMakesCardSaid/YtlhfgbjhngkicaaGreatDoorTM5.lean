/-
  Texts of the proof, part 5.
-/
import Derived.Test.YtlhfgbjhngkicaaGreatDoorProg
import Derived.Test.YtlhfgbjhngkicaaGreatDoorTM1
import Derived.Test.YtlhfgbjhngkicaaGreatDoorTM2
import Derived.Test.YtlhfgbjhngkicaaGreatDoorTM3
import Derived.Test.YtlhfgbjhngkicaaGreatDoorTM4

namespace Go.Proofs.YtlhfgbjhngkicaaGreatDoor
open Go Go.RowKit
open D2 (Gh Runs)
set_option linter.unusedVariables false
theorem readM_ok {A : List Nd} {root : Int} {L : List Pr} (h : readM A root = some L) : OkP L := ⟨readM_len h, readM_may h, readM_rise h⟩
theorem split_at {α : Type} {M : List α} {i : Nat} {x : α} (h : M[i]? = some x) : M = M.take i ++ x :: M.drop (i + 1) ∧ (M.take i).length = i := by
  obtain ⟨hi, rfl⟩ := List.getElem?_eq_some_iff.1 h
  exact ⟨by rw [List.getElem_cons_drop, List.take_append_drop], by rw [List.length_take]; omega⟩
theorem putAt {cur : Array Value} {cap n i : Nat} {M : List Pr} {k u v : ByteArray} (h : Rw 2 cur cap n (cellsF pS M)) (hM : M[i]? = some (k, u)) : 0 + i * 2 + 1 + 1 ≤ cur.size ∧ Rw 2 (Go.Proofs.YtlhfgbjhngkicaaGreatDoor.putA cur (0 + i * 2 + 1) (.string v)) cap n (cellsF pS (M.set i (k, v))) := by
  have hl : M.length = n := h.lenF (S := pS)
  have hi := (List.getElem?_eq_some_iff.1 hM).1
  obtain ⟨e1, e2⟩ := split_at hM
  have hp := h.putA (0 + i * 2 + 1) (.string v) (by show 0 + i * 2 + 1 + 1 ≤ n * 2; omega)
  refine ⟨hp.1, ?_⟩
  have hc : (cellsF pS (M.take i)).length = i * 2 := by rw [cellsF_len, e2]; rfl
  have eM : cellsF pS M = cellsF pS (M.take i) ++ (([.string k, .string u] : List Value) ++ cellsF pS (M.drop (i + 1))) := by
    conv => lhs; rw [e1]
    rw [cellsF_append]; rfl
  have eS : cellsF pS (M.set i (k, v)) = cellsF pS (M.take i) ++ (([.string k, .string v] : List Value) ++ cellsF pS (M.drop (i + 1))) := by
    rw [List.set_eq_take_append_cons_drop, if_pos hi, cellsF_append]; rfl
  have q := hp.2
  rw [eM] at q
  rw [eS]
  have t1 : (cellsF pS (M.take i) ++ (([.string k, .string u] : List Value) ++ cellsF pS (M.drop (i + 1)))).take (0 + i * 2 + 1) = cellsF pS (M.take i) ++ ([.string k] : List Value) := by
    rw [List.take_append, hc, show 0 + i * 2 + 1 - i * 2 = 1 by omega, List.take_of_length_le (by rw [hc]; omega)]; rfl
  have t2 : (cellsF pS (M.take i) ++ (([.string k, .string u] : List Value) ++ cellsF pS (M.drop (i + 1)))).drop (0 + i * 2 + 1 + (Value.string v).cells.size) = cellsF pS (M.drop (i + 1)) := by
    rw [List.drop_append, hc, show 0 + i * 2 + 1 + (Value.string v).cells.size - i * 2 = 2 by show 0 + i * 2 + 1 + 1 - i * 2 = 2; omega, List.drop_of_length_le (by rw [hc]; show i * 2 ≤ 0 + i * 2 + 1 + 1; omega)]; rfl
  rw [t1, t2] at q
  rw [show cellsF pS (M.take i) ++ (([.string k, .string v] : List Value) ++ cellsF pS (M.drop (i + 1))) = cellsF pS (M.take i) ++ ([.string k] : List Value) ++ (Value.string v).cells.toList ++ cellsF pS (M.drop (i + 1)) by simp [Value.cells]]
  exact q
set_option maxRecDepth 100000 in
set_option maxHeartbeats 4000000 in
theorem put_bad (p : Option Addr) (n c : Nat) (root : Int) (A : List Nd) (hA : ∀ x ∈ A, x.part.size ≤ 140737488355328) (hAl : A.length ≤ 1000000000000) (key value : ByteArray) {L : List Pr} (hr : readM A root = some L) (hm : mayM key value = false) :
    FnP Tryz.prog 16 #[.agg #[.slice p n c, .int .i64 root], .string key, .string value] (fun w => NdAt w p n A) (.tuple #[.agg #[.slice none 0 0, .int .i64 0], .int .i64 1]) := by
  refine FnP.intro (c := codeOf Tryz.f16) [.cell 6 26, .tmp 7] 53 Tryz.func16 kr kr kr fun w hN => ?_
  have H0 := St.start w
  have hok0 := readM_ok hr
  have h64 := hok0.len
  refine rS [.b, .a, .v] H0 kr fun gs1 w1 H1 => ?_
  refine g_sreg [0, 1, 2, 3, 4, 5, 6] kr kr ?_
  refine rp [.l 0] H1 kr fun gs2 w2 H2 => ?_
  show WPs _ _ _ _ [1, 2, 3, 4, 5, 6] _ _
  have H2 : St w.heap.size w w2 [((gs1 0).b, boT p n c root), ((gs1 1).b, boT none 0 0 0)] := H2.as kr
  refine s_callFT H2 (some 14) 10 #[.agg #[.slice p n c, .int .i64 root]] (pairs_fn p n c root A hA hAl) (hN.call H2.below) kr kr ?_
  intro v T w3 hok H3
  rw [hr] at hok
  obtain ⟨q, m, k, rfl, hrow⟩ := hok
  have hlen := hrow.len
  have H4 : St w.heap.size w w3 (T ++ [((gs1 1).b, boT none 0 0 0)]) := H3.sub (List.Sublist.append_left (List.sublist_cons_self ..) T)
  have H4b : St w.heap.size w w3 [((gs1 1).b, boT none 0 0 0)] := H4.sub (List.sublist_append_right ..)
  refine rp [.v, .v, .v, .v, .v] H4b kr fun gs3 w4 H5 => ?_
  show WPs _ _ _ _ [] _ _
  refine s_nil ?_
  refine g_seq kr ?_
  have hmf := tmay_fn key value
  rw [hm] at hmf
  refine rS [.v, .v, .v, .v, .v, .v, .c hmf, .v, .v] H5 kr fun gs4 w5 H6 => ?_
  refine g_cond_t kr kr ?_
  refine rS [.v, .s 0, .v] H6 kr fun gs5 w6 H7 => ?_
  exact rR [.cell 6 26, .tmp 7] [0] (.tuple #[.agg #[.slice none 0 0, .int .i64 0], .int .i64 1]) H7 kr
set_option maxRecDepth 100000 in
set_option maxHeartbeats 4000000 in
theorem put_long (p : Option Addr) (n c : Nat) (root : Int) (A : List Nd) (hA : ∀ x ∈ A, x.part.size ≤ 140737488355328) (hAl : A.length ≤ 1000000000000) (key value : ByteArray) {L : List Pr} (hr : readM A root = some L) (hm : mayM key value = true) (hh : hasM key L = false) (hf : L.length = 64) :
    FnP Tryz.prog 16 #[.agg #[.slice p n c, .int .i64 root], .string key, .string value] (fun w => NdAt w p n A) (.tuple #[.agg #[.slice none 0 0, .int .i64 0], .int .i64 2]) := by
  refine FnP.intro (c := codeOf Tryz.f16) [.cell 6 26, .tmp 7] 53 Tryz.func16 kr kr kr fun w hN => ?_
  have H0 := St.start w
  have hok0 := readM_ok hr
  have h64 := hok0.len
  refine rS [.b, .a, .v] H0 kr fun gs1 w1 H1 => ?_
  refine g_sreg [0, 1, 2, 3, 4, 5, 6] kr kr ?_
  refine rp [.l 0] H1 kr fun gs2 w2 H2 => ?_
  show WPs _ _ _ _ [1, 2, 3, 4, 5, 6] _ _
  have H2 : St w.heap.size w w2 [((gs1 0).b, boT p n c root), ((gs1 1).b, boT none 0 0 0)] := H2.as kr
  refine s_callFT H2 (some 14) 10 #[.agg #[.slice p n c, .int .i64 root]] (pairs_fn p n c root A hA hAl) (hN.call H2.below) kr kr ?_
  intro v T w3 hok H3
  rw [hr] at hok
  obtain ⟨q, m, k, rfl, hrow⟩ := hok
  have hlen := hrow.len
  have H4 : St w.heap.size w w3 (T ++ [((gs1 1).b, boT none 0 0 0)]) := H3.sub (List.Sublist.append_left (List.sublist_cons_self ..) T)
  refine rp [.v, .v, .v, .v, .v] H4 kr fun gs3 w4 H5 => ?_
  show WPs _ _ _ _ [] _ _
  refine s_nil ?_
  refine g_seq kr ?_
  have hmf := tmay_fn key value
  rw [hm] at hmf
  refine rS [.v, .v, .v, .v, .v, .v, .c hmf, .v, .v] H5 kr fun gs4 w5 H6 => ?_
  refine g_cond_f kr kr ?_
  refine g_skip kr ?_
  show WP _ _ _ _ _ _
  refine g_sreg [0, 1, 2, 3, 4, 5, 6, 7] kr kr ?_
  refine rp [.v, .v] H6 kr fun gs5 w6 H7 => ?_
  show WPs _ _ _ _ [2, 3, 4, 5, 6, 7] _ _
  have H8 : St w.heap.size w w6 (T ++ [((gs1 1).b, boT none 0 0 0)]) := H7.as kr
  refine s_callP H8 (some 30) 33 #[.slice q m k, .string key] _ _ (find_fn q m k L key (by omega) hok0.rise) (hrow.prAt H8 fun e he => List.mem_append_left _ he) (fun w => by kernel_rfl) kr ?_
  intro w7 H9
  rw [hh]
  refine rp [.v, .v, .v, .v, .v] H9 kr fun gs6 w8 H10 => ?_
  show WPs _ _ _ _ [] _ _
  refine s_nil ?_
  refine g_seq kr ?_
  refine rS [.v, .v] H10 kr fun gs7 w9 H11 => ?_
  refine g_cond_t kr kr ?_
  refine g_seq kr ?_
  refine rS [.v, .v, .e (v := .bool (((m : Nat) : Int) == 64)) (v' := .bool true) (bool_eq (beq_iff_eq.2 (by omega)))] H11 kr fun gs8 w10 H12 => ?_
  refine g_cond_t kr kr ?_
  have H13 : St w.heap.size w w10 [((gs1 1).b, boT none 0 0 0)] := (H12.as (l := T ++ [((gs1 1).b, boT none 0 0 0)]) kr).sub (List.sublist_append_right ..)
  refine rS [.v, .s 0, .v] H13 kr fun gs9 w11 H14 => ?_
  exact rR [.cell 6 26, .tmp 7] [0] (.tuple #[.agg #[.slice none 0 0, .int .i64 0], .int .i64 2]) H14 kr
set_option maxRecDepth 100000 in
set_option maxHeartbeats 4000000 in
theorem put_set (p : Option Addr) (n c : Nat) (root : Int) (A : List Nd) (hA : ∀ x ∈ A, x.part.size ≤ 140737488355328) (hAl : A.length ≤ 1000000000000) (key value : ByteArray) {L : List Pr} (hr : readM A root = some L) (hm : mayM key value = true) (hh : hasM key L = true) : FnT Tryz.prog 16 #[.agg #[.slice p n c, .int .i64 root], .string key, .string value] (fun w => NdAt w p n A) (okPut (insM key value L)) := by
  have hn : hasM key L = true ∨ L.length < 64 := .inl hh
  have hsz := may_size hm
  refine FnT.intro (c := codeOf Tryz.f16) [.cell 6 26, .tmp 7] 53 Tryz.func16 kr kr kr fun w hN => ?_
  have H0 := St.start w
  have hok0 := readM_ok hr
  have h64 := hok0.len
  refine rS [.b, .a, .v] H0 kr fun gs1 w1 H1 => ?_
  refine g_sreg [0, 1, 2, 3, 4, 5, 6] kr kr ?_
  refine rp [.l 0] H1 kr fun gs2 w2 H2 => ?_
  show WPs _ _ _ _ [1, 2, 3, 4, 5, 6] _ _
  have H2 : St w.heap.size w w2 [((gs1 0).b, boT p n c root), ((gs1 1).b, boT none 0 0 0)] := H2.as kr
  refine s_callFT H2 (some 14) 10 #[.agg #[.slice p n c, .int .i64 root]] (pairs_fn p n c root A hA hAl) (hN.call H2.below) kr kr ?_
  intro v T w3 hok H3
  rw [hr] at hok
  obtain ⟨q, m, k, rfl, hrow⟩ := hok
  have hlen := hrow.len
  have H4 : St w.heap.size w w3 (T ++ [((gs1 1).b, boT none 0 0 0)]) := H3.sub (List.Sublist.append_left (List.sublist_cons_self ..) T)
  refine rp [.v, .v, .v, .v, .v] H4 kr fun gs3 w4 H5 => ?_
  show WPs _ _ _ _ [] _ _
  refine s_nil ?_
  refine g_seq kr ?_
  have hmf := tmay_fn key value
  rw [hm] at hmf
  refine rS [.v, .v, .v, .v, .v, .v, .c hmf, .v, .v] H5 kr fun gs4 w5 H6 => ?_
  refine g_cond_f kr kr ?_
  refine g_skip kr ?_
  show WP _ _ _ _ _ _
  refine g_sreg [0, 1, 2, 3, 4, 5, 6, 7] kr kr ?_
  refine rp [.v, .v] H6 kr fun gs5 w6 H7 => ?_
  show WPs _ _ _ _ [2, 3, 4, 5, 6, 7] _ _
  have H8 : St w.heap.size w w6 (T ++ [((gs1 1).b, boT none 0 0 0)]) := H7.as kr
  refine s_callP H8 (some 30) 33 #[.slice q m k, .string key] _ _ (find_fn q m k L key (by omega) hok0.rise) (hrow.prAt H8 fun e he => List.mem_append_left _ he) (fun w => by kernel_rfl) kr ?_
  intro w7 H9
  rw [hh]
  refine rp [.v, .v, .v, .v, .v] H9 kr fun gs6 w8 H10 => ?_
  show WPs _ _ _ _ [] _ _
  refine s_nil ?_
  refine g_seq kr ?_
  refine rS [.v, .v] H10 kr fun gs7 w9 H11 => ?_
  refine g_cond_f kr kr ?_
  refine g_skip kr ?_
  show WP _ _ _ _ _ _
  have hlt := hasM_lt hh
  obtain ⟨u, hu⟩ := hasM_at hh
  rcases hrow with ⟨_, _, _, _, h0⟩ | ⟨bw, cur, rfl, rfl, hrw⟩
  · rw [h0] at hlt; exact absurd hlt (Nat.not_lt_zero _)
  obtain ⟨m2, hm2⟩ : ∃ m2, m = m2 := ⟨m, rfl⟩
  obtain ⟨k2, hk2⟩ : ∃ k2, k = k2 := ⟨k, rfl⟩
  subst hm2 hk2
  have hput := putAt (v := value) hrw hu
  refine rS [.v, .v, .v, .c (cloneS_fn value (by omega)), .o (ins := [((.tmp 45), .slice (some ⟨bw, 0, none⟩) m k), ((.tmp 46), iN (posM key L))]) (v := .pointer (some ⟨bw, 0 + (posM key L) * 2, none⟩)) (fun ρ o w ho hi2 => idxP_run (kd := .i64) (t := 23) (e := 48) (K := 2) (bytes := 32) kr (x := (.tmp 45)) (y := (.tmp 46)) bw 0 m k (posM key L) rfl ho hi2.1 hi2.2.1 (by omega) w), .v, .se 0 (C := cur) (C' := putA cur (0 + (posM key L) * 2 + 1) (.string value)) (off := 0 + (posM key L) * 2 + 1) (v := .string value) hput.1 rfl] H11 kr fun gs11 w14 H18 => ?_
  rw [ins_found hh] at hput
  have hrow3 : RowF pS 48 (some ⟨bw, 0, none⟩) m k [(bw, .cells (putA cur (0 + (posM key L) * 2 + 1) (.string value)) 48 (0, 0))] (insM key value L) := .inr ⟨bw, _, rfl, rfl, hput.2⟩
  have hokI := hok0.ins (k := key) (v := value) hm hn
  have hlI := hokI.len
  refine g_sreg [0, 1, 2, 3] kr kr ?_
  refine rp [.v] H18 kr fun gs12 w15 H20 => ?_
  show WPs _ _ _ _ [1, 2, 3] _ _
  have H21 : St w.heap.size w w15 [(bw, .cells (putA cur (0 + (posM key L) * 2 + 1) (.string value)) 48 (0, 0)), ((gs1 1).b, boT none 0 0 0)] := H20.as kr
  refine s_callFT H21 (some 52) 36 #[.slice (some ⟨bw, 0, none⟩) m k] (build_fn (some ⟨bw, 0, none⟩) m k (insM key value L) (by omega) (fun x hx => (may_size (hokI.may x hx)).1.2) (key_rise.2 hokI.rise)) (hrow3.prAt H21 fun e he => List.mem_of_mem_head? (by rw [List.mem_singleton.1 he]; rfl)) kr kr ?_
  rintro v T2 w16 ⟨p3, n3, c3, hrow4, rfl⟩ H22
  have H23 : St w.heap.size w w16 (((gs1 1).b, boT none 0 0 0) :: T2) := (H22.sub (List.Sublist.append_left (List.sublist_cons_self ..) T2)).perm (List.perm_append_comm (l₁ := [((gs1 1).b, boT none 0 0 0)]) (l₂ := T2))
  refine rp [.s 0, .v] H23 kr fun gs13 w17 H24 => ?_
  show WPs _ _ _ _ [] _ _
  refine s_nil ?_
  have H25 : St w.heap.size w w17 (((gs1 1).b, boT p3 n3 c3 (layM 65 (entsOf (insM key value L)) []).2) :: T2) := H24.as kr
  refine rRr [.cell 6 26, .tmp 7] [0] (.tuple #[.agg #[.slice p3 n3 c3, .int .i64 (layM 65 (entsOf (insM key value L)) []).2], .int .i64 0]) (outT w.heap.size w (okPut (insM key value L))) H25 kr ?_
  exact ⟨T2, ⟨p3, n3, c3, hrow4, rfl⟩, H25.sub (List.sublist_cons_self ..)⟩
set_option maxRecDepth 100000 in
set_option maxHeartbeats 4000000 in
theorem put_mid (p : Option Addr) (n c : Nat) (root : Int) (A : List Nd) (hA : ∀ x ∈ A, x.part.size ≤ 140737488355328) (hAl : A.length ≤ 1000000000000) (key value : ByteArray) {L : List Pr} (hr : readM A root = some L) (hm : mayM key value = true) (hh : hasM key L = false) (hp : posM key L < L.length) (hf : L.length < 64) : FnT Tryz.prog 16 #[.agg #[.slice p n c, .int .i64 root], .string key, .string value] (fun w => NdAt w p n A) (okPut (insM key value L)) := by
  have hn : hasM key L = true ∨ L.length < 64 := .inr hf
  have hsz := may_size hm
  refine FnT.intro (c := codeOf Tryz.f16) [.cell 6 26, .tmp 7] 53 Tryz.func16 kr kr kr fun w hN => ?_
  have H0 := St.start w
  have hok0 := readM_ok hr
  have h64 := hok0.len
  refine rS [.b, .a, .v] H0 kr fun gs1 w1 H1 => ?_
  refine g_sreg [0, 1, 2, 3, 4, 5, 6] kr kr ?_
  refine rp [.l 0] H1 kr fun gs2 w2 H2 => ?_
  show WPs _ _ _ _ [1, 2, 3, 4, 5, 6] _ _
  have H2 : St w.heap.size w w2 [((gs1 0).b, boT p n c root), ((gs1 1).b, boT none 0 0 0)] := H2.as kr
  refine s_callFT H2 (some 14) 10 #[.agg #[.slice p n c, .int .i64 root]] (pairs_fn p n c root A hA hAl) (hN.call H2.below) kr kr ?_
  intro v T w3 hok H3
  rw [hr] at hok
  obtain ⟨q, m, k, rfl, hrow⟩ := hok
  have hlen := hrow.len
  have H4 : St w.heap.size w w3 (T ++ [((gs1 1).b, boT none 0 0 0)]) := H3.sub (List.Sublist.append_left (List.sublist_cons_self ..) T)
  refine rp [.v, .v, .v, .v, .v] H4 kr fun gs3 w4 H5 => ?_
  show WPs _ _ _ _ [] _ _
  refine s_nil ?_
  refine g_seq kr ?_
  have hmf := tmay_fn key value
  rw [hm] at hmf
  refine rS [.v, .v, .v, .v, .v, .v, .c hmf, .v, .v] H5 kr fun gs4 w5 H6 => ?_
  refine g_cond_f kr kr ?_
  refine g_skip kr ?_
  show WP _ _ _ _ _ _
  refine g_sreg [0, 1, 2, 3, 4, 5, 6, 7] kr kr ?_
  refine rp [.v, .v] H6 kr fun gs5 w6 H7 => ?_
  show WPs _ _ _ _ [2, 3, 4, 5, 6, 7] _ _
  have H8 : St w.heap.size w w6 (T ++ [((gs1 1).b, boT none 0 0 0)]) := H7.as kr
  refine s_callP H8 (some 30) 33 #[.slice q m k, .string key] _ _ (find_fn q m k L key (by omega) hok0.rise) (hrow.prAt H8 fun e he => List.mem_append_left _ he) (fun w => by kernel_rfl) kr ?_
  intro w7 H9
  rw [hh]
  refine rp [.v, .v, .v, .v, .v] H9 kr fun gs6 w8 H10 => ?_
  show WPs _ _ _ _ [] _ _
  refine s_nil ?_
  refine g_seq kr ?_
  refine rS [.v, .v] H10 kr fun gs7 w9 H11 => ?_
  refine g_cond_t kr kr ?_
  refine g_seq kr ?_
  refine rS [.v, .v, .e (v := .bool (((m : Nat) : Int) == 64)) (v' := .bool false) (bool_eq (beq_eq_false_iff_ne.2 (by omega)))] H11 kr fun gs8 w10 H12 => ?_
  refine g_cond_f kr kr ?_
  refine g_skip kr ?_
  show WP _ _ _ _ _ _
  refine g_reg0 [0, 1, 2, 3, 4, 5, 6] kr ?_
  refine rp [.v, .v, .v, .v, .nw (fun b => .slice (some ⟨b, 0, none⟩) 1 1) #[.string key, .string ⟨#[]⟩] 48] H12 kr fun gs9 w11 H13 => ?_
  show WPs _ _ _ _ [5, 6] _ _
  have H14 : St w.heap.size w w11 ((T ++ [((gs1 1).b, boT none 0 0 0)]) ++ [((gs9 4).b, pwO (key, ⟨#[]⟩))]) := H13.as kr
  have H15 : St w.heap.size w w11 (T ++ (((gs9 4).b, pwO (key, ⟨#[]⟩)) :: [((gs1 1).b, boT none 0 0 0)])) := H14.perm (by rw [List.append_assoc]; exact List.Perm.append_left T (List.Perm.swap ..))
  rcases hrow with ⟨_, _, _, _, h0⟩ | ⟨b0, cur0, rfl, rfl, hrw0⟩
  · rw [h0] at hp; exact absurd hp (Nat.not_lt_zero _)
  refine s_callC (some 44) 35 #[.slice (some ⟨b0, 0, none⟩) m k, iN (posM key L), .slice (some ⟨(gs9 4).b, 0, none⟩) 1 1] (insertMid_c b0 m k cur0 L (key, ⟨#[]⟩) (posM key L) (gs9 4).b [((gs1 1).b, boT none 0 0 0)] hrw0 H15 (by omega) (by omega)) kr kr ?_
  rintro v w12 ⟨q2, m2, k2, row2, rfl, hrow2, H16⟩
  refine rp [.v] H16 kr fun gs10 w13 H17 => ?_
  show WPs _ _ _ _ [] _ _
  refine s_nil ?_
  show WP _ _ _ _ _ _
  have hlen2 := hrow2.len
  rw [List.length_append, List.length_cons, List.length_take, List.length_drop] at hlen2
  have hu : (L.take (posM key L) ++ (key, (⟨#[]⟩ : ByteArray)) :: L.drop (posM key L))[posM key L]? = some (key, ⟨#[]⟩) := by
    rw [List.getElem?_append_right (by rw [List.length_take]; omega), List.length_take, show posM key L - min (posM key L) L.length = 0 by omega]; rfl
  have hset : (L.take (posM key L) ++ (key, (⟨#[]⟩ : ByteArray)) :: L.drop (posM key L)).set (posM key L) (key, value) = insM key value L := by
    rw [← ins_new hh, List.set_append_right _ _ (by rw [List.length_take]; omega), List.length_take, show posM key L - min (posM key L) L.length = 0 by omega, List.set_cons_zero]
  rcases hrow2 with ⟨_, _, _, _, h0⟩ | ⟨bw, cur, rfl, rfl, hrw⟩
  · simp at h0
  have hput := putAt (v := value) hrw hu
  refine rS [.v, .v, .v, .c (cloneS_fn value (by omega)), .o (ins := [((.tmp 45), .slice (some ⟨bw, 0, none⟩) m2 k2), ((.tmp 46), iN (posM key L))]) (v := .pointer (some ⟨bw, 0 + (posM key L) * 2, none⟩)) (fun ρ o w ho hi2 => idxP_run (kd := .i64) (t := 23) (e := 48) (K := 2) (bytes := 32) kr (x := (.tmp 45)) (y := (.tmp 46)) bw 0 m2 k2 (posM key L) rfl ho hi2.1 hi2.2.1 (by omega) w), .v, .se 0 (C := cur) (C' := putA cur (0 + (posM key L) * 2 + 1) (.string value)) (off := 0 + (posM key L) * 2 + 1) (v := .string value) hput.1 rfl] H17 kr fun gs11 w14 H18 => ?_
  rw [hset] at hput
  have hrow3 : RowF pS 48 (some ⟨bw, 0, none⟩) m2 k2 [(bw, .cells (putA cur (0 + (posM key L) * 2 + 1) (.string value)) 48 (0, 0))] (insM key value L) := .inr ⟨bw, _, rfl, rfl, hput.2⟩
  have hokI := hok0.ins (k := key) (v := value) hm hn
  have hlI := hokI.len
  refine g_sreg [0, 1, 2, 3] kr kr ?_
  refine rp [.v] H18 kr fun gs12 w15 H20 => ?_
  show WPs _ _ _ _ [1, 2, 3] _ _
  have H21 : St w.heap.size w w15 [(bw, .cells (putA cur (0 + (posM key L) * 2 + 1) (.string value)) 48 (0, 0)), ((gs1 1).b, boT none 0 0 0)] := H20.as kr
  refine s_callFT H21 (some 52) 36 #[.slice (some ⟨bw, 0, none⟩) m2 k2] (build_fn (some ⟨bw, 0, none⟩) m2 k2 (insM key value L) (by omega) (fun x hx => (may_size (hokI.may x hx)).1.2) (key_rise.2 hokI.rise)) (hrow3.prAt H21 fun e he => List.mem_of_mem_head? (by rw [List.mem_singleton.1 he]; rfl)) kr kr ?_
  rintro v T2 w16 ⟨p3, n3, c3, hrow4, rfl⟩ H22
  have H23 : St w.heap.size w w16 (((gs1 1).b, boT none 0 0 0) :: T2) := (H22.sub (List.Sublist.append_left (List.sublist_cons_self ..) T2)).perm (List.perm_append_comm (l₁ := [((gs1 1).b, boT none 0 0 0)]) (l₂ := T2))
  refine rp [.s 0, .v] H23 kr fun gs13 w17 H24 => ?_
  show WPs _ _ _ _ [] _ _
  refine s_nil ?_
  have H25 : St w.heap.size w w17 (((gs1 1).b, boT p3 n3 c3 (layM 65 (entsOf (insM key value L)) []).2) :: T2) := H24.as kr
  refine rRr [.cell 6 26, .tmp 7] [0] (.tuple #[.agg #[.slice p3 n3 c3, .int .i64 (layM 65 (entsOf (insM key value L)) []).2], .int .i64 0]) (outT w.heap.size w (okPut (insM key value L))) H25 kr ?_
  exact ⟨T2, ⟨p3, n3, c3, hrow4, rfl⟩, H25.sub (List.sublist_cons_self ..)⟩
theorem put_ok (p : Option Addr) (n c : Nat) (root : Int) (A : List Nd) (hA : ∀ x ∈ A, x.part.size ≤ 140737488355328) (hAl : A.length ≤ 1000000000000) (key value : ByteArray) {L : List Pr} (hr : readM A root = some L) (hm : mayM key value = true) (hn : hasM key L = true ∨ L.length < 64) : FnT Tryz.prog 16 #[.agg #[.slice p n c, .int .i64 root], .string key, .string value] (fun w => NdAt w p n A) (okPut (insM key value L)) := by
  cases hh : hasM key L with
  | true => exact put_set p n c root A hA hAl key value hr hm hh
  | false =>
    have hf : L.length < 64 := hn.resolve_left (by rw [hh]; decide)
    have hle := posM_le key L
    by_cases hp : posM key L = L.length
    · have h := put_end p n c root A hA hAl key value hr hm hp hf
      rwa [show L ++ [(key, value)] = insM key value L by rw [← ins_new hh, hp, List.take_length, List.drop_length]] at h
    · exact put_mid p n c root A hA hAl key value hr hm hh (by omega) hf
set_option maxRecDepth 100000 in
set_option maxHeartbeats 4000000 in
theorem delete_c (bw n c : Nat) (cur : Array Value) (L : List Pr) (i : Nat) (Lr : List (Nat × Obj)) {B : Nat} {w0 w : World} (hrw : Rw 2 cur c n (cellsF pS L)) (h : St B w0 w ((bw, .cells cur 48 (0, 0)) :: Lr)) (hi : i < n) (hL : n ≤ 1000000) :
    Calls Tryz.prog 37 #[.slice (some ⟨bw, 0, none⟩) n c, iN i, iN (i + 1)] w fun e w' => ∃ v, e = .returned v ∧ Ins1 B w0 Lr (L.take i ++ L.drop (i + 1)) v w' := by
  refine calls_intro (c := codeOf Tryz.f37) (rs := [.tmp 6]) (N := 33) Tryz.func37 kr kr kr ?_
  have hlenL : L.length = n := hrw.lenF (S := pS)
  have hcl : (cellsF pS L).length = n * 2 := by rw [cellsF_len, hlenL]; rfl
  have hle := hrw.le
  have hmx := hrw.max
  have hcs := hrw.sz
  have etk : cellsF pS (L.take i) = (cellsF pS L).take (i * 2) := cellsF_take L i (by omega)
  have edr : cellsF pS (L.drop (i + 1)) = (cellsF pS L).drop ((i + 1) * 2) := cellsF_drop L (i + 1) (by omega)
  have hdl : ((cellsF pS L).drop ((i + 1) * 2)).length = (n - (i + 1)) * 2 := by rw [List.length_drop, hcl]; omega
  have h1d : ∀ v ∈ (cellsF pS L).drop ((i + 1) * 2), v.oneCell' = true := fun v hv => cellsF_one L v (List.mem_of_mem_drop hv)
  have hsrcD : ∀ q v, ((cellsF pS L).drop ((i + 1) * 2))[q]? = some v → cur[(if c = i + 1 then 0 else 0 + (i + 1) * 2) + q]? = some v := fun q v hq => by
    rw [List.getElem?_drop] at hq
    have hlt := (List.getElem?_eq_some_iff.1 hq).1
    rw [if_neg (by omega), Nat.zero_add, hrw.get ((i + 1) * 2 + q) (by omega)]; exact hq
  refine rS [.v] h kr fun gs1 w1 H1 => ?_
  refine rS [.v, .v, .v, .v, .v, .o (ins := [((.tmp 8), .slice (some ⟨bw, 0, none⟩) n c), ((.tmp 9), iN i), ((.tmp 10), iN (i + 1)), ((.tmp 12), iN n)]) (v := .slice (some ⟨bw, i * 2, none⟩) (i + 1 - i) (n - i)) (fun ρ o w ho hi2 => cut3_run (kd := .i64) (kz := .i64) (ku := .i64) (t := 23) (e := 48) (size := 2) (bytes := 32) kr (x := (.tmp 8)) (y := (.tmp 10)) (z := (.tmp 9)) (u := (.tmp 12)) bw n c i (i + 1) n ho hi2.1 hi2.2.2.1 hi2.2.1 hi2.2.2.2.1 hle (by omega) (by omega) hi w)] H1 kr fun gs2 w2 H2 => ?_
  refine g_seq kr ?_
  refine rS [.v, .v, .e (v := .bool (((i : Nat) : Int) == ((i + 1 : Nat) : Int))) (v' := .bool false) (bool_eq (beq_eq_false_iff_ne.2 (by omega)))] H2 kr fun gs3 w3 H3 => ?_
  refine g_cond_f kr kr ?_
  refine g_skip kr ?_
  show WP _ _ _ _ _ _
  refine rS [.v, .v, .v] H3 kr fun gs4 w4 H4 => ?_
  refine dS [.v, .v, .o (ins := [((.tmp 20), .slice (some ⟨bw, 0, none⟩) n c), ((.tmp 21), iN i)]) (v := .slice (some ⟨bw, 0, none⟩) i c) (fun ρ o w ho hi2 => cut_run (kd := .i64) (t := 23) (e := 48) (size := 2) (bytes := 32) kr (x := (.tmp 20)) (y := (.tmp 21)) bw n c i ho hi2.1 hi2.2.1 (by omega) w), .v, .v, .o (ins := [((.tmp 23), .slice (some ⟨bw, 0, none⟩) n c), ((.tmp 24), iN (i + 1))]) (v := .slice (some ⟨bw, if c = i + 1 then 0 else 0 + (i + 1) * 2, none⟩) (n - (i + 1)) (c - (i + 1))) (fun ρ o w ho hi2 => cutL_run (kz := .i64) (t := 23) (e := 48) (size := 2) (bytes := 32) kr (x := (.tmp 23)) (z := (.tmp 24)) bw 0 n c (i + 1) ho hi2.1 hi2.2.1 (by omega) hle w),
    .g [((.tmp 22), .slice (some ⟨bw, 0, none⟩) (i) (c)), ((.tmp 25), .slice (some ⟨bw, if c = i + 1 then 0 else 0 + (i + 1) * 2, none⟩) (n - (i + 1)) (c - (i + 1)))] (appendOp 23 (.tmp 22) (.tmp 25)) ((0, (bw, Obj.cells (cur) 48 (0, 0))) :: []) (fun _ => .slice (some ⟨bw, 0, none⟩) ((i) + (n - (i + 1))) (c)) (.turn 0 (.cells (putL (cur) ((i) * 2) ((cellsF pS L).drop ((i + 1) * 2))) 48 (0, 0))) (appInIt (t := 23) (e := 48) (size := 2) (bytes := 32) kr (x := (.tmp 22)) (y := (.tmp 25)) (j := 0) (b := bw) (n := i) (cap := c) (m := n - (i + 1)) (c := c - (i + 1)) (a := ⟨bw, if c = i + 1 then 0 else 0 + (i + 1) * 2, none⟩) (cur := cur) (T := 48) (news := (cellsF pS L).drop ((i + 1) * 2)) (rd := []) (hdl) (fun w hd => src_row hd.1 hsrcD) (h1d) (by omega) (by rw [hdl, hcs]; omega)), .v] H4 kr fun w5 H5 => ?_
  have hsz1 : (putL cur (i * 2) ((cellsF pS L).drop ((i + 1) * 2))).size = c * 2 := by rw [putL_size (by rw [hdl, hcs]; omega), hcs]
  obtain ⟨N, hN⟩ : ∃ N, i + (n - (i + 1)) = N := ⟨_, rfl⟩
  have hN1 : N + 1 = n := by omega
  have H6 : St B w0 w5 ((bw, .cells (putL cur (i * 2) ((cellsF pS L).drop ((i + 1) * 2))) 48 (0, 0)) :: Lr) := H5.as kr
  refine g_now 0 (v := .slice (some ⟨bw, 0, none⟩) (i + (n - (i + 1))) c) (v' := .slice (some ⟨bw, 0, none⟩) N c) (by rw [hN]) kr ?_
  refine g_sreg [0, 1, 2, 3, 4, 5] kr kr ?_
  refine rp [.v, .v, .v, .v, .oe (ins := [((.tmp 27), .slice (some ⟨bw, 0, none⟩) N c), ((.tmp 29), iN N), ((.tmp 30), iN n)]) (v := .slice (some ⟨bw, N * 2, none⟩) 1 (c - N)) (v' := .slice (some ⟨bw, N * 2, none⟩) 1 (c - N)) (fun ρ o w ho hi2 => cut2_run (kd := .i64) (kz := .i64) (t := 23) (e := 48) (size := 2) (bytes := 32) kr (x := (.tmp 27)) (y := (.tmp 30)) (z := (.tmp 29)) bw N c N n ho hi2.1 hi2.2.2.1 hi2.2.1 hle (by omega) (by omega) (N * 2) 1 rfl (by omega) w) rfl] H6 kr fun gs6 w6 H7 => ?_
  show WPs _ _ _ _ [5] _ _
  have H8 : St B w0 w6 ((bw, .cells (putL cur (i * 2) ((cellsF pS L).drop ((i + 1) * 2))) 48 (0, 0)) :: Lr) := H7.as kr
  refine s_clearK H8 none 23 48 2 32 (.tmp 31) 0 bw (N * 2) 1 (c - N) (putL cur (i * 2) ((cellsF pS L).drop ((i + 1) * 2))) 48 kr kr kr kr kr rfl (by omega) (by rw [hsz1]; omega) ?_
  intro V w7 hV H9
  refine s_nil ?_
  show WP _ _ _ _ _ _
  refine rS [.v, .v] H9 kr fun gs7 w8 H10 => ?_
  refine rRr [.tmp 6] [] (.slice (some ⟨bw, 0, none⟩) N c) (Ins1 B w0 Lr (L.take i ++ L.drop (i + 1))) H10 kr ?_
  have hfin : Rw 2 (putL (putL cur (i * 2) ((cellsF pS L).drop ((i + 1) * 2))) (N * 2) V) c N (cellsF pS (L.take i ++ L.drop (i + 1))) := by
    refine ⟨by rw [cellsF_len, List.length_append, List.length_take, List.length_drop, hlenL]; show (min i n + (n - (i + 1))) * 2 = N * 2; omega, by omega, hmx, ?_, by rw [putL_size (by rw [hsz1, hV]; omega), hsz1]⟩
    rw [putL_take_lt (C := putL cur (i * 2) ((cellsF pS L).drop ((i + 1) * 2))) (o := N * 2) (vs := V) (m := N * 2) (by rw [hsz1]; omega) (Nat.le_refl _),
      putL_take (C := cur) (o := i * 2) (vs := (cellsF pS L).drop ((i + 1) * 2)) (m := N * 2) (by rw [hdl, hcs]; omega) (by rw [hdl]; omega), cellsF_append, etk, edr]
    have e1 : cur.toList.take (i * 2) = (cellsF pS L).take (i * 2) := by rw [← hrw.take, List.take_take, Nat.min_eq_left (by omega)]
    have e2 : (cur.toList.take (N * 2)).drop (i * 2 + ((cellsF pS L).drop ((i + 1) * 2)).length) = [] := List.drop_of_length_le (by rw [List.length_take, Array.length_toList, hcs, hdl]; omega)
    rw [e1, e2, List.append_nil]
  exact ⟨some ⟨bw, 0, none⟩, N, c, _, rfl, .inr ⟨bw, _, rfl, rfl, hfin⟩, H10.as kr⟩
set_option maxRecDepth 100000 in
set_option maxHeartbeats 4000000 in
theorem del_zero (p : Option Addr) (n c : Nat) (root : Int) (A : List Nd) (hA : ∀ x ∈ A, x.part.size ≤ 140737488355328) (hAl : A.length ≤ 1000000000000) (key : ByteArray) {L : List Pr} (hr : readM A root = some L) (hh : hasM key L = false) :
    FnP Tryz.prog 17 #[.agg #[.slice p n c, .int .i64 root], .string key] (fun w => NdAt w p n A) (.tuple #[.agg #[.slice none 0 0, .int .i64 0], .int .i64 6]) := by
  refine FnP.intro (c := codeOf Tryz.f17) [.cell 4 26, .tmp 5] 34 Tryz.func17 kr kr kr fun w hN => ?_
  have H0 := St.start w
  have hok0 := readM_ok hr
  have h64 := hok0.len
  refine rS [.b, .a, .v] H0 kr fun gs1 w1 H1 => ?_
  refine g_sreg [0, 1, 2, 3, 4, 5, 6] kr kr ?_
  refine rp [.l 0] H1 kr fun gs2 w2 H2 => ?_
  show WPs _ _ _ _ [1, 2, 3, 4, 5, 6] _ _
  have H2 : St w.heap.size w w2 [((gs1 0).b, boT p n c root), ((gs1 1).b, boT none 0 0 0)] := H2.as kr
  refine s_callFT H2 (some 12) 10 #[.agg #[.slice p n c, .int .i64 root]] (pairs_fn p n c root A hA hAl) (hN.call H2.below) kr kr ?_
  intro v T w3 hok H3
  rw [hr] at hok
  obtain ⟨q, m, k, rfl, hrow⟩ := hok
  have hlen := hrow.len
  have H4 : St w.heap.size w w3 (T ++ [((gs1 1).b, boT none 0 0 0)]) := H3.sub (List.Sublist.append_left (List.sublist_cons_self ..) T)
  refine rp [.v, .v, .v, .v, .v] H4 kr fun gs3 w4 H5 => ?_
  show WPs _ _ _ _ [] _ _
  refine s_nil ?_
  refine g_seq kr ?_
  refine rS [.v, .v] H5 kr fun gs4 w5 H6 => ?_
  refine g_cond_f kr kr ?_
  refine g_skip kr ?_
  show WP _ _ _ _ _ _
  refine g_sreg [0, 1, 2, 3, 4, 5, 6, 7] kr kr ?_
  refine rp [.v, .v] H6 kr fun gs5 w6 H7 => ?_
  show WPs _ _ _ _ [2, 3, 4, 5, 6, 7] _ _
  have H8 : St w.heap.size w w6 (T ++ [((gs1 1).b, boT none 0 0 0)]) := H7.as kr
  refine s_callP H8 (some 22) 33 #[.slice q m k, .string key] _ _ (find_fn q m k L key (by omega) hok0.rise) (hrow.prAt H8 fun e he => List.mem_append_left _ he) (fun w => by kernel_rfl) kr ?_
  intro w7 H9
  rw [hh]
  refine rp [.v, .v, .v, .v, .v] H9 kr fun gs6 w8 H10 => ?_
  show WPs _ _ _ _ [] _ _
  refine s_nil ?_
  refine g_seq kr ?_
  refine rS [.v, .v] H10 kr fun gs7 w9 H11 => ?_
  refine g_cond_t kr kr ?_
  have H13 : St w.heap.size w w9 [((gs1 1).b, boT none 0 0 0)] := (H11.as (l := T ++ [((gs1 1).b, boT none 0 0 0)]) kr).sub (List.sublist_append_right ..)
  refine rS [.v, .s 0, .v] H13 kr fun gs9 w11 H14 => ?_
  exact rR [.cell 4 26, .tmp 5] [0] (.tuple #[.agg #[.slice none 0 0, .int .i64 0], .int .i64 6]) H14 kr
set_option maxRecDepth 100000 in
set_option maxHeartbeats 4000000 in
theorem del_ok (p : Option Addr) (n c : Nat) (root : Int) (A : List Nd) (hA : ∀ x ∈ A, x.part.size ≤ 140737488355328) (hAl : A.length ≤ 1000000000000) (key : ByteArray) {L : List Pr} (hr : readM A root = some L) (hh : hasM key L = true) :
    FnT Tryz.prog 17 #[.agg #[.slice p n c, .int .i64 root], .string key] (fun w => NdAt w p n A) (okPut (delP key L)) := by
  refine FnT.intro (c := codeOf Tryz.f17) [.cell 4 26, .tmp 5] 34 Tryz.func17 kr kr kr fun w hN => ?_
  have H0 := St.start w
  have hok0 := readM_ok hr
  have h64 := hok0.len
  refine rS [.b, .a, .v] H0 kr fun gs1 w1 H1 => ?_
  refine g_sreg [0, 1, 2, 3, 4, 5, 6] kr kr ?_
  refine rp [.l 0] H1 kr fun gs2 w2 H2 => ?_
  show WPs _ _ _ _ [1, 2, 3, 4, 5, 6] _ _
  have H2 : St w.heap.size w w2 [((gs1 0).b, boT p n c root), ((gs1 1).b, boT none 0 0 0)] := H2.as kr
  refine s_callFT H2 (some 12) 10 #[.agg #[.slice p n c, .int .i64 root]] (pairs_fn p n c root A hA hAl) (hN.call H2.below) kr kr ?_
  intro v T w3 hok H3
  rw [hr] at hok
  obtain ⟨q, m, k, rfl, hrow⟩ := hok
  have hlen := hrow.len
  have H4 : St w.heap.size w w3 (T ++ [((gs1 1).b, boT none 0 0 0)]) := H3.sub (List.Sublist.append_left (List.sublist_cons_self ..) T)
  refine rp [.v, .v, .v, .v, .v] H4 kr fun gs3 w4 H5 => ?_
  show WPs _ _ _ _ [] _ _
  refine s_nil ?_
  refine g_seq kr ?_
  refine rS [.v, .v] H5 kr fun gs4 w5 H6 => ?_
  refine g_cond_f kr kr ?_
  refine g_skip kr ?_
  show WP _ _ _ _ _ _
  refine g_sreg [0, 1, 2, 3, 4, 5, 6, 7] kr kr ?_
  refine rp [.v, .v] H6 kr fun gs5 w6 H7 => ?_
  show WPs _ _ _ _ [2, 3, 4, 5, 6, 7] _ _
  have H8 : St w.heap.size w w6 (T ++ [((gs1 1).b, boT none 0 0 0)]) := H7.as kr
  refine s_callP H8 (some 22) 33 #[.slice q m k, .string key] _ _ (find_fn q m k L key (by omega) hok0.rise) (hrow.prAt H8 fun e he => List.mem_append_left _ he) (fun w => by kernel_rfl) kr ?_
  intro w7 H9
  rw [hh]
  refine rp [.v, .v, .v, .v, .v] H9 kr fun gs6 w8 H10 => ?_
  show WPs _ _ _ _ [] _ _
  refine s_nil ?_
  refine g_seq kr ?_
  refine rS [.v, .v] H10 kr fun gs7 w9 H11 => ?_
  refine g_cond_f kr kr ?_
  refine g_skip kr ?_
  show WP _ _ _ _ _ _
  have hlt := hasM_lt hh
  rcases hrow with ⟨_, _, _, _, h0⟩ | ⟨b0, cur0, rfl, rfl, hrw0⟩
  · rw [h0] at hlt; exact absurd hlt (Nat.not_lt_zero _)
  refine g_sreg [0, 1, 2, 3, 4, 5, 6, 7] kr kr ?_
  refine rp [.v, .v, .v, .e (v := .int .i64 (IntKind.i64.wrap (((posM key L : Nat) : Int) + 1))) (v' := iN (posM key L + 1)) (int_eq (wrapAdd_i64 (a := posM key L) (b := 1) (by omega)))] H11 kr fun gs8 w10 H12 => ?_
  show WPs _ _ _ _ [4, 5, 6, 7] _ _
  have H13 : St w.heap.size w w10 ((b0, .cells cur0 48 (0, 0)) :: [((gs1 1).b, boT none 0 0 0)]) := H12.as kr
  refine s_callC (some 32) 37 #[.slice (some ⟨b0, 0, none⟩) m k, iN (posM key L), iN (posM key L + 1)] (delete_c b0 m k cur0 L (posM key L) [((gs1 1).b, boT none 0 0 0)] hrw0 H13 (by omega) (by omega)) kr kr ?_
  rintro v w12 ⟨q2, m2, k2, row2, rfl, hrow2, H16⟩
  rw [del_found hok0.rise hh] at hrow2
  have hokD : OkP (delP key L) := hok0.del
  have hlD := hokD.len
  refine s_callFT H16 (some 33) 36 #[.slice q2 m2 k2] (build_fn q2 m2 k2 (delP key L) (by omega) (fun x hx => (may_size (hokD.may x hx)).1.2) (key_rise.2 hokD.rise)) (hrow2.prAt H16 fun e he => List.mem_append_left _ he) kr kr ?_
  rintro v T2 w16 ⟨p3, n3, c3, hrow4, rfl⟩ H22
  have H23 : St w.heap.size w w16 (((gs1 1).b, boT none 0 0 0) :: T2) := (H22.sub (List.Sublist.append_left (List.sublist_append_right ..) T2)).perm (List.perm_append_comm (l₁ := [((gs1 1).b, boT none 0 0 0)]) (l₂ := T2))
  refine rp [.s 0, .v] H23 kr fun gs13 w17 H24 => ?_
  show WPs _ _ _ _ [] _ _
  refine s_nil ?_
  have H25 : St w.heap.size w w17 (((gs1 1).b, boT p3 n3 c3 (layM 65 (entsOf (delP key L)) []).2) :: T2) := H24.as kr
  refine rRr [.cell 4 26, .tmp 5] [0] (.tuple #[.agg #[.slice p3 n3 c3, .int .i64 (layM 65 (entsOf (delP key L)) []).2], .int .i64 0]) (outT w.heap.size w (okPut (delP key L))) H25 kr ?_
  exact ⟨T2, ⟨p3, n3, c3, hrow4, rfl⟩, H25.sub (List.sublist_cons_self ..)⟩
end Go.Proofs.YtlhfgbjhngkicaaGreatDoor

namespace Go.Proofs.YtlhfgbjhngkicaaGreatDoor
open Go Go.RowKit
set_option linter.unusedVariables false
namespace D2
/-- Operation ka calls, operation kb stores, operation kc puts the answer down. -/
def sq (ka kb kc : Nat) (P0 : World → Prop) (P1 P2 : Gh → World → Prop) : (Nat → Bool) → (Nat → Gh) → World → Prop := fun L g w => bif L kc then P2 (g kc) w else bif L kb then P2 (g ka) w else bif L ka then P1 (g ka) w else P0 w
theorem sq.get {ka kb kc : Nat} {P0 : World → Prop} {P1 P2 : Gh → World → Prop} {L : Nat → Bool} {g : Nat → Gh} {w : World} {Φ : Prop} (h : sq ka kb kc P0 P1 P2 L g w) (h0 : P0 w → Φ) (h1 : ∀ y, P1 y w → Φ) (h2 : ∀ y, P2 y w → Φ) : Φ := by
  unfold sq at h
  cases hc : L kc with
  | true => rw [hc] at h; exact h2 _ h
  | false =>
    rw [hc] at h
    cases hb : L kb with
    | true => rw [hb] at h; exact h2 _ h
    | false =>
      rw [hb] at h
      cases ha : L ka with
      | true => rw [ha] at h; exact h1 _ h
      | false => rw [ha] at h; exact h0 h
section
variable {P : Program} {ops : Array Oper} {R : (Nat → Gh) → Env} {d : Option Nat} {P0 : World → Prop} {P1 P2 : Gh → World → Prop}
theorem gv_sq1 {V : Gh → Value} (ka kb kc : Nat) (hab : Nat.beq kb ka = false) (hac : Nat.beq kc ka = false) (f : Nat) (args : Array Value) {pr : World → Prop} {ok : Value → List (Nat × Obj) → Prop} (hc : FnT P f args pr ok) (hN : ∀ L, Now ops ka L → L kb = false ∧ L kc = false) (hpr : ∀ w, P0 w → pr w)
    (hk : ∀ w v T w', P0 w → ok v T → St w.heap.size w w' T → ∃ x : Gh, v = V x ∧ P1 x w') (h : ∀ g w, opv P ops ka (R g) w = some (d, true, .ok (.enter f args) w)) : Gives P ops R (sq ka kb kc P0 P1 P2) ka d V := by
  refine gives_of fun L g w hp hNw => ?_
  obtain ⟨hb, hcc⟩ := hN L hNw
  unfold sq at hp
  rw [hcc, hb, hNw.1] at hp
  have hp0 : P0 w := hp
  obtain ⟨o, ho, hd, hw, hr⟩ := opv_some (h g w)
  refine ⟨o, ho, hd, .inr ⟨hw, ?_⟩⟩
  rw [hr]
  refine Calls.mono (hc w (hpr w hp0)) ?_
  rintro e w' ⟨v, T, rfl, hok, hT⟩
  obtain ⟨x, hv, hq⟩ := hk w v T w' hp0 hok hT
  refine ⟨v, rfl, x, hv, ?_⟩
  unfold sq
  rw [show put1 L ka kc = false by unfold put1; rw [hac, hcc]; rfl, show put1 L ka kb = false by unfold put1; rw [hab, hb]; rfl, put1_self, show setN g ka x ka = x by unfold setN; rw [Nat.beq_refl]; rfl]
  exact hq
theorem gv_sq2 (ka kb kc : Nat) (hbc : Nat.beq kc kb = false) (t : TypeId) (x y : Operand) (b : Nat) (v : Value) (hN : ∀ L, Now ops kb L → L ka = true ∧ L kc = false) (h : ∀ g, opk ops kb (R g) = some (none, true, .store t x y))
    (hx : ∀ g, ev (R g) x = .pointer (some ⟨b, 0, none⟩)) (hy : ∀ g, ev (R g) y = v) (hi : (P.info? t).map (·.size) = some v.cells.size) (h1 : v.cells.all (·.oneCell') = true)
    (hP : ∀ z w, P1 z w → ∃ C T, w.heap[b]? = some (.cells C T (0, 0)) ∧ v.cells.size = C.size ∧ P2 z (w.setRow b v.cells)) : Gives P ops R (sq ka kb kc P0 P1 P2) kb none (fun _ => undef) := by
  refine gives_of fun L g w hp hNw => ?_
  obtain ⟨ha, hcc⟩ := hN L hNw
  unfold sq at hp
  rw [hcc, hNw.1, ha] at hp
  obtain ⟨C, T, hh, hs, hq⟩ := hP (g ka) w hp
  obtain ⟨o, ho, hd, hw, hop⟩ := opk_some (h g)
  refine ⟨o, ho, hd, .inr ⟨hw, ?_⟩⟩
  have hst := store_agg (P := P) (w := w) (off := 0) hi h1 hh (by omega)
  have e0 : (C.toList.take 0 ++ v.cells.toList ++ C.toList.drop (0 + v.cells.size)).toArray = v.cells := by
    rw [List.take_zero, List.nil_append, Nat.zero_add, hs, List.drop_of_length_le (by simp), List.append_nil]
  rw [e0] at hst
  have e2 : (execOp (ev (R g)) o).run P w = .ok .skip (w.setRow b v.cells) := by simp [execOp, hop, Instr.storeAt, Instr.sureAddr, hx g, hy g, hst]
  rw [e2]
  refine ⟨g kb, rfl, ?_⟩
  rw [setN_self]
  unfold sq
  rw [show put1 L kb kc = false by unfold put1; rw [hbc, hcc]; rfl, put1_self]
  exact hq
theorem gv_sq3 {V : Gh → Value} (ka kb kc : Nat) (hN : ∀ L, Now ops kc L → L kb = true) (h : ∀ g w, opv P ops kc (R g) w = some (d, true, .ok (.value (V (g ka))) w)) : Gives P ops R (sq ka kb kc P0 P1 P2) kc d V := by
  refine gv_valG (fun g => g ka) (fun L g w hNw hp => ?_) h
  have hb := hN L hNw
  unfold sq at hp ⊢
  rw [hNw.1, hb] at hp
  rw [put1_self, show setN g kc (g ka) kc = g ka by unfold setN; rw [Nat.beq_refl]; rfl]
  exact hp
theorem sq.fin {ka kb kc : Nat} {L : Nat → Bool} {g : Nat → Gh} {w : World} (h : sq ka kb kc P0 P1 P2 L g w) (hc : L kc = true) : P2 (g kc) w := by
  unfold sq at h; rw [hc] at h; exact h
end
end D2
/-- A row as a ghost. -/
theorem gh_of {α : Type} {S : Fl α} {ty : TypeId} {p : Option Addr} {n c : Nat} {T : List (Nat × Obj)} {L : List α} (h : RowF S ty p n c T L) : ∃ x : D2.Gh, Value.slice p n c = .slice (pG x) x.n x.cap ∧ RowF S ty (pG x) x.n x.cap T L := by
  rcases h with ⟨rfl, rfl, rfl, rfl, rfl⟩ | ⟨b, cur, rfl, rfl, hr⟩
  · exact ⟨{ n := 0, cap := 0 }, rfl, .inl ⟨rfl, rfl, rfl, rfl, rfl⟩⟩
  · exact ⟨{ b := b, n := n, cap := c, l := [1] }, rfl, .inr ⟨b, cur, rfl, rfl, hr⟩⟩
end Go.Proofs.YtlhfgbjhngkicaaGreatDoor

namespace Go.Proofs.YtlhfgbjhngkicaaGreatDoor
open Go Go.RowKit
set_option linter.unusedVariables false
theorem lay_part (B : Nat) : ∀ (f : Nat) (l : List Ent) (A : List Nd), (∀ x ∈ A, x.part.size ≤ B) → (∀ e ∈ l, e.1.length ≤ B) → ∀ x ∈ (layM f l A).1, x.part.size ≤ B
  | 0, _, A, hA, _ => hA
  | f + 1, [], A, hA, _ => hA
  | f + 1, [e], A, hA, hl => fun x hx => by
    unfold layM at hx
    rcases List.mem_append.1 hx with hx | hx
    · exact hA x hx
    · rw [List.mem_singleton.1 hx]; exact hl e (by simp)
  | f + 1, e :: e' :: r, A, hA, hl => fun x hx => by
    unfold layM at hx
    split at hx
    · rcases List.mem_append.1 hx with hx | hx
      · refine lay_part B f _ A hA (fun y hy => ?_) x hx
        obtain ⟨z, hz, rfl⟩ := List.mem_map.1 hy
        have := hl z hz
        simp only [List.length_drop]; omega
      · rw [List.mem_singleton.1 hx]
        have := hl e (by simp)
        show (e.1.take _).length ≤ B
        rw [List.length_take]; omega
    · rcases List.mem_append.1 hx with hx | hx
      · have key : ∀ n, ∀ x ∈ (kidsW (layM f) (e :: e' :: r) n A).1, x.part.size ≤ B := by
          intro n
          induction n with
          | zero => exact hA
          | succ n ih =>
            exact lay_part B f (cutE n (e :: e' :: r)) _ ih fun y hy => by
              obtain ⟨b, hb, _⟩ := cutE_mem hy
              have := hl _ hb
              simp only [List.length_cons] at this; omega
        exact key 16 x hx
      · rw [List.mem_singleton.1 hx]; exact Nat.zero_le _
theorem built_part {L : List Pr} (h : OkP L) : ∀ x ∈ (builtM L).1, x.part.size ≤ 140737488355328 := fun x hx => by
  have := lay_part 64 65 (entsOf L) [] (fun _ h => nomatch h) (fun e he => by
    obtain ⟨y, hy, rfl⟩ := List.mem_map.1 he
    have := (may_size (h.may y hy)).1.2
    show (hv (tl y.1)).length ≤ 64
    rw [hv_len, tl_len]; omega) x hx
  omega
theorem built_len {L : List Pr} (h : OkP L) : (builtM L).1.length ≤ 1000000000000 := by
  have h1 := layM_len 65 (entsOf L) []
  have h2 : (entsOf L).length = L.length := List.length_map ..
  have h3 := h.len
  rw [h2] at h1
  show (layM 65 (entsOf L) []).1.length ≤ _
  simp only [List.length_nil] at h1; omega
abbrev acO (x : Pr) : Obj := .cells #[.string x.1, .string x.2] 52 (0, 0)
/-- Pairs, and the trie of them. -/
def okModel (v : Value) (T : List (Nat × Obj)) : Prop := ∃ (L : List Pr) (q : Option Addr) (m k : Nat) (rowl : List (Nat × Obj)) (pt : Option Addr) (nt ct : Nat) (Tt : List (Nat × Obj)), OkP L ∧ RowF pS 48 q m k rowl L ∧ RowF nS 58 pt nt ct Tt (builtM L).1 ∧ T = rowl ++ Tt ∧
  v = .tuple #[.slice q m k, .agg #[.slice pt nt ct, .int .i64 (builtM L).2], .bool true]
theorem sub_a (a b c d : Nat × Obj) (R T2 Tn : List (Nat × Obj)) : (c :: d :: (T2 ++ Tn)).Sublist (a :: b :: c :: d :: ((R ++ T2) ++ Tn)) :=
  List.Sublist.cons _ (List.Sublist.cons _ (List.Sublist.cons_cons _ (List.Sublist.cons_cons _ (by rw [List.append_assoc]; exact List.sublist_append_right ..))))
theorem sub_b (a b c d : Nat × Obj) (R : List (Nat × Obj)) : (c :: d :: R).Sublist (a :: b :: c :: d :: R) := List.Sublist.cons _ (List.Sublist.cons _ (List.Sublist.refl _))
theorem same_none : FnP Tryz.prog 7 #[.agg #[.slice none 0 0, .int .i64 0], .agg #[.slice none 0 0, .int .i64 0]] (fun _ => True) (.bool true) := by
  have h := like_fn none 0 0 0 [] none 0 0 0 [] (by decide)
  exact fun w _ => h w ⟨⟨rfl, .inl rfl⟩, ⟨rfl, .inl rfl⟩⟩
set_option maxRecDepth 100000 in
set_option maxHeartbeats 8000000 in
theorem model_fn (p : Option Addr) (n c : Nat) (As : List Pr) : FnT Tryz.prog 6 #[.slice p n c] (fun w => PrAt w p n As) okModel := by
  refine FnT.intro (c := codeOf Tryz.f6) [.tmp 2, .cell 3 26, .tmp 4] 122 Tryz.func6 kr kr kr fun w hP => ?_
  have H0 := St.start w
  have hn := hP.1
  refine rS [.v, .a, .v] H0 kr fun gs1 w1 H1 => ?_
  refine rS [.v] H1 kr fun gs2 w2 H2 => ?_
  generalize hb3 : (gs1 1).b = b3 at *
  have H3 : St w.heap.size w w2 [(b3, boT none 0 0 0)] := H2.as (by rw [← hb3]; kernel_rfl)
  subst hb3
  refine g_sreg [0, 1, 2] kr kr ?_
  refine s_callFT H3 (some 18) 19 #[] new_fn trivial kr kr ?_
  rintro _ T0 w3 ⟨pt0, nt0, ct0, hrt0, rfl⟩ H4
  refine s_alloc H4 (some 6) 26 (.agg #[.slice none 0 0, .int .i64 0]) kr kr kr ?_
  intro b6 w4 H5
  have H6 : St w.heap.size w w4 ((b6, boT none 0 0 0) :: ((gs1 1).b, boT none 0 0 0) :: T0) := H5.perm (List.Perm.cons _ (List.perm_append_comm (l₁ := [((gs1 1).b, boT none 0 0 0)]) (l₂ := T0)))
  refine rp [.s 0] H6 kr fun gs3 w5 H7 => ?_
  show WPs _ _ _ _ [] _ _
  refine s_nil ?_
  refine g_seq kr ?_
  refine rS [.v, .v, .v] H7 kr fun gs4 w6 H8 => ?_
  refine g_block 0 kr ?_
  have H9 : St w.heap.size w w6 ((b6, boT pt0 nt0 ct0 (builtM []).2) :: ((gs1 1).b, boT none 0 0 0) :: ([] ++ T0)) := H8.as kr
  refine g_loop kr (fun mz ρ ww => ∃ (i : Nat) (L : List Pr) (q : Option Addr) (m k : Nat) (rowl : List (Nat × Obj)) (pt : Option Addr) (nt ct : Nat) (Tt : List (Nat × Obj)), 91 - i = mz ∧ i ≤ 90 ∧ OkP L ∧ RowF pS 48 q m k rowl L ∧ RowF nS 58 pt nt ct Tt (builtM L).1 ∧
    St w.heap.size w ww ((b6, boT pt nt ct (builtM L).2) :: ((gs1 1).b, boT none 0 0 0) :: (rowl ++ Tt)) ∧ Is [(3, .pointer (some ⟨(gs1 1).b, 0, none⟩)), (5, .slice q m k), (6, .pointer (some ⟨b6, 0, none⟩)), (19, .slice p n c), (20, iN n), (21, iN i)] ρ) (91 - 0)
    ⟨0, [], none, 0, 0, [], pt0, nt0, ct0, T0, rfl, by omega, okP_nil, .inl ⟨rfl, rfl, rfl, rfl, rfl⟩, hrt0, H9, (Is.of ⟨kr, kr, kr, kr, kr, kr, trivial⟩)⟩ ?_
  clear H0 H1 H2 H3 H4 H5 H6 H7 H8 H9
  rintro _ _ w7 ⟨i, L, q, m, k, rowl, pt, nt, ct, Tt, rfl, hi90, hok, hrow, hrt, H1, _, rfl⟩
  have h64 := hok.len
  have hlen := hrow.len
  have hread := read_built hok
  have hA := built_part hok
  have hAl := built_len hok
  by_cases hi : i < n
  · skip
    refine rS [.e (v := .bool (decide (((i : Nat) : Int) < ((n : Nat) : Int)))) (v' := .bool true) (bool_eq (decide_eq_true (by omega)))] H1 kr fun gs2 w8 H2 => ?_
    refine g_seq kr ?_
    refine g_cond_t kr kr ?_
    refine g_skip kr ?_
    show WP _ _ _ _ _ _
    refine g_seq kr ?_
    refine g_block 1 kr ?_
    obtain ⟨⟨ks, vs⟩, hx⟩ : ∃ x, As[i]? = some x := ⟨_, List.getElem?_eq_getElem (by omega)⟩
    obtain ⟨bl, off, C, T, fz, hp, hh0, hR⟩ := hP.row (by omega)
    refine g_sreg [0, 1, 2, 3, 4, 5] kr kr ?_
    refine rp [.v, .o (ins := [((.tmp 19), .slice p n c), ((.tmp 21), iN i)]) (v := .pointer (some ⟨bl, off + i * 2, none⟩)) (fun ρ o w ho hi2 => idxP_run (kd := .i64) (t := 22) (e := 52) (K := 2) (bytes := 32) kr (x := (.tmp 19)) (y := (.tmp 21)) bl off n c i hp ho hi2.1 hi2.2.1 hi w), .fp (off := off + i * 2) (n := 2) (W := #[.string ks, .string vs]) hh0 (lt_of_heap hh0) (hR _ _ hx).1 (hR _ _ hx).2] H2 kr fun gs3 w9 H3 => ?_
    show WPs _ _ _ _ [3, 4, 5] _ _
    have H4 : St w.heap.size w w9 ((b6, boT pt nt ct (builtM L).2) :: ((gs1 1).b, boT none 0 0 0) :: (rowl ++ Tt)) := H3.as kr
    refine s_alloc H4 (some 8) 52 (.agg #[.string ⟨#[]⟩, .string ⟨#[]⟩]) kr kr kr ?_
    intro b8 w10 H5
    refine rp [.v, .s 0] H5 kr fun gs4 w11 H6 => ?_
    show WPs _ _ _ _ [] _ _
    refine s_nil ?_
    have H7 : St w.heap.size w w11 ((b8, acO (ks, vs)) :: (b6, boT pt nt ct (builtM L).2) :: ((gs1 1).b, boT none 0 0 0) :: (rowl ++ Tt)) := H6.as kr
    refine g_seq kr ?_
    by_cases h90 : i < 90
    · skip
      refine rS [.v, .e (v := .bool (decide (((i : Nat) : Int) ≥ 90))) (v' := .bool false) (bool_eq (decide_eq_false (by omega)))] H7 kr fun gs5 w12 H8 => ?_
      refine g_cond_f kr kr ?_
      refine g_skip kr ?_
      show WP _ _ _ _ _ _
      obtain ⟨K, hK⟩ : ∃ K, ks.extract 0 (min ks.size 40) = K := ⟨_, rfl⟩
      obtain ⟨V, hV⟩ : ∃ V, vs.extract 0 (min vs.size 600) = V := ⟨_, rfl⟩
      have zK : K.size ≤ 40 := by rw [← hK, ByteArray.size_extract]; omega
      have zV : V.size ≤ 600 := by rw [← hV, ByteArray.size_extract]; omega
      refine dS [.v, .l 0, .v, .l 0, .v, .e (v := .int .i64 (if (40 : Int) < ((ks.size : Nat) : Int) then (40 : Int) else ((ks.size : Nat) : Int))) (v' := iN (min ks.size 40)) (int_eq (by split <;> omega)), .oe (ins := [((.tmp 29), .string ks), ((.tmp 33), iN (min ks.size 40))]) (v := .string (ks.extract 0 (min ks.size 40))) (v' := .string K) (fun ρ o w ho hi => scut_run (t := 9) (kd := .i64) kr (x := (.tmp 29)) (y := (.tmp 33)) ks (min ks.size 40) ho hi.1 hi.2.1 (Nat.min_le_left _ _) w) (congrArg Value.string hK),
        .v, .l 0, .v, .l 0, .v, .e (v := .int .i64 (if (600 : Int) < ((vs.size : Nat) : Int) then (600 : Int) else ((vs.size : Nat) : Int))) (v' := iN (min vs.size 600)) (int_eq (by split <;> omega)), .oe (ins := [((.tmp 36), .string vs), ((.tmp 40), iN (min vs.size 600))]) (v := .string (vs.extract 0 (min vs.size 600))) (v' := .string V) (fun ρ o w ho hi => scut_run (t := 9) (kd := .i64) kr (x := (.tmp 36)) (y := (.tmp 40)) vs (min vs.size 600) ho hi.1 hi.2.1 (Nat.min_le_left _ _) w) (congrArg Value.string hV), .v, .v] H8 kr fun w13 H9 => ?_
      have H10 : St w.heap.size w w13 ((b8, acO (ks, vs)) :: (b6, boT pt nt ct (builtM L).2) :: ((gs1 1).b, boT none 0 0 0) :: (rowl ++ Tt)) := H9.as kr
      refine g_is [(3, .pointer (some ⟨(gs1 1).b, 0, none⟩)), (5, .slice q m k), (6, .pointer (some ⟨b6, 0, none⟩)), (9, .string K), (10, .string V), (19, .slice p n c), (20, iN n), (21, iN i)] kr fun ρ1 => ?_
      clear H1 H2 H3 H4 H5 H6 H7 H8 H9
      have hget := getR_fn q m k L K (by omega)
      rw [get_has K hok.rise] at hget
      generalize hG : (getP K L).1 = G at hget
      have hrowP := fun (ww : World) (lx : List (Nat × Obj)) (hS : St w.heap.size w ww lx) (hl : ∀ e ∈ rowl, e ∈ lx) => hrow.prAt hS hl
      have hndP := fun (ww : World) (lx : List (Nat × Obj)) (hS : St w.heap.size w ww lx) (hl : ∀ e ∈ Tt, e ∈ lx) => hrt.ndAt hS hl
      refine g_sreg [0, 1, 2, 3, 4, 5, 6, 7] kr kr ?_
      refine rp [.v, .v] H10 kr fun gs6 w14 H11 => ?_
      show WPs _ _ _ _ [2, 3, 4, 5, 6, 7] _ _
      have H12 : St w.heap.size w w14 ((b8, acO (ks, vs)) :: (b6, boT pt nt ct (builtM L).2) :: ((gs1 1).b, boT none 0 0 0) :: (rowl ++ Tt)) := H11.as kr
      refine s_callP H12 (some 45) 20 #[.slice q m k, .string K] _ _ hget (hrowP _ _ H12 fun e he => by simp [he]) (fun w => by kernel_rfl) kr ?_
      intro w15 H13
      refine rp [.v, .v, .v, .v, .v] H13 kr fun gs7 w16 H14 => ?_
      show WPs _ _ _ _ [] _ _
      refine s_nil ?_
      have H15 : St w.heap.size w w16 ((b8, acO (ks, vs)) :: (b6, boT pt nt ct (builtM L).2) :: ((gs1 1).b, boT none 0 0 0) :: (rowl ++ Tt)) := H14.as kr
      refine g_seq kr ?_
      by_cases hv : V = ⟨#[]⟩
      · skip
        refine rS [.v, .e (v := .bool (V.toList == (⟨#[]⟩ : ByteArray).toList)) (v' := .bool true) (bool_eq (str_same _ _ hv))] H15 kr fun gs8 w17 H16 => ?_
        refine g_cond_t kr kr ?_
        refine g_sreg [0, 1, 2, 3, 4, 5, 6, 7, 8] kr kr ?_
        refine rp [.l 1, .v] H16 kr fun gs9 w18 H17 => ?_
        show WPs _ _ _ _ [2, 3, 4, 5, 6, 7, 8] _ _
        have H18 : St w.heap.size w w18 ((b8, acO (ks, vs)) :: (b6, boT pt nt ct (builtM L).2) :: ((gs1 1).b, boT none 0 0 0) :: (rowl ++ Tt)) := H17.as kr
        cases hh : hasM K L with
        | true =>
          have hok2 : OkP (delP K L) := hok.del
          refine s_callFT H18 (some 53) 17 #[.agg #[.slice pt nt ct, .int .i64 (builtM L).2], .string K] (del_ok pt nt ct (builtM L).2 (builtM L).1 hA hAl K hread hh) (hndP _ _ H18 fun e he => by simp [he]) kr kr ?_
          rintro _ T2 w19 ⟨p3, n3, c3, hrow4, rfl⟩ H19
          refine rp [.v, .v, .v] H19 kr fun gs10 w20 H20 => ?_
          show WPs _ _ _ _ [6, 7, 8] _ _
          have H21 : St w.heap.size w w20 (T2 ++ ((b8, acO (ks, vs)) :: (b6, boT pt nt ct (builtM L).2) :: ((gs1 1).b, boT none 0 0 0) :: (rowl ++ Tt))) := H20.as kr
          refine s_alloc H21 (some 13) 26 (.agg #[.slice none 0 0, .int .i64 0]) kr kr kr ?_
          intro b13 w21 H22
          have H23 : St w.heap.size w w21 ((b13, boT none 0 0 0) :: ((b8, acO (ks, vs)) :: (b6, boT pt nt ct (builtM L).2) :: ((gs1 1).b, boT none 0 0 0) :: ((rowl ++ Tt) ++ T2))) := H22.perm (List.Perm.cons _ (List.perm_append_comm (l₁ := (b8, acO (ks, vs)) :: (b6, boT pt nt ct (builtM L).2) :: ((gs1 1).b, boT none 0 0 0) :: (rowl ++ Tt)) (l₂ := T2)))
          refine rp [.s 0, .v] H23 kr fun gs11 w22 H24 => ?_
          show WPs _ _ _ _ [] _ _
          refine s_nil ?_
          have H25 : St w.heap.size w w22 ((b13, boT p3 n3 c3 (builtM (delP K L)).2) :: ((b8, acO (ks, vs)) :: (b6, boT pt nt ct (builtM L).2) :: ((gs1 1).b, boT none 0 0 0) :: ((rowl ++ Tt) ++ T2))) := H24.as kr
          refine g_seq kr ?_
          refine rS [.v, .v, .v, .v, .v, .v, .v, .v, .n, .n, .n, .n, .n, .n, .n, .n, .v, .v] H25 kr fun gs12 w23 H26 => ?_
          refine g_cond_f kr kr ?_
          refine g_skip kr ?_
          show WP _ _ _ _ _ _
          refine g_seq kr ?_
          refine g_seq kr ?_
          refine rL [.v] H26 kr fun gs13 w24 H27 => ?_
          show WP _ _ _ _ _ _
          refine g_cond_t kr kr ?_
          have H30 : St w.heap.size w w24 ((b13, boT p3 n3 c3 (builtM (delP K L)).2) :: ((b8, acO (ks, vs)) :: (b6, boT pt nt ct (builtM L).2) :: ((gs1 1).b, boT none 0 0 0) :: ((rowl ++ Tt) ++ T2))) := H27.as kr
          refine D2.g_draw0 [0, 1, 2, 3, 4, 5] [(some 76, fun _ => .agg #[.slice p3 n3 c3, .int .i64 (builtM (delP K L)).2]), (some 77, fun _ => .slice q m k), (some 78, fun _ => .string K), (some 79, fun y => .slice (pG y) y.n y.cap), (none, fun _ => undef), (some 5, fun y => .slice (pG y) y.n y.cap)]
            (D2.sq 3 4 5 (fun ww => St w.heap.size w ww (((b13, boT p3 n3 c3 (builtM (delP K L)).2) :: (b8, acO (ks, vs)) :: (b6, boT pt nt ct (builtM L).2) :: ((gs1 1).b, boT none 0 0 0) :: ((rowl ++ Tt) ++ T2)))) (fun y ww => ∃ Tn, RowF pS 48 (pG y) y.n y.cap Tn (delP K L) ∧ St w.heap.size w ww ((((b13, boT p3 n3 c3 (builtM (delP K L)).2) :: (b8, acO (ks, vs)) :: (b6, boT pt nt ct (builtM L).2) :: ((gs1 1).b, boT none 0 0 0) :: ((rowl ++ Tt) ++ T2))) ++ Tn)) (fun y ww => ∃ Tn, RowF pS 48 (pG y) y.n y.cap Tn (delP K L) ∧ St w.heap.size w ww ((((b13, boT p3 n3 c3 (builtM (delP K L)).2) :: (b8, acO (ks, vs)) :: (b6, boT p3 n3 c3 (builtM (delP K L)).2) :: ((gs1 1).b, boT none 0 0 0) :: ((rowl ++ Tt) ++ T2))) ++ Tn))) kr kr kr (H30.drew) ⟨?_, ?_, ?_, ?_, ?_, ?_, trivial⟩ ?_
          · exact D2.gv_ld (fun _ _ _ h => h) 26 (.tmp 13) (fun _ => b13) 0 #[.slice p3 n3 c3, .int .i64 (builtM (delP K L)).2] 26 (0, 0) (fun g => by kernel_rfl) (fun g => by kernel_rfl) (fun L g w hN hp => hp.get (fun h => St.get h 0 kr) (fun _ ⟨_, _, h⟩ => St.get h 0 kr) (fun _ ⟨_, _, h⟩ => St.get h 0 kr)) kr kr
          · exact D2.gv_val (fun _ _ _ h => h) (fun g w => by kernel_rfl)
          · exact D2.gv_val (fun _ _ _ h => h) (fun g w => by kernel_rfl)
          · exact D2.gv_sq1 3 4 5 kr kr 21 #[.slice q m k, .string K] (delR_fn q m k L K (by omega)) (fun L hN => ⟨hN.post 4 kr, hN.post 5 kr⟩) (fun ww h => hrowP _ _ h fun e he => by simp [he]) (fun ww v T w' h hok hT => by
              obtain ⟨p9, n9, c9, rfl, hr9⟩ := hok
              obtain ⟨x, hx, hrx⟩ := gh_of hr9
              exact ⟨x, hx, T, hrx, (St.addAll h hT).perm List.perm_append_comm⟩) (fun g w => by kernel_rfl)
          · exact D2.gv_sq2 3 4 5 kr 26 (.tmp 6) (.tmp 76) b6 (.agg #[.slice p3 n3 c3, .int .i64 (builtM (delP K L)).2]) (fun L hN => ⟨hN.bef 3 kr, hN.post 5 kr⟩) (fun g => by kernel_rfl) (fun g => by kernel_rfl) (fun g => by kernel_rfl) kr kr (fun z ww ⟨Tn, hr, h⟩ => ⟨#[.slice pt nt ct, .int .i64 (builtM L).2], 26, St.get h 2 kr, rfl, Tn, hr, St.store (C := #[.slice pt nt ct, .int .i64 (builtM L).2]) (C' := #[.slice p3 n3 c3, .int .i64 (builtM (delP K L)).2]) (T := 26) h 2 kr⟩)
          · exact D2.gv_sq3 3 4 5 (fun L hN => hN.bef 4 kr) (fun g w => by kernel_rfl)
          · intro L1 gg w40 hall hp
            obtain ⟨Tn, hr9, H40⟩ := hp.fin (hall 5 (Nat.le_of_ble_eq_true kr))
            show WP _ _ _ _ _ _
            refine g_exit 1 kr ?_
            show WP _ _ _ _ _ _
            refine rL [.e (v := .int .i64 (IntKind.i64.wrap (((i : Nat) : Int) + 1))) (v' := iN (i + 1)) (int_eq (wrapAdd_i64 (a := i) (b := 1) (by omega))), .v] H40 kr fun gs80 w80 H80 => ?_
            show ∃ m, _ ∧ _
            exact ⟨_, (by omega), i + 1, delP K L, (pG (gg 5)), (gg 5).n, (gg 5).cap, Tn, p3, n3, c3, T2, rfl, by omega, hok2, hr9, hrow4, (H80.sub (sub_a _ _ _ _ (rowl ++ Tt) T2 Tn)).perm (List.Perm.cons _ (List.Perm.cons _ List.perm_append_comm)), (Is.of ⟨kr, kr, kr, kr, kr, kr, trivial⟩)⟩
        | false =>
          refine s_callP H18 (some 53) 17 #[.agg #[.slice pt nt ct, .int .i64 (builtM L).2], .string K] _ _ (del_zero pt nt ct (builtM L).2 (builtM L).1 hA hAl K hread hh) (hndP _ _ H18 fun e he => by simp [he]) (fun w => by kernel_rfl) kr ?_
          intro w19 H19
          refine rp [.v, .v, .v] H19 kr fun gs10 w20 H20 => ?_
          show WPs _ _ _ _ [6, 7, 8] _ _
          have H21 : St w.heap.size w w20 ((b8, acO (ks, vs)) :: (b6, boT pt nt ct (builtM L).2) :: ((gs1 1).b, boT none 0 0 0) :: (rowl ++ Tt)) := H20.as kr
          refine s_alloc H21 (some 13) 26 (.agg #[.slice none 0 0, .int .i64 0]) kr kr kr ?_
          intro b13 w21 H22
          refine rp [.s 0, .v] H22 kr fun gs11 w22 H24 => ?_
          show WPs _ _ _ _ [] _ _
          refine s_nil ?_
          have H25 : St w.heap.size w w22 ((b13, boT none 0 0 0) :: (b8, acO (ks, vs)) :: (b6, boT pt nt ct (builtM L).2) :: ((gs1 1).b, boT none 0 0 0) :: (rowl ++ Tt)) := H24.as kr
          refine g_seq kr ?_
          refine rS [.v, .v, .v, .v, .v, .v, .v, .v, .v, .v, .v, .l 0, .v, .cp (pre := fun _ => True) same_none [] (fun w hb hd => trivial), .v, .v, .v, .v] H25 kr fun gs12 w23 H26 => ?_
          refine g_cond_f kr kr ?_
          refine g_skip kr ?_
          show WP _ _ _ _ _ _
          refine g_seq kr ?_
          refine g_seq kr ?_
          refine rL [.v] H26 kr fun gs13 w24 H27 => ?_
          show WP _ _ _ _ _ _
          refine g_cond_f kr kr ?_
          refine g_skip kr ?_
          show WP _ _ _ _ _ _
          refine g_exit 1 kr ?_
          show WP _ _ _ _ _ _
          refine rL [.e (v := .int .i64 (IntKind.i64.wrap (((i : Nat) : Int) + 1))) (v' := iN (i + 1)) (int_eq (wrapAdd_i64 (a := i) (b := 1) (by omega))), .v] H27 kr fun gs80 w80 H80 => ?_
          show ∃ m, _ ∧ _
          exact ⟨_, (by omega), i + 1, L, q, m, k, rowl, pt, nt, ct, Tt, rfl, by omega, hok, hrow, hrt, H80.sub (sub_b _ _ _ _ (rowl ++ Tt)), (Is.of ⟨kr, kr, kr, kr, kr, kr, trivial⟩)⟩
      · skip
        refine rS [.v, .e (v := .bool (V.toList == (⟨#[]⟩ : ByteArray).toList)) (v' := .bool false) (bool_eq (str_other _ _ hv))] H15 kr fun gs8 w17 H16 => ?_
        refine g_cond_f kr kr ?_
        refine g_skip kr ?_
        show WP _ _ _ _ _ _
        refine rS [.v] H16 kr fun gs9 w18 H17 => ?_
        refine g_seq kr ?_
        cases hm : mayM K V with
        | false =>
          refine rS [.v, .v, .c (mayR_fn K V), .e (v := .bool (!(mayM K V))) (v' := .bool true) (bool_eq (by rw [hm]; rfl))] H17 kr fun gs10 w19 H18 => ?_
          refine g_cond_t kr kr ?_
          refine rL [.v] H18 kr fun gs10b w19b H19 => ?_
          show WP _ _ _ _ _ _
          refine g_sreg [0, 1, 2, 3, 4, 5, 6, 7, 8, 9] kr kr ?_
          refine rp [.l 1, .v, .v] H19 kr fun gs11 w20 H20 => ?_
          show WPs _ _ _ _ [3, 4, 5, 6, 7, 8, 9] _ _
          have H21 : St w.heap.size w w20 ((b8, acO (ks, vs)) :: (b6, boT pt nt ct (builtM L).2) :: ((gs1 1).b, boT none 0 0 0) :: (rowl ++ Tt)) := H20.as kr
          refine s_callP H21 (some 95) 16 #[.agg #[.slice pt nt ct, .int .i64 (builtM L).2], .string K, .string V] _ _ (put_bad pt nt ct (builtM L).2 (builtM L).1 hA hAl K V hread hm) (hndP _ _ H21 fun e he => by simp [he]) (fun w => by kernel_rfl) kr ?_
          intro w21 H22
          refine rp [.v, .v, .v] H22 kr fun gs12 w22 H23 => ?_
          show WPs _ _ _ _ [7, 8, 9] _ _
          have H24 : St w.heap.size w w22 ((b8, acO (ks, vs)) :: (b6, boT pt nt ct (builtM L).2) :: ((gs1 1).b, boT none 0 0 0) :: (rowl ++ Tt)) := H23.as kr
          refine s_alloc H24 (some 16) 26 (.agg #[.slice none 0 0, .int .i64 0]) kr kr kr ?_
          intro b16 w23 H25
          refine rp [.s 0, .v] H25 kr fun gs13 w24 H26 => ?_
          show WPs _ _ _ _ [] _ _
          refine s_nil ?_
          have H27 : St w.heap.size w w24 ((b16, boT none 0 0 0) :: (b8, acO (ks, vs)) :: (b6, boT pt nt ct (builtM L).2) :: ((gs1 1).b, boT none 0 0 0) :: (rowl ++ Tt)) := H26.as kr
          refine g_seq kr ?_
          refine rS [.v, .v, .v, .v, .v, .v, .v, .l 0, .v, .cp (pre := fun _ => True) same_none [] (fun w hb hd => trivial), .v, .v, .v] H27 kr fun gs14 w25 H28 => ?_
          refine g_cond_f kr kr ?_
          refine g_skip kr ?_
          show WP _ _ _ _ _ _
          refine rS [.v, .v] H28 kr fun gs15 w26 H29 => ?_
          refine g_cond_f kr kr ?_
          refine g_skip kr ?_
          show WP _ _ _ _ _ _
          refine rL [.e (v := .int .i64 (IntKind.i64.wrap (((i : Nat) : Int) + 1))) (v' := iN (i + 1)) (int_eq (wrapAdd_i64 (a := i) (b := 1) (by omega))), .v] H29 kr fun gs80 w80 H80 => ?_
          show ∃ m, _ ∧ _
          exact ⟨_, (by omega), i + 1, L, q, m, k, rowl, pt, nt, ct, Tt, rfl, by omega, hok, hrow, hrt, H80.sub (sub_b _ _ _ _ (rowl ++ Tt)), (Is.of ⟨kr, kr, kr, kr, kr, kr, trivial⟩)⟩
        | true =>
          refine rS [.v, .v, .c (mayR_fn K V), .e (v := .bool (!(mayM K V))) (v' := .bool false) (bool_eq (by rw [hm]; rfl))] H17 kr fun gs10 w19 H18 => ?_
          refine g_cond_f kr kr ?_
          cases hh : hasM K L with
          | true =>
            have hok2 : OkP (insM K V L) := hok.ins hm (.inl hh)
            refine rS [.v, .v, .v, .n, .n, .n, .v] H18 kr fun gs10b w19b H19 => ?_
            refine g_cond_f kr kr ?_
            refine g_skip kr ?_
            show WP _ _ _ _ _ _
            refine g_sreg [0, 1, 2, 3, 4, 5, 6, 7, 8, 9] kr kr ?_
            refine rp [.l 1, .v, .v] H19 kr fun gs11 w20 H20 => ?_
            show WPs _ _ _ _ [3, 4, 5, 6, 7, 8, 9] _ _
            have H21 : St w.heap.size w w20 ((b8, acO (ks, vs)) :: (b6, boT pt nt ct (builtM L).2) :: ((gs1 1).b, boT none 0 0 0) :: (rowl ++ Tt)) := H20.as kr
            refine s_callFT H21 (some 95) 16 #[.agg #[.slice pt nt ct, .int .i64 (builtM L).2], .string K, .string V] (put_ok pt nt ct (builtM L).2 (builtM L).1 hA hAl K V hread hm (.inl hh)) (hndP _ _ H21 fun e he => by simp [he]) kr kr ?_
            rintro _ T2 w21 ⟨p3, n3, c3, hrow4, rfl⟩ H22
            refine rp [.v, .v, .v] H22 kr fun gs12 w22 H23 => ?_
            show WPs _ _ _ _ [7, 8, 9] _ _
            have H24 : St w.heap.size w w22 (T2 ++ ((b8, acO (ks, vs)) :: (b6, boT pt nt ct (builtM L).2) :: ((gs1 1).b, boT none 0 0 0) :: (rowl ++ Tt))) := H23.as kr
            refine s_alloc H24 (some 16) 26 (.agg #[.slice none 0 0, .int .i64 0]) kr kr kr ?_
            intro b16 w23 H25
            have H26 : St w.heap.size w w23 ((b16, boT none 0 0 0) :: ((b8, acO (ks, vs)) :: (b6, boT pt nt ct (builtM L).2) :: ((gs1 1).b, boT none 0 0 0) :: ((rowl ++ Tt) ++ T2))) := H25.perm (List.Perm.cons _ (List.perm_append_comm (l₁ := (b8, acO (ks, vs)) :: (b6, boT pt nt ct (builtM L).2) :: ((gs1 1).b, boT none 0 0 0) :: (rowl ++ Tt)) (l₂ := T2)))
            refine rp [.s 0, .v] H26 kr fun gs13 w24 H27 => ?_
            show WPs _ _ _ _ [] _ _
            refine s_nil ?_
            have H28 : St w.heap.size w w24 ((b16, boT p3 n3 c3 (builtM (insM K V L)).2) :: ((b8, acO (ks, vs)) :: (b6, boT pt nt ct (builtM L).2) :: ((gs1 1).b, boT none 0 0 0) :: ((rowl ++ Tt) ++ T2))) := H27.as kr
            refine g_seq kr ?_
            refine rS [.v, .v, .v, .v, .v, .v, .v, .n, .n, .n, .n, .v, .v] H28 kr fun gs14 w25 H29 => ?_
            refine g_cond_f kr kr ?_
            refine g_skip kr ?_
            show WP _ _ _ _ _ _
            refine rS [.v, .v] H29 kr fun gs15 w26 H29b => ?_
            refine g_cond_t kr kr ?_
            have hputR := putR_fn q m k L K V (by omega)
            rw [putP_ins hok.rise] at hputR
            have H30 : St w.heap.size w w26 ((b16, boT p3 n3 c3 (builtM (insM K V L)).2) :: ((b8, acO (ks, vs)) :: (b6, boT pt nt ct (builtM L).2) :: ((gs1 1).b, boT none 0 0 0) :: ((rowl ++ Tt) ++ T2))) := H29b.as kr
            refine D2.g_draw0 [0, 1, 2, 3, 4, 5, 6] [(some 114, fun _ => .agg #[.slice p3 n3 c3, .int .i64 (builtM (insM K V L)).2]), (some 115, fun _ => .slice q m k), (some 116, fun _ => .string K), (some 117, fun _ => .string V), (some 118, fun y => .slice (pG y) y.n y.cap), (none, fun _ => undef), (some 5, fun y => .slice (pG y) y.n y.cap)]
              (D2.sq 4 5 6 (fun ww => St w.heap.size w ww (((b16, boT p3 n3 c3 (builtM (insM K V L)).2) :: (b8, acO (ks, vs)) :: (b6, boT pt nt ct (builtM L).2) :: ((gs1 1).b, boT none 0 0 0) :: ((rowl ++ Tt) ++ T2)))) (fun y ww => ∃ Tn, RowF pS 48 (pG y) y.n y.cap Tn (insM K V L) ∧ St w.heap.size w ww ((((b16, boT p3 n3 c3 (builtM (insM K V L)).2) :: (b8, acO (ks, vs)) :: (b6, boT pt nt ct (builtM L).2) :: ((gs1 1).b, boT none 0 0 0) :: ((rowl ++ Tt) ++ T2))) ++ Tn)) (fun y ww => ∃ Tn, RowF pS 48 (pG y) y.n y.cap Tn (insM K V L) ∧ St w.heap.size w ww ((((b16, boT p3 n3 c3 (builtM (insM K V L)).2) :: (b8, acO (ks, vs)) :: (b6, boT p3 n3 c3 (builtM (insM K V L)).2) :: ((gs1 1).b, boT none 0 0 0) :: ((rowl ++ Tt) ++ T2))) ++ Tn))) kr kr kr (H30.drew) ⟨?_, ?_, ?_, ?_, ?_, ?_, ?_, trivial⟩ ?_
            · exact D2.gv_ld (fun _ _ _ h => h) 26 (.tmp 16) (fun _ => b16) 0 #[.slice p3 n3 c3, .int .i64 (builtM (insM K V L)).2] 26 (0, 0) (fun g => by kernel_rfl) (fun g => by kernel_rfl) (fun L g w hN hp => hp.get (fun h => St.get h 0 kr) (fun _ ⟨_, _, h⟩ => St.get h 0 kr) (fun _ ⟨_, _, h⟩ => St.get h 0 kr)) kr kr
            · exact D2.gv_val (fun _ _ _ h => h) (fun g w => by kernel_rfl)
            · exact D2.gv_val (fun _ _ _ h => h) (fun g w => by kernel_rfl)
            · exact D2.gv_val (fun _ _ _ h => h) (fun g w => by kernel_rfl)
            · exact D2.gv_sq1 4 5 6 kr kr 22 #[.slice q m k, .string K, .string V] (hputR) (fun L hN => ⟨hN.post 5 kr, hN.post 6 kr⟩) (fun ww h => hrowP _ _ h fun e he => by simp [he]) (fun ww v T w' h hok hT => by
                obtain ⟨p9, n9, c9, rfl, hr9⟩ := hok
                obtain ⟨x, hx, hrx⟩ := gh_of hr9
                exact ⟨x, hx, T, hrx, (St.addAll h hT).perm List.perm_append_comm⟩) (fun g w => by kernel_rfl)
            · exact D2.gv_sq2 4 5 6 kr 26 (.tmp 6) (.tmp 114) b6 (.agg #[.slice p3 n3 c3, .int .i64 (builtM (insM K V L)).2]) (fun L hN => ⟨hN.bef 4 kr, hN.post 6 kr⟩) (fun g => by kernel_rfl) (fun g => by kernel_rfl) (fun g => by kernel_rfl) kr kr (fun z ww ⟨Tn, hr, h⟩ => ⟨#[.slice pt nt ct, .int .i64 (builtM L).2], 26, St.get h 2 kr, rfl, Tn, hr, St.store (C := #[.slice pt nt ct, .int .i64 (builtM L).2]) (C' := #[.slice p3 n3 c3, .int .i64 (builtM (insM K V L)).2]) (T := 26) h 2 kr⟩)
            · exact D2.gv_sq3 4 5 6 (fun L hN => hN.bef 5 kr) (fun g w => by kernel_rfl)
            · intro L1 gg w40 hall hp
              obtain ⟨Tn, hr9, H40⟩ := hp.fin (hall 6 (Nat.le_of_ble_eq_true kr))
              show WP _ _ _ _ _ _
              refine rL [.e (v := .int .i64 (IntKind.i64.wrap (((i : Nat) : Int) + 1))) (v' := iN (i + 1)) (int_eq (wrapAdd_i64 (a := i) (b := 1) (by omega))), .v] H40 kr fun gs80 w80 H80 => ?_
              show ∃ m, _ ∧ _
              exact ⟨_, (by omega), i + 1, insM K V L, (pG (gg 6)), (gg 6).n, (gg 6).cap, Tn, p3, n3, c3, T2, rfl, by omega, hok2, hr9, hrow4, (H80.sub (sub_a _ _ _ _ (rowl ++ Tt) T2 Tn)).perm (List.Perm.cons _ (List.Perm.cons _ List.perm_append_comm)), (Is.of ⟨kr, kr, kr, kr, kr, kr, trivial⟩)⟩
          | false =>
            by_cases hf : L.length < 64
            · skip
              have hok2 : OkP (insM K V L) := hok.ins hm (.inr hf)
              refine rS [.v, .v, .v, .v, .v, .e (v := .bool (decide (((m : Nat) : Int) ≥ 64))) (v' := .bool false) (bool_eq (decide_eq_false (by omega))), .v] H18 kr fun gs10b w19b H19 => ?_
              refine g_cond_f kr kr ?_
              refine g_skip kr ?_
              show WP _ _ _ _ _ _
              refine g_sreg [0, 1, 2, 3, 4, 5, 6, 7, 8, 9] kr kr ?_
              refine rp [.l 1, .v, .v] H19 kr fun gs11 w20 H20 => ?_
              show WPs _ _ _ _ [3, 4, 5, 6, 7, 8, 9] _ _
              have H21 : St w.heap.size w w20 ((b8, acO (ks, vs)) :: (b6, boT pt nt ct (builtM L).2) :: ((gs1 1).b, boT none 0 0 0) :: (rowl ++ Tt)) := H20.as kr
              refine s_callFT H21 (some 95) 16 #[.agg #[.slice pt nt ct, .int .i64 (builtM L).2], .string K, .string V] (put_ok pt nt ct (builtM L).2 (builtM L).1 hA hAl K V hread hm (.inr hf)) (hndP _ _ H21 fun e he => by simp [he]) kr kr ?_
              rintro _ T2 w21 ⟨p3, n3, c3, hrow4, rfl⟩ H22
              refine rp [.v, .v, .v] H22 kr fun gs12 w22 H23 => ?_
              show WPs _ _ _ _ [7, 8, 9] _ _
              have H24 : St w.heap.size w w22 (T2 ++ ((b8, acO (ks, vs)) :: (b6, boT pt nt ct (builtM L).2) :: ((gs1 1).b, boT none 0 0 0) :: (rowl ++ Tt))) := H23.as kr
              refine s_alloc H24 (some 16) 26 (.agg #[.slice none 0 0, .int .i64 0]) kr kr kr ?_
              intro b16 w23 H25
              have H26 : St w.heap.size w w23 ((b16, boT none 0 0 0) :: ((b8, acO (ks, vs)) :: (b6, boT pt nt ct (builtM L).2) :: ((gs1 1).b, boT none 0 0 0) :: ((rowl ++ Tt) ++ T2))) := H25.perm (List.Perm.cons _ (List.perm_append_comm (l₁ := (b8, acO (ks, vs)) :: (b6, boT pt nt ct (builtM L).2) :: ((gs1 1).b, boT none 0 0 0) :: (rowl ++ Tt)) (l₂ := T2)))
              refine rp [.s 0, .v] H26 kr fun gs13 w24 H27 => ?_
              show WPs _ _ _ _ [] _ _
              refine s_nil ?_
              have H28 : St w.heap.size w w24 ((b16, boT p3 n3 c3 (builtM (insM K V L)).2) :: ((b8, acO (ks, vs)) :: (b6, boT pt nt ct (builtM L).2) :: ((gs1 1).b, boT none 0 0 0) :: ((rowl ++ Tt) ++ T2))) := H27.as kr
              refine g_seq kr ?_
              refine rS [.v, .v, .v, .v, .v, .v, .v, .n, .n, .n, .n, .v, .v] H28 kr fun gs14 w25 H29 => ?_
              refine g_cond_f kr kr ?_
              refine g_skip kr ?_
              show WP _ _ _ _ _ _
              refine rS [.v, .v] H29 kr fun gs15 w26 H29b => ?_
              refine g_cond_t kr kr ?_
              have hputR := putR_fn q m k L K V (by omega)
              rw [putP_ins hok.rise] at hputR
              have H30 : St w.heap.size w w26 ((b16, boT p3 n3 c3 (builtM (insM K V L)).2) :: ((b8, acO (ks, vs)) :: (b6, boT pt nt ct (builtM L).2) :: ((gs1 1).b, boT none 0 0 0) :: ((rowl ++ Tt) ++ T2))) := H29b.as kr
              refine D2.g_draw0 [0, 1, 2, 3, 4, 5, 6] [(some 114, fun _ => .agg #[.slice p3 n3 c3, .int .i64 (builtM (insM K V L)).2]), (some 115, fun _ => .slice q m k), (some 116, fun _ => .string K), (some 117, fun _ => .string V), (some 118, fun y => .slice (pG y) y.n y.cap), (none, fun _ => undef), (some 5, fun y => .slice (pG y) y.n y.cap)]
                (D2.sq 4 5 6 (fun ww => St w.heap.size w ww (((b16, boT p3 n3 c3 (builtM (insM K V L)).2) :: (b8, acO (ks, vs)) :: (b6, boT pt nt ct (builtM L).2) :: ((gs1 1).b, boT none 0 0 0) :: ((rowl ++ Tt) ++ T2)))) (fun y ww => ∃ Tn, RowF pS 48 (pG y) y.n y.cap Tn (insM K V L) ∧ St w.heap.size w ww ((((b16, boT p3 n3 c3 (builtM (insM K V L)).2) :: (b8, acO (ks, vs)) :: (b6, boT pt nt ct (builtM L).2) :: ((gs1 1).b, boT none 0 0 0) :: ((rowl ++ Tt) ++ T2))) ++ Tn)) (fun y ww => ∃ Tn, RowF pS 48 (pG y) y.n y.cap Tn (insM K V L) ∧ St w.heap.size w ww ((((b16, boT p3 n3 c3 (builtM (insM K V L)).2) :: (b8, acO (ks, vs)) :: (b6, boT p3 n3 c3 (builtM (insM K V L)).2) :: ((gs1 1).b, boT none 0 0 0) :: ((rowl ++ Tt) ++ T2))) ++ Tn))) kr kr kr (H30.drew) ⟨?_, ?_, ?_, ?_, ?_, ?_, ?_, trivial⟩ ?_
              · exact D2.gv_ld (fun _ _ _ h => h) 26 (.tmp 16) (fun _ => b16) 0 #[.slice p3 n3 c3, .int .i64 (builtM (insM K V L)).2] 26 (0, 0) (fun g => by kernel_rfl) (fun g => by kernel_rfl) (fun L g w hN hp => hp.get (fun h => St.get h 0 kr) (fun _ ⟨_, _, h⟩ => St.get h 0 kr) (fun _ ⟨_, _, h⟩ => St.get h 0 kr)) kr kr
              · exact D2.gv_val (fun _ _ _ h => h) (fun g w => by kernel_rfl)
              · exact D2.gv_val (fun _ _ _ h => h) (fun g w => by kernel_rfl)
              · exact D2.gv_val (fun _ _ _ h => h) (fun g w => by kernel_rfl)
              · exact D2.gv_sq1 4 5 6 kr kr 22 #[.slice q m k, .string K, .string V] (hputR) (fun L hN => ⟨hN.post 5 kr, hN.post 6 kr⟩) (fun ww h => hrowP _ _ h fun e he => by simp [he]) (fun ww v T w' h hok hT => by
                  obtain ⟨p9, n9, c9, rfl, hr9⟩ := hok
                  obtain ⟨x, hx, hrx⟩ := gh_of hr9
                  exact ⟨x, hx, T, hrx, (St.addAll h hT).perm List.perm_append_comm⟩) (fun g w => by kernel_rfl)
              · exact D2.gv_sq2 4 5 6 kr 26 (.tmp 6) (.tmp 114) b6 (.agg #[.slice p3 n3 c3, .int .i64 (builtM (insM K V L)).2]) (fun L hN => ⟨hN.bef 4 kr, hN.post 6 kr⟩) (fun g => by kernel_rfl) (fun g => by kernel_rfl) (fun g => by kernel_rfl) kr kr (fun z ww ⟨Tn, hr, h⟩ => ⟨#[.slice pt nt ct, .int .i64 (builtM L).2], 26, St.get h 2 kr, rfl, Tn, hr, St.store (C := #[.slice pt nt ct, .int .i64 (builtM L).2]) (C' := #[.slice p3 n3 c3, .int .i64 (builtM (insM K V L)).2]) (T := 26) h 2 kr⟩)
              · exact D2.gv_sq3 4 5 6 (fun L hN => hN.bef 5 kr) (fun g w => by kernel_rfl)
              · intro L1 gg w40 hall hp
                obtain ⟨Tn, hr9, H40⟩ := hp.fin (hall 6 (Nat.le_of_ble_eq_true kr))
                show WP _ _ _ _ _ _
                refine rL [.e (v := .int .i64 (IntKind.i64.wrap (((i : Nat) : Int) + 1))) (v' := iN (i + 1)) (int_eq (wrapAdd_i64 (a := i) (b := 1) (by omega))), .v] H40 kr fun gs80 w80 H80 => ?_
                show ∃ m, _ ∧ _
                exact ⟨_, (by omega), i + 1, insM K V L, (pG (gg 6)), (gg 6).n, (gg 6).cap, Tn, p3, n3, c3, T2, rfl, by omega, hok2, hr9, hrow4, (H80.sub (sub_a _ _ _ _ (rowl ++ Tt) T2 Tn)).perm (List.Perm.cons _ (List.Perm.cons _ List.perm_append_comm)), (Is.of ⟨kr, kr, kr, kr, kr, kr, trivial⟩)⟩
            · skip
              refine rS [.v, .v, .v, .v, .v, .e (v := .bool (decide (((m : Nat) : Int) ≥ 64))) (v' := .bool true) (bool_eq (decide_eq_true (by omega))), .v] H18 kr fun gs10b w19b H19a => ?_
              refine g_cond_t kr kr ?_
              refine rL [.v] H19a kr fun gs10c w19c H19 => ?_
              show WP _ _ _ _ _ _
              refine g_sreg [0, 1, 2, 3, 4, 5, 6, 7, 8, 9] kr kr ?_
              refine rp [.l 1, .v, .v] H19 kr fun gs11 w20 H20 => ?_
              show WPs _ _ _ _ [3, 4, 5, 6, 7, 8, 9] _ _
              have H21 : St w.heap.size w w20 ((b8, acO (ks, vs)) :: (b6, boT pt nt ct (builtM L).2) :: ((gs1 1).b, boT none 0 0 0) :: (rowl ++ Tt)) := H20.as kr
              refine s_callP H21 (some 95) 16 #[.agg #[.slice pt nt ct, .int .i64 (builtM L).2], .string K, .string V] _ _ (put_long pt nt ct (builtM L).2 (builtM L).1 hA hAl K V hread hm hh (by omega)) (hndP _ _ H21 fun e he => by simp [he]) (fun w => by kernel_rfl) kr ?_
              intro w21 H22
              refine rp [.v, .v, .v] H22 kr fun gs12 w22 H23 => ?_
              show WPs _ _ _ _ [7, 8, 9] _ _
              have H24 : St w.heap.size w w22 ((b8, acO (ks, vs)) :: (b6, boT pt nt ct (builtM L).2) :: ((gs1 1).b, boT none 0 0 0) :: (rowl ++ Tt)) := H23.as kr
              refine s_alloc H24 (some 16) 26 (.agg #[.slice none 0 0, .int .i64 0]) kr kr kr ?_
              intro b16 w23 H25
              refine rp [.s 0, .v] H25 kr fun gs13 w24 H26 => ?_
              show WPs _ _ _ _ [] _ _
              refine s_nil ?_
              have H27 : St w.heap.size w w24 ((b16, boT none 0 0 0) :: (b8, acO (ks, vs)) :: (b6, boT pt nt ct (builtM L).2) :: ((gs1 1).b, boT none 0 0 0) :: (rowl ++ Tt)) := H26.as kr
              refine g_seq kr ?_
              refine rS [.v, .v, .v, .v, .v, .v, .v, .l 0, .v, .cp (pre := fun _ => True) same_none [] (fun w hb hd => trivial), .v, .v, .v] H27 kr fun gs14 w25 H28 => ?_
              refine g_cond_f kr kr ?_
              refine g_skip kr ?_
              show WP _ _ _ _ _ _
              refine rS [.v, .v] H28 kr fun gs15 w26 H29 => ?_
              refine g_cond_f kr kr ?_
              refine g_skip kr ?_
              show WP _ _ _ _ _ _
              refine rL [.e (v := .int .i64 (IntKind.i64.wrap (((i : Nat) : Int) + 1))) (v' := iN (i + 1)) (int_eq (wrapAdd_i64 (a := i) (b := 1) (by omega))), .v] H29 kr fun gs80 w80 H80 => ?_
              show ∃ m, _ ∧ _
              exact ⟨_, (by omega), i + 1, L, q, m, k, rowl, pt, nt, ct, Tt, rfl, by omega, hok, hrow, hrt, H80.sub (sub_b _ _ _ _ (rowl ++ Tt)), (Is.of ⟨kr, kr, kr, kr, kr, kr, trivial⟩)⟩
    · skip
      refine rS [.v, .e (v := .bool (decide (((i : Nat) : Int) ≥ 90))) (v' := .bool true) (bool_eq (decide_eq_true (by omega)))] H7 kr fun gs5 w12 H8 => ?_
      refine g_cond_t kr kr ?_
      refine g_exit 0 kr ?_
      show WP _ _ _ _ _ _
      have H9 : St w.heap.size w w12 ((b6, boT pt nt ct (builtM L).2) :: ((gs1 1).b, boT none 0 0 0) :: (rowl ++ Tt)) := H8.sub (List.sublist_cons_self ..)
      refine dS [.v, .l 0, .v, .s 1, .v] H9 kr fun w90 H90 => ?_
      refine rRr [.tmp 2, .cell 3 26, .tmp 4] [1] (.tuple #[.slice q m k, .agg #[.slice pt nt ct, .int .i64 (builtM L).2], .bool true]) (outT w.heap.size w okModel) H90 kr ?_
      exact ⟨rowl ++ Tt, ⟨L, q, m, k, rowl, pt, nt, ct, Tt, hok, hrow, hrt, rfl, rfl⟩, (H90.as (l := (b6, boT pt nt ct (builtM L).2) :: ((gs1 1).b, boT pt nt ct (builtM L).2) :: (rowl ++ Tt)) kr).sub ((List.sublist_cons_self ..).trans (List.sublist_cons_self ..))⟩
  · skip
    refine rS [.e (v := .bool (decide (((i : Nat) : Int) < ((n : Nat) : Int)))) (v' := .bool false) (bool_eq (decide_eq_false (by omega)))] H1 kr fun gs2 w8 H2 => ?_
    refine g_seq kr ?_
    refine g_cond_f kr kr ?_
    refine g_exit 0 kr ?_
    show WP _ _ _ _ _ _
    refine dS [.v, .l 0, .v, .s 1, .v] H2 kr fun w90 H90 => ?_
    refine rRr [.tmp 2, .cell 3 26, .tmp 4] [1] (.tuple #[.slice q m k, .agg #[.slice pt nt ct, .int .i64 (builtM L).2], .bool true]) (outT w.heap.size w okModel) H90 kr ?_
    exact ⟨rowl ++ Tt, ⟨L, q, m, k, rowl, pt, nt, ct, Tt, hok, hrow, hrt, rfl, rfl⟩, (H90.as (l := (b6, boT pt nt ct (builtM L).2) :: ((gs1 1).b, boT pt nt ct (builtM L).2) :: (rowl ++ Tt)) kr).sub ((List.sublist_cons_self ..).trans (List.sublist_cons_self ..))⟩
end Go.Proofs.YtlhfgbjhngkicaaGreatDoor

namespace Go.Proofs.YtlhfgbjhngkicaaGreatDoor
open Go Go.RowKit
set_option linter.unusedVariables false
theorem like_trie (p p' : Option Addr) (n c n' c' : Nat) {L : List Pr} (hok : OkP L) :
    FnP Tryz.prog 7 #[.agg #[.slice p n c, .int .i64 (builtM L).2], .agg #[.slice p' n' c', .int .i64 (builtM L).2]] (fun w => NdAt w p n (builtM L).1 ∧ NdAt w p' n' (builtM L).1) (.bool true) := by
  have h := like_fn p n c (builtM L).2 (builtM L).1 p' n' c' (builtM L).2 (builtM L).1 (built_len hok)
  rwa [decide_eq_true rfl, ndsB_self] at h
end Go.Proofs.YtlhfgbjhngkicaaGreatDoor

namespace Go.Proofs.YtlhfgbjhngkicaaGreatDoor
open Go Go.ChangeShapes Go.WideShapes Go.ChangeAt Go.RowKit
set_option linter.unusedVariables false
set_option maxRecDepth 100000
theorem cellsAc : Tryz.prog.cellsOf 52 = 2 := kr
section
variable {H : Type} {enc : TypeId × Value → H} {W : World} {sp : Nat → Bool} {held : Bool}
theorem trod_act (fuel : Nat) (cs : List Value) (x : DataW H × List MemPlace) (h : DataW.trod enc Tryz.prog W 0 sp held fuel 52 cs = some x) : ∃ a : Pr, cs = pS.cs a := by
  obtain ⟨xs, m, rfl, rfl, hl, hlen, hf⟩ := DataW.trod_struct Tryz.underlying52 h
  rw [cellsAc] at hl
  obtain ⟨c0, c1, rfl⟩ : ∃ c0 c1, cs = [c0, c1] := by
    match cs, hl with
    | [c0, c1], _ => exact ⟨c0, c1, rfl⟩
  obtain ⟨y0, y1, rfl⟩ : ∃ y0 y1, xs = [y0, y1] := by
    match xs, hlen with
    | [y0, y1], _ => exact ⟨y0, y1, rfl⟩
  have g0 := hf 0 _ rfl
  have g1 := hf 1 _ rfl
  change DataW.trod enc Tryz.prog W 0 sp held m 9 (([c0, c1].drop 0).take (Tryz.prog.cellsOf 9)) = some y0 at g0
  change DataW.trod enc Tryz.prog W 0 sp held m 9 (([c0, c1].drop 1).take (Tryz.prog.cellsOf 9)) = some y1 at g1
  rw [cellsSt] at g0 g1
  obtain ⟨s, e0, rfl, _⟩ := DataW.trod_string Tryz.underlying9 (show DataW.trod enc Tryz.prog W 0 sp held m 9 [c0] = some y0 from g0)
  obtain ⟨u, e1, rfl, _⟩ := DataW.trod_string Tryz.underlying9 (show DataW.trod enc Tryz.prog W 0 sp held m 9 [c1] = some y1 from g1)
  obtain rfl : c0 = .string s := by simpa using e0
  obtain rfl : c1 = .string u := by simpa using e1
  exact ⟨(s, u), rfl⟩
theorem openActs {v : Value} {d : DataW H} {p : List MemPlace} {base : Nat} (hv : Value.okWide Tryz.prog W .any base 22 v) (h : DataW.Trod enc Tryz.prog W 0 sp held 22 v d p) :
    ∃ (q : Option Addr) (n c : Nat) (As : List Pr), v = .slice q n c ∧ PrAt W q n As := by
  obtain ⟨ao, len0, cap0, rfl⟩ := okWide_slice Tryz.underlying22 hv
  obtain ⟨fuel, hf⟩ := h
  rcases DataW.trod_slice Tryz.underlying22 hf with ⟨hc, hx⟩ | ⟨a, len, cap, elems, rest, n', rfl, hc, hx, _, hlc, hcm, hel, hels, _, _⟩
  · obtain ⟨rfl, rfl, rfl⟩ : ao = none ∧ len0 = 0 ∧ cap0 = 0 := by simpa [Value.cells] using hc
    exact ⟨none, 0, 0, [], rfl, rfl, .inl rfl⟩
  · obtain ⟨rfl, rfl, rfl⟩ : ao = some a ∧ len0 = len ∧ cap0 = cap := by simpa [Value.cells] using hc
    have rows : ∀ q, q ≤ len0 → ∃ L : List Pr, L.length = q ∧ ∀ (i : Nat) (z : Pr), L[i]? = some z → W.cells? 0 (a.add (i * 2)) 2 = some (pS.cs z) := by
      intro q
      induction q with
      | zero => exact fun _ => ⟨[], rfl, fun i z h => by simp at h⟩
      | succ q ihq =>
        intro hq
        obtain ⟨L, hL, hcc⟩ := ihq (by omega)
        have hi := hels q (by omega)
        rw [cellsAc] at hi
        have hlt : q < elems.length := by omega
        rw [List.getElem?_eq_getElem hlt] at hi
        obtain ⟨cs', hcs, ht⟩ := Option.bind_eq_some_iff.1 hi
        obtain ⟨nd, rfl⟩ := trod_act n' cs' _ ht
        refine ⟨L ++ [nd], by simp [hL], fun i z hz => ?_⟩
        by_cases hiq : i < L.length
        · rw [List.getElem?_append_left hiq] at hz; exact hcc i z hz
        · rw [List.getElem?_append_right (by omega)] at hz
          have : i - L.length = 0 := by
            have := (List.getElem?_eq_some_iff.1 hz).1; simp at this; omega
          rw [this] at hz
          simp at hz; subst hz
          obtain rfl : i = q := by omega
          exact hcs
    obtain ⟨L, hL, hcl⟩ := rows len0 (Nat.le_refl _)
    refine ⟨some a, len0, cap0, L, rfl, hL.symm, ?_⟩
    cases L with
    | nil => exact .inl rfl
    | cons z0 L0 =>
      have f0 := (World.cells?_some (hcl 0 z0 rfl)).2.2 0 (by omega)
      rw [Nat.zero_mul] at f0
      have e0 : (a.add 0).add 0 = a := rfl
      rw [e0] at f0
      obtain ⟨ea, C, T, fz, hh, hC0⟩ := spot_none (v := .string z0.1) (by rw [f0]; rfl)
      refine .inr ⟨a.block, a.off, C, T, fz, congrArg some ea, hh, fun i z hz => ?_⟩
      refine extract_of (pS.len z) (by decide) fun j hj => ?_
      have h9 := (World.cells?_some (hcl i z hz)).2.2 j hj
      rw [ea, addr_add, addr_add] at h9
      exact cell_at hh h9
end
end Go.Proofs.YtlhfgbjhngkicaaGreatDoor

namespace Go.Proofs.YtlhfgbjhngkicaaGreatDoor
open Go Go.RowKit
set_option linter.unusedVariables false
structure X3 where
  l : Bool
  s : ByteArray
  p : Option Addr
  n : Nat
  c : Nat
  k : Fo
def X3.cs (x : X3) : List Value := [.bool x.l, .string x.s, .slice x.p x.n x.c]
def cells3 : List X3 → List Value
  | [] => []
  | x :: r => .bool x.l :: .string x.s :: .slice x.p x.n x.c :: cells3 r
def toFo : List X3 → Fo
  | [] => .nil
  | x :: r => .cons x.l x.s x.k (toFo r)
theorem toFo_len : ∀ L, (toFo L).len = L.length
  | [] => rfl
  | x :: r => by simp only [toFo, Fo.len, List.length_cons, toFo_len r]
theorem cells3_len : ∀ L, (cells3 L).length = L.length * 3
  | [] => rfl
  | x :: r => by simp only [cells3, List.length_cons, cells3_len r]; omega
theorem cells3_get : ∀ (L : List X3) (i : Nat) (x : X3), L[i]? = some x → (cells3 L)[i * 3]? = some (.bool x.l) ∧ (cells3 L)[i * 3 + 1]? = some (.string x.s) ∧ (cells3 L)[i * 3 + 2]? = some (.slice x.p x.n x.c)
  | [], _, _, h => by simp at h
  | y :: r, 0, x, h => by simp at h; subst h; exact ⟨rfl, rfl, rfl⟩
  | y :: r, i + 1, x, h => by
    obtain ⟨h1, h2, h3⟩ := cells3_get r i x (by simpa using h)
    rw [show (i + 1) * 3 = i * 3 + 3 by omega]
    exact ⟨h1, h2, h3⟩
theorem ex3 {C : Array Value} {o : Nat} {a b c : Value} (h1 : C[o]? = some a) (h2 : C[o + 1]? = some b) (h3 : C[o + 2]? = some c) : o + 3 ≤ C.size ∧ C.extract o (o + 3) = #[a, b, c] := by
  have hl := (Array.getElem?_eq_some_iff.1 h3).1
  refine ⟨by omega, ?_⟩
  apply Array.ext
  · simp; omega
  · intro j hj1 hj2
    simp at hj1 hj2
    rcases (show j = 0 ∨ j = 1 ∨ j = 2 by omega) with rfl | rfl | rfl
    · have := (Array.getElem?_eq_some_iff.1 h1).2; simpa using this
    · have := (Array.getElem?_eq_some_iff.1 h2).2; simpa using this
    · have := (Array.getElem?_eq_some_iff.1 h3).2; simpa using this
theorem Rw.at3 {cur : Array Value} {cap n : Nat} {L : List X3} (h : Rw 3 cur cap n (cells3 L)) {i : Nat} {x : X3} (hx : L[i]? = some x) : cur[i * 3]? = some (.bool x.l) ∧ cur[i * 3 + 1]? = some (.string x.s) ∧ cur[i * 3 + 2]? = some (.slice x.p x.n x.c) := by
  have hl := h.len
  rw [cells3_len] at hl
  have hi : i < L.length := (List.getElem?_eq_some_iff.1 hx).1
  obtain ⟨h1, h2, h3⟩ := cells3_get L i x hx
  refine ⟨?_, ?_, ?_⟩
  · rw [h.get _ (by omega)]; exact h1
  · rw [h.get _ (by omega)]; exact h2
  · rw [h.get _ (by omega)]; exact h3
theorem dgI_up : ∀ m n, n < 256 ^ m → dgI (m + 1) n = dgI m n
  | 0, n, h => by
    have : n = 0 := by simp at h; exact h
    subst this; rfl
  | m + 1, n, h => by
    unfold dgI
    split
    · rfl
    · rw [dgI_up m (n / 256) (by rw [Nat.pow_succ] at h; omega)]
theorem dg_step {n : Nat} (h0 : n ≠ 0) (h : n < 18446744073709551616) : dg n = dg (n / 256) ++ [UInt8.ofNat n] := by
  show dgI 8 n = dgI 8 (n / 256) ++ _
  rw [dgI_up 7 (n / 256) (by show _ < 72057594037927936; omega)]
  show (if n = 0 then [] else _) = _
  rw [if_neg h0]
theorem dig_next {n q : Nat} {o : ByteArray} (h0 : q ≠ 0) (h : q < 18446744073709551616) (ho : dg n = dg q ++ tl o) : dg n = dg (q / 256) ++ tl (strOfNums [((BitVec.toNat (BitVec.ofNat 8 (q % 256)) : Nat) : Int)] ++ o) := by
  rw [ho, dg_step h0 h, tl_add, List.append_assoc]
  congr 1
  show [UInt8.ofNat q] ++ tl o = [UInt8.ofNat (Int.toNat _)] ++ tl o
  rw [Int.toNat_natCast, BitVec.toNat_ofNat]
  congr 2
  apply UInt8.toNat_inj.1
  rw [UInt8.toNat_ofNat', UInt8.toNat_ofNat']; omega
theorem dig_done {n : Nat} {o : ByteArray} (ho : dg n = dg 0 ++ tl o) : strB (dg n) = o := by rw [ho]; exact strB_tl o
end Go.Proofs.YtlhfgbjhngkicaaGreatDoor

namespace Go.Proofs.YtlhfgbjhngkicaaGreatDoor
open Go Go.RowKit
set_option linter.unusedVariables false
theorem mixed_parts {l : Bool} {s : ByteArray} {k : Fo} (h : mixed l s k.len = false) : (l = true ∧ s = ⟨#[]⟩) ∨ (l = false ∧ k = .nil) := by
  unfold mixed at h
  cases l with
  | true =>
    left
    simp at h
    exact ⟨rfl, h⟩
  | false =>
    right
    simp at h
    exact ⟨rfl, len_zero h⟩
end Go.Proofs.YtlhfgbjhngkicaaGreatDoor

namespace Go.Proofs.YtlhfgbjhngkicaaGreatDoor
open Go Go.RowKit
set_option linter.unusedVariables false
/-- An item: is it a list, its bytes, its kids. -/
structure I3 where
  l : Bool
  s : ByteArray
  k : Fo
def foI : List I3 → Fo
  | [] => .nil
  | x :: r => .cons x.l x.s x.k (foI r)
def bI (s : ByteArray) : I3 := ⟨false, s, .nil⟩
def lI (xs : List I3) : I3 := ⟨true, ⟨#[]⟩, foI xs⟩
def encI (x : I3) : List UInt8 := wr1 x.l x.s (szF x.k) (wrF x.k)
def toldI (x : I3) : I3 := if (encI x).length < 32 then x else bI (strB (Kec.sumB (encI x)))
def itemM : Nat → List Ent → I3
  | 0, _ => bI ⟨#[]⟩
  | f + 1, [] => bI ⟨#[]⟩
  | f + 1, [e] => lI [bI (strB (pk e.1 true)), bI e.2]
  | f + 1, e :: e' :: r =>
    if 0 < commonM (e :: e' :: r) then lI [bI (strB (pk (e.1.take (commonM (e :: e' :: r))) false)), if dropE (commonM (e :: e' :: r)) (e :: e' :: r) = [] then bI ⟨#[]⟩ else toldI (itemM f (dropE (commonM (e :: e' :: r)) (e :: e' :: r)))]
    else lI ((List.range 16).map (fun c => if cutE c (e :: e' :: r) = [] then bI ⟨#[]⟩ else toldI (itemM f (cutE c (e :: e' :: r)))) ++ [bI (valE (e :: e' :: r))])
def toldM (f : Nat) (l : List Ent) : I3 := if l = [] then bI ⟨#[]⟩ else toldI (itemM f l)
/-- The item of a node, by what those ahead of it are told by. -/
def itemN (x : Nd) (B : List I3) : I3 :=
  if x.kind = 1 then lI [bI (strB (pk (tl x.part) true)), bI x.value]
  else if x.kind = 2 then lI [bI (strB (pk (tl x.part) false)), B.getD (x.kids.getD 0 (-1)).toNat (bI ⟨#[]⟩)]
  else lI ((List.range 16).map (fun c => if x.kids.getD c (-1) = -1 then bI ⟨#[]⟩ else B.getD (x.kids.getD c (-1)).toNat (bI ⟨#[]⟩)) ++ [bI x.value])
def toldsN (A : List Nd) : List I3 := A.foldl (fun B x => B ++ [toldI (itemN x B)]) []
theorem tolds_snoc (A : List Nd) (x : Nd) : toldsN (A ++ [x]) = toldsN A ++ [toldI (itemN x (toldsN A))] := by
  unfold toldsN; rw [List.foldl_append]; rfl
theorem tolds_from : ∀ (Z : List Nd) (B : List I3), ∃ Y, Z.foldl (fun B x => B ++ [toldI (itemN x B)]) B = B ++ Y ∧ Y.length = Z.length
  | [], B => ⟨[], by simp, rfl⟩
  | x :: Z, B => by
    obtain ⟨Y, h, hl⟩ := tolds_from Z (B ++ [toldI (itemN x B)])
    exact ⟨toldI (itemN x B) :: Y, by rw [List.foldl_cons, h, List.append_assoc]; rfl, by rw [List.length_cons, List.length_cons, hl]⟩
theorem tolds_len (A : List Nd) : (toldsN A).length = A.length := by
  obtain ⟨Y, h, hl⟩ := tolds_from A []
  unfold toldsN; rw [h, List.nil_append, hl]
theorem tolds_pre (A Z : List Nd) : ∃ Y, toldsN (A ++ Z) = toldsN A ++ Y := by
  obtain ⟨Y, h, _⟩ := tolds_from Z (toldsN A)
  exact ⟨Y, by unfold toldsN at h ⊢; rw [List.foldl_append]; exact h⟩
theorem tolds_get {A Z : List Nd} {m : Nat} (h : m < A.length) : (toldsN (A ++ Z)).getD m (bI ⟨#[]⟩) = (toldsN A).getD m (bI ⟨#[]⟩) := by
  obtain ⟨Y, hY⟩ := tolds_pre A Z
  rw [hY, List.getD_eq_getElem?_getD, List.getD_eq_getElem?_getD, List.getElem?_append_left (by rw [tolds_len]; exact h)]
theorem tolds_last (A : List Nd) (x : Nd) : (toldsN (A ++ [x])).getD A.length (bI ⟨#[]⟩) = toldI (itemN x (toldsN A)) := by
  rw [tolds_snoc, List.getD_eq_getElem?_getD, List.getElem?_append_right (by rw [tolds_len]; exact Nat.le_refl _), tolds_len, Nat.sub_self]; rfl
theorem itemN_leaf (p v : ByteArray) (ks : List Int) (B : List I3) : itemN ⟨1, p, v, ks⟩ B = lI [bI (strB (pk (tl p) true)), bI v] := by unfold itemN; rw [if_pos rfl]
theorem itemN_joint (p v : ByteArray) (ks : List Int) (B : List I3) : itemN ⟨2, p, v, ks⟩ B = lI [bI (strB (pk (tl p) false)), B.getD (ks.getD 0 (-1)).toNat (bI ⟨#[]⟩)] := by unfold itemN; rw [if_neg (show ¬ (2 : Int) = 1 by decide), if_pos rfl]
theorem itemN_branch (p v : ByteArray) (ks : List Int) (B : List I3) : itemN ⟨3, p, v, ks⟩ B = lI ((List.range 16).map (fun c => if ks.getD c (-1) = -1 then bI ⟨#[]⟩ else B.getD (ks.getD c (-1)).toNat (bI ⟨#[]⟩)) ++ [bI v]) := by unfold itemN; rw [if_neg (show ¬ (3 : Int) = 1 by decide), if_neg (show ¬ (3 : Int) = 2 by decide)]
theorem lay_joint {f : Nat} {e e' : Ent} {r : List Ent} (A : List Nd) (hc : 0 < commonM (e :: e' :: r)) : layM (f + 1) (e :: e' :: r) A =
    ((layM f (dropE (commonM (e :: e' :: r)) (e :: e' :: r)) A).1 ++ [⟨2, strB (e.1.take (commonM (e :: e' :: r))), ⟨#[]⟩, (layM f (dropE (commonM (e :: e' :: r)) (e :: e' :: r)) A).2 :: List.replicate 15 (-1)⟩], ((layM f (dropE (commonM (e :: e' :: r)) (e :: e' :: r)) A).1.length : Int)) := by
  rw [layM, if_pos hc]
theorem lay_branch {f : Nat} {e e' : Ent} {r : List Ent} (A : List Nd) (hc : ¬ 0 < commonM (e :: e' :: r)) : layM (f + 1) (e :: e' :: r) A =
    ((kidsW (layM f) (e :: e' :: r) 16 A).1 ++ [⟨3, ⟨#[]⟩, valE (e :: e' :: r), (kidsW (layM f) (e :: e' :: r) 16 A).2⟩], ((kidsW (layM f) (e :: e' :: r) 16 A).1.length : Int)) := by
  rw [layM, if_neg hc]
theorem item_joint {f : Nat} {e e' : Ent} {r : List Ent} (hc : 0 < commonM (e :: e' :: r)) : itemM (f + 1) (e :: e' :: r) = lI [bI (strB (pk (e.1.take (commonM (e :: e' :: r))) false)), toldI (itemM f (dropE (commonM (e :: e' :: r)) (e :: e' :: r)))] := by
  rw [itemM, if_pos hc, if_neg (by simp [dropE])]
theorem item_branch {f : Nat} {e e' : Ent} {r : List Ent} (hc : ¬ 0 < commonM (e :: e' :: r)) : itemM (f + 1) (e :: e' :: r) = lI ((List.range 16).map (fun c => toldM f (cutE c (e :: e' :: r))) ++ [bI (valE (e :: e' :: r))]) := by
  rw [itemM, if_neg hc]; rfl
/-- The last node's item is that of the pairs. -/
theorem lay_last : ∀ (f : Nat) (l : List Ent) (A : List Nd), l ≠ [] → Okl f l → ∃ (A' : List Nd) (x : Nd), (layM f l A).1 = A' ++ [x] ∧ (layM f l A).2 = (A'.length : Int) ∧ itemN x (toldsN A') = itemM f l
  | 0, [], _, h, _ => absurd rfl h
  | 0, e :: l, _, _, h => absurd (h e (List.mem_cons_self ..)).1 (Nat.not_lt_zero _)
  | f + 1, [], _, h, _ => absurd rfl h
  | f + 1, [e], A, _, _ => ⟨A, ⟨1, strB e.1, e.2, aloneL⟩, rfl, rfl, itemN_leaf ..⟩
  | f + 1, e :: e' :: r, A, _, ho => by
    by_cases hc : 0 < commonM (e :: e' :: r)
    · have hd : dropE (commonM (e :: e' :: r)) (e :: e' :: r) ≠ [] := by simp [dropE]
      obtain ⟨A1, x1, h1, h2, h3⟩ := lay_last f _ A hd (dropE_ok (e := e) rfl hc ho)
      rw [lay_joint A hc, item_joint hc]
      refine ⟨_, _, rfl, rfl, ?_⟩
      rw [itemN_joint, List.getD_cons_zero, h2, Int.toNat_natCast, h1, tolds_last, h3]; rfl
    · rw [lay_branch A hc, item_branch hc]
      refine ⟨_, _, rfl, rfl, ?_⟩
      rw [itemN_branch]
      have key : ∀ c ∈ List.range 16, (if ((kidsW (layM f) (e :: e' :: r) 16 A).2).getD c (-1) = -1 then bI ⟨#[]⟩ else (toldsN (kidsW (layM f) (e :: e' :: r) 16 A).1).getD (((kidsW (layM f) (e :: e' :: r) 16 A).2).getD c (-1)).toNat (bI ⟨#[]⟩)) = toldM f (cutE c (e :: e' :: r)) := fun c hc16 => by
        have hc16 := List.mem_range.1 hc16
        rw [kidsW_get (layM f) (e :: e' :: r) A 16 c hc16]
        unfold toldM
        by_cases hn : cutE c (e :: e' :: r) = []
        · rw [if_pos hn, hn]
          have e0 : (layM f ([] : List Ent) (kidsW (layM f) (e :: e' :: r) c A).1).2 = -1 := by cases f <;> simp [layM]
          rw [e0, if_pos rfl]
        · rw [if_neg hn]
          obtain ⟨A1, x1, h1, h2, h3⟩ := lay_last f (cutE c (e :: e' :: r)) (kidsW (layM f) (e :: e' :: r) c A).1 hn (cutE_ok c ho)
          rw [h2, if_neg (by omega), Int.toNat_natCast]
          obtain ⟨Z, hZ⟩ := kids_more f (e :: e' :: r) A (c + 1) 16 (by omega)
          rw [hZ]
          have hs : (kidsW (layM f) (e :: e' :: r) (c + 1) A).1 = A1 ++ [x1] := h1
          rw [hs, tolds_get (by simp), tolds_last, h3]
      rw [List.map_congr_left key]
/-! ### They are short -/
def okI (x : I3) : Prop := mixed x.l x.s x.k.len = false ∧ pureF x.k = true
theorem ok_bI (s : ByteArray) : okI (bI s) := ⟨rfl, rfl⟩
theorem pure_foI : ∀ L : List I3, (∀ x ∈ L, okI x) → pureF (foI L) = true
  | [], _ => rfl
  | x :: r, h => by
    have hx := h x (List.mem_cons_self ..)
    unfold foI pureF
    rw [hx.1, hx.2, pure_foI r fun y hy => h y (List.mem_cons_of_mem _ hy)]; rfl
theorem ok_lI {L : List I3} (h : ∀ x ∈ L, okI x) : okI (lI L) := ⟨rfl, pure_foI L h⟩
theorem ok_toldI {x : I3} (h : okI x) : okI (toldI x) := by unfold toldI; split; exact h; exact ok_bI _
theorem wrF_foI : ∀ L : List I3, wrF (foI L) = L.flatMap encI
  | [] => rfl
  | x :: r => by
    show wr1 x.l x.s (szF x.k) (wrF x.k) ++ wrF (foI r) = _
    rw [wrF_foI r, List.flatMap_cons]; rfl
theorem enc_pos {x : I3} (h : okI x) : 0 < (encI x).length := (wr1_len h.1 h.2 rfl).1
theorem hd_len9 (f n : Nat) : 1 ≤ (hd f n).length ∧ (hd f n).length ≤ 9 := by
  unfold hd
  split
  · simp
  · have := dg_len n
    simp only [List.length_cons]; omega
theorem enc_bI (s : ByteArray) : (encI (bI s)).length ≤ s.size + 9 ∧ s.size ≤ (encI (bI s)).length := by
  have hh := (hd_len9 (frm false) (s.size + szF Fo.nil)).2
  unfold encI bI wr1
  simp only [wrF, List.append_nil, List.length_append, tl_len]
  split
  · simp
  · omega
theorem enc_lI {L : List I3} (h : ∀ x ∈ L, okI x) : (L.flatMap encI).length + 1 ≤ (encI (lI L)).length ∧ (encI (lI L)).length ≤ (L.flatMap encI).length + 9 := by
  have hh := hd_len9 (frm true) ((⟨#[]⟩ : ByteArray).size + szF (foI L))
  have e0 : single ⟨#[]⟩ = false := by decide
  have e2 : encI (lI L) = (if single ⟨#[]⟩ = true then [] else hd (frm true) ((⟨#[]⟩ : ByteArray).size + szF (foI L))) ++ (tl ⟨#[]⟩ ++ wrF (foI L)) := rfl
  rw [e2, if_neg (by rw [e0]; decide), wrF_foI, List.length_append, List.length_append, show (tl (⟨#[]⟩ : ByteArray)).length = 0 from rfl]
  omega
theorem enc_toldI {x : I3} (h : okI x) : (encI (toldI x)).length ≤ 41 := by
  unfold toldI
  split
  · omega
  · have := (enc_bI (strB (Kec.sumB (encI x)))).1
    rw [strB_size, Kec.sumB_len] at this; exact this
/-- How deep. -/
def dpI (x : I3) : Nat := dp1 x.l (dpF x.k)
theorem dp_bI (s : ByteArray) : dpI (bI s) = 0 := rfl
theorem dpF_foI (m : Nat) : ∀ L : List I3, (∀ x ∈ L, dpI x ≤ m) → dpF (foI L) ≤ m
  | [], _ => Nat.zero_le _
  | x :: r, h => by
    have h1 := h x (List.mem_cons_self ..)
    have h2 := dpF_foI m r fun y hy => h y (List.mem_cons_of_mem _ hy)
    show max (dp1 x.l (dpF x.k)) (dpF (foI r)) ≤ m
    exact Nat.max_le.2 ⟨h1, h2⟩
theorem dp_lI (m : Nat) {L : List I3} (h : ∀ x ∈ L, dpI x ≤ m) : dpI (lI L) ≤ m + 1 := by
  have := dpF_foI m L h
  show dp1 true (dpF (foI L)) ≤ m + 1
  unfold dp1; simp; omega
theorem dp_toldI {x : I3} {m : Nat} (h : (encI x).length < 32 → dpI x ≤ m) : dpI (toldI x) ≤ m := by
  unfold toldI
  split
  · rename_i q; exact h q
  · rw [dp_bI]; exact Nat.zero_le _
theorem flat_ge {α : Type} (g : α → List UInt8) : ∀ (L : List α), (∀ x ∈ L, 1 ≤ (g x).length) → L.length ≤ (L.flatMap g).length ∧ ∀ x ∈ L, L.length + (g x).length ≤ (L.flatMap g).length + 1
  | [], _ => ⟨Nat.le_refl _, fun _ h => nomatch h⟩
  | y :: L, h => by
    obtain ⟨h1, h2⟩ := flat_ge g L fun x hx => h x (List.mem_cons_of_mem _ hx)
    have hy := h y (List.mem_cons_self ..)
    rw [List.flatMap_cons, List.length_append, List.length_cons]
    refine ⟨by omega, fun x hx => ?_⟩
    rcases List.mem_cons.1 hx with rfl | hx
    · omega
    · have := h2 x hx; omega
/-- What is known of a node's item: it may be; short ones are not deep. -/
structure Okm (x : I3) : Prop where
  ok : okI x
  d4 : dpI x ≤ 4
  d3 : (encI x).length < 32 → dpI x ≤ 3
  d1 : (encI x).length < 18 → dpI x ≤ 1
  sz : (encI x).length ≤ 1800
theorem Okm.told {x : I3} (h : Okm x) : okI (toldI x) ∧ dpI (toldI x) ≤ 3 ∧ (encI (toldI x)).length ≤ 41 := ⟨ok_toldI h.ok, dp_toldI h.d3, enc_toldI h.ok⟩
theorem flat_le {α : Type} (g : α → List UInt8) (m : Nat) : ∀ (L : List α), (∀ x ∈ L, (g x).length ≤ m) → (L.flatMap g).length ≤ m * L.length
  | [], _ => by simp
  | y :: L, h => by
    have h1 := flat_le g m L fun x hx => h x (List.mem_cons_of_mem _ hx)
    have hy := h y (List.mem_cons_self ..)
    rw [List.flatMap_cons, List.length_append, List.length_cons, Nat.mul_succ]; omega
theorem pk_size (l : List UInt8) (e : Bool) : (strB (pk l e)).size = l.length / 2 + 1 := by rw [strB_size, pk_len]
/-- A branch's item. -/
theorem branch_ok {K : List I3} {v : ByteArray} (h16 : K.length = 16) (hv : v.size ≤ 500) (hK : ∀ x ∈ K, x = bI ⟨#[]⟩ ∨ ∃ y, Okm y ∧ x = toldI y) :
    Okm (lI (K ++ [bI v])) ∧ 18 ≤ (encI (lI (K ++ [bI v]))).length ∧ ((encI (lI (K ++ [bI v]))).length < 32 → dpI (lI (K ++ [bI v])) ≤ 2) := by
  have e0 : (encI (bI ⟨#[]⟩)).length = 1 := by decide
  have hok : ∀ x ∈ K ++ [bI v], okI x := fun x hx => by
    rcases List.mem_append.1 hx with hx | hx
    · rcases hK x hx with rfl | ⟨y, hy, rfl⟩
      · exact ok_bI _
      · exact ok_toldI hy.ok
    · rw [List.mem_singleton.1 hx]; exact ok_bI _
  have h1 := enc_lI hok
  have h2 := flat_ge encI (K ++ [bI v]) fun x hx => enc_pos (hok x hx)
  have hlen : (K ++ [bI v]).length = 17 := by simp [h16]
  rw [hlen] at h2
  have hd4 : ∀ x ∈ K ++ [bI v], dpI x ≤ 3 := fun x hx => by
    rcases List.mem_append.1 hx with hx | hx
    · rcases hK x hx with rfl | ⟨y, hy, rfl⟩
      · exact Nat.zero_le _
      · exact hy.told.2.1
    · rw [List.mem_singleton.1 hx]; exact Nat.zero_le _
  have hs : (encI (lI (K ++ [bI v]))).length < 32 → dpI (lI (K ++ [bI v])) ≤ 2 := fun q => dp_lI 1 fun x hx => by
    rcases List.mem_append.1 hx with hx' | hx'
    · rcases hK x hx' with rfl | ⟨y, hy, rfl⟩
      · exact Nat.zero_le _
      · have h3 := h2.2 _ hx
        unfold toldI at h3 ⊢
        split
        · rename_i q2; rw [if_pos q2] at h3; exact hy.d1 (by omega)
        · exact Nat.zero_le _
    · rw [List.mem_singleton.1 hx']; exact Nat.zero_le _
  have hsz : ((K ++ [bI v]).flatMap encI).length ≤ 41 * 16 + 509 := by
    have hk := flat_le encI 41 K fun x hx => by
      rcases hK x hx with rfl | ⟨y, hy, rfl⟩
      · rw [e0]; omega
      · exact hy.told.2.2
    rw [h16] at hk
    have := (enc_bI v).1
    rw [List.flatMap_append, List.length_append, List.flatMap_cons, List.flatMap_nil, List.append_nil]; omega
  refine ⟨⟨ok_lI hok, dp_lI 3 hd4, fun q => Nat.le_succ_of_le (hs q), fun q => by omega, by omega⟩, by omega, hs⟩
theorem two_ok {a b : I3} (m : Nat) (ha : okI a) (hb : okI b) (da : dpI a = 0) (db : dpI b ≤ m) (sa : (encI a).length ≤ 42) (sb : (encI b).length ≤ 509) :
    okI (lI [a, b]) ∧ dpI (lI [a, b]) ≤ m + 1 ∧ (encI (lI [a, b])).length ≤ 560 ∧ (encI a).length + (encI b).length + 1 ≤ (encI (lI [a, b])).length := by
  have hok : ∀ x ∈ [a, b], okI x := fun x hx => by
    rcases List.mem_cons.1 hx with rfl | hx
    · exact ha
    · rw [List.mem_singleton.1 hx]; exact hb
  have h1 := enc_lI hok
  have e : ([a, b].flatMap encI).length = (encI a).length + (encI b).length := by simp
  rw [e] at h1
  refine ⟨ok_lI hok, dp_lI m fun x hx => ?_, by omega, by omega⟩
  rcases List.mem_cons.1 hx with rfl | hx
  · omega
  · rw [List.mem_singleton.1 hx]; exact db
theorem valE_size {l : List Ent} (h : ∀ e ∈ l, e.2.size ≤ 500) : (valE l).size ≤ 500 := by
  induction l with
  | nil => show (0 : Nat) ≤ 500; omega
  | cons e r ih =>
    unfold valE
    split
    · exact h e (List.mem_cons_self ..)
    · exact ih fun x hx => h x (List.mem_cons_of_mem _ hx)
theorem item_ok : ∀ (f : Nat) (l : List Ent), l ≠ [] → Okl f l → (∀ e ∈ l, e.1.length ≤ 64 ∧ e.2.size ≤ 500) → Okm (itemM f l) ∧ (2 ≤ l.length → commonM l = 0 → 18 ≤ (encI (itemM f l)).length ∧ ((encI (itemM f l)).length < 32 → dpI (itemM f l) ≤ 2))
  | 0, [], h, _, _ => absurd rfl h
  | 0, e :: l, _, h, _ => absurd (h e (List.mem_cons_self ..)).1 (Nat.not_lt_zero _)
  | f + 1, [], h, _, _ => absurd rfl h
  | f + 1, [e], _, _, hs => by
    have h1 := hs e (by simp)
    have ha := enc_bI (strB (pk e.1 true))
    rw [pk_size] at ha
    have hb := enc_bI e.2
    obtain ⟨q1, q2, q3, q4⟩ := two_ok 0 (ok_bI (strB (pk e.1 true))) (ok_bI e.2) rfl (Nat.le_refl _) (by omega) (by omega)
    refine ⟨⟨q1, ?_, fun _ => ?_, fun _ => q2, ?_⟩, fun h => absurd h (by simp)⟩
    · exact Nat.le_trans q2 (by omega)
    · exact Nat.le_trans q2 (by omega)
    · exact Nat.le_trans q3 (by omega)
  | f + 1, e :: e' :: r, _, ho, hs => by
    by_cases hc : 0 < commonM (e :: e' :: r)
    · have hd : dropE (commonM (e :: e' :: r)) (e :: e' :: r) ≠ [] := by simp [dropE]
      obtain ⟨i1, i2⟩ := item_ok f _ hd (dropE_ok (e := e) rfl hc ho) fun x hx => by
        obtain ⟨y, hy, rfl⟩ := List.mem_map.1 hx
        have := hs y hy
        exact ⟨by simp only [List.length_drop]; omega, this.2⟩
      have i2 := i2 (by rw [dropE_len]; simp) (common_drop rfl)
      rw [item_joint hc]
      generalize itemM f (dropE (commonM (e :: e' :: r)) (e :: e' :: r)) = y at *
      have h1 := hs e (by simp)
      have ha := enc_bI (strB (pk (e.1.take (commonM (e :: e' :: r))) false))
      rw [pk_size, List.length_take] at ha
      have ht := i1.told
      have hge : 18 ≤ (encI (toldI y)).length := by
        unfold toldI
        split
        · exact i2.1
        · have := (enc_bI (strB (Kec.sumB (encI y)))).2
          rw [strB_size, Kec.sumB_len] at this; omega
      have hd2 : dpI (toldI y) ≤ 2 := dp_toldI i2.2
      obtain ⟨q1, q2, q3, q4⟩ := two_ok 2 (ok_bI (strB (pk (e.1.take (commonM (e :: e' :: r))) false))) ht.1 rfl hd2 (by omega) (by omega)
      exact ⟨⟨q1, by omega, fun _ => q2, fun q => by omega, by omega⟩, fun _ h => absurd h (by omega)⟩
    · rw [item_branch hc]
      have hb := branch_ok (K := (List.range 16).map (fun c => toldM f (cutE c (e :: e' :: r)))) (v := valE (e :: e' :: r)) (by simp) (valE_size fun x hx => (hs x hx).2) fun x hx => by
        obtain ⟨c, _, rfl⟩ := List.mem_map.1 hx
        unfold toldM
        by_cases hn : cutE c (e :: e' :: r) = []
        · left; rw [if_pos hn]
        · right; rw [if_neg hn]
          refine ⟨_, (item_ok f _ hn (cutE_ok c ho) fun x hx => ?_).1, rfl⟩
          obtain ⟨b, hb, _⟩ := cutE_mem hx
          have := hs _ hb
          simp only [List.length_cons] at this
          exact ⟨by omega, this.2⟩
      exact ⟨hb.1, fun _ _ => hb.2⟩
theorem cnt_szF : ∀ {k : Fo}, pureF k = true → k.cnt ≤ szF k
  | .nil, _ => Nat.le_refl _
  | .cons l s k r, h => by
    unfold pureF at h
    simp only [Bool.and_eq_true, Bool.not_eq_true'] at h
    have h1 := cnt_szF h.1.2
    have h2 := cnt_szF h.2
    have h3 := wr1_sz h.1.1 (pure_len h.1.2)
    have h4 := pure_len h.1.2
    have h5 : k.cnt + 1 ≤ sz1 l s (szF k) := by
      rw [← h3]
      unfold wr1
      rw [List.length_append, List.length_append, tl_len, h4]
      split
      · rename_i hs
        unfold single at hs
        simp only [Bool.and_eq_true, decide_eq_true_eq] at hs
        simp only [List.length_nil]; omega
      · have := (hd_len9 (frm l) (s.size + szF k)).1
        omega
    show 1 + k.cnt + r.cnt ≤ sz1 l s (szF k) + szF r
    omega
/-- It is written without an error. -/
theorem enc_okm {x : I3} (h : Okm x) : encS x.l x.s x.k.len x.k = (strB (encI x), 0) := by
  have h1 := pure_len h.ok.2
  have h2 := wr1_sz h.ok.1 h1
  have h3 := h.sz
  have h4 := cnt_szF h.ok.2
  have h5 : szF x.k ≤ (encI x).length := by
    unfold encI wr1
    rw [List.length_append, List.length_append, h1]; omega
  have h6 : lf1 x.l x.s x.k.len (lfF x.k) 4000 = some (3999 - x.k.cnt) := by
    unfold lf1
    rw [if_neg (by rw [h.ok.1]; simp), lfF_eq, if_pos ⟨h.ok.2, by omega⟩]
  unfold encS
  rw [h6]
  simp only
  have hd : ¬ 8 < dp1 x.l (dpF x.k) := by
    have := h.d4
    unfold dpI at this; omega
  rw [if_neg hd, if_neg (by rw [← h2]; show ¬ 4000 < (encI x).length; omega)]; rfl
end Go.Proofs.YtlhfgbjhngkicaaGreatDoor

namespace Go.Proofs.YtlhfgbjhngkicaaGreatDoor
open Go Go.RowKit
set_option linter.unusedVariables false
namespace D2
/-- How many of the changes have been. -/
def stg : List Nat → (Nat → Bool) → Nat
  | [], _ => 0
  | k :: r, L => bif L k then stg r L + 1 else 0
def chn (ks : List Nat) (Q : Nat → (Nat → Gh) → World → Prop) : (Nat → Bool) → (Nat → Gh) → World → Prop := fun L g w => Q (stg ks L) g w
theorem stg_le : ∀ (ks : List Nat) (L : Nat → Bool), stg ks L ≤ ks.length
  | [], _ => Nat.le_refl _
  | k :: r, L => by
    unfold stg
    cases L k with
    | true => exact Nat.succ_le_succ (stg_le r L)
    | false => exact Nat.zero_le _
theorem chn.get {ks : List Nat} {Q : Nat → (Nat → Gh) → World → Prop} {L : Nat → Bool} {g : Nat → Gh} {w : World} {Φ : Prop} (h : chn ks Q L g w) (hQ : ∀ j, j ≤ ks.length → Q j g w → Φ) : Φ := hQ _ (stg_le ks L) h
theorem chn.fin {Q : Nat → (Nat → Gh) → World → Prop} {g : Nat → Gh} {w : World} : ∀ {ks : List Nat} {L : Nat → Bool}, chn ks Q L g w → (∀ k ∈ ks, L k = true) → Q ks.length g w := by
  intro ks L h hk
  have : stg ks L = ks.length := by
    clear h
    induction ks with
    | nil => rfl
    | cons k r ih =>
      unfold stg
      rw [hk k (List.mem_cons_self ..), ih fun x hx => hk x (List.mem_cons_of_mem _ hx)]; rfl
  unfold chn at h
  rwa [this] at h
section
variable {P : Program} {ops : Array Oper} {R : (Nat → Gh) → Env} {d : Option Nat}
theorem gv_chn {V : Gh → Value} {ks : List Nat} {Q : Nat → (Nat → Gh) → World → Prop} (k j : Nat) (hN : ∀ L, Now ops k L → stg ks L = j ∧ stg ks (put1 L k) = j + 1)
    (hr : ∀ g w, Q j g w → ∃ o, ops[k]? = some o ∧ o.dst = d ∧ Region.wanted o (nyield ops (R g)) = true ∧ Runs P (fun v w' => ∃ x, v = V x ∧ Q (j + 1) (setN g k x) w') ((execOp (ev (R g)) o).run P w)) : Gives P ops R (chn ks Q) k d V := by
  refine gives_of fun L g w hp hNw => ?_
  obtain ⟨e1, e2⟩ := hN L hNw
  unfold chn at hp
  rw [e1] at hp
  obtain ⟨o, ho, hd, hw, hq⟩ := hr g w hp
  refine ⟨o, ho, hd, .inr ⟨hw, ?_⟩⟩
  unfold chn
  rw [e2]; exact hq
variable {ρ : Env} {k : Nat} {w : World} {S : Value → World → Prop}
theorem run_new {F : Nat → Value} {ob : Obj} (h : opv P ops k ρ w = some (d, true, .ok (.value (F w.heap.size)) (w.alloc ob))) (hS : S (F w.heap.size) (w.alloc ob)) :
    ∃ o, ops[k]? = some o ∧ o.dst = d ∧ Region.wanted o (nyield ops ρ) = true ∧ Runs P S ((execOp (ev ρ) o).run P w) := by
  obtain ⟨o, ho, hd, hw, hr⟩ := opv_some h
  exact ⟨o, ho, hd, hw, by rw [hr]; exact hS⟩
theorem run_ft {f : Nat} {args : Array Value} {pr : World → Prop} {ok : Value → List (Nat × Obj) → Prop} (hc : FnT P f args pr ok) (hp : pr w) (h : opv P ops k ρ w = some (d, true, .ok (.enter f args) w)) (hS : ∀ v T w', ok v T → St w.heap.size w w' T → S v w') :
    ∃ o, ops[k]? = some o ∧ o.dst = d ∧ Region.wanted o (nyield ops ρ) = true ∧ Runs P S ((execOp (ev ρ) o).run P w) := by
  obtain ⟨o, ho, hd, hw, hr⟩ := opv_some h
  refine ⟨o, ho, hd, hw, ?_⟩
  rw [hr]
  refine Calls.mono (hc w hp) ?_
  rintro e w' ⟨v, T, rfl, hok, hT⟩
  exact ⟨v, rfl, hS v T w' hok hT⟩
theorem run_sto {t : TypeId} {x y : Operand} {b off : Nat} {C C' : Array Value} {T : TypeId} {v : Value} (h : opk ops k ρ = some (none, true, .store t x y)) (hx : ev ρ x = .pointer (some ⟨b, off, none⟩)) (hy : ev ρ y = v) (hi : (P.info? t).map (·.size) = some v.cells.size) (h1 : v.cells.all (·.oneCell') = true)
    (hh : w.heap[b]? = some (.cells C T (0, 0))) (hs : off + v.cells.size ≤ C.size) (hC : (C.toList.take off ++ v.cells.toList ++ C.toList.drop (off + v.cells.size)).toArray = C') (hS : S undef (w.setRow b C')) :
    ∃ o, ops[k]? = some o ∧ o.dst = none ∧ Region.wanted o (nyield ops ρ) = true ∧ Runs P S ((execOp (ev ρ) o).run P w) := by
  obtain ⟨o, ho, hd, hw, hop⟩ := opk_some h
  refine ⟨o, ho, hd, hw, ?_⟩
  have hst := store_agg (P := P) (w := w) hi h1 hh hs
  rw [hC] at hst
  have e2 : (execOp (ev ρ) o).run P w = .ok .skip (w.setRow b C') := by simp [execOp, hop, Instr.storeAt, Instr.sureAddr, hx, hy, hst]
  rw [e2]; exact hS
theorem run_of {op : Op} (h : opk ops k ρ = some (d, true, op)) (hr : ∀ o : Oper, o.op = op → ∃ v w', (execOp (ev ρ) o).run P w = .ok (.value v) w' ∧ S v w') :
    ∃ o, ops[k]? = some o ∧ o.dst = d ∧ Region.wanted o (nyield ops ρ) = true ∧ Runs P S ((execOp (ev ρ) o).run P w) := by
  obtain ⟨o, ho, hd, hw, hop⟩ := opk_some h
  obtain ⟨v, w', e, hS⟩ := hr o hop
  exact ⟨o, ho, hd, hw, by rw [e]; exact hS⟩
end
end D2
end Go.Proofs.YtlhfgbjhngkicaaGreatDoor

namespace Go.Proofs.YtlhfgbjhngkicaaGreatDoor
open Go Go.RowKit
set_option linter.unusedVariables false
section
variable {P : Program} {N : Nat} {ops : Array Oper} {i : Nat} {r : List Nat} {K : Env → World → Prop} {ρ : Env} {w : World} {B : Nat} {w0 : World} {l : List (Nat × Obj)}
end
end Go.Proofs.YtlhfgbjhngkicaaGreatDoor

namespace Go.Proofs.YtlhfgbjhngkicaaGreatDoor
open Go Go.RowKit
set_option linter.unusedVariables false
end Go.Proofs.YtlhfgbjhngkicaaGreatDoor

namespace Go.Proofs.YtlhfgbjhngkicaaGreatDoor
open Go Go.RowKit
set_option linter.unusedVariables false
section
variable {P : Program} {N : Nat} {ops : Array Oper} {Q : Exit → Env → World → Prop} {K : Env → World → Prop} {ρ : Env} {w : World} {i : Nat} {r : List Nat} {c : Code}
end
/-! ### What was laid for good -/
def LyIn (T : List (Nat × Obj)) : Fo → Nat → Nat → Prop
  | .nil, _, _ => True
  | .cons l s k r, b, off => (∃ (C : Array Value) (ty : TypeId) (fz : Nat × Nat) (p : Option Addr) (n c : Nat), (b, Obj.cells C ty fz) ∈ T ∧ off + 3 ≤ C.size ∧
      C.extract off (off + 3) = #[.bool l, .string s, .slice p n c] ∧ s.size ≤ 140737488355328 ∧ n = k.len ∧ n ≤ 140737488355328 ∧ (k = .nil ∨ ∃ b' off', p = some ⟨b', off', none⟩ ∧ LyIn T k b' off')) ∧ LyIn T r b (off + 3)
def SlIn (T : List (Nat × Obj)) (p : Option Addr) (n : Nat) (k : Fo) : Prop := n = k.len ∧ n ≤ 140737488355328 ∧ (k = .nil ∨ ∃ b off, p = some ⟨b, off, none⟩ ∧ LyIn T k b off)
theorem LyIn.mono {T T' : List (Nat × Obj)} (h : ∀ e ∈ T, e ∈ T') : ∀ {k : Fo} {b off : Nat}, LyIn T k b off → LyIn T' k b off
  | .nil, _, _, _ => trivial
  | .cons l s k r, b, off, ⟨⟨C, ty, fz, p, n, c, h1, h2, h3, h4, h5, h6, h7⟩, h8⟩ => ⟨⟨C, ty, fz, p, n, c, h _ h1, h2, h3, h4, h5, h6, h7.imp id fun ⟨b', o', e, q⟩ => ⟨b', o', e, LyIn.mono h q⟩⟩, LyIn.mono h h8⟩
theorem SlIn.mono {T T' : List (Nat × Obj)} {p : Option Addr} {n : Nat} {k : Fo} (hs : SlIn T p n k) (h : ∀ e ∈ T, e ∈ T') : SlIn T' p n k :=
  ⟨hs.1, hs.2.1, hs.2.2.imp id fun ⟨b, o, e, q⟩ => ⟨b, o, e, q.mono h⟩⟩
theorem LyIn.at {B : Nat} {w0 w : World} {l T : List (Nat × Obj)} (hS : St B w0 w l) (h : ∀ e ∈ T, e ∈ l) : ∀ {k : Fo} {b off : Nat}, LyIn T k b off → FoAt w.heap.size w k b off
  | .nil, _, _, _ => trivial
  | .cons l s k r, b, off, ⟨⟨C, ty, fz, p, n, c, h1, h2, h3, h4, h5, h6, h7⟩, h8⟩ =>
    have hh := (hS.own _ (h _ h1)).2
    ⟨⟨C, ty, fz, p, n, c, lt_of_heap hh, hh, h2, h3, h4, h5, h6, h7.imp id fun ⟨b', o', e, q⟩ => ⟨b', o', e, LyIn.at hS h q⟩⟩, LyIn.at hS h h8⟩
theorem SlIn.at {B : Nat} {w0 w : World} {l T : List (Nat × Obj)} {p : Option Addr} {n : Nat} {k : Fo} (hs : SlIn T p n k) (hS : St B w0 w l) (h : ∀ e ∈ T, e ∈ l) : SlAt w.heap.size w p n k :=
  ⟨hs.1, hs.2.1, hs.2.2.imp id fun ⟨b, o, e, q⟩ => ⟨b, o, e, q.at hS h⟩⟩
def AllIn (T : List (Nat × Obj)) (L : List X3) : Prop := ∀ x ∈ L, SlIn T x.p x.n x.k ∧ x.s.size ≤ 140737488355328
theorem ly_row {T : List (Nat × Obj)} {b : Nat} {C : Array Value} {ty : TypeId} {fz : Nat × Nat} (hm : (b, Obj.cells C ty fz) ∈ T) : ∀ (L : List X3) (o : Nat),
    (∀ (i : Nat) (x : X3), L[i]? = some x → C[o + i * 3]? = some (.bool x.l) ∧ C[o + i * 3 + 1]? = some (.string x.s) ∧ C[o + i * 3 + 2]? = some (.slice x.p x.n x.c)) → AllIn T L → LyIn T (toFo L) b o
  | [], _, _, _ => trivial
  | x :: r, o, h, hA => by
    obtain ⟨h1, h2, h3⟩ := h 0 x rfl
    simp only [Nat.zero_mul, Nat.add_zero] at h1 h2 h3
    have ha := hA x (List.mem_cons_self ..)
    refine ⟨⟨C, ty, fz, x.p, x.n, x.c, hm, (ex3 h1 h2 h3).1, (ex3 h1 h2 h3).2, ha.2, ha.1.1, ha.1.2.1, ha.1.2.2⟩, ?_⟩
    refine ly_row hm r (o + 3) (fun i y hy => ?_) fun y hy => hA y (List.mem_cons_of_mem _ hy)
    have := h (i + 1) y (by simpa using hy)
    rw [show o + (i + 1) * 3 = o + 3 + i * 3 by omega] at this
    exact this
theorem Rw.slIn {cur : Array Value} {cap n : Nat} {L : List X3} (h : Rw 3 cur cap n (cells3 L)) {T : List (Nat × Obj)} {b : Nat} {ty : TypeId} {fz : Nat × Nat} (hm : (b, Obj.cells cur ty fz) ∈ T) (hA : AllIn T L) (hn : n ≤ 140737488355328) : SlIn T (some ⟨b, 0, none⟩) n (toFo L) := by
  have hl := h.len
  rw [cells3_len] at hl
  refine ⟨by rw [toFo_len]; omega, hn, .inr ⟨b, 0, rfl, ly_row hm L 0 (fun i x hx => ?_) hA⟩⟩
  have := h.at3 hx
  rw [Nat.zero_add]; exact this
end Go.Proofs.YtlhfgbjhngkicaaGreatDoor

namespace Go.Proofs.YtlhfgbjhngkicaaGreatDoor
open Go Go.RowKit
open D2 (Gh)
set_option linter.unusedVariables false
def iS : Fl X3 where
  K := 3
  cs := X3.cs
  pos := by decide
  len _ := rfl
  one _ := one_all rfl
theorem cells_iS : ∀ L : List X3, cellsF iS L = cells3 L
  | [] => rfl
  | x :: r => by
    show X3.cs x ++ cellsF iS r = _
    rw [cells_iS r]; rfl
abbrev emB : ByteArray := ⟨#[]⟩
abbrev b3 (s : ByteArray) : X3 := ⟨false, s, none, 0, 0, .nil⟩
abbrev itV (x : X3) : Value := .agg #[.bool x.l, .string x.s, .slice x.p x.n x.c]
abbrev itO (x : X3) : Obj := .cells #[.bool x.l, .string x.s, .slice x.p x.n x.c] 68 (0, 0)
def X3.i (x : X3) : I3 := ⟨x.l, x.s, x.k⟩
theorem toFo_foI : ∀ L : List X3, toFo L = foI (L.map X3.i)
  | [] => rfl
  | x :: r => by
    show Fo.cons x.l x.s x.k (toFo r) = _
    rw [toFo_foI r]; rfl
def told3 (x : X3) : X3 := if (encI x.i).length < 32 then x else b3 (strB (Kec.sumB (encI x.i)))
theorem told3_i (x : X3) : (told3 x).i = toldI x.i := by unfold told3 toldI; split <;> rfl
theorem bytesOf_fn (s : ByteArray) : Fn Tryz.prog 78 #[.string s] (itV (b3 s)) := by
  refine Fn.intro (c := codeOf Tryz.f78) [.cell 2 68] 5 Tryz.func78 kr kr kr fun w => ?_
  have H0 := St.start w
  refine rS [.a] H0 kr fun gs1 w1 H1 => ?_
  refine rS [.v, .v, .s 0] H1 kr fun gs2 w2 H2 => ?_
  exact rRe [.cell 2 68] [0] (v := itV (b3 s)) (v' := itV (b3 s)) H2 rfl kr
theorem packed_fn (s : ByteArray) (e : Bool) (hs : s.size ≤ 100000) (hp : isP (tl s) = true) : Fn Tryz.prog 77 #[.string s, .bool e] (itV (b3 (strB (pk (tl s) e)))) := by
  refine Fn.intro (c := codeOf Tryz.f77) [.cell 4 68] 15 Tryz.func77 kr kr kr fun w => ?_
  have H0 := St.start w
  refine rS [.a] H0 kr fun gs1 w1 H1 => ?_
  refine rS [.v, .v, .c (pack_yes s (by omega) e hp), .v, .v, .v, .v, .v] H1 kr fun gs2 w2 H2 => ?_
  refine rS [.v, .c (bytesOf_fn (strB (pk (tl s) e))), .s 0] H2 kr fun gs3 w3 H3 => ?_
  exact rRe [.cell 4 68] [0] (v := itV (b3 (strB (pk (tl s) e)))) (v' := itV (b3 (strB (pk (tl s) e)))) H3 rfl kr
theorem told_fn (x : X3) (hx : Okm x.i) (hs : x.s.size ≤ 140737488355328) : FnP Tryz.prog 52 #[itV x] (fun w => SlAt w.heap.size w x.p x.n x.k ∧ Ke.Marks w) (itV (told3 x)) := by
  refine FnP.intro (c := codeOf Tryz.f52) [.cell 2 68] 17 Tryz.func52 kr kr kr fun w hP => ?_
  obtain ⟨hP, hM⟩ := hP
  have H0 := St.start w
  have henc := encode_fn x.l x.s x.p x.n x.c x.k hs
  rw [show encS x.l x.s x.n x.k = (strB (encI x.i), 0) by rw [hP.1]; exact enc_okm hx] at henc
  refine rS [.b, .a] H0 kr fun gs1 w1 H1 => ?_
  refine rS [.l 0, .cp (pre := fun w => SlAt w.heap.size w x.p x.n x.k) henc [] (fun w hb hd => hP.call hb), .v, .v, .v, .v, .v] H1 kr fun gs2 w2 H2 => ?_
  refine g_seq kr ?_
  by_cases hl : (encI x.i).length < 32
  · refine rS [.v, .v, .e (v := .bool (decide ((((strB (encI x.i)).size : Nat) : Int) < 32))) (v' := .bool true) (bool_eq (decide_eq_true (by rw [strB_size]; omega)))] H2 kr fun gs3 w3 H3 => ?_
    refine g_cond_t kr kr ?_
    refine rS [.l 0, .s 1] H3 kr fun gs4 w4 H4 => ?_
    exact rRe [.cell 2 68] [1] (v := itV x) (v' := itV (told3 x)) H4 (by unfold told3; rw [if_pos hl]) kr
  · refine rS [.v, .v, .e (v := .bool (decide ((((strB (encI x.i)).size : Nat) : Int) < 32))) (v' := .bool false) (bool_eq (decide_eq_false (by rw [strB_size]; omega)))] H2 kr fun gs3 w3 H3 => ?_
    refine g_cond_f kr kr ?_
    refine g_skip kr ?_
    show WP _ _ _ _ _ _
    have hsz := hx.sz
    refine rS [.v, .cp (sumT_fn (strB (encI x.i)) (by rw [strB_size]; omega)) [] (fun w hb hd => marks_call hM hb), .c (bytesOf_fn (strB (Kec.sumB (encI x.i)))), .s 1] H3 kr fun gs4 w4 H4 => ?_
    exact rRe [.cell 2 68] [1] (v := itV (b3 (strB (Kec.sumB (encI x.i))))) (v' := itV (told3 x)) H4 (by unfold told3; rw [if_neg hl]) kr
/-- A row of items lies at a block's beginning. -/
def ItRow (w : World) (b : Nat) (L : List X3) : Prop := ∃ C T fz, w.heap[b]? = some (.cells C T fz) ∧ RowAt iS C 0 L
theorem ItRow.call {w w' : World} {b : Nat} {L : List X3} (h : ItRow w b L) (hb : Below w.heap.size w w') : ItRow w' b L := by
  obtain ⟨C, T, fz, hh, hR⟩ := h
  exact ⟨C, T, fz, by rw [hb.block b (lt_of_heap hh)]; exact hh, hR⟩
def okCl (L : List X3) (v : Value) (T : List (Nat × Obj)) : Prop := ∃ (b c : Nat) (cur : Array Value), v = .slice (some ⟨b, 0, none⟩) L.length c ∧ T = [(b, .cells cur 68 (0, 0))] ∧ Rw 3 cur c L.length (cellsF iS L)
/-- A list of these. -/
def okLst (L : List X3) (v : Value) (T : List (Nat × Obj)) : Prop := ∃ (b c : Nat) (cur : Array Value), v = .agg #[.bool true, .string emB, .slice (some ⟨b, 0, none⟩) L.length c] ∧ T = [(b, .cells cur 68 (0, 0))] ∧ Rw 3 cur c L.length (cellsF iS L)
set_option maxRecDepth 100000 in
set_option maxHeartbeats 4000000 in
theorem cloneI_fn (b c : Nat) (L : List X3) (hL : L.length ≤ 1000) : FnT Tryz.prog 95 #[.slice (some ⟨b, 0, none⟩) L.length c] (fun w => ItRow w b L) (okCl L) := by
  refine FnT.intro (c := codeOf Tryz.f95) [.tmp 2] 8 Tryz.func95 kr kr kr fun w hP => ?_
  have H0 := St.start w
  refine rS [.v] H0 kr fun gs1 w1 H1 => ?_
  refine g_seq kr ?_
  refine rS [.v, .v] H1 kr fun gs2 w2 H2 => ?_
  refine g_cond_f kr kr ?_
  refine g_skip kr ?_
  show WP _ _ _ _ _ _
  refine g_sreg [0, 1, 2, 3] kr kr ?_
  refine rp [.nw (fun b => .slice (some ⟨b, 0, none⟩) 0 0) #[] 68, .v] H2 kr fun gs3 w3 H3 => ?_
  show WPs _ _ _ _ [2, 3] _ _
  have H4 : St w.heap.size w w3 [((gs3 0).b, .cells #[] 68 (0, 0))] := H3.as kr
  obtain ⟨C, T, fz, hh, hR⟩ := hP.call H4.below
  refine s_growAll (S := iS) H4 (some 7) 66 68 48 (.tmp 5) (.tmp 6) 0 (gs3 0).b 0 0 L.length c ⟨b, 0, none⟩ #[] [] L kr kr kr kr kr (Rw.lit #[] 0 rfl (by unfold maxLen; omega)) kr rfl (.inr ⟨b, 0, C, T, fz, rfl, hh, hR⟩) (by omega) (by unfold maxLen; omega) ?_
  intro b' cap' cur' w4 H5 hr
  rw [Nat.zero_add, List.nil_append] at hr
  rw [Nat.zero_add]
  refine rp [.v] H5 kr fun gs4 w5 H6 => ?_
  show WPs _ _ _ _ [] _ _
  refine s_nil ?_
  have H7 : St w.heap.size w w5 [(b', .cells cur' 68 (0, 0))] := H6.as kr
  refine rRr [.tmp 2] [] (.slice (some ⟨b', 0, none⟩) L.length cap') (outT w.heap.size w (okCl L)) H6 kr ?_
  exact ⟨_, ⟨b', cap', cur', rfl, rfl, hr⟩, H7⟩
set_option maxRecDepth 100000 in
set_option maxHeartbeats 4000000 in
theorem list_fn (b c : Nat) (L : List X3) (hL : L.length ≤ 1000) : FnT Tryz.prog 76 #[.slice (some ⟨b, 0, none⟩) L.length c] (fun w => ItRow w b L) (okLst L) := by
  refine FnT.intro (c := codeOf Tryz.f76) [.cell 2 68] 6 Tryz.func76 kr kr kr fun w hP => ?_
  have H0 := St.start w
  refine rS [.a] H0 kr fun gs1 w1 H1 => ?_
  refine g_sreg [0, 1, 2, 3] kr kr ?_
  refine rp [.v] H1 kr fun gs2 w2 H2 => ?_
  show WPs _ _ _ _ [1, 2, 3] _ _
  have H3 : St w.heap.size w w2 [((gs1 0).b, itO (b3 emB))] := H2.as kr
  refine s_callFT H3 (some 4) 95 #[.slice (some ⟨b, 0, none⟩) L.length c] (cloneI_fn b c L hL) (hP.call H3.below) kr kr ?_
  rintro _ _ w3 ⟨b', c', cur, rfl, rfl, hr⟩ H4
  refine rp [.v, .s 1] H4 kr fun gs3 w4 H5 => ?_
  show WPs _ _ _ _ [] _ _
  refine s_nil ?_
  have H6 : St w.heap.size w w4 [(b', .cells cur 68 (0, 0)), ((gs1 0).b, .cells #[.bool true, .string emB, .slice (some ⟨b', 0, none⟩) L.length c'] 68 (0, 0))] := H5.as kr
  refine rRr [.cell 2 68] [1] (.agg #[.bool true, .string emB, .slice (some ⟨b', 0, none⟩) L.length c']) (outT w.heap.size w (okLst L)) H5 kr ?_
  exact ⟨_, ⟨b', c', cur, rfl, rfl, hr⟩, H6.sub (List.Sublist.cons_cons _ (List.nil_sublist _))⟩
theorem cells_set {α : Type} {S : Fl α} : ∀ (M : List α) (i : Nat) (x : α), i < M.length → cellsF S (M.set i x) = (cellsF S M).take (i * S.K) ++ S.cs x ++ (cellsF S M).drop (i * S.K + S.K)
  | [], _, _, h => absurd h (Nat.not_lt_zero _)
  | y :: M, 0, x, _ => by
    show S.cs x ++ cellsF S M = _
    rw [Nat.zero_mul, List.take_zero, List.nil_append, Nat.zero_add]
    show _ = S.cs x ++ (S.cs y ++ cellsF S M).drop S.K
    rw [List.drop_left' (S.len y)]
  | y :: M, i + 1, x, h => by
    show S.cs y ++ cellsF S (M.set i x) = (S.cs y ++ cellsF S M).take _ ++ _ ++ (S.cs y ++ cellsF S M).drop _
    have e1 : (i + 1) * S.K = S.K + i * S.K := by rw [Nat.succ_mul]; omega
    rw [cells_set M i x (by simpa using h), e1, List.take_append, S.len, List.take_of_length_le (l := S.cs y) (by rw [S.len]; omega), show S.K + i * S.K - S.K = i * S.K by omega,
      List.drop_append, S.len, List.drop_of_length_le (l := S.cs y) (by rw [S.len]; omega), List.nil_append, show S.K + i * S.K + S.K - S.K = i * S.K + S.K by omega]
    simp only [List.append_assoc]
abbrev rowO (L : List X3) : Obj := .cells (cellsF iS L).toArray 68 (0, 0)
theorem itRow_own {w w0 : World} {B b : Nat} {l : List (Nat × Obj)} {L : List X3} (h : St B w0 w l) (hm : (b, rowO L) ∈ l) (hL : L.length ≤ 1000) : ItRow w b L := by
  refine ⟨_, _, _, (h.own _ hm).2, ?_⟩
  have hr : Rw 3 (cellsF iS L).toArray L.length L.length (cellsF iS L) := ⟨cellsF_len L, Nat.le_refl _, by unfold maxLen; omega, by rw [List.toList_toArray, List.take_of_length_le (by rw [cellsF_len]; exact Nat.le_refl _)], by rw [List.size_toArray, cellsF_len]; rfl⟩
  exact hr.rowAt (S := iS)
theorem D2.Now.back {ops : Array Oper} {i : Nat} {L : Nat → Bool} (h : D2.Now ops i L) {a b : Nat} (hb : L b = true) (he : D2.edge ops a b = true) : L a = true := by
  cases ha : L a with
  | true => rfl
  | false => have := h.2.2.no a b he ha; rw [hb] at this; cases this
theorem D2.Now.fwd {ops : Array Oper} {i : Nat} {L : Nat → Bool} (h : D2.Now ops i L) {a b : Nat} (ha : L a = false) (he : D2.edge ops a b = true) : L b = false := h.2.2.no a b he ha
set_option maxRecDepth 100000 in
set_option maxHeartbeats 4000000 in
theorem itemOf_leaf (p v : ByteArray) (kids : List Int) (bv : Value) (hp : p.size ≤ 100000) (hi : isP (tl p) = true) : FnT Tryz.prog 51 #[.agg (nS.cs ⟨1, p, v, kids⟩).toArray, bv] (fun _ => True) (okLst [b3 (strB (pk (tl p) true)), b3 v]) := by
  refine FnT.intro (c := codeOf Tryz.f51) [.cell 4 68] 57 Tryz.func51 kr kr kr fun w _ => ?_
  have H0 := St.start w
  refine rS [.b, .a] H0 kr fun gs1 w1 H1 => ?_
  refine rS [.v, .l 0] H1 kr fun gs2 w2 H2 => ?_
  refine g_block 0 kr ?_
  refine rS [.v, .v] H2 kr fun gs3 w3 H3 => ?_
  refine g_cond_t kr kr ?_
  generalize hb2 : (gs1 0).b = b2 at *
  generalize hb4 : (gs1 1).b = b4 at *
  have H4 : St w.heap.size w w3 [(b2, ndO ⟨1, p, v, kids⟩), (b4, itO (b3 emB))] := H3.as (by rw [← hb2, ← hb4]; kernel_rfl)
  subst hb2 hb4
  refine g_seq kr ?_
  refine D2.g_draw0 [0, 1, 2, 3, 4, 5, 6, 7, 8] [(some 36, fun _ => .pointer (some ⟨(gs1 0).b, 1, none⟩)), (some 37, fun _ => .string p), (some 38, fun _ => itV (b3 (strB (pk (tl p) true)))), (some 39, fun _ => .pointer (some ⟨(gs1 0).b, 2, none⟩)), (some 40, fun _ => .string v), (some 41, fun _ => itV (b3 v)), (some 42, fun y => .slice (some ⟨y.b, 0, none⟩) 2 2), (some 43, fun y => .agg #[.bool true, .string emB, .slice (some ⟨y.b, 0, none⟩) 2 y.cap]), (none, fun _ => undef)]
    (D2.chn [6, 7, 8] fun j g ww => match j with
      | 0 => St w.heap.size w ww [((gs1 0).b, ndO ⟨1, p, v, kids⟩), ((gs1 1).b, itO (b3 emB))]
      | 1 => St w.heap.size w ww [((gs1 0).b, ndO ⟨1, p, v, kids⟩), ((gs1 1).b, itO (b3 emB)), ((g 6).b, rowO [b3 (strB (pk (tl p) true)), b3 v])]
      | 2 => St w.heap.size w ww [((gs1 0).b, ndO ⟨1, p, v, kids⟩), ((gs1 1).b, itO (b3 emB)), ((g 7).b, .cells (g 7).cur 68 (0, 0))] ∧ Rw 3 (g 7).cur (g 7).cap 2 (cellsF iS [b3 (strB (pk (tl p) true)), b3 v])
      | _ => St w.heap.size w ww [((gs1 0).b, ndO ⟨1, p, v, kids⟩), ((gs1 1).b, .cells #[.bool true, .string emB, .slice (some ⟨(g 7).b, 0, none⟩) 2 (g 7).cap] 68 (0, 0)), ((g 7).b, .cells (g 7).cur 68 (0, 0))] ∧ Rw 3 (g 7).cur (g 7).cap 2 (cellsF iS [b3 (strB (pk (tl p) true)), b3 v]))
    kr kr kr H4.drew ⟨?_, ?_, ?_, ?_, ?_, ?_, ?_, ?_, ?_, trivial⟩ ?_
  · exact D2.gv_val (fun _ _ _ h => h) (fun g w => by kernel_rfl)
  · exact D2.gv_ld (fun _ _ _ h => h) 9 (.tmp 36) (fun _ => (gs1 0).b) 1 (nS.cs ⟨1, p, v, kids⟩).toArray 58 (0, 0) (fun g => by kernel_rfl) (fun g => by kernel_rfl) (fun L g w hN hp => hp.get fun j hj h => by
      match j, h with
      | 0, h => exact St.get h 0 kr
      | 1, h => exact St.get h 0 kr
      | 2, h => exact St.get h.1 0 kr
      | _ + 3, h => exact St.get h.1 0 kr) kr kr
  · exact D2.gv_cW (fun _ _ _ h => h) 77 #[.string p, .bool true] (packed_fn p true hp hi) (fun L g w w' hN hp hb => by
      revert hp; unfold D2.chn
      generalize D2.stg [6, 7, 8] L = j
      intro hp
      match j, hp with
      | 0, h => exact h.call hb
      | 1, h => exact h.call hb
      | 2, h => exact ⟨h.1.call hb, h.2⟩
      | _ + 3, h => exact ⟨h.1.call hb, h.2⟩) (fun g w => by kernel_rfl)
  · exact D2.gv_val (fun _ _ _ h => h) (fun g w => by kernel_rfl)
  · exact D2.gv_ld (fun _ _ _ h => h) 9 (.tmp 39) (fun _ => (gs1 0).b) 2 (nS.cs ⟨1, p, v, kids⟩).toArray 58 (0, 0) (fun g => by kernel_rfl) (fun g => by kernel_rfl) (fun L g w hN hp => hp.get fun j hj h => by
      match j, h with
      | 0, h => exact St.get h 0 kr
      | 1, h => exact St.get h 0 kr
      | 2, h => exact St.get h.1 0 kr
      | _ + 3, h => exact St.get h.1 0 kr) kr kr
  · exact D2.gv_cW (fun _ _ _ h => h) 78 #[.string v] (bytesOf_fn v) (fun L g w w' hN hp hb => by
      revert hp; unfold D2.chn
      generalize D2.stg [6, 7, 8] L = j
      intro hp
      match j, hp with
      | 0, h => exact h.call hb
      | 1, h => exact h.call hb
      | 2, h => exact ⟨h.1.call hb, h.2⟩
      | _ + 3, h => exact ⟨h.1.call hb, h.2⟩) (fun g w => by kernel_rfl)
  · refine D2.gv_chn 6 0 (fun L hN => by
      have e6 := hN.1
      have e7 := hN.post 7 kr
      have e8 := hN.fwd e7 (show D2.edge _ 7 8 = true by kernel_rfl)
      exact ⟨by (simp [D2.stg, e6, e7, e8]) <;> rfl, by (simp [D2.stg, D2.put1, e6, e7, e8]) <;> rfl⟩) fun g ww hq => ?_
    exact D2.run_new (F := fun b => .slice (some ⟨b, 0, none⟩) 2 2) (ob := rowO [b3 (strB (pk (tl p) true)), b3 v]) kr ⟨{ b := ww.heap.size }, rfl, (St.alloc hq (rowO [b3 (strB (pk (tl p) true)), b3 v])).perm (List.perm_append_comm (l₁ := [((gs1 0).b, ndO ⟨1, p, v, kids⟩), ((gs1 1).b, itO (b3 emB))]) (l₂ := [(ww.heap.size, rowO [b3 (strB (pk (tl p) true)), b3 v])]))⟩
  · refine D2.gv_chn 7 1 (fun L hN => by
      have e7 := hN.1
      have e6 := hN.bef 6 kr
      have e8 := hN.post 8 kr
      exact ⟨by (simp [D2.stg, e6, e7, e8]) <;> rfl, by (simp [D2.stg, D2.put1, e6, e7, e8]) <;> rfl⟩) fun g ww hq => ?_
    exact D2.run_ft (list_fn (g 6).b 2 [b3 (strB (pk (tl p) true)), b3 v] (by simp)) (itRow_own hq (by simp) (by simp)) kr fun v T w' hok hT => by
      obtain ⟨b', c', cur, rfl, rfl, hr⟩ := hok
      have h9 := (St.addAll hq hT).perm (List.perm_append_comm (l₁ := [((gs1 0).b, ndO ⟨1, p, v, kids⟩), ((gs1 1).b, itO (b3 emB)), ((g 6).b, rowO [b3 (strB (pk (tl p) true)), b3 v])]) (l₂ := [(b', .cells cur 68 (0, 0))]))
      exact ⟨{ b := b', cap := c', cur := cur }, rfl, h9.sub (List.Sublist.cons_cons _ (List.Sublist.cons_cons _ (List.sublist_cons_self ..))), hr⟩
  · refine D2.gv_chn 8 2 (fun L hN => by
      have e8 := hN.1
      have e7 := hN.bef 7 kr
      have e6 := hN.back e7 (show D2.edge _ 6 7 = true by kernel_rfl)
      exact ⟨by (simp [D2.stg, e6, e7, e8]) <;> rfl, by (simp [D2.stg, D2.put1, e6, e7, e8]) <;> rfl⟩) fun g ww hq => ?_
    exact D2.run_sto (t := 68) (x := .tmp 4) (y := .tmp 43) (C := #[.bool false, .string emB, .slice none 0 0]) (C' := #[.bool true, .string emB, .slice (some ⟨(g 7).b, 0, none⟩) 2 (g 7).cap]) (T := 68) (off := 0) (b := (gs1 1).b) (v := .agg #[.bool true, .string emB, .slice (some ⟨(g 7).b, 0, none⟩) 2 (g 7).cap]) kr kr kr kr kr (St.get hq.1 1 kr) (Nat.le_of_ble_eq_true kr) kr ⟨g 8, rfl, St.store (C := #[.bool false, .string emB, .slice none 0 0]) (T := 68) hq.1 1 kr, hq.2⟩
  · intro L1 g w9 hall hp
    have hq := hp.fin (fun k hk => hall k (by simp at hk; rcases hk with rfl | rfl | rfl <;> exact Nat.le_of_ble_eq_true kr))
    show WP _ _ _ _ _ _
    refine rRr [.cell 4 68] [1] (.agg #[.bool true, .string emB, .slice (some ⟨(g 7).b, 0, none⟩) 2 (g 7).cap]) (outT w.heap.size w (okLst [b3 (strB (pk (tl p) true)), b3 v])) hq.1 kr ?_
    exact ⟨_, ⟨(g 7).b, (g 7).cap, (g 7).cur, rfl, rfl, hq.2⟩, hq.1.sub ((List.sublist_cons_self ..).trans (List.sublist_cons_self ..))⟩
end Go.Proofs.YtlhfgbjhngkicaaGreatDoor

namespace Go.Proofs.YtlhfgbjhngkicaaGreatDoor
open Go Go.RowKit
open D2 (Gh)
set_option linter.unusedVariables false
theorem idxI_run {ρ : Env} {x y : Operand} {o : Oper} {kd : IntKind} (b n c k : Nat) (ho : o.op = .indexAddr 66 x y) (hx : ev ρ x = .slice (some ⟨b, 0, none⟩) n c) (hy : ev ρ y = .int kd (k : Int)) (hk : k < n) (w : World) :
    (execOp (ev ρ) o).run Tryz.prog w = .ok (.value (.pointer (some ⟨b, 0 + k * 3, none⟩))) w := idxP_run (kd := kd) (t := 66) (e := 68) (K := 3) (bytes := 48) kr (x := x) (y := y) b 0 n c k rfl ho hx hy hk w
/-- An item of a row that lies, read. -/
theorem ldI_run {ρ : Env} {x : Operand} {o : Oper} {w : World} {b k : Nat} {L : List X3} {y : X3} (h : ItRow w b L) (hy : L[k]? = some y) (ho : o.op = .load 68 x) (hx : ev ρ x = .pointer (some ⟨b, 0 + k * 3, none⟩)) :
    (execOp (ev ρ) o).run Tryz.prog w = .ok (.value (itV y)) w := by
  obtain ⟨C, T, fz, hh, hR⟩ := h
  have h1 : 0 + k * 3 + 3 ≤ C.size := (hR k y hy).1
  have h2 : C.extract (0 + k * 3) (0 + k * 3 + 3) = #[.bool y.l, .string y.s, .slice y.p y.n y.c] := (hR k y hy).2
  have hl := load_agg (P := Tryz.prog) (w := w) (t := 68) (n := 3) kr hh h1
  rw [h2] at hl
  rw [Nat.zero_add] at hl
  simp [execOp, ho, Instr.loadAt, Instr.sureAddr, hx, hl]
set_option maxRecDepth 100000 in
set_option maxHeartbeats 4000000 in
theorem itemOf_joint (p v : ByteArray) (kids : List Int) (bb cb : Nat) (Bl : List X3) (m : Nat) (xk : X3) (hp : p.size ≤ 100000) (hi : isP (tl p) = true) (hk : kids.getD 0 (-1) = (m : Int)) (hx : Bl[m]? = some xk) :
    FnT Tryz.prog 51 #[.agg (nS.cs ⟨2, p, v, kids⟩).toArray, .slice (some ⟨bb, 0, none⟩) Bl.length cb] (fun w => ItRow w bb Bl) (okLst [b3 (strB (pk (tl p) false)), xk]) := by
  refine FnT.intro (c := codeOf Tryz.f51) [.cell 4 68] 57 Tryz.func51 kr kr kr fun w hB => ?_
  have H0 := St.start w
  have hml : m < Bl.length := (List.getElem?_eq_some_iff.1 hx).1
  refine rS [.b, .a] H0 kr fun gs1 w1 H1 => ?_
  refine rS [.v, .l 0] H1 kr fun gs2 w2 H2 => ?_
  refine g_block 0 kr ?_
  refine rS [.v, .v] H2 kr fun gs3 w3 H3 => ?_
  refine g_cond_f kr kr ?_
  refine rS [.v, .v] H3 kr fun gs3b w3b H3b => ?_
  refine g_cond_t kr kr ?_
  have H4 : St w.heap.size w w3b [((gs1 0).b, ndO ⟨2, p, v, kids⟩), ((gs1 1).b, itO (b3 emB))] := H3b.as kr
  refine g_seq kr ?_
  refine D2.g_draw0 [0, 1, 2, 3, 4, 5, 6, 7, 8, 9, 10, 11] [(some 46, fun _ => .pointer (some ⟨(gs1 0).b, 1, none⟩)), (some 47, fun _ => .string p), (some 48, fun _ => itV (b3 (strB (pk (tl p) false)))), (some 49, fun _ => .slice (some ⟨bb, 0, none⟩) Bl.length cb), (some 50, fun _ => .pointer (some ⟨(gs1 0).b, 3, none⟩)), (some 51, fun _ => .pointer (some ⟨(gs1 0).b, 3, none⟩)), (some 52, fun _ => iN m), (some 53, fun _ => .pointer (some ⟨bb, 0 + m * 3, none⟩)), (some 54, fun _ => itV xk), (some 55, fun y => .slice (some ⟨y.b, 0, none⟩) 2 2), (some 56, fun y => .agg #[.bool true, .string emB, .slice (some ⟨y.b, 0, none⟩) 2 y.cap]), (none, fun _ => undef)]
    (D2.chn [9, 10, 11] fun j g ww => match j with
      | 0 => St w.heap.size w ww [((gs1 0).b, ndO ⟨2, p, v, kids⟩), ((gs1 1).b, itO (b3 emB))]
      | 1 => St w.heap.size w ww [((gs1 0).b, ndO ⟨2, p, v, kids⟩), ((gs1 1).b, itO (b3 emB)), ((g 9).b, rowO [b3 (strB (pk (tl p) false)), xk])]
      | 2 => St w.heap.size w ww [((gs1 0).b, ndO ⟨2, p, v, kids⟩), ((gs1 1).b, itO (b3 emB)), ((g 10).b, .cells (g 10).cur 68 (0, 0))] ∧ Rw 3 (g 10).cur (g 10).cap 2 (cellsF iS [b3 (strB (pk (tl p) false)), xk])
      | _ => St w.heap.size w ww [((gs1 0).b, ndO ⟨2, p, v, kids⟩), ((gs1 1).b, .cells #[.bool true, .string emB, .slice (some ⟨(g 10).b, 0, none⟩) 2 (g 10).cap] 68 (0, 0)), ((g 10).b, .cells (g 10).cur 68 (0, 0))] ∧ Rw 3 (g 10).cur (g 10).cap 2 (cellsF iS [b3 (strB (pk (tl p) false)), xk]))
    kr kr kr H4.drew ⟨?_, ?_, ?_, ?_, ?_, ?_, ?_, ?_, ?_, ?_, ?_, ?_, trivial⟩ ?_
  · exact D2.gv_val (fun _ _ _ h => h) (fun g w => by kernel_rfl)
  · exact D2.gv_ld (fun _ _ _ h => h) 9 (.tmp 46) (fun _ => (gs1 0).b) 1 (nS.cs ⟨2, p, v, kids⟩).toArray 58 (0, 0) (fun g => by kernel_rfl) (fun g => by kernel_rfl) (fun L g w hN hp => hp.get fun j hj h => by
      match j, h with
      | 0, h => exact St.get h 0 kr
      | 1, h => exact St.get h 0 kr
      | 2, h => exact St.get h.1 0 kr
      | _ + 3, h => exact St.get h.1 0 kr) kr kr
  · exact D2.gv_cW (fun _ _ _ h => h) 77 #[.string p, .bool false] (packed_fn p false hp hi) (fun L g w w' hN hp hb => by
      revert hp; unfold D2.chn
      generalize D2.stg [9, 10, 11] L = j
      intro hp
      match j, hp with
      | 0, h => exact h.call hb
      | 1, h => exact h.call hb
      | 2, h => exact ⟨h.1.call hb, h.2⟩
      | _ + 3, h => exact ⟨h.1.call hb, h.2⟩) (fun g w => by kernel_rfl)
  · exact D2.gv_val (fun _ _ _ h => h) (fun g w => by kernel_rfl)
  · exact D2.gv_val (fun _ _ _ h => h) (fun g w => by kernel_rfl)
  · exact D2.gv_val (fun _ _ _ h => h) (fun g w => by kernel_rfl)
  · exact D2.gv_ld (fun _ _ _ h => h) 3 (.tmp 51) (fun _ => (gs1 0).b) 3 (nS.cs ⟨2, p, v, kids⟩).toArray 58 (0, 0) (fun g => by kernel_rfl) (fun g => by kernel_rfl) (fun L g w hN hp => hp.get fun j hj h => by
      match j, h with
      | 0, h => exact St.get h 0 kr
      | 1, h => exact St.get h 0 kr
      | 2, h => exact St.get h.1 0 kr
      | _ + 3, h => exact St.get h.1 0 kr) kr ((show ldv Tryz.prog 3 3 (nS.cs ⟨2, p, v, kids⟩).toArray = .int .i64 (kids.getD 0 (-1)) by kernel_rfl).trans (int_eq hk))
  · exact D2.gv_op (fun _ _ _ h => h) (.indexAddr 66 (.tmp 49) (.tmp 52)) (fun g => by kernel_rfl) (fun g o w ho => idxI_run bb Bl.length cb m ho kr (show ev _ (.tmp 52) = .int .i64 (m : Int) by kernel_rfl) hml w)
  · exact D2.gv_opW (fun _ _ _ h => h) (.load 68 (.tmp 53)) (fun g => by kernel_rfl) (fun L g o ww hN hp ho => ldI_run (hB.call ((fun hp => hp.get fun j hj h => by
        match j, h with
        | 0, h => exact h.below
        | 1, h => exact h.below
        | 2, h => exact h.1.below
        | _ + 3, h => exact h.1.below) hp)) hx ho kr)
  · refine D2.gv_chn 9 0 (fun L hN => by
      have e9 := hN.1
      have e10 := hN.post 10 kr
      have e11 := hN.fwd e10 (show D2.edge _ 10 11 = true by kernel_rfl)
      exact ⟨by (simp [D2.stg, e9, e10, e11]) <;> rfl, by (simp [D2.stg, D2.put1, e9, e10, e11]) <;> rfl⟩) fun g ww hq => ?_
    exact D2.run_new (F := fun b => .slice (some ⟨b, 0, none⟩) 2 2) (ob := rowO [b3 (strB (pk (tl p) false)), xk]) kr ⟨{ b := ww.heap.size }, rfl, (St.alloc hq (rowO [b3 (strB (pk (tl p) false)), xk])).perm (List.perm_append_comm (l₁ := [((gs1 0).b, ndO ⟨2, p, v, kids⟩), ((gs1 1).b, itO (b3 emB))]) (l₂ := [(ww.heap.size, rowO [b3 (strB (pk (tl p) false)), xk])]))⟩
  · refine D2.gv_chn 10 1 (fun L hN => by
      have e10 := hN.1
      have e9 := hN.bef 9 kr
      have e11 := hN.post 11 kr
      exact ⟨by (simp [D2.stg, e9, e10, e11]) <;> rfl, by (simp [D2.stg, D2.put1, e9, e10, e11]) <;> rfl⟩) fun g ww hq => ?_
    exact D2.run_ft (list_fn (g 9).b 2 [b3 (strB (pk (tl p) false)), xk] (by simp)) (itRow_own hq (by simp) (by simp)) kr fun v T w' hok hT => by
      obtain ⟨b', c', cur, rfl, rfl, hr⟩ := hok
      have h9 := (St.addAll hq hT).perm (List.perm_append_comm (l₁ := [((gs1 0).b, ndO ⟨2, p, v, kids⟩), ((gs1 1).b, itO (b3 emB)), ((g 9).b, rowO [b3 (strB (pk (tl p) false)), xk])]) (l₂ := [(b', .cells cur 68 (0, 0))]))
      exact ⟨{ b := b', cap := c', cur := cur }, rfl, h9.sub (List.Sublist.cons_cons _ (List.Sublist.cons_cons _ (List.sublist_cons_self ..))), hr⟩
  · refine D2.gv_chn 11 2 (fun L hN => by
      have e11 := hN.1
      have e10 := hN.bef 10 kr
      have e9 := hN.back e10 (show D2.edge _ 9 10 = true by kernel_rfl)
      exact ⟨by (simp [D2.stg, e9, e10, e11]) <;> rfl, by (simp [D2.stg, D2.put1, e9, e10, e11]) <;> rfl⟩) fun g ww hq => ?_
    exact D2.run_sto (t := 68) (x := .tmp 4) (y := .tmp 56) (C := #[.bool false, .string emB, .slice none 0 0]) (C' := #[.bool true, .string emB, .slice (some ⟨(g 10).b, 0, none⟩) 2 (g 10).cap]) (T := 68) (off := 0) (b := (gs1 1).b) (v := .agg #[.bool true, .string emB, .slice (some ⟨(g 10).b, 0, none⟩) 2 (g 10).cap]) kr kr kr kr kr (St.get hq.1 1 kr) (Nat.le_of_ble_eq_true kr) kr ⟨g 11, rfl, St.store (C := #[.bool false, .string emB, .slice none 0 0]) (T := 68) hq.1 1 kr, hq.2⟩
  · intro L1 g w9 hall hp
    have hq := hp.fin (fun k hk => hall k (by simp at hk; rcases hk with rfl | rfl | rfl <;> exact Nat.le_of_ble_eq_true kr))
    show WP _ _ _ _ _ _
    refine rRr [.cell 4 68] [1] (.agg #[.bool true, .string emB, .slice (some ⟨(g 10).b, 0, none⟩) 2 (g 10).cap]) (outT w.heap.size w (okLst [b3 (strB (pk (tl p) false)), xk])) hq.1 kr ?_
    exact ⟨_, ⟨(g 10).b, (g 10).cap, (g 10).cur, rfl, rfl, hq.2⟩, hq.1.sub ((List.sublist_cons_self ..).trans (List.sublist_cons_self ..))⟩
def kidX (Bl : List X3) (kids : List Int) (c : Nat) : X3 := if kids.getD c (-1) = -1 then b3 emB else Bl.getD (kids.getD c (-1)).toNat (b3 emB)
def Kl (Bl : List X3) (kids : List Int) (i : Nat) : List X3 := (List.range 16).map fun c => if c < i then kidX Bl kids c else b3 emB
theorem Kl_len (Bl : List X3) (kids : List Int) (i : Nat) : (Kl Bl kids i).length = 16 := by unfold Kl; simp
theorem Kl_set (Bl : List X3) (kids : List Int) (i : Nat) (hi : i < 16) : (Kl Bl kids i).set i (kidX Bl kids i) = Kl Bl kids (i + 1) := by
  apply List.ext_getElem?
  intro j
  unfold Kl
  rw [List.getElem?_set]
  by_cases hj : i = j
  · subst hj
    rw [if_pos rfl, if_pos (by simpa using hi), List.getElem?_map, List.getElem?_range hi, Option.map_some, if_pos (Nat.lt_succ_self i)]
  · rw [if_neg hj, List.getElem?_map, List.getElem?_map]
    by_cases h16 : j < 16
    · rw [List.getElem?_range h16, Option.map_some, Option.map_some]
      by_cases hlt : j < i
      · rw [if_pos hlt, if_pos (by omega)]
      · rw [if_neg hlt, if_neg (by omega)]
    · rw [List.getElem?_eq_none (by simpa using h16)]; rfl
theorem Kl_same (Bl : List X3) (kids : List Int) (i : Nat) (hi : i < 16) (h : kids.getD i (-1) = -1) : Kl Bl kids (i + 1) = Kl Bl kids i := by
  unfold Kl
  refine List.map_congr_left fun c _ => ?_
  by_cases hc : c < i
  · rw [if_pos hc, if_pos (by omega)]
  · rw [if_neg hc]
    by_cases he : c = i
    · subst he; rw [if_pos (Nat.lt_succ_self c)]; unfold kidX; rw [if_pos h]
    · rw [if_neg (by omega)]
theorem Kl_all (Bl : List X3) (kids : List Int) : Kl Bl kids 16 = (List.range 16).map (kidX Bl kids) := by
  unfold Kl
  refine List.map_congr_left fun c hc => ?_
  rw [if_pos (List.mem_range.1 hc)]
set_option maxRecDepth 100000 in
set_option maxHeartbeats 4000000 in
theorem itemOf_branch (p v : ByteArray) (kids : List Int) (q : Option Addr) (cb : Nat) (Bl : List X3) (hk : ∀ c, c < 16 → kids.getD c (-1) = -1 ∨ ∃ m : Nat, kids.getD c (-1) = (m : Int) ∧ m < Bl.length) :
    FnT Tryz.prog 51 #[.agg (nS.cs ⟨3, p, v, kids⟩).toArray, .slice q Bl.length cb] (fun w => Bl = [] ∨ ∃ bb, q = some ⟨bb, 0, none⟩ ∧ ItRow w bb Bl) (okLst ((List.range 16).map (kidX Bl kids) ++ [b3 v])) := by
  refine FnT.intro (c := codeOf Tryz.f51) [.cell 4 68] 57 Tryz.func51 kr kr kr fun w hB => ?_
  have H0 := St.start w
  refine rS [.b, .a] H0 kr fun gs1 w1 H1 => ?_
  refine rS [.v, .l 0] H1 kr fun gs2 w2 H2 => ?_
  refine g_block 0 kr ?_
  refine rS [.v, .v] H2 kr fun gs3 w3 H3 => ?_
  refine g_cond_f kr kr ?_
  refine rS [.v, .v] H3 kr fun gs3b w3b H3b => ?_
  refine g_cond_f kr kr ?_
  refine rS [.nw (fun b => .slice (some ⟨b, 0, none⟩) 16 16) (cellsF iS (List.replicate 16 (b3 emB))).toArray 68, .v] H3b kr fun gs4 w4 H4 => ?_
  refine g_seq kr ?_
  refine rS [.v, .lp 0 (C := (nS.cs ⟨3, p, v, kids⟩).toArray) (off := 3) (n := 16) (W := (kidC kids).toArray) (Nat.le_of_ble_eq_true kr) kr, .v] H4 kr fun gs5 w5 H5 => ?_
  refine g_block 1 kr ?_
  have H6 : St w.heap.size w w5 [((gs1 0).b, ndO ⟨3, p, v, kids⟩), ((gs1 1).b, itO (b3 emB)), ((gs4 0).b, rowO (Kl Bl kids 0))] := H5.as kr
  refine g_loop kr (fun mz ρ ww => ∃ (i : Nat), 16 - i = mz ∧ i ≤ 16 ∧ St w.heap.size w ww [((gs1 0).b, ndO ⟨3, p, v, kids⟩), ((gs1 1).b, itO (b3 emB)), ((gs4 0).b, rowO (Kl Bl kids i))] ∧ Is [(1, .slice q Bl.length cb), (2, .pointer (some ⟨(gs1 0).b, 0, none⟩)), (4, .pointer (some ⟨(gs1 1).b, 0, none⟩)), (5, .slice (some ⟨(gs4 0).b, 0, none⟩) 16 16), (12, .agg (kidC kids).toArray), (13, iN i)] ρ) (16 - 0)
    ⟨0, rfl, Nat.zero_le _, H6, (Is.of ⟨kr, kr, kr, kr, kr, kr, trivial⟩)⟩ ?_
  clear H0 H1 H2 H3 H3b H4 H5 H6
  rintro _ _ w6 ⟨i, rfl, hi16, H1, _, rfl⟩
  have hsz : (cellsF iS (Kl Bl kids i)).toArray.size = 48 := by rw [List.size_toArray, cellsF_len, Kl_len]; rfl
  by_cases hi : i < 16
  · have hval : (kidC kids).toArray[0 + i * 1]? = some (.int .i64 (kids.getD i (-1))) := by
      rw [Nat.zero_add, Nat.mul_one, List.getElem?_toArray]; exact arrF_get (f := fun j => Value.int .i64 (kids.getD j (-1))) hi
    refine rS [.e (v := .bool (decide (((i : Nat) : Int) < 16))) (v' := .bool true) (bool_eq (decide_eq_true (by omega)))] H1 kr fun gs5 w7 H2 => ?_
    refine g_seq kr ?_
    refine g_cond_t kr kr ?_
    refine g_skip kr ?_
    show WP _ _ _ _ _ _
    refine g_seq kr ?_
    refine g_block 2 kr ?_
    refine rS [.v, .o (ins := [((.tmp 12), .agg (kidC kids).toArray), ((.tmp 13), iN i)]) (v := .int .i64 (kids.getD i (-1))) (fun ρ o w ho hi2 => arr_index (t := 56) (e := 3) (n := 16) (kd := .i64) kr kr kr (x := (.tmp 12)) (y := (.tmp 13)) _ i _ ho hi2.1 hi2.2.1 hi hval w), .v, .v] H2 kr fun gs6 w8 H3 => ?_
    rcases hk i hi with hm | ⟨m, hm, hml⟩
    · refine rS [.v, .e (v := .bool (!((kids.getD i (-1)) == -1))) (v' := .bool false) (bool_eq (by rw [hm]; rfl))] H3 kr fun gs7 w9 H4 => ?_
      refine g_cond_f kr kr ?_
      refine g_skip kr ?_
      show WP _ _ _ _ _ _
      refine rL [.e (v := .int .i64 (IntKind.i64.wrap (((i : Nat) : Int) + 1))) (v' := iN (i + 1)) (int_eq (wrapAdd_i64 (a := i) (b := 1) (by omega))), .v] H4 kr fun gs8 w10 H5 => ?_
      show ∃ m, _ ∧ _
      refine ⟨_, (by omega), i + 1, rfl, hi, ?_, (Is.of ⟨kr, kr, kr, kr, kr, kr, trivial⟩)⟩
      rw [Kl_same Bl kids i hi hm]; exact H5.as kr
    · have hne : ¬ Bl = [] := by rintro rfl; exact absurd hml (Nat.not_lt_zero _)
      obtain ⟨bb, rfl, hrow⟩ := hB.resolve_left hne
      obtain ⟨xk, hx⟩ : ∃ x, Bl[m]? = some x := ⟨_, List.getElem?_eq_getElem hml⟩
      have hkx : kidX Bl kids i = xk := by
        unfold kidX
        rw [if_neg (by rw [hm]; omega), hm, Int.toNat_natCast, List.getD_eq_getElem?_getD, hx]; rfl
      obtain ⟨C, T, fz, hh, hR⟩ := hrow
      refine rS [.v, .e (v := .bool (!((kids.getD i (-1)) == -1))) (v' := .bool true) (bool_eq (by rw [hm, beq_eq_false_iff_ne.2 (by omega)]; rfl))] H3 kr fun gs7 w9 H4 => ?_
      refine g_cond_t kr kr ?_
      refine g_now 7 (v := .int .i64 (kids.getD i (-1))) (v' := iN m) (int_eq hm) kr ?_
      refine rL [.v, .v, .v, .v, .o (ins := [((.tmp 21), .slice (some ⟨bb, 0, none⟩) Bl.length cb), ((.tmp 22), iN m)]) (v := .pointer (some ⟨bb, 0 + m * 3, none⟩)) (fun ρ o w ho hi2 => idxI_run (kd := .i64) bb Bl.length cb m ho hi2.1 hi2.2.1 hml w), .fp (off := 0 + m * 3) (n := 3) (W := #[.bool xk.l, .string xk.s, .slice xk.p xk.n xk.c]) hh (lt_of_heap hh) (hR m xk hx).1 (hR m xk hx).2,
        .o (ins := [((.tmp 19), .slice (some ⟨(gs4 0).b, 0, none⟩) 16 16), ((.tmp 20), iN i)]) (v := .pointer (some ⟨(gs4 0).b, 0 + i * 3, none⟩)) (fun ρ o w ho hi2 => idxI_run (kd := .i64) (gs4 0).b 16 16 i ho hi2.1 hi2.2.1 hi w),
        .se 2 (C := (cellsF iS (Kl Bl kids i)).toArray) (C' := (cellsF iS (Kl Bl kids (i + 1))).toArray) (off := 0 + i * 3) (v := itV xk) (by rw [hsz]; show 0 + i * 3 + 3 ≤ 48; omega) (by
          rw [← Kl_set Bl kids i hi, hkx, cells_set _ _ _ (by rw [Kl_len]; exact hi), List.toList_toArray]
          show _ = ((cellsF iS (Kl Bl kids i)).take (i * 3) ++ X3.cs xk ++ (cellsF iS (Kl Bl kids i)).drop (i * 3 + 3)).toArray
          rw [Nat.zero_add]; rfl)] H4 kr fun gs8 w10 H5 => ?_
      show WP _ _ _ _ _ _
      refine rL [.e (v := .int .i64 (IntKind.i64.wrap (((i : Nat) : Int) + 1))) (v' := iN (i + 1)) (int_eq (wrapAdd_i64 (a := i) (b := 1) (by omega))), .v] H5 kr fun gs9 w11 H6 => ?_
      show ∃ m, _ ∧ _
      exact ⟨_, (by omega), i + 1, rfl, hi, H6.as kr, (Is.of ⟨kr, kr, kr, kr, kr, kr, trivial⟩)⟩
  · obtain rfl : i = 16 := by omega
    refine rS [.e (v := .bool (decide (((16 : Nat) : Int) < 16))) (v' := .bool false) (bool_eq (decide_eq_false (by omega)))] H1 kr fun gs5 w7 H2 => ?_
    refine g_seq kr ?_
    refine g_cond_f kr kr ?_
    refine g_exit 1 kr ?_
    show WP _ _ _ _ _ _
    have hr : Rw 3 (cellsF iS (Kl Bl kids 16)).toArray 16 16 (cellsF iS (Kl Bl kids 16)) := ⟨by rw [cellsF_len, Kl_len]; rfl, Nat.le_refl _, by unfold maxLen; omega, by rw [List.toList_toArray, List.take_of_length_le (by rw [cellsF_len, Kl_len]; exact Nat.le_refl _)], hsz⟩
    refine g_sreg [0, 1, 2, 3, 4, 5, 6, 7] kr kr ?_
    refine rp [.v, .v, .l 0, .c (bytesOf_fn v), .nw (fun b => .slice (some ⟨b, 0, none⟩) 1 1) #[.bool false, .string v, .slice none 0 0] 68] H2 kr fun gs6 w8 H3 => ?_
    show WPs _ _ _ _ [5, 6, 7] _ _
    have H4 : St w.heap.size w w8 [((gs1 0).b, ndO ⟨3, p, v, kids⟩), ((gs1 1).b, itO (b3 emB)), ((gs4 0).b, rowO (Kl Bl kids 16)), ((gs6 4).b, itO (b3 v))] := H3.as kr
    refine s_grow (K' := 3) H4 (some 32) 66 68 48 (.tmp 27) (.tmp 31) 2 3 (gs4 0).b (gs6 4).b 16 16 1 (cellsF iS (Kl Bl kids 16)).toArray #[.bool false, .string v, .slice none 0 0] (cellsF iS (Kl Bl kids 16)) kr kr kr kr kr hr kr kr rfl (one_all rfl) (by omega) (by unfold maxLen; omega) ?_
    intro b' cap' cur' w9 H5 hr'
    have hL17 : (Kl Bl kids 16 ++ [b3 v]).length = 17 := by rw [List.length_append, Kl_len]; rfl
    have hr2 : Rw 3 cur' cap' 17 (cellsF iS (Kl Bl kids 16 ++ [b3 v])) := by rw [cellsF_snoc]; exact hr'
    have H6 : St w.heap.size w w9 [((gs1 0).b, ndO ⟨3, p, v, kids⟩), ((gs1 1).b, itO (b3 emB)), (b', .cells cur' 68 (0, 0)), ((gs6 4).b, itO (b3 v))] := H5.as kr
    have hlst := list_fn b' cap' (Kl Bl kids 16 ++ [b3 v]) (by rw [hL17]; omega)
    rw [hL17] at hlst
    refine s_callFT H6 (some 33) 76 #[.slice (some ⟨b', 0, none⟩) 17 cap'] hlst ⟨cur', 68, (0, 0), H6.get 2 kr, hr2.rowAt (S := iS)⟩ kr kr ?_
    rintro _ _ w10 ⟨b9, c9, cur9, rfl, rfl, hr9⟩ H7
    rw [hL17] at hr9 ⊢
    refine rp [.s 2] H7 kr fun gs7 w11 H8 => ?_
    show WPs _ _ _ _ [] _ _
    refine s_nil ?_
    have H9 : St w.heap.size w w11 [(b9, .cells cur9 68 (0, 0)), ((gs1 0).b, ndO ⟨3, p, v, kids⟩), ((gs1 1).b, .cells #[.bool true, .string emB, .slice (some ⟨b9, 0, none⟩) 17 c9] 68 (0, 0)), (b', .cells cur' 68 (0, 0)), ((gs6 4).b, itO (b3 v))] := H8.as kr
    refine rRr [.cell 4 68] [2] (.agg #[.bool true, .string emB, .slice (some ⟨b9, 0, none⟩) 17 c9]) (outT w.heap.size w (okLst ((List.range 16).map (kidX Bl kids) ++ [b3 v]))) H8 kr ?_
    rw [← Kl_all]
    exact ⟨_, ⟨b9, c9, cur9, by rw [hL17], rfl, by rw [hL17]; exact hr9⟩, H9.sub (List.Sublist.cons_cons _ (List.nil_sublist _))⟩
end Go.Proofs.YtlhfgbjhngkicaaGreatDoor

namespace Go.Proofs.YtlhfgbjhngkicaaGreatDoor
open Go Go.RowKit
set_option linter.unusedVariables false
theorem isP_low {l : List UInt8} (h : ∀ b ∈ l, b.toNat < 16) : isP l = true := by
  unfold isP
  rw [List.all_eq_true]
  intro b hb
  have h2 := h b hb
  simp
  omega
structure GoodN (B : List I3) (i : Nat) (x : Nd) : Prop where
  cs : (∃ p v ks, x = ⟨1, p, v, ks⟩) ∨ (∃ p v ks, ∃ m : Nat, x = ⟨2, p, v, ks⟩ ∧ ks.getD 0 (-1) = (m : Int) ∧ m < i) ∨ ∃ p v ks, x = ⟨3, p, v, ks⟩ ∧ ∀ c, c < 16 → ks.getD c (-1) = -1 ∨ ∃ m : Nat, ks.getD c (-1) = (m : Int) ∧ m < i
  pt : x.part.size ≤ 64 ∧ isP (tl x.part) = true
  vl : x.value.size ≤ 500
  it : Okm (itemN x B)
def Good (A : List Nd) : Prop := ∀ i x, A[i]? = some x → GoodN (toldsN (A.take i)) i x
theorem good_nil : Good [] := fun i x h => by simp at h
theorem good_snoc {A : List Nd} {x : Nd} (h : Good A) (hx : GoodN (toldsN A) A.length x) : Good (A ++ [x]) := fun i y hy => by
  by_cases hi : i < A.length
  · rw [List.getElem?_append_left hi] at hy
    rw [List.take_append_of_le_length (Nat.le_of_lt hi)]
    exact h i y hy
  · rw [List.getElem?_append_right (by omega)] at hy
    have h0 : i - A.length = 0 := by have := (List.getElem?_eq_some_iff.1 hy).1; simp at this; omega
    rw [h0] at hy
    obtain rfl : x = y := by simpa using hy
    obtain rfl : i = A.length := by omega
    rw [List.take_left]
    exact hx
def okS (l : List Ent) : Prop := ∀ e ∈ l, e.1.length ≤ 64 ∧ e.2.size ≤ 500
theorem good_kids {f : Nat} {l : List Ent} (h : ∀ c A, Good A → cutE c l ≠ [] → Good (layM f (cutE c l) A).1) (A : List Nd) (hA : Good A) : ∀ n, Good (kidsW (layM f) l n A).1
  | 0 => hA
  | n + 1 => by
    have ih := good_kids h A hA n
    show Good (layM f (cutE n l) (kidsW (layM f) l n A).1).1
    by_cases hn : cutE n l = []
    · rw [hn]
      have e0 : layM f ([] : List Ent) (kidsW (layM f) l n A).1 = ((kidsW (layM f) l n A).1, -1) := by cases f <;> simp [layM]
      rw [e0]; exact ih
    · exact h n _ ih hn
theorem last_eq {A A' : List Nd} {x x' : Nd} (h : A ++ [x] = A' ++ [x']) : A = A' ∧ x = x' := by
  have := List.append_inj' h rfl
  exact ⟨this.1, by simpa using this.2⟩
theorem good_lay : ∀ (f : Nat) (l : List Ent) (A : List Nd), Okl f l → okS l → Good A → Good (layM f l A).1
  | 0, _, A, _, _, hA => hA
  | f + 1, [], A, _, _, hA => hA
  | f + 1, [e], A, ho, hs, hA => by
    obtain ⟨A', x, h1, _, h3⟩ := lay_last (f + 1) [e] A (by simp) ho
    have h4 : (layM (f + 1) [e] A).1 = A ++ [⟨1, strB e.1, e.2, aloneL⟩] := rfl
    obtain ⟨rfl, rfl⟩ := last_eq (h1.symm.trans h4)
    have hse := hs e (by simp)
    have hi := (item_ok (f + 1) [e] (by simp) ho hs).1
    rw [h4]
    refine good_snoc hA ⟨.inl ⟨_, _, _, rfl⟩, ⟨hse.1, isP_low (ho e (by simp)).2⟩, hse.2, by rw [h3]; exact hi⟩
  | f + 1, e :: e' :: r, A, ho, hs, hA => by
    obtain ⟨A', x, h1, _, h3⟩ := lay_last (f + 1) (e :: e' :: r) A (by simp) ho
    have hi := (item_ok (f + 1) (e :: e' :: r) (by simp) ho hs).1
    have hse := hs e (by simp)
    by_cases hc : 0 < commonM (e :: e' :: r)
    · have h4 := congrArg Prod.fst (lay_joint (f := f) A hc)
      simp only at h4
      have hd : dropE (commonM (e :: e' :: r)) (e :: e' :: r) ≠ [] := by simp [dropE]
      have hok := dropE_ok (e := e) rfl hc ho
      have hg := good_lay f _ A hok (fun x hx => by
        obtain ⟨y, hy, rfl⟩ := List.mem_map.1 hx
        have := hs y hy
        exact ⟨by simp only [List.length_drop]; omega, this.2⟩) hA
      obtain ⟨m, hm1, hm2, hm3⟩ := lay_root f _ A hd hok
      obtain ⟨rfl, rfl⟩ := last_eq (h1.symm.trans h4)
      rw [h4]
      refine good_snoc hg ⟨.inr (.inl ⟨_, _, _, m, rfl, hm1, by omega⟩), ⟨?_, isP_low fun b hb => (ho e (by simp)).2 b (List.mem_of_mem_take hb)⟩, by show (0 : Nat) ≤ 500; omega, by rw [h3]; exact hi⟩
      show (e.1.take _).length ≤ 64
      rw [List.length_take]; omega
    · have h4 := congrArg Prod.fst (lay_branch (f := f) A hc)
      simp only at h4
      obtain ⟨rfl, rfl⟩ := last_eq (h1.symm.trans h4)
      have hg := good_kids (f := f) (l := e :: e' :: r) (fun c B hB hn => good_lay f _ B (cutE_ok c ho) (fun x hx => by
        obtain ⟨b, hb, _⟩ := cutE_mem hx
        have := hs _ hb
        simp only [List.length_cons] at this
        exact ⟨by omega, this.2⟩) hB) A hA 16
      rw [h4]
      refine good_snoc hg ⟨.inr (.inr ⟨_, _, _, rfl, fun c hc16 => ?_⟩), ⟨by show (0 : Nat) ≤ 64; omega, rfl⟩, valE_size fun x hx => (hs x hx).2, by rw [h3]; exact hi⟩
      rw [kidsW_get (layM f) (e :: e' :: r) A 16 c hc16]
      by_cases hn : cutE c (e :: e' :: r) = []
      · left; rw [hn]; cases f <;> simp [layM]
      · right
        obtain ⟨m, hm1, hm2, hm3⟩ := lay_root f (cutE c (e :: e' :: r)) (kidsW (layM f) (e :: e' :: r) c A).1 hn (cutE_ok c ho)
        obtain ⟨Z, hZ⟩ := kids_more f (e :: e' :: r) A (c + 1) 16 (by omega)
        refine ⟨m, hm1, ?_⟩
        rw [hZ]
        show m < ((layM f (cutE c (e :: e' :: r)) (kidsW (layM f) (e :: e' :: r) c A).1).1 ++ Z).length
        rw [List.length_append]; omega
theorem okP_ents {L : List Pr} (h : OkP L) : Okl 65 (entsOf L) ∧ okS (entsOf L) := by
  refine ⟨fun e he => ?_, fun e he => ?_⟩
  · obtain ⟨x, hx, rfl⟩ := List.mem_map.1 he
    have := (may_size (h.may x hx)).1.2
    refine ⟨?_, fun b hb => hv_low _ b hb⟩
    show (hv (tl x.1)).length < 65
    rw [hv_len, tl_len]; omega
  · obtain ⟨x, hx, rfl⟩ := List.mem_map.1 he
    have h1 := (may_size (h.may x hx)).1.2
    have h2 := (may_size (h.may x hx)).2.2
    refine ⟨?_, h2⟩
    show (hv (tl x.1)).length ≤ 64
    rw [hv_len, tl_len]; omega
theorem good_built {L : List Pr} (h : OkP L) : Good (builtM L).1 := good_lay 65 _ [] (okP_ents h).1 (okP_ents h).2 good_nil
/-- The item of the last node. -/
def topI (A : List Nd) : I3 := match A.getLast? with
  | none => bI ⟨#[]⟩
  | some x => itemN x (toldsN A.dropLast)
theorem top_snoc (A : List Nd) (x : Nd) : topI (A ++ [x]) = itemN x (toldsN A) := by unfold topI; simp
theorem top_built {L : List Pr} (h : OkP L) (hn : L ≠ []) : topI (builtM L).1 = itemM 65 (entsOf L) := by
  obtain ⟨A', x, h1, _, h3⟩ := lay_last 65 (entsOf L) [] (by cases L with | nil => exact absurd rfl hn | cons a l => simp [entsOf]) (okP_ents h).1
  show topI (layM 65 (entsOf L) []).1 = _
  rw [h1, top_snoc, h3]
end Go.Proofs.YtlhfgbjhngkicaaGreatDoor

namespace Go.Proofs.YtlhfgbjhngkicaaGreatDoor
open Go Go.RowKit
set_option linter.unusedVariables false
section
variable {P : Program} {N : Nat} {ops : Array Oper} {K : Env → World → Prop} {ρ : Env} {w w0 : World} {i B : Nat} {r : List Nat} {l : List (Nat × Obj)}
theorem s_new9 (HS : St B w0 w l) (d : Option Nat) (V : Nat → Value) (C : Array Value) (T : TypeId) (h : opv P ops i ρ w = some (d, true, .ok (.value (V w.heap.size)) (w.alloc (.cells C T (0, 0))))) (hd : dOK d N = true)
    (kk : ∀ b w', St B w0 w' ((b, .cells C T (0, 0)) :: l) → WPs P N ops K r (updO ρ d (V b)) w') : WPs P N ops K (i :: r) ρ w := by
  obtain ⟨o, ho, rfl, hw, hr⟩ := opv_some h
  refine WPo.run ho hw fun a ha => ?_
  rw [hr, Oper.upon_value]
  exact ⟨_, ha.put _ (dOK_lt hd) _, kk w.heap.size _ (HS.alloc _)⟩
/-- One more at a row's end, whether there is a row or not. -/
theorem s_growR {α : Type} {S : Fl α} {nb n c : Nat} {p : Option Addr} {row Z : List (Nat × Obj)} {M : List α} {y : α} (d : Option Nat) (t e bytes : Nat) (s x : Operand) (HS : St B w0 w ((nb, .cells (S.cs y).toArray e (0, 0)) :: (row ++ Z))) (hrow : RowF S e p n c row M)
    (h : opk ops i ρ = some (d, true, appendOp t s x)) (hd : dOK d N = true) (ht : sliceOf P t = some (e, S.K, bytes)) (hs : ev ρ s = .slice p n c) (hx : ev ρ x = .slice (some ⟨nb, 0, none⟩) 1 1) (hb : (n + 1) * bytes ≤ 140737488355328) (hm : n + 1 ≤ maxLen)
    (kk : ∀ b' cap' cur' w', St B w0 w' ((b', .cells cur' e (0, 0)) :: Z) → Rw S.K cur' cap' (n + 1) (cellsF S (M ++ [y])) → WPs P N ops K r (updO ρ d (.slice (some ⟨b', 0, none⟩) (n + 1) cap')) w') : WPs P N ops K (i :: r) ρ w := by
  have hY : (S.cs y).toArray.size = S.K := by rw [List.size_toArray, S.len]
  have hone : ∀ u ∈ (S.cs y).toArray.toList, u.oneCell' = true := fun u hu => S.one y u (by simpa using hu)
  rcases hrow with ⟨rfl, rfl, rfl, rfl, rfl⟩ | ⟨b, cur, rfl, rfl, hrw⟩
  · refine s_growNil HS d t e bytes s x 0 nb 1 (S.cs y).toArray h hd ht hs hx rfl hY hone hb fun b' cap' cur' w' HS' hr' => kk b' cap' cur' w' (HS'.sub (List.Sublist.cons_cons _ (List.sublist_cons_self ..))) ?_
    rw [cellsF_snoc]; exact hr'
  · refine s_grow HS d t e bytes s x 1 0 b nb n c 1 cur (S.cs y).toArray (cellsF S M) h hd ht hs rfl hrw hx rfl hY hone hb hm fun b' cap' cur' w' HS' hr' => kk b' cap' cur' w' (HS'.sub (List.sublist_cons_self ..)) ?_
    rw [cellsF_snoc]; exact hr'
end
theorem allIn_mono {T T' : List (Nat × Obj)} {M : List X3} (h : AllIn T M) (hs : ∀ e ∈ T, e ∈ T') : AllIn T' M := fun x hx => ⟨(h x hx).1.mono hs, (h x hx).2⟩
theorem allIn_snoc {T : List (Nat × Obj)} {M : List X3} {x : X3} (h : AllIn T M) (hx : SlIn T x.p x.n x.k) (hz : x.s.size ≤ 140737488355328) : AllIn T (M ++ [x]) := fun y hy => by
  rcases List.mem_append.1 hy with hy | hy
  · exact h y hy
  · rw [List.mem_singleton.1 hy]; exact ⟨hx, hz⟩
theorem slIn_b3 (T : List (Nat × Obj)) (s : ByteArray) : SlIn T (b3 s).p (b3 s).n (b3 s).k := ⟨rfl, Nat.zero_le _, .inl rfl⟩
/-- Any node's item. -/
theorem itemOf_all (x : Nd) (Bl : List X3) (q : Option Addr) (cb : Nat) (hg : GoodN (Bl.map X3.i) Bl.length x) :
    ∃ L : List X3, lI (L.map X3.i) = itemN x (Bl.map X3.i) ∧ L.length ≤ 17 ∧ (∀ T, AllIn T Bl → AllIn T L) ∧
      FnT Tryz.prog 51 #[.agg (nS.cs x).toArray, .slice q Bl.length cb] (fun w => Bl = [] ∨ ∃ bb, q = some ⟨bb, 0, none⟩ ∧ ItRow w bb Bl) (okLst L) := by
  obtain ⟨hsz, hp⟩ := hg.pt
  have hv := hg.vl
  rcases hg.cs with ⟨p, v, ks, rfl⟩ | ⟨p, v, ks, m, rfl, hk, hm⟩ | ⟨p, v, ks, rfl, hk⟩
  · refine ⟨[b3 (strB (pk (tl p) true)), b3 v], (itemN_leaf ..).symm, by simp, fun T _ y hy => ?_, fun w _ => itemOf_leaf p v ks (.slice q Bl.length cb) (by have : p.size ≤ 64 := hsz; omega) hp w trivial⟩
    rcases List.mem_cons.1 hy with rfl | hy
    · exact ⟨slIn_b3 _ _, by have := pk_size (tl p) true; rw [tl_len] at this; have h2 : p.size ≤ 64 := hsz; show (strB (pk (tl p) true)).size ≤ _; omega⟩
    · rw [List.mem_singleton.1 hy]; exact ⟨slIn_b3 _ _, by have : v.size ≤ 500 := hv; show v.size ≤ _; omega⟩
  · obtain ⟨xk, hx⟩ : ∃ x, Bl[m]? = some x := ⟨_, List.getElem?_eq_getElem hm⟩
    refine ⟨[b3 (strB (pk (tl p) false)), xk], ?_, by simp, fun T hT y hy => ?_, fun w hw => ?_⟩
    · rw [itemN_joint, hk, Int.toNat_natCast, List.getD_eq_getElem?_getD, List.getElem?_map, hx]; rfl
    · rcases List.mem_cons.1 hy with rfl | hy
      · exact ⟨slIn_b3 _ _, by have := pk_size (tl p) false; rw [tl_len] at this; have h2 : p.size ≤ 64 := hsz; show (strB (pk (tl p) false)).size ≤ _; omega⟩
      · rw [List.mem_singleton.1 hy]; exact hT _ (List.mem_of_getElem? hx)
    · rcases hw with rfl | ⟨bb, rfl, hr⟩
      · exact absurd hm (Nat.not_lt_zero _)
      · exact itemOf_joint p v ks bb cb Bl m xk (by have : p.size ≤ 64 := hsz; omega) hp hk hx w hr
  · refine ⟨(List.range 16).map (kidX Bl ks) ++ [b3 v], ?_, by simp, fun T hT y hy => ?_, itemOf_branch p v ks q cb Bl hk⟩
    · rw [itemN_branch, List.map_append, List.map_map]
      congr 2
      refine List.map_congr_left fun c hc => ?_
      show (kidX Bl ks c).i = _
      unfold kidX
      rcases hk c (List.mem_range.1 hc) with h | ⟨m, h, hm⟩
      · rw [if_pos h, if_pos h]; rfl
      · rw [if_neg (by rw [h]; omega), if_neg (by rw [h]; omega), h, Int.toNat_natCast, List.getD_eq_getElem?_getD, List.getD_eq_getElem?_getD, List.getElem?_map, List.getElem?_eq_getElem hm]; rfl
    · rcases List.mem_append.1 hy with hy | hy
      · obtain ⟨c, hc, rfl⟩ := List.mem_map.1 hy
        unfold kidX
        rcases hk c (List.mem_range.1 hc) with h | ⟨m, h, hm⟩
        · rw [if_pos h]; exact ⟨slIn_b3 _ _, Nat.zero_le _⟩
        · rw [if_neg (by rw [h]; omega), h, Int.toNat_natCast, List.getD_eq_getElem?_getD, List.getElem?_eq_getElem hm]
          exact hT _ (List.getElem_mem hm)
      · rw [List.mem_singleton.1 hy]; exact ⟨slIn_b3 _ _, by have : v.size ≤ 500 := hv; show v.size ≤ _; omega⟩
def okTop (A : List Nd) (v : Value) (T : List (Nat × Obj)) : Prop := ∃ X : X3, v = itV X ∧ X.i = topI A ∧ SlIn T X.p X.n X.k ∧ X.s = emB
theorem row_pre {w w0 : World} {B : Nat} {l row : List (Nat × Obj)} {q : Option Addr} {n c : Nat} {Bl : List X3} (h : RowF iS 68 q n c row Bl) (hS : St B w0 w l) (hl : ∀ e ∈ row, e ∈ l) : Bl = [] ∨ ∃ bb, q = some ⟨bb, 0, none⟩ ∧ ItRow w bb Bl := by
  rcases h with ⟨_, _, _, _, hB⟩ | ⟨b, cur, rfl, rfl, hr⟩
  · exact .inl hB
  · exact .inr ⟨b, rfl, cur, _, _, (hS.own _ (hl _ (List.mem_cons_self ..))).2, hr.rowAt⟩
set_option maxRecDepth 100000 in
set_option maxHeartbeats 8000000 in
theorem top_fn (p : Option Addr) (n c : Nat) (A : List Nd) (hG : Good A) (hA : A.length ≤ 1000000000000) :
    FnT Tryz.prog 28 #[.slice p n c] (fun w => NdAt w p n A ∧ Ke.Marks w) (okTop A) := by
  refine FnT.intro (c := codeOf Tryz.f28) [.cell 2 68] 23 Tryz.func28 kr kr kr fun w hP => ?_
  obtain ⟨hN, hM⟩ := hP
  have hn := hN.1
  have H0 := St.start w
  refine rS [.a] H0 kr fun gs1 w1 H1 => ?_
  refine rS [.a] H1 kr fun gs2 w2 H2 => ?_
  refine rS [.v] H2 kr fun gs3 w3 H3 => ?_
  refine g_seq kr ?_
  refine rS [.v, .v, .v] H3 kr fun gs4 w4 H4 => ?_
  refine g_block 0 kr ?_
  have H5 : St w.heap.size w w4 ([((gs1 0).b, itO (b3 emB)), ((gs2 0).b, itO (b3 emB))] ++ ([] ++ [])) := H4.as kr
  refine g_loop kr (fun mz ρ ww => ∃ (i : Nat) (q : Option Addr) (cb : Nat) (Bl : List X3) (Tb Tk : List (Nat × Obj)) (X : X3), n - i = mz ∧ i ≤ n ∧ RowF iS 68 q i cb Tb Bl ∧ Bl.map X3.i = toldsN (A.take i) ∧ AllIn Tk Bl ∧ X.i = topI (A.take i) ∧ SlIn Tk X.p X.n X.k ∧ X.s = emB ∧
      St w.heap.size w ww ([((gs1 0).b, itO (b3 emB)), ((gs2 0).b, itO X)] ++ (Tb ++ Tk)) ∧ Is [(2, .pointer (some ⟨(gs1 0).b, 0, none⟩)), (3, .pointer (some ⟨(gs2 0).b, 0, none⟩)), (4, .slice q i cb), (7, .slice p n c), (8, iN n), (9, iN i)] ρ) (n - 0)
    ⟨0, none, 0, [], [], [], b3 emB, rfl, Nat.zero_le _, .inl ⟨rfl, rfl, rfl, rfl, rfl⟩, rfl, (fun _ h => nomatch h), rfl, slIn_b3 _ _, rfl, H5, (Is.of ⟨kr, kr, kr, kr, kr, kr, trivial⟩)⟩ ?_
  clear H0 H1 H2 H3 H4 H5
  generalize hb2 : (gs1 0).b = b2
  generalize hb3 : (gs2 0).b = b3n
  clear hb2 hb3
  rintro _ _ w5 ⟨i, q, cb, Bl, Tb, Tk, X, rfl, hin, hrow, hB, hAll, hX, hXs, hXe, H5, _, rfl⟩
  have hBl : Bl.length = i := hrow.len
  by_cases hi : i < n
  · obtain ⟨x, hx⟩ : ∃ x, A[i]? = some x := ⟨_, List.getElem?_eq_getElem (by omega)⟩
    obtain ⟨bl, off, C, T, fz, hp, hh, hR⟩ := hN.2.resolve_left (by intro h0; rw [h0] at hn; simp at hn; omega)
    have hgn : GoodN (Bl.map X3.i) Bl.length x := by rw [hB, hBl]; exact hG i x hx
    obtain ⟨L, hL1, hL2, hL3, hL4⟩ := itemOf_all x Bl q cb hgn
    rw [hBl] at hL4
    refine rS [.e (v := .bool (decide (((i : Nat) : Int) < ((n : Nat) : Int)))) (v' := .bool true) (bool_eq (decide_eq_true (by omega)))] H5 kr fun gs4 w5 H6 => ?_
    refine g_seq kr ?_
    refine g_cond_t kr kr ?_
    refine g_skip kr ?_
    show WP _ _ _ _ _ _
    refine g_seq kr ?_
    refine g_block 1 kr ?_
    refine g_sreg [0, 1, 2, 3] kr kr ?_
    refine rp [.o (ins := [((.tmp 7), .slice p n c), ((.tmp 9), iN i)]) (v := .pointer (some ⟨bl, off + i * 19, none⟩)) (fun ρ o w ho hi2 => idxP_run (kd := .i64) (t := 24) (e := 58) (K := 19) (bytes := 168) kr (x := (.tmp 7)) (y := (.tmp 9)) bl off n c i hp ho hi2.1 hi2.2.1 hi w), .fp (off := off + i * 19) (n := 19) (W := (nS.cs x).toArray) hh (lt_of_heap hh) (hR _ _ hx).1 (hR _ _ hx).2] H6 kr fun gs5 w6 H7 => ?_
    show WPs _ _ _ _ [2, 3] _ _
    refine s_alloc H7 (some 6) 58 (.agg (nS.cs ⟨0, ⟨#[]⟩, ⟨#[]⟩, List.replicate 16 0⟩).toArray) kr kr kr ?_
    intro b6 w7 H8
    refine rp [.s 0] H8 kr fun gs6 w8 H9 => ?_
    show WPs _ _ _ _ [] _ _
    refine s_nil ?_
    show WP _ _ _ _ _ _
    have H10 : St w.heap.size w w8 ((b6, ndO x) :: (b2, itO (b3 emB)) :: (b3n, itO X) :: (Tb ++ Tk)) := H9.as kr
    refine g_sreg [0, 1, 2, 3] kr kr ?_
    refine rp [.l 0, .v] H10 kr fun gs7 w9 H11 => ?_
    show WPs _ _ _ _ [2, 3] _ _
    have H11a : St w.heap.size w w9 ((b6, ndO x) :: (b2, itO (b3 emB)) :: (b3n, itO X) :: (Tb ++ Tk)) := H11.as kr
    refine s_callFT H11a (some 15) 51 #[.agg (nS.cs x).toArray, .slice q i cb] hL4 (row_pre hrow H11a fun e he => by simp [he]) kr kr ?_
    rintro _ _ w10 ⟨b', c', cur, rfl, rfl, hr⟩ H12
    have H13 : St w.heap.size w w10 ((b', .cells cur 68 (0, 0)) :: (b6, ndO x) :: (b2, itO (b3 emB)) :: (b3n, itO X) :: (Tb ++ Tk)) := H12.as kr
    refine rp [.s 3] H13 kr fun gs8 w11 H14 => ?_
    show WPs _ _ _ _ [] _ _
    refine s_nil ?_
    show WP _ _ _ _ _ _
    obtain ⟨X', hX'⟩ : ∃ X' : X3, X' = ⟨true, emB, some ⟨b', 0, none⟩, L.length, c', toFo L⟩ := ⟨_, rfl⟩
    have hXi : X'.i = itemN x (toldsN (A.take i)) := by
      rw [hX', ← hB, ← hL1]
      show (⟨true, emB, toFo L⟩ : I3) = _
      rw [toFo_foI]; rfl
    have hok : Okm X'.i := by rw [hXi, ← hB]; exact hgn.it
    have H15 : St w.heap.size w w11 ((b', .cells cur 68 (0, 0)) :: (b6, ndO x) :: (b2, itO (b3 emB)) :: (b3n, itO X') :: (Tb ++ Tk)) := by rw [hX']; exact H14.as kr
    rw [cells_iS] at hr
    have hsl : ∀ T', (b', Obj.cells cur 68 (0, 0)) ∈ T' → (∀ e ∈ Tk, e ∈ T') → SlIn T' X'.p X'.n X'.k := fun T' h1 h2 => by
      rw [hX']; exact hr.slIn h1 (hL3 _ (allIn_mono hAll h2)) (by omega)
    have hXs' : X'.s = emB := by rw [hX']
    have htold := told_fn X' hok (by rw [hXs']; exact Nat.zero_le _)
    refine g_reg0 [0, 1, 2, 3, 4, 5] kr ?_
    refine rp [.v, .l 3] H15 kr fun gs9 w12 H16 => ?_
    show WPs _ _ _ _ [2, 3, 4, 5] _ _
    have H16a : St w.heap.size w w12 ((b', .cells cur 68 (0, 0)) :: (b6, ndO x) :: (b2, itO (b3 emB)) :: (b3n, itO X') :: (Tb ++ Tk)) := H16.as kr
    refine s_callP H16a (some 18) 52 #[itV X'] _ _ htold ⟨(hsl ((b', .cells cur 68 (0, 0)) :: Tk) (List.mem_cons_self ..) (fun e he => List.mem_cons_of_mem _ he)).at H16a (fun e he => by
      rcases List.mem_cons.1 he with rfl | he
      · simp
      · simp [he]), marks_call hM H16a.below⟩ (fun w => by kernel_rfl) kr ?_
    intro w13 H17
    refine s_new9 H17 (some 19) (fun b => .slice (some ⟨b, 0, none⟩) 1 1) (iS.cs (told3 X')).toArray 68 kr kr ?_
    intro nb w14 H18
    have H19 : St w.heap.size w w14 ((nb, .cells (iS.cs (told3 X')).toArray 68 (0, 0)) :: (Tb ++ ([(b', .cells cur 68 (0, 0)), (b6, ndO x), (b2, itO (b3 emB)), (b3n, itO X')] ++ Tk))) := by
      have h9 := (List.perm_append_comm (l₁ := [(b', .cells cur 68 (0, 0)), (b6, ndO x), (b2, itO (b3 emB)), (b3n, itO X')]) (l₂ := Tb)).append_right Tk
      rw [List.append_assoc, List.append_assoc] at h9
      exact H18.perm (List.Perm.cons _ h9.symm)
    refine s_growR (S := iS) (some 20) 66 68 48 (.tmp 16) (.tmp 19) H19 hrow kr kr kr kr kr (by omega) (by unfold maxLen; omega) ?_
    intro bn capn curn w15 H20 hrn
    refine rp [.v] H20 kr fun gs10 w16 H21 => ?_
    show WPs _ _ _ _ [] _ _
    refine s_nil ?_
    show WP _ _ _ _ _ _
    refine rL [.e (v := .int .i64 (IntKind.i64.wrap (((i : Nat) : Int) + 1))) (v' := iN (i + 1)) (int_eq (wrapAdd_i64 (a := i) (b := 1) (by omega))), .v] H21 kr fun gs11 w17 H22 => ?_
    show ∃ m, _ ∧ _
    have H23 : St w.heap.size w w17 ((bn, .cells curn 68 (0, 0)) :: (b', .cells cur 68 (0, 0)) :: (b6, ndO x) :: (b2, itO (b3 emB)) :: (b3n, itO X') :: Tk) := H22.as kr
    have H24 : St w.heap.size w w17 ([(b2, itO (b3 emB)), (b3n, itO X')] ++ ([(bn, .cells curn 68 (0, 0))] ++ ((b', .cells cur 68 (0, 0)) :: Tk))) :=
      (H23.sub (List.Sublist.cons_cons _ (List.Sublist.cons_cons _ (List.sublist_cons_self ..)))).perm ((List.perm_append_comm (l₁ := [(b2, itO (b3 emB)), (b3n, itO X')]) (l₂ := [(bn, .cells curn 68 (0, 0)), (b', .cells cur 68 (0, 0))])).append_right Tk)
    have htk := take_one hx
    refine ⟨_, (by omega), i + 1, some ⟨bn, 0, none⟩, capn, Bl ++ [told3 X'], [(bn, .cells curn 68 (0, 0))], (b', .cells cur 68 (0, 0)) :: Tk, X', rfl, hi, .inr ⟨bn, curn, rfl, rfl, hrn⟩, ?_, ?_, ?_, hsl _ (List.mem_cons_self ..) (fun e he => List.mem_cons_of_mem _ he), hXs', H24, (Is.of ⟨kr, kr, kr, kr, kr, kr, trivial⟩)⟩
    · rw [htk, tolds_snoc, List.map_append, hB, List.map_singleton, told3_i, hXi]
    · refine allIn_snoc (allIn_mono hAll fun e he => List.mem_cons_of_mem _ he) ?_ ?_
      · unfold told3
        split
        · exact hsl _ (List.mem_cons_self ..) (fun e he => List.mem_cons_of_mem _ he)
        · exact slIn_b3 _ _
      · unfold told3
        split
        · rw [hXs']; exact Nat.zero_le _
        · show (strB (Kec.sumB (encI X'.i))).size ≤ _
          rw [strB_size, Kec.sumB_len]; omega
    · rw [htk, top_snoc, hXi]
  · obtain rfl : i = n := by omega
    refine rS [.e (v := .bool (decide (((i : Nat) : Int) < ((i : Nat) : Int)))) (v' := .bool false) (bool_eq (decide_eq_false (by omega)))] H5 kr fun gs4 w5 H6 => ?_
    refine g_seq kr ?_
    refine g_cond_f kr kr ?_
    refine g_exit 0 kr ?_
    show WP _ _ _ _ _ _
    refine rS [.l 1, .s 0] H6 kr fun gs5 w6 H7 => ?_
    have H8 : St w.heap.size w w6 ((b2, itO X) :: (b3n, itO X) :: (Tb ++ Tk)) := H7.as kr
    refine rRr [.cell 2 68] [0] (itV X) (outT w.heap.size w (okTop A)) H8 kr ?_
    rw [List.take_of_length_le (by omega)] at hX
    exact ⟨Tk, ⟨X, rfl, hX, hXs, hXe⟩, H8.sub (List.Sublist.cons _ (List.Sublist.cons _ (List.sublist_append_right ..)))⟩
end Go.Proofs.YtlhfgbjhngkicaaGreatDoor

namespace Go.Proofs.YtlhfgbjhngkicaaGreatDoor
open Go Go.RowKit
set_option linter.unusedVariables false
theorem pure_cons {l : Bool} {s : ByteArray} {k r : Fo} (h : pureF (.cons l s k r) = true) : mixed l s k.len = false ∧ pureF k = true ∧ pureF r = true := by
  simp only [pureF, Bool.and_eq_true, Bool.not_eq_true'] at h; exact ⟨h.1.1, h.1.2, h.2⟩
theorem hd2_small {f n : Nat} (h : n < 56) (hf : f ≤ 192) : strOfNums [((BitVec.toNat (BitVec.ofNat 8 (f + n)) : Nat) : Int)] = strB (hd f n) := by
  unfold hd; rw [if_pos (by omega)]
  show (⟨#[UInt8.ofNat (Int.toNat _)]⟩ : ByteArray) = ⟨#[UInt8.ofNat (f + n)]⟩
  rw [Int.toNat_natCast, BitVec.toNat_ofNat, show (f + n) % 2 ^ 8 = f + n by omega]
theorem hd2_big {f n : Nat} (h : ¬ n < 56) (hf : f ≤ 192) : strOfNums [((BitVec.toNat (BitVec.ofNat 8 (f + 55 + ByteArray.size (strB (dg n)))) : Nat) : Int)] ++ strB (dg n) = strB (hd f n) := by
  have hl := dg_len n
  have e : UInt8.ofNat (Int.toNat ((BitVec.toNat (BitVec.ofNat 8 (f + 55 + ByteArray.size (strB (dg n)))) : Nat) : Int)) = UInt8.ofNat (f + 55 + (dg n).length) := by
    rw [Int.toNat_natCast, BitVec.toNat_ofNat, strB_size, show (f + 55 + (dg n).length) % 2 ^ 8 = f + 55 + (dg n).length by omega]
  apply tl_inj
  rw [tl_add]
  show [UInt8.ofNat _] ++ dg n = hd f n
  unfold hd; rw [if_neg (by omega), e]; rfl
theorem rw_list {l : Bool} {s : ByteArray} {k : Fo} {a : ByteArray} (hl : l = true) (hm : mixed l s k.len = false) (hp : pureF k = true) (ha : wrF k = tl a) : strB (hd 192 (ByteArray.size a)) ++ a = strB (wr1 l s (szF k) (wrF k)) := by
  rcases mixed_parts hm with ⟨_, hs⟩ | ⟨h, _⟩
  · subst hl hs
    have hz : szF k = ByteArray.size a := by rw [← pure_len hp, ha, tl_len]
    apply tl_inj
    rw [tl_add, tl_strB, tl_strB]
    unfold wr1
    rw [if_neg (by decide), ha, hz]
    show _ = hd 192 (0 + _) ++ ([] ++ tl a)
    rw [Nat.zero_add, List.nil_append]
  · rw [hl] at h; cases h
theorem rw_one {l : Bool} {s : ByteArray} {k : Fo} (hl : l = false) (hm : mixed l s k.len = false) (h : s.size = 1) (h2 : by_ s 0 < 128) : s = strB (wr1 l s (szF k) (wrF k)) := by
  rcases mixed_parts hm with ⟨q, _⟩ | ⟨_, hk⟩
  · rw [hl] at q; cases q
  · subst hk
    unfold wr1; rw [if_pos (by unfold single; simp [h, h2])]
    show s = strB ([] ++ (tl s ++ [])); rw [List.nil_append, List.append_nil]; exact (strB_tl s).symm
theorem rw_text {l : Bool} {s : ByteArray} {k : Fo} (hl : l = false) (hm : mixed l s k.len = false) (h : ¬ (s.size = 1 ∧ by_ s 0 < 128)) : strB (hd 128 (ByteArray.size s)) ++ s = strB (wr1 l s (szF k) (wrF k)) := by
  rcases mixed_parts hm with ⟨q, _⟩ | ⟨_, hk⟩
  · rw [hl] at q; cases q
  · subst hl hk
    apply tl_inj
    rw [tl_add, tl_strB, tl_strB]
    unfold wr1; rw [if_neg (by unfold single; simpa using h)]
    show _ = hd 128 (s.size + 0) ++ (tl s ++ [])
    rw [List.append_nil, Nat.add_zero]
section
variable {l : Bool} {s : ByteArray} {k : Fo}
end
end Go.Proofs.YtlhfgbjhngkicaaGreatDoor

namespace Go.Proofs.YtlhfgbjhngkicaaGreatDoor
open Go Go.RowKit
set_option linter.unusedVariables false
set_option maxRecDepth 100000 in
set_option maxHeartbeats 2000000 in
theorem rdigits_fn (n : Nat) (hn : n < 18446744073709551616) : Fn Tryz.prog 84 #[.int .u64 ((n : Nat) : Int)] (.string (strB (dg n))) := by
  refine Fn.intro (c := codeOf Tryz.f84) [.tmp 2] 16 Tryz.func84 kr kr kr fun w => ?_
  have H0 := St.start w
  refine rS [.v] H0 kr fun gs1 w1 H1 => ?_
  clear H0
  refine rS [.v] H1 kr fun gs2 w2 H2 => ?_
  clear H1
  refine g_seq kr ?_
  refine g_block 0 kr ?_
  have HL1 : St w.heap.size w w2 [] := H2.as kr
  clear H2
  refine g_loop kr (fun mz ρ ww => ∃ (q : Nat) (oz : ByteArray), q = mz ∧ (q ≤ n) ∧ (dg n = dg q ++ tl oz) ∧ St w.heap.size w ww [] ∧ Is [(0, .int .u64 ((q : Nat) : Int)), (2, .string (⟨#[]⟩)), (3, .string oz)] ρ) n ⟨n, (⟨#[]⟩ : ByteArray), rfl, (Nat.le_refl _), (by rw [show tl ⟨#[]⟩ = [] from rfl, List.append_nil]), HL1, (Is.of ⟨kr, kr, kr, trivial⟩)⟩ ?_
  clear HL1
  rintro _ _ w3 ⟨q, oz, rfl, hq, hoz, H3, _, rfl⟩
  refine g_seq kr ?_
  refine g_sreg [0, 1] kr kr ?_
  refine rp [.v] H3 kr fun gs4 w4 H4 => ?_
  show WPs _ _ _ _ [1] _ _
  clear H3
  by_cases hc2 : (q : Nat) > 0
  · skip
    refine rp [.e (v := .bool (decide (0 < ((q : Nat) : Int)))) (v' := .bool true) (bool_eq (decide_eq_true (by omega)))] H4 kr fun gs5 w5 H5 => ?_
    show WPs _ _ _ _ [] _ _
    clear H4
    refine s_nil ?_
    refine g_cond_t kr kr ?_
    refine g_skip kr ?_
    show WP _ _ _ _ _ _
    refine g_block 1 kr ?_
    refine rS [.v, .e (v := .int .u64 (Int.tmod ((q : Nat) : Int) 256)) (v' := .int .u64 ((q % 256 : Nat) : Int)) (int_eq (remN q 256)), .e (v := .int .u8 (IntKind.u8.wrap (((q % 256 : Nat) : Int)))) (v' := .int .u8 ((BitVec.toNat (BitVec.ofNat 8 (q % 256)) : Nat) : Int)) (bv_ofNat_u8 (q % 256)), .nw (fun b => .slice (some ⟨b, 0, none⟩) 1 1) #[.int .u8 ((BitVec.toNat (BitVec.ofNat 8 (q % 256)) : Nat) : Int)] 5, .w fun nn => .x (op := .convert 88 9 (.tmp 9)) (ins := [((.tmp 9), .slice (some ⟨(nn 0), 0, none⟩) 1 1)]) [(0, ((nn 0), Obj.cells #[.int .u8 ((BitVec.toNat (BitVec.ofNat 8 (q % 256)) : Nat) : Int)] 5 (0, 0)))] (bytesX (t := 88) (t' := 9) (e := 5) [((BitVec.toNat (BitVec.ofNat 8 (q % 256)) : Nat) : Int)] kr kr kr (Rw.lit #[.int .u8 ((BitVec.toNat (BitVec.ofNat 8 (q % 256)) : Nat) : Int)] 1 (by rfl) (by unfold maxLen; omega))), .v, .o (ins := [((.tmp 10), .string (strOfNums ([((BitVec.toNat (BitVec.ofNat 8 (q % 256)) : Nat) : Int)]))), ((.tmp 11), .string oz)]) (v := .string ((strOfNums ([((BitVec.toNat (BitVec.ofNat 8 (q % 256)) : Nat) : Int)])) ++ oz)) (fun ρ o w ho hi => sadd_run (t := 9) (t' := 9) (x := (.tmp 10)) (y := (.tmp 11)) (strOfNums ([((BitVec.toNat (BitVec.ofNat 8 (q % 256)) : Nat) : Int)])) oz w ho hi.1 hi.2.1 (by rw [strOfNums_size]; have := dg_len n; have h8 := congrArg List.length hoz; rw [List.length_append, tl_len] at h8; show 1 + _ ≤ _; omega)), .v] H5 kr fun gs6 w6 H6 => ?_
    clear H5
    refine rL [.v, .e (v := .int .u64 (IntKind.u64.wrap (((q : Nat) : Int).tdiv 256))) (v' := .int .u64 ((q / 256 : Nat) : Int)) (int_eq (quoN_u64 (a := q) (b := 256) (by omega))), .v] H6 kr fun gs7 w7 H7 => ?_
    clear H6
    have HL3 : St w.heap.size w w7 [((gs6 3).b, Obj.cells #[.int .u8 ((BitVec.toNat (BitVec.ofNat 8 (q % 256)) : Nat) : Int)] 5 (0, 0))] := H7.as kr
    clear H7
    have HD4 : St w.heap.size w w7 [] := HL3.sub (List.Sublist.cons _ List.Sublist.slnil)
    show ∃ m, _ ∧ _
    exact ⟨_, (by omega), (q / 256), (((strOfNums ([((BitVec.toNat (BitVec.ofNat 8 (q % 256)) : Nat) : Int)])) ++ oz)), rfl, (by omega), (dig_next (by omega) (by omega) hoz), HD4, (Is.of ⟨kr, kr, kr, trivial⟩)⟩
  · skip
    refine rp [.e (v := .bool (decide (0 < ((q : Nat) : Int)))) (v' := .bool false) (bool_eq (decide_eq_false (by omega)))] H4 kr fun gs8 w8 H8 => ?_
    show WPs _ _ _ _ [] _ _
    clear H4
    refine s_nil ?_
    refine g_cond_f kr kr ?_
    refine g_exit 0 kr ?_
    show WP _ _ _ _ _ _
    refine rS [.v, .v] H8 kr fun gs9 w9 H9 => ?_
    clear H8
    refine g_ret kr ?_
    show ∃ vs, Res _ _ _ _ vs ∧ _
    refine ⟨[.string oz], (.tmp (.string oz) kr .nil), ?_, H9.below⟩
    have hq0 : q = 0 := by omega
    subst hq0
    exact congrArg Value.string (dig_done hoz).symm
set_option maxRecDepth 100000 in
set_option maxHeartbeats 2000000 in
theorem rhead_fn (f m : Nat) (hf : f ≤ 192) (hm : m < 9223372036854775807) : Fn Tryz.prog 56 #[.int .i64 ((f : Nat) : Int), .int .i64 ((m : Nat) : Int)] (.string (strB (hd f m))) := by
  refine Fn.intro (c := codeOf Tryz.f56) [.tmp 4] 27 Tryz.func56 kr kr kr fun w => ?_
  have H0 := St.start w
  refine rS [.v] H0 kr fun gs1 w1 H1 => ?_
  clear H0
  refine g_seq kr ?_
  refine g_sreg [0, 1] kr kr ?_
  refine rp [.v] H1 kr fun gs2 w2 H2 => ?_
  show WPs _ _ _ _ [1] _ _
  clear H1
  by_cases hc1 : (m : Nat) < 56
  · skip
    refine rp [.e (v := .bool (decide (((m : Nat) : Int) < 56))) (v' := .bool true) (bool_eq (decide_eq_true (by omega)))] H2 kr fun gs3 w3 H3 => ?_
    show WPs _ _ _ _ [] _ _
    clear H2
    refine s_nil ?_
    refine g_cond_t kr kr ?_
    refine rS [.v, .v, .e (v := .int .i64 (IntKind.i64.wrap (((f : Nat) : Int) + ((m : Nat) : Int)))) (v' := .int .i64 ((f + m : Nat) : Int)) (int_eq (wrapAdd_i64 (a := f) (b := m) (by omega))), .e (v := .int .u8 (IntKind.u8.wrap (((f + m : Nat) : Int)))) (v' := .int .u8 ((BitVec.toNat (BitVec.ofNat 8 (f + m)) : Nat) : Int)) (bv_ofNat_u8 (f + m)), .nw (fun b => .slice (some ⟨b, 0, none⟩) 1 1) #[.int .u8 ((BitVec.toNat (BitVec.ofNat 8 (f + m)) : Nat) : Int)] 5, .w fun nn => .x (op := .convert 88 9 (.tmp 12)) (ins := [((.tmp 12), .slice (some ⟨(nn 0), 0, none⟩) 1 1)]) [(0, ((nn 0), Obj.cells #[.int .u8 ((BitVec.toNat (BitVec.ofNat 8 (f + m)) : Nat) : Int)] 5 (0, 0)))] (bytesX (t := 88) (t' := 9) (e := 5) [((BitVec.toNat (BitVec.ofNat 8 (f + m)) : Nat) : Int)] kr kr kr (Rw.lit #[.int .u8 ((BitVec.toNat (BitVec.ofNat 8 (f + m)) : Nat) : Int)] 1 (by rfl) (by unfold maxLen; omega))), .v] H3 kr fun gs4 w4 H4 => ?_
    clear H3
    refine g_ret kr ?_
    show ∃ vs, Res _ _ _ _ vs ∧ _
    refine ⟨[.string (strOfNums ([((BitVec.toNat (BitVec.ofNat 8 (f + m)) : Nat) : Int)]))], (.tmp (.string (strOfNums ([((BitVec.toNat (BitVec.ofNat 8 (f + m)) : Nat) : Int)]))) kr .nil), ?_, H4.below⟩
    exact congrArg Value.string (hd2_small (by omega) (by omega))
  · skip
    refine rp [.e (v := .bool (decide (((m : Nat) : Int) < 56))) (v' := .bool false) (bool_eq (decide_eq_false (by omega)))] H2 kr fun gs5 w5 H5 => ?_
    show WPs _ _ _ _ [] _ _
    clear H2
    refine s_nil ?_
    refine g_cond_f kr kr ?_
    refine g_skip kr ?_
    show WP _ _ _ _ _ _
    refine rS [.v, .e (v := .int .u64 (IntKind.u64.wrap (((m : Nat) : Int)))) (v' := .int .u64 ((m : Nat) : Int)) (int_eq (wrapN_u64 (a := m) (by omega))), .c (rdigits_fn m (by omega)), .v] H5 kr fun gs6 w6 H6 => ?_
    clear H5
    have hdm := dg_len m
    have hdz : ByteArray.size (strB (dg m)) ≤ 8 := by rw [strB_size]; exact hdm
    refine rS [.v, .e (v := .int .i64 (IntKind.i64.wrap (((f : Nat) : Int) + 55))) (v' := .int .i64 ((f + 55 : Nat) : Int)) (int_eq (wrapAdd_i64 (a := f) (b := 55) (by omega))), .v, .v, .e (v := .int .i64 (IntKind.i64.wrap (((f + 55 : Nat) : Int) + ((ByteArray.size (strB (dg m)) : Nat) : Int)))) (v' := .int .i64 (((f + 55) + (ByteArray.size (strB (dg m))) : Nat) : Int)) (int_eq (wrapAdd_i64 (a := f + 55) (b := ByteArray.size (strB (dg m))) (by omega))), .e (v := .int .u8 (IntKind.u8.wrap ((((f + 55) + (ByteArray.size (strB (dg m))) : Nat) : Int)))) (v' := .int .u8 ((BitVec.toNat (BitVec.ofNat 8 ((f + 55) + (ByteArray.size (strB (dg m))))) : Nat) : Int)) (bv_ofNat_u8 ((f + 55) + (ByteArray.size (strB (dg m))))), .nw (fun b => .slice (some ⟨b, 0, none⟩) 1 1) #[.int .u8 ((BitVec.toNat (BitVec.ofNat 8 ((f + 55) + (ByteArray.size (strB (dg m))))) : Nat) : Int)] 5, .w fun nn => .x (op := .convert 88 9 (.tmp 23)) (ins := [((.tmp 23), .slice (some ⟨(nn 0), 0, none⟩) 1 1)]) [(0, ((nn 0), Obj.cells #[.int .u8 ((BitVec.toNat (BitVec.ofNat 8 ((f + 55) + (ByteArray.size (strB (dg m))))) : Nat) : Int)] 5 (0, 0)))] (bytesX (t := 88) (t' := 9) (e := 5) [((BitVec.toNat (BitVec.ofNat 8 ((f + 55) + (ByteArray.size (strB (dg m))))) : Nat) : Int)] kr kr kr (Rw.lit #[.int .u8 ((BitVec.toNat (BitVec.ofNat 8 ((f + 55) + (ByteArray.size (strB (dg m))))) : Nat) : Int)] 1 (by rfl) (by unfold maxLen; omega))), .v, .o (ins := [((.tmp 24), .string (strOfNums ([((BitVec.toNat (BitVec.ofNat 8 ((f + 55) + (ByteArray.size (strB (dg m))))) : Nat) : Int)]))), ((.tmp 25), .string (strB (dg m)))]) (v := .string ((strOfNums ([((BitVec.toNat (BitVec.ofNat 8 ((f + 55) + (ByteArray.size (strB (dg m))))) : Nat) : Int)])) ++ (strB (dg m)))) (fun ρ o w ho hi => sadd_run (t := 9) (t' := 9) (x := (.tmp 24)) (y := (.tmp 25)) (strOfNums ([((BitVec.toNat (BitVec.ofNat 8 ((f + 55) + (ByteArray.size (strB (dg m))))) : Nat) : Int)])) (strB (dg m)) w ho hi.1 hi.2.1 (by rw [strOfNums_size, strB_size]; have := dg_len m; show 1 + _ ≤ _; omega)), .v] H6 kr fun gs7 w7 H7 => ?_
    clear H6
    refine g_ret kr ?_
    show ∃ vs, Res _ _ _ _ vs ∧ _
    refine ⟨[.string ((strOfNums ([((BitVec.toNat (BitVec.ofNat 8 ((f + 55) + (ByteArray.size (strB (dg m))))) : Nat) : Int)])) ++ (strB (dg m)))], (.tmp (.string ((strOfNums ([((BitVec.toNat (BitVec.ofNat 8 ((f + 55) + (ByteArray.size (strB (dg m))))) : Nat) : Int)])) ++ (strB (dg m)))) kr .nil), ?_, H7.below⟩
    exact congrArg Value.string (hd2_big (by omega) (by omega))
set_option maxRecDepth 100000 in
set_option maxHeartbeats 2000000 in
theorem rwrite_step (m : Nat) (ih : ∀ (l : Bool) (s : ByteArray) (p : Option Addr) (n c : Nat) (k : Fo), s.size ≤ 140737488355328 → mixed l s k.len = false → pureF k = true → ByteArray.size s + wtF k ≤ 4611686018427387904 → k.cnt < m → FnP Tryz.prog 31 #[.agg #[.bool l, .string s, .slice p n c]] (fun w => SlAt w.heap.size w p n k) (.string (strB (wr1 l s (szF k) (wrF k))))) (l : Bool) (s : ByteArray) (p : Option Addr) (n c : Nat) (k : Fo) (hs : s.size ≤ 140737488355328) (hp1 : mixed l s k.len = false) (hp2 : pureF k = true) (hw : ByteArray.size s + wtF k ≤ 4611686018427387904) (hkm : k.cnt < m + 1) : FnP Tryz.prog 31 #[.agg #[.bool l, .string s, .slice p n c]] (fun w => SlAt w.heap.size w p n k) (.string (strB (wr1 l s (szF k) (wrF k)))) := by
  refine FnP.intro (c := codeOf Tryz.f31) [.tmp 2] 44 Tryz.func31 kr kr kr fun w hpre => ?_
  have H0 := St.start w
  have hn := hpre.1
  have hnm := hpre.2.1
  refine rS [.b, .v] H0 kr fun gs1 w1 H1 => ?_
  clear H0
  refine g_seq kr ?_
  refine rS [.v, .l 0] H1 kr fun gs2 w2 H2 => ?_
  clear H1
  rcases (Bool.eq_false_or_eq_true (l)).symm with hq1 | hq1
  · skip
    refine g_now 7 (v := .bool l) (v' := .bool false) (bool_eq hq1) kr ?_
    refine g_cond_f kr kr ?_
    refine g_skip kr ?_
    show WP _ _ _ _ _ _
    refine g_seq kr ?_
    refine g_sreg [0, 1, 2, 3, 4, 5, 6, 7, 8, 9] kr kr ?_
    refine rp [.v, .l 0, .v] H2 kr fun gs3 w3 H3 => ?_
    show WPs _ _ _ _ [3, 4, 5, 6, 7, 8, 9] _ _
    clear H2
    by_cases hc1 : (ByteArray.size s : Nat) = 1
    · skip
      refine rp [.e (v := .bool (((ByteArray.size s : Nat) : Int) == 1)) (v' := .bool true) (bool_eq (beq_iff_eq.2 (by omega))), .v, .v, .l 0, .o (ins := [((.tmp 31), .string s), ((.const (.int .i64 0)), .int .i64 0)]) (v := .int .u8 ((by_ s 0 : Nat) : Int)) (fun ρ o w ho hi => sindex_run (t := 9) (kd := .i64) kr (x := (.tmp 31)) (y := (.const (.int .i64 0))) s 0 ho hi.1 hi.2.1 (by omega) w)] H3 kr fun gs4 w4 H4 => ?_
      show WPs _ _ _ _ [8, 9] _ _
      clear H3
      by_cases hc2 : (by_ s 0 : Nat) < 128
      · skip
        refine rp [.e (v := .bool (decide (((by_ s 0 : Nat) : Int) < 128))) (v' := .bool true) (bool_eq (decide_eq_true (by omega))), .v] H4 kr fun gs5 w5 H5 => ?_
        show WPs _ _ _ _ [] _ _
        clear H4
        refine s_nil ?_
        refine g_cond_t kr kr ?_
        refine rS [.v, .l 0, .v] H5 kr fun gs6 w6 H6 => ?_
        clear H5
        refine g_ret kr ?_
        show ∃ vs, Res _ _ _ _ vs ∧ _
        refine ⟨[.string s], (.tmp (.string s) kr .nil), ?_, H6.below⟩
        exact congrArg Value.string (rw_one hq1 hp1 (by omega) (by omega))
      · skip
        refine rp [.e (v := .bool (decide (((by_ s 0 : Nat) : Int) < 128))) (v' := .bool false) (bool_eq (decide_eq_false (by omega))), .v] H4 kr fun gs7 w7 H7 => ?_
        show WPs _ _ _ _ [] _ _
        clear H4
        refine s_nil ?_
        refine g_cond_f kr kr ?_
        refine g_skip kr ?_
        show WP _ _ _ _ _ _
        have hhl := hd_len 128 (ByteArray.size s)
        have hhs : ByteArray.size (strB (hd 128 (ByteArray.size s))) ≤ 9 := hhl.2
        refine dS [.v, .l 0, .v, .c (rhead_fn 128 (ByteArray.size s) (by omega) (by omega)), .v, .l 0, .o (ins := [((.tmp 40), .string (strB (hd 128 (ByteArray.size s)))), ((.tmp 42), .string s)]) (v := .string ((strB (hd 128 (ByteArray.size s))) ++ s)) (fun ρ o w ho hi => sadd_run (t := 9) (t' := 9) (x := (.tmp 40)) (y := (.tmp 42)) (strB (hd 128 (ByteArray.size s))) s w ho hi.1 hi.2.1 (by omega)), .v] H7 kr fun w8 H8 => ?_
        clear H7
        refine g_ret kr ?_
        show ∃ vs, Res _ _ _ _ vs ∧ _
        refine ⟨[.string ((strB (hd 128 (ByteArray.size s))) ++ s)], (.tmp (.string ((strB (hd 128 (ByteArray.size s))) ++ s)) kr .nil), ?_, H8.below⟩
        exact congrArg Value.string (rw_text hq1 hp1 (by omega))
    · skip
      refine rp [.e (v := .bool (((ByteArray.size s : Nat) : Int) == 1)) (v' := .bool false) (bool_eq (beq_eq_false_iff_ne.2 (by omega))), .v, .n, .n, .n, .n, .v] H3 kr fun gs9 w9 H9 => ?_
      show WPs _ _ _ _ [] _ _
      clear H3
      refine s_nil ?_
      refine g_cond_f kr kr ?_
      refine g_skip kr ?_
      show WP _ _ _ _ _ _
      have hhl := hd_len 128 (ByteArray.size s)
      have hhs : ByteArray.size (strB (hd 128 (ByteArray.size s))) ≤ 9 := hhl.2
      refine dS [.v, .l 0, .v, .c (rhead_fn 128 (ByteArray.size s) (by omega) (by omega)), .v, .l 0, .o (ins := [((.tmp 40), .string (strB (hd 128 (ByteArray.size s)))), ((.tmp 42), .string s)]) (v := .string ((strB (hd 128 (ByteArray.size s))) ++ s)) (fun ρ o w ho hi => sadd_run (t := 9) (t' := 9) (x := (.tmp 40)) (y := (.tmp 42)) (strB (hd 128 (ByteArray.size s))) s w ho hi.1 hi.2.1 (by omega)), .v] H9 kr fun w10 H10 => ?_
      clear H9
      refine g_ret kr ?_
      show ∃ vs, Res _ _ _ _ vs ∧ _
      refine ⟨[.string ((strB (hd 128 (ByteArray.size s))) ++ s)], (.tmp (.string ((strB (hd 128 (ByteArray.size s))) ++ s)) kr .nil), ?_, H10.below⟩
      exact congrArg Value.string (rw_text hq1 hp1 (by omega))
  · skip
    refine g_now 7 (v := .bool l) (v' := .bool true) (bool_eq hq1) kr ?_
    refine g_cond_t kr kr ?_
    refine rS [.v] H2 kr fun gs11 w11 H11 => ?_
    clear H2
    refine g_seq kr ?_
    refine rS [.v, .l 0, .v, .v] H11 kr fun gs12 w12 H12 => ?_
    clear H11
    refine g_block 0 kr ?_
    have HL3 : St w.heap.size w w12 [((gs1 0).b, Obj.cells #[.bool l, .string s, .slice p n c] 68 (0, 0))] := H12.as kr
    clear H12
    have HD4 : St w.heap.size w w12 [] := HL3.sub (List.Sublist.cons _ List.Sublist.slnil)
    refine g_loop kr (fun mz ρ ww => ∃ (i : Nat) (r : Fo) (az : ByteArray), n - i = mz ∧ (FoR w.heap.size w p i r) ∧ (i + Fo.len r = n) ∧ (Fo.cnt r ≤ Fo.cnt k) ∧ (ByteArray.size az + wtF r ≤ 4611686018427387904) ∧ (pureF r = true) ∧ (wrF k = tl az ++ wrF r) ∧ St w.heap.size w ww [] ∧ Is [(0, .agg #[.bool l, .string s, .slice p n c]), (1, .pointer (some ⟨(gs1 0).b, 0, none⟩)), (2, .string (⟨#[]⟩)), (3, .string az), (7, .bool true), (9, .slice p n c), (10, .int .i64 ((n : Nat) : Int)), (11, .int .i64 ((i : Nat) : Int))] ρ) (n - 0) ⟨0, k, (⟨#[]⟩ : ByteArray), rfl, (SlAt.start hpre), (by have hn0 := (hpre).1; omega), (Nat.le_refl _), (by show 0 + _ ≤ _; omega), hp2, rfl, HD4, (Is.of ⟨kr, kr, kr, kr, kr, kr, kr, kr, trivial⟩)⟩ ?_
    clear HD4
    rintro _ _ w13 ⟨i, r, az, rfl, hR, hN, hcn, hwt, hpr, hall, H13, _, rfl⟩
    by_cases hc5 : (i : Nat) < n
    · skip
      refine rS [.e (v := .bool (decide (((i : Nat) : Int) < ((n : Nat) : Int)))) (v' := .bool true) (bool_eq (decide_eq_true (by omega)))] H13 kr fun gs14 w14 H14 => ?_
      clear H13
      refine g_seq kr ?_
      refine g_cond_t kr kr ?_
      refine g_skip kr ?_
      show WP _ _ _ _ _ _
      refine g_seq kr ?_
      refine g_block 1 kr ?_
      obtain ⟨l1, s1, k1, r1, b1, off1, C1, T1, fz1, p1, n1, c1, hr1, hp1, hb1, hh1, hs1, hx1, hz1, hk1, hR1, hN1⟩ := FoR.open hR hN (by omega)
      refine rS [.o (ins := [((.tmp 9), .slice p n c), ((.tmp 11), .int .i64 ((i : Nat) : Int))]) (v := .pointer (some ⟨b1, off1 + i * 3, none⟩)) (fun ρ o w ho hi => idxO_run (kd := .i64) (t := 66) (e := 68) (bytes := 48) kr (x := (.tmp 9)) (y := (.tmp 11)) b1 off1 n c i hp1 ho hi.1 hi.2.1 (by omega) w), .fp (off := off1 + i * 3) (n := 3) (W := #[.bool l1, .string s1, .slice p1 n1 c1]) hh1 hb1 hs1 hx1, .a, .s 0] H14 kr fun gs15 w15 H15 => ?_
      clear H14
      have hcn1 := hcn
      rw [hr1] at hcn1
      simp only [Fo.cnt] at hcn1
      have hwt1 := hwt
      rw [hr1] at hwt1
      simp only [wtF] at hwt1
      have hpq1 := pure_cons (show pureF (.cons l1 s1 k1 r1) = true by rw [← hr1]; exact hpr)
      have hwl1 : ByteArray.size (strB (wr1 l1 s1 (szF k1) (wrF k1))) ≤ 9 + ByteArray.size s1 + wtF k1 := by have h9 := wrF_len (.cons l1 s1 k1 .nil); simp only [wrF, wtF, List.append_nil, Nat.add_zero] at h9; exact h9
      refine rL [.v, .l 0, .cp (pre := fun w => SlAt w.heap.size w p1 n1 k1) (ih l1 s1 p1 n1 c1 k1 hz1 hpq1.1 hpq1.2.1 (by omega) (by omega)) [] (fun w hb hd => (SlAt.call hk1 hb)), .o (ins := [((.tmp 15), .string az), ((.tmp 17), .string (strB (wr1 l1 s1 (szF k1) (wrF k1))))]) (v := .string (az ++ (strB (wr1 l1 s1 (szF k1) (wrF k1))))) (fun ρ o w ho hi => sadd_run (t := 9) (t' := 9) (x := (.tmp 15)) (y := (.tmp 17)) az (strB (wr1 l1 s1 (szF k1) (wrF k1))) w ho hi.1 hi.2.1 (by omega)), .v] H15 kr fun gs16 w16 H16 => ?_
      clear H15
      show WP _ _ _ _ _ _
      refine g_keep [0, 1, 2, 3, 5, 7, 9, 10, 11, 12] fun ρ1 => ?_
      have HK6 := H16.keep
      clear H16
      refine rL [.e (v := .int .i64 (IntKind.i64.wrap (((i : Nat) : Int) + 1))) (v' := .int .i64 ((i + 1 : Nat) : Int)) (int_eq (wrapAdd_i64 (a := i) (b := 1) (by omega))), .v] HK6 kr fun gs17 w17 H17 => ?_
      clear HK6
      have HL7 : St w.heap.size w w17 [((gs15 2).b, Obj.cells #[.bool l1, .string s1, .slice p1 n1 c1] 68 (0, 0))] := H17.as kr
      clear H17
      have HD8 : St w.heap.size w w17 [] := HL7.sub (List.Sublist.cons _ List.Sublist.slnil)
      show ∃ m, _ ∧ _
      exact ⟨_, (by omega), (i + 1), r1, ((az ++ (strB (wr1 l1 s1 (szF k1) (wrF k1))))), rfl, hR1, hN1, (by omega), (by rw [ByteArray.size_append]; omega), hpq1.2.2, (by rw [hall, hr1, tl_add, tl_strB]; simp only [wrF, List.append_assoc]), HD8, (Is.of ⟨kr, kr, kr, kr, kr, kr, kr, kr, trivial⟩)⟩
    · skip
      refine rS [.e (v := .bool (decide (((i : Nat) : Int) < ((n : Nat) : Int)))) (v' := .bool false) (bool_eq (decide_eq_false (by omega)))] H13 kr fun gs18 w18 H18 => ?_
      clear H13
      refine g_seq kr ?_
      refine g_cond_f kr kr ?_
      refine g_exit 0 kr ?_
      show WP _ _ _ _ _ _
      have hdn := FoR.done hN (by omega)
      rw [hdn] at hall
      have hal : wrF k = tl az := by rw [hall]; exact List.append_nil _
      refine rS [.v, .v, .c (rhead_fn 192 (ByteArray.size az) (by omega) (by omega)), .v, .o (ins := [((.tmp 22), .string (strB (hd 192 (ByteArray.size az)))), ((.tmp 23), .string az)]) (v := .string ((strB (hd 192 (ByteArray.size az))) ++ az)) (fun ρ o w ho hi => sadd_run (t := 9) (t' := 9) (x := (.tmp 22)) (y := (.tmp 23)) (strB (hd 192 (ByteArray.size az))) az w ho hi.1 hi.2.1 (by have h9 := (hd_len 192 (ByteArray.size az)).2; have h8 : ByteArray.size (strB (hd 192 (ByteArray.size az))) ≤ 9 := h9; omega)), .v] H18 kr fun gs19 w19 H19 => ?_
      clear H18
      refine g_ret kr ?_
      show ∃ vs, Res _ _ _ _ vs ∧ _
      refine ⟨[.string ((strB (hd 192 (ByteArray.size az))) ++ az)], (.tmp (.string ((strB (hd 192 (ByteArray.size az))) ++ az)) kr .nil), ?_, H19.below⟩
      exact congrArg Value.string (rw_list hq1 hp1 hp2 hal)
theorem rwrite_fn (l : Bool) (s : ByteArray) (p : Option Addr) (n c : Nat) (k : Fo) (hs : s.size ≤ 140737488355328) (hp1 : mixed l s k.len = false) (hp2 : pureF k = true) (hw : ByteArray.size s + wtF k ≤ 4611686018427387904) : FnP Tryz.prog 31 #[.agg #[.bool l, .string s, .slice p n c]] (fun w => SlAt w.heap.size w p n k) (.string (strB (wr1 l s (szF k) (wrF k)))) := by
  have key : ∀ (m : Nat) (l : Bool) (s : ByteArray) (p : Option Addr) (n c : Nat) (k : Fo), s.size ≤ 140737488355328 → mixed l s k.len = false → pureF k = true → ByteArray.size s + wtF k ≤ 4611686018427387904 → k.cnt < m → FnP Tryz.prog 31 #[.agg #[.bool l, .string s, .slice p n c]] (fun w => SlAt w.heap.size w p n k) (.string (strB (wr1 l s (szF k) (wrF k)))) := by
    intro m
    induction m with
    | zero => intros; omega
    | succ m ih => intro l s p n c k hs hp1 hp2 hw hkm; exact rwrite_step m ih l s p n c k hs hp1 hp2 hw hkm
  exact key (k.cnt + 1) l s p n c k hs hp1 hp2 hw (by omega)
end Go.Proofs.YtlhfgbjhngkicaaGreatDoor

namespace Go.Proofs.Kec
set_option maxRecDepth 100000
end Go.Proofs.Kec

namespace Go.Proofs.YtlhfgbjhngkicaaGreatDoor.Ke
open Go Go.RowKit Go.Proofs.Kec
set_option linter.unusedVariables false
def uvT : Nat → Nat × Nat
  | 0 => (1, 0)
  | t + 1 => ((uvT t).2, (2 * (uvT t).1 + 3 * (uvT t).2) % 5)
theorem uvT_lt : ∀ t, (uvT t).1 < 5 ∧ (uvT t).2 < 5
  | 0 => by decide
  | t + 1 => ⟨(uvT_lt t).2, Nat.mod_lt _ (by decide)⟩
def rotN (x y : Nat) : Nat := match (List.range 24).find? (fun t => uvT t == (x, y)) with | some t => (t + 1) * (t + 2) / 2 % 64 | none => 0
theorem rotN_at {x y t : Nat} (ht : t < 24) (hno : ∀ j, j < t → uvT j ≠ (x, y)) (h1 : (uvT t).1 = x) (h2 : (uvT t).2 = y) : rotN x y = (t + 1) * (t + 2) / 2 % 64 := by
  unfold rotN
  have : (List.range 24).find? (fun t => uvT t == (x, y)) = some t := by
    rw [List.find?_range_eq_some]
    refine ⟨by simp [← h1, ← h2], by simp [ht], fun j hj => by simpa using hno j hj⟩
  rw [this]
theorem rotN_no {x y : Nat} (hno : ∀ j, j < 24 → uvT j ≠ (x, y)) : rotN x y = 0 := by
  unfold rotN
  have : (List.range 24).find? (fun t => uvT t == (x, y)) = none := by
    rw [List.find?_eq_none]; intro j hj; simpa using hno j (by simpa using hj)
  rw [this]
def regT : Nat → Nat
  | 0 => 1
  | k + 1 => if 2 * regT k > 255 then (2 * regT k) ^^^ 369 else 2 * regT k
theorem xor369 : ∀ r : Fin 512, Go.bits .xor .i64 ((r.val : Nat) : Int) 369 = ((r.val ^^^ 369 : Nat) : Int) := by decide +kernel
theorem reg_small : ∀ r : Fin 512, 255 < r.val → r.val ^^^ 369 < 256 := by decide +kernel
theorem regT_lt : ∀ k, regT k < 256
  | 0 => by decide
  | k + 1 => by
    have := regT_lt k
    unfold regT
    split
    · exact reg_small ⟨2 * regT k, by omega⟩ (by simp only; omega)
    · omega
theorem regX (k : Nat) : Go.bits .xor .i64 (((2 * regT k : Nat)) : Int) 369 = ((2 * regT k ^^^ 369 : Nat) : Int) := xor369 ⟨2 * regT k, by have := regT_lt k; omega⟩
def bitsT (k : Nat) : List Nat := (List.range k).map fun j => regT j % 2
theorem bitsT_succ (k : Nat) : bitsT (k + 1) = bitsT k ++ [regT k % 2] := by unfold bitsT; rw [List.range_succ, List.map_append]; rfl
theorem bitsT_len (k : Nat) : (bitsT k).length = k := by unfold bitsT; simp
def lastB (i : Nat) : Nat → BitVec 64
  | 0 => 0
  | j + 1 => if (bitsT 168).getD (j + 7 * i) 0 = 1 then lastB i j ||| (1 <<< (2 ^ j - 1)) else lastB i j
theorem last_mark : ∀ i : Fin 24, lastB i.val 7 = Kec.marks.getD i.val 0 := by decide +kernel
set_option maxRecDepth 100000 in
set_option maxHeartbeats 2000000 in
theorem at_fn (x y : Nat) (hx : x < 100) (hy : y < 100) : Fn Tryz.prog 99 #[.int .i64 ((x : Nat) : Int), .int .i64 ((y : Nat) : Int)] (.int .i64 ((x % 5 + 5 * (y % 5) : Nat) : Int)) := by
  refine Fn.intro (c := codeOf Tryz.f99) [.tmp 4] 11 Tryz.func99 kr kr kr fun w => ?_
  have H0 := St.start w
  refine rS [.v] H0 kr fun gs1 w1 H1 => ?_
  clear H0
  refine rS [.v, .e (v := .int .i64 (Int.tmod ((x : Nat) : Int) 5)) (v' := .int .i64 ((x % 5 : Nat) : Int)) (int_eq (remN x 5)), .v, .e (v := .int .i64 (Int.tmod ((y : Nat) : Int) 5)) (v' := .int .i64 ((y % 5 : Nat) : Int)) (int_eq (remN y 5)), .e (v := .int .i64 (IntKind.i64.wrap (5 * ((y % 5 : Nat) : Int)))) (v' := .int .i64 ((5 * (y % 5) : Nat) : Int)) (int_eq (wrapMul_i64 (a := 5) (b := y % 5) (by omega))), .e (v := .int .i64 (IntKind.i64.wrap (((x % 5 : Nat) : Int) + ((5 * (y % 5) : Nat) : Int)))) (v' := .int .i64 (((x % 5) + (5 * (y % 5)) : Nat) : Int)) (int_eq (wrapAdd_i64 (a := x % 5) (b := 5 * (y % 5)) (by omega))), .v] H1 kr fun gs2 w2 H2 => ?_
  clear H1
  refine g_ret kr ?_
  show ∃ vs, Res _ _ _ _ vs ∧ _
  refine ⟨[.int .i64 (((x % 5) + (5 * (y % 5)) : Nat) : Int)], (.tmp (.int .i64 (((x % 5) + (5 * (y % 5)) : Nat) : Int)) kr .nil), ?_, H2.below⟩
  rfl
set_option maxRecDepth 100000 in
set_option maxHeartbeats 2000000 in
theorem left0_fn (x : BitVec 64) : Fn Tryz.prog 100 #[.int .u64 ((BitVec.toNat x : Nat) : Int), .int .i64 0] (.int .u64 ((BitVec.toNat x : Nat) : Int)) := by
  refine Fn.intro (c := codeOf Tryz.f100) [.tmp 4] 18 Tryz.func100 kr kr kr fun w => ?_
  have H0 := St.start w
  refine rS [.v] H0 kr fun gs1 w1 H1 => ?_
  clear H0
  refine g_seq kr ?_
  refine rS [.v, .v] H1 kr fun gs2 w2 H2 => ?_
  clear H1
  refine g_cond_t kr kr ?_
  refine rS [.v, .v] H2 kr fun gs3 w3 H3 => ?_
  clear H2
  refine g_ret kr ?_
  show ∃ vs, Res _ _ _ _ vs ∧ _
  refine ⟨[.int .u64 ((BitVec.toNat x : Nat) : Int)], (.tmp (.int .u64 ((BitVec.toNat x : Nat) : Int)) kr .nil), ?_, H3.below⟩
  rfl
set_option maxRecDepth 100000 in
set_option maxHeartbeats 2000000 in
theorem left_fn (x : BitVec 64) (n : Nat) (h0 : 0 < n) (hn : n < 64) : Fn Tryz.prog 100 #[.int .u64 ((BitVec.toNat x : Nat) : Int), .int .i64 ((n : Nat) : Int)] (.int .u64 ((BitVec.toNat (rl x n) : Nat) : Int)) := by
  refine Fn.intro (c := codeOf Tryz.f100) [.tmp 4] 18 Tryz.func100 kr kr kr fun w => ?_
  have H0 := St.start w
  refine rS [.v] H0 kr fun gs1 w1 H1 => ?_
  clear H0
  refine g_seq kr ?_
  refine rS [.v, .e (v := .bool (((n : Nat) : Int) == 0)) (v' := .bool false) (bool_eq (beq_eq_false_iff_ne.2 (by omega)))] H1 kr fun gs2 w2 H2 => ?_
  clear H1
  refine g_cond_f kr kr ?_
  refine g_skip kr ?_
  show WP _ _ _ _ _ _
  refine rS [.v, .v, .e (v := .int .u64 (IntKind.u64.wrap (((n : Nat) : Int)))) (v' := .int .u64 ((n : Nat) : Int)) (int_eq (wrapN_u64 (a := n) (by omega))), .e (v := .int .u64 (IntKind.u64.wrap ((((BitVec.toNat x : Nat) : Int)) * 2 ^ (min n 64)))) (v' := .int .u64 ((BitVec.toNat (x <<< n) : Nat) : Int)) (bv_shl_u64 x n), .v, .v, .e (v := .int .i64 (IntKind.i64.wrap (64 - ((n : Nat) : Int)))) (v' := .int .i64 ((64 - n : Nat) : Int)) (int_eq (wrapSub_i64 (a := 64) (b := n) (by omega))), .e (v := .int .u64 (IntKind.u64.wrap (((64 - n : Nat) : Int)))) (v' := .int .u64 ((64 - n : Nat) : Int)) (int_eq (wrapN_u64 (a := 64 - n) (by omega))), .e (v := .int .u64 (Int.fdiv (((BitVec.toNat x : Nat) : Int)) (2 ^ (min (64 - n) 64)))) (v' := .int .u64 ((BitVec.toNat (x >>> (64 - n)) : Nat) : Int)) (bv_shr_u64 x (64 - n)), .e (v := .int .u64 (Go.bits .or .u64 (((BitVec.toNat (x <<< n) : Nat) : Int)) (((BitVec.toNat (x >>> (64 - n)) : Nat) : Int)))) (v' := .int .u64 ((BitVec.toNat ((x <<< n) ||| (x >>> (64 - n))) : Nat) : Int)) (bv_or_u64 (x <<< n) (x >>> (64 - n))), .v] H2 kr fun gs3 w3 H3 => ?_
  clear H2
  refine g_ret kr ?_
  show ∃ vs, Res _ _ _ _ vs ∧ _
  refine ⟨[.int .u64 ((BitVec.toNat ((x <<< n) ||| (x >>> (64 - n))) : Nat) : Int)], (.tmp (.int .u64 ((BitVec.toNat ((x <<< n) ||| (x >>> (64 - n))) : Nat) : Int)) kr .nil), ?_, H3.below⟩
  rw [← rl_of x n hn]; rfl
set_option maxRecDepth 100000 in
set_option maxHeartbeats 2000000 in
theorem turnR_fn (x y : Nat) (hx : x < 5) (hy : y < 5) : Fn Tryz.prog 101 #[.int .i64 ((x : Nat) : Int), .int .i64 ((y : Nat) : Int)] (.int .i64 ((rotN x y : Nat) : Int)) := by
  refine Fn.intro (c := codeOf Tryz.f101) [.tmp 4] 36 Tryz.func101 kr kr kr fun w => ?_
  have H0 := St.start w
  refine rS [.v] H0 kr fun gs1 w1 H1 => ?_
  clear H0
  refine rS [.v] H1 kr fun gs2 w2 H2 => ?_
  clear H1
  refine rS [.v] H2 kr fun gs3 w3 H3 => ?_
  clear H2
  refine g_seq kr ?_
  refine rS [.v] H3 kr fun gs4 w4 H4 => ?_
  clear H3
  refine g_block 0 kr ?_
  have HL1 : St w.heap.size w w4 [] := H4.as kr
  clear H4
  refine g_loop kr (fun mz ρ ww => ∃ (t : Nat), 24 - t = mz ∧ (t ≤ 24) ∧ (∀ j, j < t → uvT j ≠ (x, y)) ∧ St w.heap.size w ww [] ∧ Is [(0, .int .i64 ((x : Nat) : Int)), (1, .int .i64 ((y : Nat) : Int)), (5, .int .i64 (((uvT t).1 : Nat) : Int)), (6, .int .i64 (((uvT t).2 : Nat) : Int)), (7, .int .i64 ((t : Nat) : Int))] ρ) (24 - 0) ⟨0, rfl, (by omega), (fun j hj => absurd hj (by omega)), HL1, (Is.of ⟨kr, kr, kr, kr, kr, trivial⟩)⟩ ?_
  clear HL1
  rintro _ _ w5 ⟨t, rfl, ht, hno, H5, _, rfl⟩
  have hlt := uvT_lt t
  refine g_seq kr ?_
  refine g_sreg [0, 1] kr kr ?_
  refine rp [.v] H5 kr fun gs6 w6 H6 => ?_
  show WPs _ _ _ _ [1] _ _
  clear H5
  by_cases hc2 : (t : Nat) < 24
  · skip
    refine rp [.e (v := .bool (decide (((t : Nat) : Int) < 24))) (v' := .bool true) (bool_eq (decide_eq_true (by omega)))] H6 kr fun gs7 w7 H7 => ?_
    show WPs _ _ _ _ [] _ _
    clear H6
    refine s_nil ?_
    refine g_cond_t kr kr ?_
    refine g_skip kr ?_
    show WP _ _ _ _ _ _
    refine g_seq kr ?_
    refine g_block 1 kr ?_
    refine g_seq kr ?_
    refine g_sreg [0, 1, 2, 3, 4, 5, 6, 7] kr kr ?_
    refine rp [.v, .v] H7 kr fun gs8 w8 H8 => ?_
    show WPs _ _ _ _ [2, 3, 4, 5, 6, 7] _ _
    clear H7
    by_cases hc3 : ((uvT t).1 : Nat) = x
    · skip
      refine rp [.e (v := .bool ((((uvT t).1 : Nat) : Int) == ((x : Nat) : Int))) (v' := .bool true) (bool_eq (beq_iff_eq.2 (by omega))), .v, .v, .v] H8 kr fun gs9 w9 H9 => ?_
      show WPs _ _ _ _ [6, 7] _ _
      clear H8
      by_cases hc4 : ((uvT t).2 : Nat) = y
      · skip
        refine rp [.e (v := .bool ((((uvT t).2 : Nat) : Int) == ((y : Nat) : Int))) (v' := .bool true) (bool_eq (beq_iff_eq.2 (by omega))), .v] H9 kr fun gs10 w10 H10 => ?_
        show WPs _ _ _ _ [] _ _
        clear H9
        refine s_nil ?_
        refine g_cond_t kr kr ?_
        refine g_sreg [0, 1, 2, 3, 4, 5, 6, 7] kr kr ?_
        refine rp [.v, .e (v := .int .i64 (IntKind.i64.wrap (((t : Nat) : Int) + 1))) (v' := .int .i64 ((t + 1 : Nat) : Int)) (int_eq (wrapAdd_i64 (a := t) (b := 1) (by omega))), .v, .e (v := .int .i64 (IntKind.i64.wrap (((t : Nat) : Int) + 2))) (v' := .int .i64 ((t + 2 : Nat) : Int)) (int_eq (wrapAdd_i64 (a := t) (b := 2) (by omega)))] H10 kr fun gs11 w11 H11 => ?_
        show WPs _ _ _ _ [4, 5, 6, 7] _ _
        clear H10
        have hmul : (t + 1) * (t + 2) ≤ 25 * 26 := Nat.mul_le_mul (by omega) (by omega)
        refine rp [.e (v := .int .i64 (IntKind.i64.wrap (((t + 1 : Nat) : Int) * ((t + 2 : Nat) : Int)))) (v' := .int .i64 (((t + 1) * (t + 2) : Nat) : Int)) (int_eq (wrapMul_i64 (a := t + 1) (b := t + 2) (by omega))), .e (v := .int .i64 (IntKind.i64.wrap ((((t + 1) * (t + 2) : Nat) : Int).tdiv 2))) (v' := .int .i64 ((((t + 1) * (t + 2)) / 2 : Nat) : Int)) (int_eq (quoN_i64 (a := (t + 1) * (t + 2)) (b := 2) (by omega))), .e (v := .int .i64 (Int.tmod ((((t + 1) * (t + 2)) / 2 : Nat) : Int) 64)) (v' := .int .i64 (((((t + 1) * (t + 2)) / 2) % 64 : Nat) : Int)) (int_eq (remN (((t + 1) * (t + 2)) / 2) 64)), .v] H11 kr fun gs12 w12 H12 => ?_
        show WPs _ _ _ _ [] _ _
        clear H11
        refine s_nil ?_
        refine g_ret kr ?_
        show ∃ vs, Res _ _ _ _ vs ∧ _
        refine ⟨[.int .i64 (((((t + 1) * (t + 2)) / 2) % 64 : Nat) : Int)], (.tmp (.int .i64 (((((t + 1) * (t + 2)) / 2) % 64 : Nat) : Int)) kr .nil), ?_, H12.below⟩
        rw [rotN_at (t := t) (by omega) hno (by omega) (by omega)]; rfl
      · skip
        refine rp [.e (v := .bool ((((uvT t).2 : Nat) : Int) == ((y : Nat) : Int))) (v' := .bool false) (bool_eq (beq_eq_false_iff_ne.2 (by omega))), .v] H9 kr fun gs13 w13 H13 => ?_
        show WPs _ _ _ _ [] _ _
        clear H9
        refine s_nil ?_
        refine g_cond_f kr kr ?_
        refine g_skip kr ?_
        show WP _ _ _ _ _ _
        refine rS [.v, .v] H13 kr fun gs14 w14 H14 => ?_
        clear H13
        refine rS [.v, .e (v := .int .i64 (IntKind.i64.wrap (2 * (((uvT t).1 : Nat) : Int)))) (v' := .int .i64 ((2 * ((uvT t).1) : Nat) : Int)) (int_eq (wrapMul_i64 (a := 2) (b := (uvT t).1) (by omega))), .v, .e (v := .int .i64 (IntKind.i64.wrap (3 * (((uvT t).2 : Nat) : Int)))) (v' := .int .i64 ((3 * ((uvT t).2) : Nat) : Int)) (int_eq (wrapMul_i64 (a := 3) (b := (uvT t).2) (by omega))), .e (v := .int .i64 (IntKind.i64.wrap (((2 * ((uvT t).1) : Nat) : Int) + ((3 * ((uvT t).2) : Nat) : Int)))) (v' := .int .i64 (((2 * ((uvT t).1)) + (3 * ((uvT t).2)) : Nat) : Int)) (int_eq (wrapAdd_i64 (a := 2 * ((uvT t).1)) (b := 3 * ((uvT t).2)) (by omega))), .e (v := .int .i64 (Int.tmod (((2 * ((uvT t).1)) + (3 * ((uvT t).2)) : Nat) : Int) 5)) (v' := .int .i64 ((((2 * ((uvT t).1)) + (3 * ((uvT t).2))) % 5 : Nat) : Int)) (int_eq (remN ((2 * ((uvT t).1)) + (3 * ((uvT t).2))) 5)), .v] H14 kr fun gs15 w15 H15 => ?_
        clear H14
        refine g_keep [0, 1, 5, 6, 7, 8, 10, 20] fun ρ1 => ?_
        have HK5 := H15.keep
        clear H15
        refine rL [.v, .v] HK5 kr fun gs16 w16 H16 => ?_
        clear HK5
        show WP _ _ _ _ _ _
        refine rL [.v, .e (v := .int .i64 (IntKind.i64.wrap (((t : Nat) : Int) + 1))) (v' := .int .i64 ((t + 1 : Nat) : Int)) (int_eq (wrapAdd_i64 (a := t) (b := 1) (by omega))), .v] H16 kr fun gs17 w17 H17 => ?_
        clear H16
        have HL6 : St w.heap.size w w17 [] := H17.as kr
        clear H17
        show ∃ m, _ ∧ _
        exact ⟨_, (by omega), (t + 1), rfl, (by omega), (fun j hj => by rcases Nat.lt_succ_iff_lt_or_eq.1 hj with h | rfl; exact hno j h; intro e; have e1 := congrArg Prod.fst e; have e2 := congrArg Prod.snd e; simp only at e1 e2; omega), HL6, (Is.of ⟨kr, kr, kr, kr, kr, trivial⟩)⟩
    · skip
      refine rp [.e (v := .bool ((((uvT t).1 : Nat) : Int) == ((x : Nat) : Int))) (v' := .bool false) (bool_eq (beq_eq_false_iff_ne.2 (by omega))), .v, .n, .n, .n, .v] H8 kr fun gs18 w18 H18 => ?_
      show WPs _ _ _ _ [] _ _
      clear H8
      refine s_nil ?_
      refine g_cond_f kr kr ?_
      refine g_skip kr ?_
      show WP _ _ _ _ _ _
      refine rS [.v, .v] H18 kr fun gs19 w19 H19 => ?_
      clear H18
      refine rS [.v, .e (v := .int .i64 (IntKind.i64.wrap (2 * (((uvT t).1 : Nat) : Int)))) (v' := .int .i64 ((2 * ((uvT t).1) : Nat) : Int)) (int_eq (wrapMul_i64 (a := 2) (b := (uvT t).1) (by omega))), .v, .e (v := .int .i64 (IntKind.i64.wrap (3 * (((uvT t).2 : Nat) : Int)))) (v' := .int .i64 ((3 * ((uvT t).2) : Nat) : Int)) (int_eq (wrapMul_i64 (a := 3) (b := (uvT t).2) (by omega))), .e (v := .int .i64 (IntKind.i64.wrap (((2 * ((uvT t).1) : Nat) : Int) + ((3 * ((uvT t).2) : Nat) : Int)))) (v' := .int .i64 (((2 * ((uvT t).1)) + (3 * ((uvT t).2)) : Nat) : Int)) (int_eq (wrapAdd_i64 (a := 2 * ((uvT t).1)) (b := 3 * ((uvT t).2)) (by omega))), .e (v := .int .i64 (Int.tmod (((2 * ((uvT t).1)) + (3 * ((uvT t).2)) : Nat) : Int) 5)) (v' := .int .i64 ((((2 * ((uvT t).1)) + (3 * ((uvT t).2))) % 5 : Nat) : Int)) (int_eq (remN ((2 * ((uvT t).1)) + (3 * ((uvT t).2))) 5)), .v] H19 kr fun gs20 w20 H20 => ?_
      clear H19
      refine g_keep [0, 1, 5, 6, 7, 8, 10, 20] fun ρ2 => ?_
      have HK7 := H20.keep
      clear H20
      refine rL [.v, .v] HK7 kr fun gs21 w21 H21 => ?_
      clear HK7
      show WP _ _ _ _ _ _
      refine rL [.v, .e (v := .int .i64 (IntKind.i64.wrap (((t : Nat) : Int) + 1))) (v' := .int .i64 ((t + 1 : Nat) : Int)) (int_eq (wrapAdd_i64 (a := t) (b := 1) (by omega))), .v] H21 kr fun gs22 w22 H22 => ?_
      clear H21
      have HL8 : St w.heap.size w w22 [] := H22.as kr
      clear H22
      show ∃ m, _ ∧ _
      exact ⟨_, (by omega), (t + 1), rfl, (by omega), (fun j hj => by rcases Nat.lt_succ_iff_lt_or_eq.1 hj with h | rfl; exact hno j h; intro e; have e1 := congrArg Prod.fst e; have e2 := congrArg Prod.snd e; simp only at e1 e2; omega), HL8, (Is.of ⟨kr, kr, kr, kr, kr, trivial⟩)⟩
  · skip
    refine rp [.e (v := .bool (decide (((t : Nat) : Int) < 24))) (v' := .bool false) (bool_eq (decide_eq_false (by omega)))] H6 kr fun gs23 w23 H23 => ?_
    show WPs _ _ _ _ [] _ _
    clear H6
    refine s_nil ?_
    refine g_cond_f kr kr ?_
    refine g_exit 0 kr ?_
    show WP _ _ _ _ _ _
    refine rS [.v] H23 kr fun gs24 w24 H24 => ?_
    clear H23
    refine g_ret kr ?_
    show ∃ vs, Res _ _ _ _ vs ∧ _
    refine ⟨[.int .i64 0], (.tmp (.int .i64 0) kr .nil), ?_, H24.below⟩
    rw [rotN_no (fun j hj => hno j (by omega))]; rfl
set_option maxRecDepth 100000 in
set_option maxHeartbeats 2000000 in
theorem rowR_fn  : FnR Tryz.prog 117 #[.int .i64 168] (fun _ => True) (RetS 3 1 (fun cur cap n l => (n = 168 ∧ Rw 1 cur cap n (cellsD (bitsT 168))))) := by
  refine FnR.intro (c := codeOf Tryz.f117) [.tmp 2] 24 Tryz.func117 kr kr kr fun w hpre => ?_
  have H0 := St.start w
  refine rS [.v] H0 kr fun gs1 w1 H1 => ?_
  clear H0
  refine rS [.nw (fun b => .slice (some ⟨b, 0, none⟩) 0 0) #[] 3, .v] H1 kr fun gs2 w2 H2 => ?_
  clear H1
  refine rS [.v] H2 kr fun gs3 w3 H3 => ?_
  clear H2
  refine g_seq kr ?_
  refine rS [.v] H3 kr fun gs4 w4 H4 => ?_
  clear H3
  refine g_block 0 kr ?_
  have HL1 : St w.heap.size w w4 [((gs2 0).b, Obj.cells #[] 3 (0, 0))] := H4.as kr
  clear H4
  refine g_loop kr (fun mz ρ ww => ∃ (b : Nat) (cap : Nat) (n : Nat) (cur : Array Value) (k : Nat) (rg : Nat), 168 - k = mz ∧ (n = k) ∧ (Rw 1 cur cap n (cellsD (bitsT k))) ∧ (k ≤ 168) ∧ (rg = regT k) ∧ St w.heap.size w ww [(b, Obj.cells cur 3 (0, 0))] ∧ Is [(0, .int .i64 ((168 : Nat) : Int)), (2, .slice none 0 0), (3, .slice (some ⟨b, 0, none⟩) n cap), (4, .int .i64 ((rg : Nat) : Int)), (5, .int .i64 ((k : Nat) : Int))] ρ) (168 - 0) ⟨(gs2 0).b, 0, 0, #[], 0, 1, rfl, rfl, (Rw.lit #[] 0 rfl (by unfold maxLen; omega)), (by omega), rfl, HL1, (Is.of ⟨kr, kr, kr, kr, kr, trivial⟩)⟩ ?_
  clear HL1
  rintro _ _ w5 ⟨b, cap, n, cur, k, rg, rfl, hn, hr, hk, hrgk, H5, _, rfl⟩
  have hrg := regT_lt k; rw [← hrgk] at hrg
  refine g_seq kr ?_
  refine g_sreg [0, 1, 2] kr kr ?_
  refine rp [.v, .v] H5 kr fun gs6 w6 H6 => ?_
  show WPs _ _ _ _ [2] _ _
  clear H5
  by_cases hc2 : (k : Nat) < 168
  · skip
    refine rp [.e (v := .bool (decide (((k : Nat) : Int) < ((168 : Nat) : Int)))) (v' := .bool true) (bool_eq (decide_eq_true (by omega)))] H6 kr fun gs7 w7 H7 => ?_
    show WPs _ _ _ _ [] _ _
    clear H6
    refine s_nil ?_
    refine g_cond_t kr kr ?_
    refine g_skip kr ?_
    show WP _ _ _ _ _ _
    refine g_seq kr ?_
    refine g_block 1 kr ?_
    refine g_sreg [0, 1, 2, 3, 4, 5] kr kr ?_
    refine rp [.v, .v, .e (v := .int .i64 (Int.tmod ((rg : Nat) : Int) 2)) (v' := .int .i64 ((rg % 2 : Nat) : Int)) (int_eq (remN rg 2)), .nw (fun b => .slice (some ⟨b, 0, none⟩) 1 1) #[.int .i64 ((rg % 2 : Nat) : Int)] 3] H7 kr fun gs8 w8 H8 => ?_
    show WPs _ _ _ _ [4, 5] _ _
    clear H7
    refine s_append H8 (some 16) 157 3 1 8 (.tmp 12) (.tmp 15) 0 1 b ((gs8 3).b) n 1 cap 1 cur #[.int .i64 ((rg % 2 : Nat) : Int)] 3 (0, 0) (cellsD (bitsT k)) ([.int .i64 ((rg % 2 : Nat) : Int)]) (fun b_1 cur_3 => [(b_1, Obj.cells cur_3 3 (0, 0)), ((gs8 3).b, Obj.cells #[.int .i64 ((rg % 2 : Nat) : Int)] 3 (0, 0))]) kr kr kr kr kr hr kr kr (by rfl) (by rfl) (by intro u hu; simp at hu; first | exact hu.elim | (rcases hu with rfl | rfl | rfl | rfl <;> rfl) | (rcases hu with rfl | rfl <;> rfl) | (subst hu; rfl)) (by omega) (by unfold maxLen; omega) (fun _ _ => by kernel_rfl) ?_
    intro b_1 cap_2 cur_3 w9 H9 hr_4; clear H8
    refine rp [.v] H9 kr fun gs10 w10 H10 => ?_
    show WPs _ _ _ _ [] _ _
    clear H9
    refine s_nil ?_
    refine rS [.v, .e (v := .int .i64 (IntKind.i64.wrap (2 * ((rg : Nat) : Int)))) (v' := .int .i64 ((2 * rg : Nat) : Int)) (int_eq (wrapMul_i64 (a := 2) (b := rg) (by omega))), .v] H10 kr fun gs11 w11 H11 => ?_
    clear H10
    refine g_sreg [0, 1] kr kr ?_
    refine rp [.v] H11 kr fun gs12 w12 H12 => ?_
    show WPs _ _ _ _ [1] _ _
    clear H11
    by_cases hc3 : (2 * rg : Nat) > 255
    · skip
      refine rp [.e (v := .bool (decide (255 < ((2 * rg : Nat) : Int)))) (v' := .bool true) (bool_eq (decide_eq_true (by omega)))] H12 kr fun gs13 w13 H13 => ?_
      show WPs _ _ _ _ [] _ _
      clear H12
      refine s_nil ?_
      refine g_keep [0, 2, 3, 4, 5, 9, 20] fun ρ1 => ?_
      have HK4 := H13.keep
      clear H13
      refine g_cond_t kr kr ?_
      refine rL [.v, .e (v := .int .i64 (Go.bits .xor .i64 (((2 * rg : Nat)) : Int) 369)) (v' := .int .i64 ((2 * rg ^^^ 369 : Nat) : Int)) (int_eq (by rw [hrgk]; exact regX k)), .v] HK4 kr fun gs14 w14 H14 => ?_
      clear HK4
      show WP _ _ _ _ _ _
      refine rL [.v, .e (v := .int .i64 (IntKind.i64.wrap (((k : Nat) : Int) + 1))) (v' := .int .i64 ((k + 1 : Nat) : Int)) (int_eq (wrapAdd_i64 (a := k) (b := 1) (by omega))), .v] H14 kr fun gs15 w15 H15 => ?_
      clear H14
      have HL5 : St w.heap.size w w15 [(b_1, Obj.cells cur_3 3 (0, 0)), ((gs8 3).b, Obj.cells #[.int .i64 ((rg % 2 : Nat) : Int)] 3 (0, 0))] := H15.as kr
      clear H15
      have hrow : Rw 1 cur_3 cap_2 (n + 1) (cellsD (bitsT (k + 1))) := by rw [bitsT_succ, cellsD_append, ← hrgk]; exact hr_4
      have HD6 : St w.heap.size w w15 [(b_1, Obj.cells cur_3 3 (0, 0))] := HL5.sub (List.Sublist.cons_cons _ (List.Sublist.cons _ List.Sublist.slnil))
      show ∃ m, _ ∧ _
      exact ⟨_, (by omega), b_1, cap_2, (n + 1), cur_3, (k + 1), (2 * rg ^^^ 369), rfl, (by omega), hrow, (by omega), (by subst hrgk; exact (if_pos (by omega)).symm), HD6, (Is.of ⟨kr, kr, kr, kr, kr, trivial⟩)⟩
    · skip
      refine rp [.e (v := .bool (decide (255 < ((2 * rg : Nat) : Int)))) (v' := .bool false) (bool_eq (decide_eq_false (by omega)))] H12 kr fun gs16 w16 H16 => ?_
      show WPs _ _ _ _ [] _ _
      clear H12
      refine s_nil ?_
      refine g_keep [0, 2, 3, 4, 5, 9, 20] fun ρ2 => ?_
      have HK7 := H16.keep
      clear H16
      refine g_cond_f kr kr ?_
      refine g_skip kr ?_
      show WP _ _ _ _ _ _
      refine rL [.v, .e (v := .int .i64 (IntKind.i64.wrap (((k : Nat) : Int) + 1))) (v' := .int .i64 ((k + 1 : Nat) : Int)) (int_eq (wrapAdd_i64 (a := k) (b := 1) (by omega))), .v] HK7 kr fun gs17 w17 H17 => ?_
      clear HK7
      have HL8 : St w.heap.size w w17 [(b_1, Obj.cells cur_3 3 (0, 0)), ((gs8 3).b, Obj.cells #[.int .i64 ((rg % 2 : Nat) : Int)] 3 (0, 0))] := H17.as kr
      clear H17
      have hrow : Rw 1 cur_3 cap_2 (n + 1) (cellsD (bitsT (k + 1))) := by rw [bitsT_succ, cellsD_append, ← hrgk]; exact hr_4
      have HD9 : St w.heap.size w w17 [(b_1, Obj.cells cur_3 3 (0, 0))] := HL8.sub (List.Sublist.cons_cons _ (List.Sublist.cons _ List.Sublist.slnil))
      show ∃ m, _ ∧ _
      exact ⟨_, (by omega), b_1, cap_2, (n + 1), cur_3, (k + 1), (2 * rg), rfl, (by omega), hrow, (by omega), (by subst hrgk; exact (if_neg (by omega)).symm), HD9, (Is.of ⟨kr, kr, kr, kr, kr, trivial⟩)⟩
  · skip
    refine rp [.e (v := .bool (decide (((k : Nat) : Int) < ((168 : Nat) : Int)))) (v' := .bool false) (bool_eq (decide_eq_false (by omega)))] H6 kr fun gs18 w18 H18 => ?_
    show WPs _ _ _ _ [] _ _
    clear H6
    refine s_nil ?_
    refine g_cond_f kr kr ?_
    refine g_exit 0 kr ?_
    show WP _ _ _ _ _ _
    refine rS [.v, .v] H18 kr fun gs19 w19 H19 => ?_
    clear H18
    refine g_ret kr ?_
    show ∃ vs, Res _ _ _ _ vs ∧ _
    refine ⟨[.slice (some ⟨b, 0, none⟩) n cap], (.tmp (.slice (some ⟨b, 0, none⟩) n cap) kr .nil), H19.below, ?_⟩
    obtain rfl : k = 168 := by omega
    exact ⟨b, cap, _, _, [], rfl, H19.ge 0 (o := .cells cur 3 (0, 0)) kr, H19.get 0 kr, ⟨hn, hr⟩⟩
end Go.Proofs.YtlhfgbjhngkicaaGreatDoor.Ke

namespace Go.Proofs.YtlhfgbjhngkicaaGreatDoor.Ke
open Go Go.RowKit Go.Proofs.Kec
set_option linter.unusedVariables false
theorem bv_congr {a b : BitVec 64} (h : a = b) : Value.int .u64 ((BitVec.toNat a : Nat) : Int) = .int .u64 ((BitVec.toNat b : Nat) : Int) := by rw [h]
theorem sub_not (x : BitVec 64) : (18446744073709551615 : BitVec 64) - x = ~~~x := by
  apply BitVec.eq_of_toNat_eq
  have := x.isLt
  rw [BitVec.toNat_sub, BitVec.toNat_not]
  show (18446744073709551616 - x.toNat + 18446744073709551615) % 18446744073709551616 = 18446744073709551616 - 1 - x.toNat
  omega
set_option maxRecDepth 100000 in
set_option maxHeartbeats 2000000 in
theorem last_fn (i : Nat) (hi : i < 24) : Fn Tryz.prog 102 #[.int .i64 ((i : Nat) : Int)] (.int .u64 ((BitVec.toNat (lastB i 7) : Nat) : Int)) := by
  refine Fn.intro (c := codeOf Tryz.f102) [.tmp 2] 28 Tryz.func102 kr kr kr fun w => ?_
  have H0 := St.start w
  refine rS [.v] H0 kr fun gs1 w1 H1 => ?_
  clear H0
  refine g_sreg [0, 1] kr kr ?_
  refine s_callS H1 (some 7) 117 #[.int .i64 168] (fun _ => True) 3 1 (fun curZ capZ nZ lZ => (nZ = 168 ∧ Rw 1 curZ capZ nZ (cellsD (bitsT 168)))) rowR_fn trivial kr kr ?_
  intro b_1 cap_2 n_3 cur_4 l_5 w2 H2 hs_6; clear H1
  have hs_6n := hs_6.1
  refine rp [.v] H2 kr fun gs3 w3 H3 => ?_
  show WPs _ _ _ _ [] _ _
  clear H2
  refine s_nil ?_
  refine rS [.v] H3 kr fun gs4 w4 H4 => ?_
  clear H3
  refine rS [.v] H4 kr fun gs5 w5 H5 => ?_
  clear H4
  refine g_seq kr ?_
  refine rS [.v] H5 kr fun gs6 w6 H6 => ?_
  clear H5
  refine g_block 0 kr ?_
  have HL1 : St w.heap.size w w6 [(b_1, Obj.cells cur_4 3 (0, 0))] := H6.as kr
  clear H6
  refine g_loop kr (fun mz ρ ww => ∃ (j : Nat) (pl : Nat) (nn : BitVec 64), 7 - j = mz ∧ (j ≤ 7) ∧ (pl = 2 ^ j) ∧ (nn = lastB i j) ∧ St w.heap.size w ww [(b_1, Obj.cells cur_4 3 (0, 0))] ∧ Is [(0, .int .i64 ((i : Nat) : Int)), (2, .int .u64 0), (3, .slice (some ⟨b_1, 0, none⟩) n_3 cap_2), (4, .int .u64 ((BitVec.toNat nn : Nat) : Int)), (5, .int .u64 ((pl : Nat) : Int)), (6, .int .i64 ((j : Nat) : Int))] ρ) (7 - 0) ⟨0, 1, 0, rfl, (by omega), rfl, rfl, HL1, (Is.of ⟨kr, kr, kr, kr, kr, kr, trivial⟩)⟩ ?_
  clear HL1
  rintro _ _ w7 ⟨j, pl, nn, rfl, hj, hpl, hnn, H7, _, rfl⟩
  have hp1 : 1 ≤ pl := by rw [hpl]; exact Nat.one_le_two_pow
  have hp2 : pl ≤ 128 := by rw [hpl]; exact Nat.pow_le_pow_right (by omega) hj
  refine g_seq kr ?_
  refine g_sreg [0, 1] kr kr ?_
  refine rp [.v] H7 kr fun gs8 w8 H8 => ?_
  show WPs _ _ _ _ [1] _ _
  clear H7
  by_cases hc2 : (j : Nat) < 7
  · skip
    refine rp [.e (v := .bool (decide (((j : Nat) : Int) < 7))) (v' := .bool true) (bool_eq (decide_eq_true (by omega)))] H8 kr fun gs9 w9 H9 => ?_
    show WPs _ _ _ _ [] _ _
    clear H8
    refine s_nil ?_
    refine g_cond_t kr kr ?_
    refine g_skip kr ?_
    show WP _ _ _ _ _ _
    refine g_seq kr ?_
    refine g_block 1 kr ?_
    refine g_seq kr ?_
    refine g_sreg [0, 1, 2, 3, 4, 5, 6, 7] kr kr ?_
    refine rp [.v, .v, .v, .e (v := .int .i64 (IntKind.i64.wrap (7 * ((i : Nat) : Int)))) (v' := .int .i64 ((7 * i : Nat) : Int)) (int_eq (wrapMul_i64 (a := 7) (b := i) (by omega))), .e (v := .int .i64 (IntKind.i64.wrap (((j : Nat) : Int) + ((7 * i : Nat) : Int)))) (v' := .int .i64 ((j + (7 * i) : Nat) : Int)) (int_eq (wrapAdd_i64 (a := j) (b := 7 * i) (by omega))), .o (ins := [((.tmp 12), .slice (some ⟨b_1, 0, none⟩) n_3 cap_2), ((.tmp 16), .int .i64 ((j + (7 * i) : Nat) : Int))]) (v := .pointer (some ⟨b_1, 0 + (j + (7 * i)) * 1, none⟩)) (fun ρ o w ho hi => idxS_run (kd := .i64) (t := 157) (e := 3) (size := 1) (bytes := 8) kr (x := (.tmp 12)) (y := (.tmp 16)) b_1 0 n_3 cap_2 (j + (7 * i)) ho hi.1 hi.2.1 (by omega) w), .ls (C := cur_4) (off := 0 + (j + (7 * i)) * 1) (v := .int .i64 ((List.getD (bitsT 168) (j + (7 * i)) 0 : Nat) : Int)) 0 (hs_6.2.atD (by omega) (by rw [bitsT_len]; exact hs_6.1))] H9 kr fun gs10 w10 H10 => ?_
    show WPs _ _ _ _ [7] _ _
    clear H9
    by_cases hc3 : (List.getD (bitsT 168) (j + (7 * i)) 0 : Nat) = 1
    · skip
      refine rp [.e (v := .bool (((List.getD (bitsT 168) (j + (7 * i)) 0 : Nat) : Int) == 1)) (v' := .bool true) (bool_eq (beq_iff_eq.2 (by omega)))] H10 kr fun gs11 w11 H11 => ?_
      show WPs _ _ _ _ [] _ _
      clear H10
      refine s_nil ?_
      refine g_cond_t kr kr ?_
      refine rL [.v, .v, .e (v := .int .u64 (IntKind.u64.wrap (((pl : Nat) : Int) - 1))) (v' := .int .u64 ((pl - 1 : Nat) : Int)) (int_eq (wrapSub_u64 (a := pl) (b := 1) (by omega))), .e (v := .int .u64 (IntKind.u64.wrap ((1) * 2 ^ (min (pl - 1) 64)))) (v' := .int .u64 ((BitVec.toNat ((1 : BitVec 64) <<< (pl - 1)) : Nat) : Int)) (bv_shl_u64 (1 : BitVec 64) (pl - 1)), .e (v := .int .u64 (Go.bits .or .u64 (((BitVec.toNat nn : Nat) : Int)) (((BitVec.toNat ((1 : BitVec 64) <<< (pl - 1)) : Nat) : Int)))) (v' := .int .u64 ((BitVec.toNat (nn ||| ((1 : BitVec 64) <<< (pl - 1))) : Nat) : Int)) (bv_or_u64 nn ((1 : BitVec 64) <<< (pl - 1))), .v] H11 kr fun gs12 w12 H12 => ?_
      clear H11
      show WP _ _ _ _ _ _
      refine g_keep [0, 2, 3, 4, 5, 6, 9, 19] fun ρ1 => ?_
      have HK4 := H12.keep
      clear H12
      refine rL [.v, .e (v := .int .u64 (IntKind.u64.wrap (2 * ((pl : Nat) : Int)))) (v' := .int .u64 ((2 * pl : Nat) : Int)) (int_eq (wrapMul_u64 (a := 2) (b := pl) (by omega))), .v] HK4 kr fun gs13 w13 H13 => ?_
      clear HK4
      show WP _ _ _ _ _ _
      refine rL [.v, .e (v := .int .i64 (IntKind.i64.wrap (((j : Nat) : Int) + 1))) (v' := .int .i64 ((j + 1 : Nat) : Int)) (int_eq (wrapAdd_i64 (a := j) (b := 1) (by omega))), .v] H13 kr fun gs14 w14 H14 => ?_
      clear H13
      have HL5 : St w.heap.size w w14 [(b_1, Obj.cells cur_4 3 (0, 0))] := H14.as kr
      clear H14
      show ∃ m, _ ∧ _
      exact ⟨_, (by omega), (j + 1), (2 * pl), (nn ||| ((1 : BitVec 64) <<< (pl - 1))), rfl, (by omega), (by rw [hpl, Nat.pow_succ]; omega), (by subst hnn hpl; exact (if_pos (by assumption)).symm), HL5, (Is.of ⟨kr, kr, kr, kr, kr, kr, trivial⟩)⟩
    · skip
      refine rp [.e (v := .bool (((List.getD (bitsT 168) (j + (7 * i)) 0 : Nat) : Int) == 1)) (v' := .bool false) (bool_eq (beq_eq_false_iff_ne.2 (by omega)))] H10 kr fun gs15 w15 H15 => ?_
      show WPs _ _ _ _ [] _ _
      clear H10
      refine s_nil ?_
      refine g_cond_f kr kr ?_
      refine g_skip kr ?_
      show WP _ _ _ _ _ _
      refine rL [.v, .e (v := .int .u64 (IntKind.u64.wrap (2 * ((pl : Nat) : Int)))) (v' := .int .u64 ((2 * pl : Nat) : Int)) (int_eq (wrapMul_u64 (a := 2) (b := pl) (by omega))), .v] H15 kr fun gs16 w16 H16 => ?_
      clear H15
      show WP _ _ _ _ _ _
      refine g_keep [0, 2, 3, 4, 5, 6, 9, 19] fun ρ2 => ?_
      have HK6 := H16.keep
      clear H16
      refine rL [.v, .e (v := .int .i64 (IntKind.i64.wrap (((j : Nat) : Int) + 1))) (v' := .int .i64 ((j + 1 : Nat) : Int)) (int_eq (wrapAdd_i64 (a := j) (b := 1) (by omega))), .v] HK6 kr fun gs17 w17 H17 => ?_
      clear HK6
      have HL7 : St w.heap.size w w17 [(b_1, Obj.cells cur_4 3 (0, 0))] := H17.as kr
      clear H17
      show ∃ m, _ ∧ _
      exact ⟨_, (by omega), (j + 1), (2 * pl), (nn), rfl, (by omega), (by rw [hpl, Nat.pow_succ]; omega), (by subst hnn hpl; exact (if_neg (by assumption)).symm), HL7, (Is.of ⟨kr, kr, kr, kr, kr, kr, trivial⟩)⟩
  · skip
    refine rp [.e (v := .bool (decide (((j : Nat) : Int) < 7))) (v' := .bool false) (bool_eq (decide_eq_false (by omega)))] H8 kr fun gs18 w18 H18 => ?_
    show WPs _ _ _ _ [] _ _
    clear H8
    refine s_nil ?_
    refine g_cond_f kr kr ?_
    refine g_exit 0 kr ?_
    show WP _ _ _ _ _ _
    refine rS [.v, .v] H18 kr fun gs19 w19 H19 => ?_
    clear H18
    refine g_ret kr ?_
    show ∃ vs, Res _ _ _ _ vs ∧ _
    refine ⟨[.int .u64 ((BitVec.toNat nn : Nat) : Int)], (.tmp (.int .u64 ((BitVec.toNat nn : Nat) : Int)) kr .nil), ?_, H19.below⟩
    obtain rfl : j = 7 := by omega
    rw [hnn]; rfl
end Go.Proofs.YtlhfgbjhngkicaaGreatDoor.Ke
