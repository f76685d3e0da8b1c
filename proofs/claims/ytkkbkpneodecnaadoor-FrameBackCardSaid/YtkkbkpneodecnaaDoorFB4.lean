/-
  Texts of the proof, part 4.
-/
import Derived.Test.YtkkbkpneodecnaaDoorProg
import Derived.ChangeArms
import Derived.ChangeSlices
import Derived.OpenShut
import Derived.Test.YtkkbkpneodecnaaDoorFB2
import Derived.Test.YtkkbkpneodecnaaDoorFB3

namespace Go.Proofs.YtkkbkpneodecnaaDoor
open Go Go.RowKit
set_option linter.unusedVariables false
abbrev fO (p : Option Addr) (n c : Nat) : Obj := .cells #[.int .u64 0, .string ⟨#[]⟩, .slice p n c] 34 (0, 0)
set_option maxRecDepth 100000 in
set_option maxHeartbeats 4000000 in
theorem fRead_fn (form s : ByteArray) (hs : s.size ≤ 140737488355328) : FnT Tryd.prog 6 #[.string form, .string s] (fun _ => True) (okRd form s) := by
  refine FnT.intro (c := codeOf Tryd.f6) [.tmp 4, .tmp 5] 42 Tryd.func6 kr kr kr fun w _ => ?_
  have H0 := St.start w
  refine rS [.v, .v] H0 kr fun gs1 w1 H1 => ?_
  clear H0
  refine g_sreg [0, 1, 2, 3, 4, 5, 6, 7] kr kr ?_
  refine rp [.v] H1 kr fun gs2 w2 H2 => ?_
  show WPs _ _ _ _ [1, 2, 3, 4, 5, 6, 7] _ _
  refine s_callFT H2 (some 15) 9 #[.string form] (parse_fn form) trivial kr kr ?_
  intro v T w3 hok H3
  rcases hok with ⟨q1, q2, q3, k, hp, rfl, hk⟩ | ⟨hp, g', q1, q2, q3, rfl⟩
  · refine rp [.v, .v, .v] H3 kr fun gs3 w4 H4 => ?_
    show WPs _ _ _ _ [5, 6, 7] _ _
    have H5 : St w.heap.size w w4 (T ++ []) := H4.as kr
    refine s_alloc H5 (some 6) 37 (.agg #[.int .u8 0, .slice none 0 0]) kr kr kr ?_
    intro b6 w5 H6
    refine rp [.s 0, .v] H6 kr fun gs4 w6 H7 => ?_
    show WPs _ _ _ _ [] _ _
    refine s_nil ?_
    refine g_seq kr ?_
    refine rS [.v, .v] H7 kr fun gs5 w7 H8 => ?_
    refine g_cond_f kr kr ?_
    refine g_skip kr ?_
    show WP _ _ _ _ _ _
    refine g_sreg [0, 1, 2, 3, 4, 5, 6, 7] kr kr ?_
    refine rp [.v] H8 kr fun gs6 w8 H9 => ?_
    show WPs _ _ _ _ [1, 2, 3, 4, 5, 6, 7] _ _
    have H10 : St w.heap.size w w8 ((b6, kdO 40 q1 q2 q3) :: (T ++ [])) := H9.as kr
    refine s_callZ H10 (some 22) 11 #[.string s] (decode_z s hs) kr kr ?_
    intro vd Td w9 hdec H11
    rcases hdec.cases with ⟨l1, s1, p1, n1, c1, k1, rfl, hit, hsl, hs1, hdp, h4⟩ | ⟨er, her, rfl, rfl⟩
    · refine rp [.v, .v, .v] H11 kr fun gs7 w10 H12 => ?_
      show WPs _ _ _ _ [5, 6, 7] _ _
      have H13 : St w.heap.size w w10 (Td ++ ((b6, kdO 40 q1 q2 q3) :: (T ++ []))) := H12.as kr
      refine s_alloc H13 (some 8) 43 (.agg #[.bool false, .string ⟨#[]⟩, .slice none 0 0]) kr kr kr ?_
      intro b8 w11 H14
      refine rp [.s 0, .v] H14 kr fun gs8 w12 H15 => ?_
      show WPs _ _ _ _ [] _ _
      refine s_nil ?_
      have H16 : St w.heap.size w w12 ((b8, ixO l1 s1 p1 n1 c1) :: (Td ++ ((b6, kdO 40 q1 q2 q3) :: (T ++ [])))) := H15.as kr
      have H17 : St w.heap.size w w12 ((b6, kdO 40 q1 q2 q3) :: (b8, ixO l1 s1 p1 n1 c1) :: (Td ++ T)) := by
        refine H16.perm ?_
        rw [List.append_nil]
        exact (List.Perm.swap _ _ _).trans (List.Perm.cons _ List.perm_middle.symm)
      refine g_seq kr ?_
      refine rS [.v, .v] H17 kr fun gs9 w13 H18 => ?_
      refine g_cond_f kr kr ?_
      refine g_skip kr ?_
      show WP _ _ _ _ _ _
      refine g_sreg [0, 1, 2, 3, 4] kr kr ?_
      refine rp [.l 0, .l 1] H18 kr fun gs10 w14 H19 => ?_
      show WPs _ _ _ _ [2, 3, 4] _ _
      have H20 : St w.heap.size w w14 ((b6, kdO 40 q1 q2 q3) :: (b8, ixO l1 s1 p1 n1 c1) :: (Td ++ T)) := H19.as kr
      have hcnt := hit.sz.2
      refine s_callFT H20 (some 30) 12 #[knd 40 q1 q2 q3, itm l1 s1 p1 n1 c1] (fieldOf_fn k1 40 q1 q2 q3 k l1 s1 p1 n1 c1 (by omega) (by omega)) ⟨hk.at H20 fun e he => List.mem_cons_of_mem _ (List.mem_cons_of_mem _ (List.mem_append_right _ he)), hsl.at H20 fun e he => List.mem_cons_of_mem _ (List.mem_cons_of_mem _ (List.mem_append_left _ he))⟩ kr kr ?_
      intro vf Tf w15 hfld H21
      obtain ⟨pf, nf, cf, rfl, hTf⟩ := hfld
      refine s_alloc H21 (some 10) 34 (.agg #[.int .u64 0, .string ⟨#[]⟩, .slice none 0 0]) kr kr kr ?_
      intro b10 w16 H22
      refine rp [.s 0] H22 kr fun gs11 w17 H23 => ?_
      show WPs _ _ _ _ [] _ _
      refine s_nil ?_
      have H24 : St w.heap.size w w17 ((b10, fO pf nf cf) :: (Tf ++ ((b6, kdO 40 q1 q2 q3) :: (b8, ixO l1 s1 p1 n1 c1) :: (Td ++ T)))) := H23.as kr
      have H25 : St w.heap.size w w17 ((b10, fO pf nf cf) :: (b6, kdO 40 q1 q2 q3) :: (b8, ixO l1 s1 p1 n1 c1) :: (Tf ++ (Td ++ T))) :=
        H24.perm (List.Perm.cons _ (List.perm_append_comm_assoc Tf [(b6, kdO 40 q1 q2 q3), (b8, ixO l1 s1 p1 n1 c1)] (Td ++ T)).symm)
      refine g_seq kr ?_
      refine g_sreg [0, 1, 2, 3, 4, 5, 6, 7] kr kr ?_
      refine rp [.l 1, .l 0] H25 kr fun gs12 w18 H26 => ?_
      show WPs _ _ _ _ [2, 3, 4, 5, 6, 7] _ _
      have H27 : St w.heap.size w w18 ((b10, fO pf nf cf) :: (b6, kdO 40 q1 q2 q3) :: (b8, ixO l1 s1 p1 n1 c1) :: (Tf ++ (Td ++ T))) := H26.as kr
      have hmF : ∀ e ∈ Tf, e ∈ (b10, fO pf nf cf) :: (b6, kdO 40 q1 q2 q3) :: (b8, ixO l1 s1 p1 n1 c1) :: (Tf ++ (Td ++ T)) := fun e he => List.mem_cons_of_mem _ (List.mem_cons_of_mem _ (List.mem_cons_of_mem _ (List.mem_append_left _ he)))
      have hmK : ∀ e ∈ T, e ∈ (b10, fO pf nf cf) :: (b6, kdO 40 q1 q2 q3) :: (b8, ixO l1 s1 p1 n1 c1) :: (Tf ++ (Td ++ T)) := fun e he => List.mem_cons_of_mem _ (List.mem_cons_of_mem _ (List.mem_cons_of_mem _ (List.mem_append_right _ (List.mem_append_right _ he))))
      have hok := (hTf.at H27 hmF).ok
      refine s_callP H27 (some 34) 10 #[knd 40 q1 q2 q3, fld 0 ⟨#[]⟩ pf nf cf] _ _ (written_fn 40 q1 q2 q3 k 0 ⟨#[]⟩ pf nf cf (field1 40 k k1) (by decide) (by decide)) ⟨hk.at H27 hmK, hTf.at H27 hmF⟩ (fun w => by kernel_rfl) kr ?_
      intro w19 H28
      refine rp [.v, .v, .v, .v, .v] H28 kr fun gs13 w20 H29 => ?_
      show WPs _ _ _ _ [] _ _
      refine s_nil ?_
      by_cases hmade : (writeM 40 k (0, ⟨#[]⟩) (field1 40 k k1)).1 = s
      · refine rS [.v, .v, .e (v := .bool (!((writeM 40 k (0, ⟨#[]⟩) (field1 40 k k1)).1.toList == s.toList))) (v' := .bool false) (bool_eq (by rw [str_same _ _ hmade]; rfl))] H29 kr fun gs14 w21 H30 => ?_
        refine g_cond_f kr kr ?_
        refine g_skip kr ?_
        show WP _ _ _ _ _ _
        refine rS [.v, .l 0, .v, .v] H30 kr fun gs15 w22 H31 => ?_
        refine rRr [.tmp 4, .tmp 5] [] (.tuple #[.slice pf nf cf, .int .i64 0]) (outT w.heap.size w (okRd form s)) H31 kr ?_
        have H32 : St w.heap.size w w22 ((b10, fO pf nf cf) :: (b6, kdO 40 q1 q2 q3) :: (b8, ixO l1 s1 p1 n1 c1) :: (Tf ++ (Td ++ T))) := H31.as kr
        refine ⟨Tf, .inl ⟨pf, nf, cf, field1 40 k k1, k, hp, rfl, hTf, ?_⟩, H32.sub (List.Sublist.cons _ (List.Sublist.cons _ (List.Sublist.cons _ (List.sublist_append_left _ _))))⟩
        rcases writeM_two k (field1 40 k k1) with h | h
        · exact Prod.ext hmade h
        · exact absurd (hmade.symm.trans h) (item_ne hit)
      · refine rS [.v, .v, .e (v := .bool (!((writeM 40 k (0, ⟨#[]⟩) (field1 40 k k1)).1.toList == s.toList))) (v' := .bool true) (bool_eq (by rw [str_other _ _ hmade]; rfl))] H29 kr fun gs14 w21 H30 => ?_
        refine g_cond_t kr kr ?_
        refine rS [.v, .v] H30 kr fun gs15 w22 H31 => ?_
        refine rRr [.tmp 4, .tmp 5] [] (.tuple #[.slice none 0 0, .int .i64 4]) (outT w.heap.size w (okRd form s)) H31 kr ?_
        refine ⟨[], .inr ⟨4, by decide, rfl, fun k' l' hp' ho' hw' => ?_⟩, H31.sub (List.nil_sublist _)⟩
        obtain rfl : k = k' := Option.some.inj (hp.symm.trans hp')
        obtain ⟨hl9, he9⟩ := writeM_ok hw'
        have hf := (writeM_field (by decide) ho' hl9).2.2
        have hk9 := (itIs.inj h4 hit (is_of_enc he9)).2.2
        rw [hk9, hf, hw'] at hmade
        exact hmade rfl
    · have hno : ∀ (k' : Kf) (l' : Fe), parseM form = some k' → l'.all fS.ok → writeM 40 k' (0, ⟨#[]⟩) l' ≠ (s, 0) := fun k' l' _ ho' hw' => by
        obtain ⟨p9, n9, c9, hv, _⟩ := field_rec hw' ho' hdec
        unfold erV at hv
        injection hv with hv
        have h9 := congrArg (fun a : Array Value => a[1]?) hv
        simp at h9
        exact her h9
      refine rp [.v, .v, .v] H11 kr fun gs7 w10 H12 => ?_
      show WPs _ _ _ _ [5, 6, 7] _ _
      have H13 : St w.heap.size w w10 ([] ++ ((b6, kdO 40 q1 q2 q3) :: (T ++ []))) := H12.as kr
      refine s_alloc H13 (some 8) 43 (.agg #[.bool false, .string ⟨#[]⟩, .slice none 0 0]) kr kr kr ?_
      intro b8 w11 H14
      refine rp [.s 0, .v] H14 kr fun gs8 w12 H15 => ?_
      show WPs _ _ _ _ [] _ _
      refine s_nil ?_
      refine g_seq kr ?_
      refine rS [.v, .e (v := .bool (!(er == 0))) (v' := .bool true) (bool_eq (by rw [beq_eq_false_iff_ne.2 her]; rfl))] H15 kr fun gs9 w13 H16 => ?_
      refine g_cond_t kr kr ?_
      refine rS [.v, .v, .v] H16 kr fun gs10 w14 H17 => ?_
      refine rRr [.tmp 4, .tmp 5] [] (.tuple #[.slice none 0 0, .int .i64 er]) (outT w.heap.size w (okRd form s)) H17 kr ?_
      exact ⟨[], .inr ⟨er, her, rfl, hno⟩, H17.sub (List.nil_sublist _)⟩
  · refine rp [.v, .v, .v] H3 kr fun gs3 w4 H4 => ?_
    show WPs _ _ _ _ [5, 6, 7] _ _
    have H5 : St w.heap.size w w4 (T ++ []) := H4.as kr
    refine s_alloc H5 (some 6) 37 (.agg #[.int .u8 0, .slice none 0 0]) kr kr kr ?_
    intro b6 w5 H6
    refine rp [.s 0, .v] H6 kr fun gs4 w6 H7 => ?_
    show WPs _ _ _ _ [] _ _
    refine s_nil ?_
    refine g_seq kr ?_
    refine rS [.v, .v] H7 kr fun gs5 w7 H8 => ?_
    refine g_cond_t kr kr ?_
    refine rS [.v, .v] H8 kr fun gs6 w8 H10 => ?_
    refine rRr [.tmp 4, .tmp 5] [] (.tuple #[.slice none 0 0, .int .i64 1]) (outT w.heap.size w (okRd form s)) H10 kr ?_
    exact ⟨[], .inr ⟨1, by decide, rfl, fun k l h => by rw [hp] at h; cases h⟩, H10.sub (List.nil_sublist _)⟩
end Go.Proofs.YtkkbkpneodecnaaDoor

namespace Go.Proofs.YtkkbkpneodecnaaDoor
open Go Go.RowKit
set_option linter.unusedVariables false
def AllF (B : Nat) (w : World) (A : List (El (Nat × ByteArray))) : Prop := ∀ x ∈ A, SlR fS B w x.p x.n x.k
theorem AllF.snoc {B : Nat} {w : World} {A : List (El (Nat × ByteArray))} {x : El (Nat × ByteArray)} (h : AllF B w A) (hx : SlR fS B w x.p x.n x.k) : AllF B w (A ++ [x]) := fun y hy => by
  rcases List.mem_append.1 hy with q | q
  · exact h y q
  · obtain rfl := List.mem_singleton.1 q; exact hx
theorem ext3 {C : Array Value} {o : Nat} {a b c : Value} (hs : o + 3 ≤ C.size) (h : C.extract o (o + 3) = #[a, b, c]) : C[o]? = some a ∧ C[o + 1]? = some b ∧ C[o + 2]? = some c := by
  have key : ∀ j, j < 3 → C[o + j]? = (#[a, b, c] : Array Value)[j]? := fun j hj => by
    rw [← h, Array.getElem?_extract, if_pos (by omega)]
  exact ⟨key 0 (by decide), key 1 (by decide), key 2 (by decide)⟩
set_option maxRecDepth 100000 in
set_option maxHeartbeats 4000000 in
theorem many_fn (p : Option Addr) (n c : Nat) (l : Fe) : FnT Tryd.prog 4 #[.slice p n c, .int .i64 1000] (fun w => SlR fS w.heap.size w p n l) (fun v T => ∃ m : Nat, v = .int .i64 ((m : Nat) : Int)) := by
  refine FnT.intro (c := codeOf Tryd.f4) [.tmp 4] 60 Tryd.func4 kr kr kr fun w hF => ?_
  have H0 := St.start w
  have hn := hF.1
  have hnm : n ≤ 140737488355328 := hF.2.1
  refine rS [.v] H0 kr fun gs1 w1 H1 => ?_
  refine rS [.nw (fun b => .slice (some ⟨b, 0, none⟩) 0 0) #[] 34, .v] H1 kr fun gs2 w2 H2 => ?_
  refine g_seq kr ?_
  refine g_seq kr ?_
  refine rL [.v, .v, .v] H2 kr fun gs3 w3 H3 => ?_
  show WP _ _ _ _ _ _
  refine g_block 0 kr ?_
  have H4 : St w.heap.size w w3 [((gs2 0).b, frO #[])] := H3.as kr
  clear H0 H1 H2 H3
  refine g_loop kr (fun mz ρ ww => ∃ (i : Nat) (r : Fe) (A : List (El (Nat × ByteArray))) (N bo cap : Nat) (cur : Array Value), n - i = mz ∧ N = A.length ∧ FrR fS w.heap.size w p i r ∧ i + r.len = n ∧ AllF w.heap.size w A ∧ N ≤ 1001 ∧ Rw 3 cur cap N (cellsE fS A) ∧ St w.heap.size w ww [(bo, frO cur)] ∧ Is [(1, .int .i64 1000), (5, .slice (some ⟨bo, 0, none⟩) N cap), (12, .slice p n c), (13, .int .i64 ((n : Nat) : Int)), (14, .int .i64 ((i : Nat) : Int))] ρ) (n - 0) ⟨0, l, [], 0, (gs2 0).b, 0, #[], rfl, rfl, hF.start, by omega, (fun _ h => nomatch h), by omega, ⟨rfl, Nat.le_refl _, by unfold maxLen; omega, rfl, rfl⟩, H4, (Is.of ⟨kr, kr, kr, kr, kr, trivial⟩)⟩ ?_
  clear H4
  rintro _ _ w4 ⟨i, r, A, N, bo, cap, cur, rfl, hNA, hR, hN, hA, hN5, hRw, H5, _, rfl⟩
  by_cases hi : i < n
  · skip
    refine rS [.e (v := .bool (decide (((i : Nat) : Int) < ((n : Nat) : Int)))) (v' := .bool true) (bool_eq (decide_eq_true (by omega)))] H5 kr fun gs4 w5 H6 => ?_
    refine g_seq kr ?_
    refine g_cond_t kr kr ?_
    refine g_skip kr ?_
    show WP _ _ _ _ _ _
    refine g_seq kr ?_
    refine g_block 1 kr ?_
    obtain ⟨⟨m1, s1⟩, k1, r1, b1, off1, C1, T1, fz1, p1, n1, c1, hr1, hp1, hb1, hh1, hs1, hx1, hz1, hk1, hR1, hN1⟩ := FrR.open hR hN hi
    refine rS [.o (ins := [((.tmp 12), .slice p n c), ((.tmp 14), .int .i64 ((i : Nat) : Int))]) (v := .pointer (some ⟨b1, off1 + i * 3, none⟩)) (fun ρ o w ho hi2 => idxR_run (kd := .i64) (t := 22) (e := 34) (K := 3) (bytes := 48) kr (x := (.tmp 12)) (y := (.tmp 14)) b1 off1 n c i hp1 ho hi2.1 hi2.2.1 (by omega) w), .fp (off := off1 + i * 3) (n := 3) (W := #[.int .u64 ((m1 : Nat) : Int), .string s1, .slice p1 n1 c1]) hh1 hb1 hs1 hx1, .a, .s 1] H6 kr fun gs5 w6 H7 => ?_
    by_cases h1000 : N ≤ 1000
    · refine rS [.v, .v, .v, .e (v := .bool (decide (((N : Nat) : Int) ≤ 1000))) (v' := .bool true) (bool_eq (decide_eq_true (by omega)))] H7 kr fun gs6 w7 H8 => ?_
      refine g_cond_t kr kr ?_
      refine g_reg0 [0, 1, 2, 3, 4] kr ?_
      refine rp [.v, .l 1] H8 kr fun gs7 w8 H9 => ?_
      show WPs _ _ _ _ [2, 3, 4] _ _
      have H10 : St w.heap.size w w8 [(bo, frO cur), ((gs5 2).b, fdO m1 s1 p1 n1 c1)] := H9.as kr
      refine s_new H10 (some 24) (fun b => .slice (some ⟨b, 0, none⟩) 1 1) #[.int .u64 ((m1 : Nat) : Int), .string s1, .slice p1 n1 c1] 34 (fun w => by kernel_rfl) kr ?_
      intro bn w9 H11
      refine s_grow (K' := 3) H11 (some 25) 22 34 48 (.tmp 22) (.tmp 24) 1 0 bo bn N cap 1 cur #[.int .u64 ((m1 : Nat) : Int), .string s1, .slice p1 n1 c1] (cellsE fS A) kr kr kr kr kr hRw kr kr rfl (one_list rfl) (by omega) (by unfold maxLen; omega) ?_
      intro b' cap' cur' w10 H12 hr'
      have H13 : St w.heap.size w w10 [(b', frO cur')] := (show St w.heap.size w w10 [(bn, frO #[.int .u64 ((m1 : Nat) : Int), .string s1, .slice p1 n1 c1]), (b', frO cur'), ((gs5 2).b, fdO m1 s1 p1 n1 c1)] from H12).sub (List.Sublist.cons _ (List.Sublist.cons_cons _ (List.nil_sublist _)))
      refine rp [.v] H13 kr fun gs8 w11 H14 => ?_
      show WPs _ _ _ _ [] _ _
      refine s_nil ?_
      show WP _ _ _ _ _ _
      refine rL [.e (v := .int .i64 (IntKind.i64.wrap (((i : Nat) : Int) + 1))) (v' := .int .i64 ((i + 1 : Nat) : Int)) (int_eq (wrapAdd_i64 (a := i) (b := 1) (by omega))), .v] H14 kr fun gs9 w12 H15 => ?_
      show ∃ m, _ ∧ _
      refine ⟨_, (by omega), i + 1, r1, A ++ [(⟨(m1, s1), p1, n1, c1, k1⟩ : El (Nat × ByteArray))], N + 1, b', cap', cur', rfl, by rw [List.length_append, ← hNA]; rfl, hR1, hN1, hA.snoc hk1, by omega, ?_, H15.as kr, (Is.of ⟨kr, kr, kr, kr, kr, trivial⟩)⟩
      rw [cellsE_snoc]; exact hr'
    · refine rS [.v, .v, .v, .e (v := .bool (decide (((N : Nat) : Int) ≤ 1000))) (v' := .bool false) (bool_eq (decide_eq_false (by omega)))] H7 kr fun gs6 w7 H8 => ?_
      refine g_cond_f kr kr ?_
      refine g_skip kr ?_
      show WP _ _ _ _ _ _
      have H13 : St w.heap.size w w7 [(bo, frO cur)] := (show St w.heap.size w w7 [(bo, frO cur), ((gs5 2).b, fdO m1 s1 p1 n1 c1)] from H8).sub (List.Sublist.cons_cons _ (List.nil_sublist _))
      refine rL [.e (v := .int .i64 (IntKind.i64.wrap (((i : Nat) : Int) + 1))) (v' := .int .i64 ((i + 1 : Nat) : Int)) (int_eq (wrapAdd_i64 (a := i) (b := 1) (by omega))), .v] H13 kr fun gs9 w12 H15 => ?_
      show ∃ m, _ ∧ _
      exact ⟨_, (by omega), i + 1, r1, A, N, bo, cap, cur, rfl, hNA, hR1, hN1, hA, hN5, hRw, H15.as kr, (Is.of ⟨kr, kr, kr, kr, kr, trivial⟩)⟩
  · refine rS [.e (v := .bool (decide (((i : Nat) : Int) < ((n : Nat) : Int)))) (v' := .bool false) (bool_eq (decide_eq_false (by omega)))] H5 kr fun gs4 w5 H6 => ?_
    refine g_seq kr ?_
    refine g_cond_f kr kr ?_
    refine g_exit 0 kr ?_
    show WP _ _ _ _ _ _
    refine g_seq kr ?_
    refine rS [.v] H6 kr fun gs5 w6 H7 => ?_
    refine g_block 2 kr ?_
    have H8 : St w.heap.size w w6 [(bo, frO cur)] := H7.as kr
    refine g_loop kr (fun mz ρ ww => ∃ (q : Nat) (A : List (El (Nat × ByteArray))) (N bo cap : Nat) (cur : Array Value), 1002 - q = mz ∧ N = A.length ∧ AllF w.heap.size w A ∧ N ≤ 1001 ∧ q ≤ N ∧ Rw 3 cur cap N (cellsE fS A) ∧ St w.heap.size w ww [(bo, frO cur)] ∧ Is [(1, .int .i64 1000), (5, .slice (some ⟨bo, 0, none⟩) N cap), (8, .int .i64 ((q : Nat) : Int))] ρ) (1002 - 0) ⟨0, A, N, bo, cap, cur, rfl, hNA, hA, hN5, Nat.zero_le _, hRw, H8, (Is.of ⟨kr, kr, kr, trivial⟩)⟩ ?_
    clear H5 H6 H7 H8 hR hN hi hRw hA hNA hN5
    clear bo cap cur N A i r
    rintro _ _ w4 ⟨q, A, N, bo, cap, cur, rfl, hNA, hA, hN5, hq, hRw, H5, _, rfl⟩
    by_cases hqN : q < N
    · by_cases h1000 : N ≤ 1000
      · refine g_seq kr ?_
        refine g_seq kr ?_
        refine rL [.v, .v, .v, .e (v := .bool (decide (((q : Nat) : Int) < ((N : Nat) : Int)))) (v' := .bool true) (bool_eq (decide_eq_true (by omega))), .v, .v, .v, .v, .e (v := .bool (decide (((N : Nat) : Int) ≤ 1000))) (v' := .bool true) (bool_eq (decide_eq_true (by omega))), .v] H5 kr fun gs4 w5 H6 => ?_
        show WP _ _ _ _ _ _
        refine g_cond_t kr kr ?_
        refine g_skip kr ?_
        show WP _ _ _ _ _ _
        obtain ⟨x, hx⟩ : ∃ x, A[q]? = some x := ⟨_, List.getElem?_eq_getElem (by omega)⟩
        have hxA := hA x (List.mem_of_getElem? hx)
        have hxn := hxA.1
        have hxm : x.n ≤ 140737488355328 := hxA.2.1
        have hcell : cur[0 + q * 3 + 2]? = some (.slice x.p x.n x.c) := by
          rw [Nat.zero_add, hRw.get _ (by omega)]
          exact cellsE_get (S := fS) A q x hx 2 (by decide)
        refine g_seq kr ?_
        refine g_block 3 kr ?_
        refine rS [.v, .v, .o (ins := [((.tmp 39), .slice (some ⟨bo, 0, none⟩) N cap), ((.tmp 40), .int .i64 ((q : Nat) : Int))]) (v := .pointer (some ⟨bo, 0 + q * 3, none⟩)) (fun ρ o w ho hi2 => idxR_run (kd := .i64) (t := 22) (e := 34) (K := 3) (bytes := 48) kr (x := (.tmp 39)) (y := (.tmp 40)) bo 0 N cap q rfl ho hi2.1 hi2.2.1 (by omega) w), .v, .ls 0 (C := cur) (off := 0 + q * 3 + 2) (v := .slice x.p x.n x.c) hcell, .v, .v] H6 kr fun gs5 w6 H7 => ?_
        refine g_block 4 kr ?_
        have H8 : St w.heap.size w w6 [(bo, frO cur)] := H7.as kr
        clear H5 H6 H7
        refine g_loop kr (fun mz ρ ww => ∃ (i : Nat) (r : Fe) (A : List (El (Nat × ByteArray))) (N bo cap : Nat) (cur : Array Value), x.n - i = mz ∧ N = A.length ∧ FrR fS w.heap.size w x.p i r ∧ i + r.len = x.n ∧ AllF w.heap.size w A ∧ N ≤ 1001 ∧ q < N ∧ Rw 3 cur cap N (cellsE fS A) ∧ St w.heap.size w ww [(bo, frO cur)] ∧ Is [(1, .int .i64 1000), (5, .slice (some ⟨bo, 0, none⟩) N cap), (8, .int .i64 ((q : Nat) : Int)), (43, .slice x.p x.n x.c), (44, .int .i64 ((x.n : Nat) : Int)), (45, .int .i64 ((i : Nat) : Int))] ρ) (x.n - 0) ⟨0, x.k, A, N, bo, cap, cur, rfl, hNA, hxA.start, by omega, hA, hN5, hqN, hRw, H8, (Is.of ⟨kr, kr, kr, kr, kr, kr, trivial⟩)⟩ ?_
        clear H8 hRw hA hNA hN5 hcell hx h1000 hqN hq
        clear bo cap cur N A
        rintro _ _ w4 ⟨i, r, A, N, bo, cap, cur, rfl, hNA, hR, hN, hA, hN5, hqN, hRw, H5, _, rfl⟩
        by_cases hi : i < x.n
        · skip
          refine rS [.e (v := .bool (decide (((i : Nat) : Int) < ((x.n : Nat) : Int)))) (v' := .bool true) (bool_eq (decide_eq_true (by omega)))] H5 kr fun gs4 w5 H6 => ?_
          refine g_seq kr ?_
          refine g_cond_t kr kr ?_
          refine g_skip kr ?_
          show WP _ _ _ _ _ _
          refine g_seq kr ?_
          refine g_block 5 kr ?_
          obtain ⟨⟨m1, s1⟩, k1, r1, b1, off1, C1, T1, fz1, p1, n1, c1, hr1, hp1, hb1, hh1, hs1, hx1, hz1, hk1, hR1, hN1⟩ := FrR.open hR hN hi
          refine rS [.o (ins := [((.tmp 43), .slice x.p x.n x.c), ((.tmp 45), .int .i64 ((i : Nat) : Int))]) (v := .pointer (some ⟨b1, off1 + i * 3, none⟩)) (fun ρ o w ho hi2 => idxR_run (kd := .i64) (t := 22) (e := 34) (K := 3) (bytes := 48) kr (x := (.tmp 43)) (y := (.tmp 45)) b1 off1 x.n x.c i hp1 ho hi2.1 hi2.2.1 (by omega) w), .fp (off := off1 + i * 3) (n := 3) (W := #[.int .u64 ((m1 : Nat) : Int), .string s1, .slice p1 n1 c1]) hh1 hb1 hs1 hx1, .a, .s 1] H6 kr fun gs5 w6 H7 => ?_
          by_cases h1000 : N ≤ 1000
          · refine rS [.v, .v, .v, .e (v := .bool (decide (((N : Nat) : Int) ≤ 1000))) (v' := .bool true) (bool_eq (decide_eq_true (by omega)))] H7 kr fun gs6 w7 H8 => ?_
            refine g_cond_t kr kr ?_
            refine g_reg0 [0, 1, 2, 3, 4] kr ?_
            refine rp [.v, .l 1] H8 kr fun gs7 w8 H9 => ?_
            show WPs _ _ _ _ [2, 3, 4] _ _
            have H10 : St w.heap.size w w8 [(bo, frO cur), ((gs5 2).b, fdO m1 s1 p1 n1 c1)] := H9.as kr
            refine s_new H10 (some 55) (fun b => .slice (some ⟨b, 0, none⟩) 1 1) #[.int .u64 ((m1 : Nat) : Int), .string s1, .slice p1 n1 c1] 34 (fun w => by kernel_rfl) kr ?_
            intro bn w9 H11
            refine s_grow (K' := 3) H11 (some 56) 22 34 48 (.tmp 53) (.tmp 55) 1 0 bo bn N cap 1 cur #[.int .u64 ((m1 : Nat) : Int), .string s1, .slice p1 n1 c1] (cellsE fS A) kr kr kr kr kr hRw kr kr rfl (one_list rfl) (by omega) (by unfold maxLen; omega) ?_
            intro b' cap' cur' w10 H12 hr'
            have H13 : St w.heap.size w w10 [(b', frO cur')] := (show St w.heap.size w w10 [(bn, frO #[.int .u64 ((m1 : Nat) : Int), .string s1, .slice p1 n1 c1]), (b', frO cur'), ((gs5 2).b, fdO m1 s1 p1 n1 c1)] from H12).sub (List.Sublist.cons _ (List.Sublist.cons_cons _ (List.nil_sublist _)))
            refine rp [.v] H13 kr fun gs8 w11 H14 => ?_
            show WPs _ _ _ _ [] _ _
            refine s_nil ?_
            show WP _ _ _ _ _ _
            refine rL [.e (v := .int .i64 (IntKind.i64.wrap (((i : Nat) : Int) + 1))) (v' := .int .i64 ((i + 1 : Nat) : Int)) (int_eq (wrapAdd_i64 (a := i) (b := 1) (by omega))), .v] H14 kr fun gs9 w12 H15 => ?_
            show ∃ m, _ ∧ _
            refine ⟨_, (by omega), i + 1, r1, A ++ [(⟨(m1, s1), p1, n1, c1, k1⟩ : El (Nat × ByteArray))], N + 1, b', cap', cur', rfl, by rw [List.length_append, ← hNA]; rfl, hR1, hN1, hA.snoc hk1, by omega, by omega, ?_, H15.as kr, (Is.of ⟨kr, kr, kr, kr, kr, kr, trivial⟩)⟩
            rw [cellsE_snoc]; exact hr'
          · refine rS [.v, .v, .v, .e (v := .bool (decide (((N : Nat) : Int) ≤ 1000))) (v' := .bool false) (bool_eq (decide_eq_false (by omega)))] H7 kr fun gs6 w7 H8 => ?_
            refine g_cond_f kr kr ?_
            refine g_skip kr ?_
            show WP _ _ _ _ _ _
            have H13 : St w.heap.size w w7 [(bo, frO cur)] := (show St w.heap.size w w7 [(bo, frO cur), ((gs5 2).b, fdO m1 s1 p1 n1 c1)] from H8).sub (List.Sublist.cons_cons _ (List.nil_sublist _))
            refine rL [.e (v := .int .i64 (IntKind.i64.wrap (((i : Nat) : Int) + 1))) (v' := .int .i64 ((i + 1 : Nat) : Int)) (int_eq (wrapAdd_i64 (a := i) (b := 1) (by omega))), .v] H13 kr fun gs9 w12 H15 => ?_
            show ∃ m, _ ∧ _
            exact ⟨_, (by omega), i + 1, r1, A, N, bo, cap, cur, rfl, hNA, hR1, hN1, hA, hN5, hqN, hRw, H15.as kr, (Is.of ⟨kr, kr, kr, kr, kr, kr, trivial⟩)⟩
        · refine rS [.e (v := .bool (decide (((i : Nat) : Int) < ((x.n : Nat) : Int)))) (v' := .bool false) (bool_eq (decide_eq_false (by omega)))] H5 kr fun gs4 w5 H6 => ?_
          refine g_seq kr ?_
          refine g_cond_f kr kr ?_
          refine g_exit 4 kr ?_
          show WP _ _ _ _ _ _
          refine rL [.v, .e (v := .int .i64 (IntKind.i64.wrap (((q : Nat) : Int) + 1))) (v' := .int .i64 ((q + 1 : Nat) : Int)) (int_eq (wrapAdd_i64 (a := q) (b := 1) (by omega))), .v] H6 kr fun gs5 w6 H7 => ?_
          show ∃ m, _ ∧ _
          exact ⟨_, (by omega), q + 1, A, N, bo, cap, cur, rfl, hNA, hA, hN5, hqN, hRw, H7.as kr, (Is.of ⟨kr, kr, kr, trivial⟩)⟩
      · refine g_seq kr ?_
        refine g_seq kr ?_
        refine rL [.v, .v, .v, .e (v := .bool (decide (((q : Nat) : Int) < ((N : Nat) : Int)))) (v' := .bool true) (bool_eq (decide_eq_true (by omega))), .v, .v, .v, .v, .e (v := .bool (decide (((N : Nat) : Int) ≤ 1000))) (v' := .bool false) (bool_eq (decide_eq_false (by omega))), .v] H5 kr fun gs4 w5 H6 => ?_
        show WP _ _ _ _ _ _
        refine g_cond_f kr kr ?_
        refine g_exit 2 kr ?_
        show WP _ _ _ _ _ _
        refine rS [.v, .v, .v] H6 kr fun gs5 w6 H7 => ?_
        refine rRr [.tmp 4] [] (.int .i64 ((N : Nat) : Int)) (outT w.heap.size w (fun v T => ∃ m : Nat, v = .int .i64 ((m : Nat) : Int))) H7 kr ?_
        exact ⟨[], ⟨N, rfl⟩, H7.sub (List.nil_sublist _)⟩
    · refine g_seq kr ?_
      refine g_seq kr ?_
      refine rL [.v, .v, .v, .e (v := .bool (decide (((q : Nat) : Int) < ((N : Nat) : Int)))) (v' := .bool false) (bool_eq (decide_eq_false (by omega))), .v, .n, .n, .n, .n, .v] H5 kr fun gs4 w5 H6 => ?_
      show WP _ _ _ _ _ _
      refine g_cond_f kr kr ?_
      refine g_exit 2 kr ?_
      show WP _ _ _ _ _ _
      refine rS [.v, .v, .v] H6 kr fun gs5 w6 H7 => ?_
      refine rRr [.tmp 4] [] (.int .i64 ((N : Nat) : Int)) (outT w.heap.size w (fun v T => ∃ m : Nat, v = .int .i64 ((m : Nat) : Int))) H7 kr ?_
      exact ⟨[], ⟨N, rfl⟩, H7.sub (List.nil_sublist _)⟩
def FLikeC (l : Fe) : Prop := ∀ (p : Option Addr) (n c : Nat) (p' : Option Addr) (n' c' : Nat),
  FnP Tryd.prog 7 #[.slice p n c, .slice p' n' c'] (fun w => SlR fS w.heap.size w p n l ∧ SlR fS w.heap.size w p' n' l) (.bool true)
set_option maxRecDepth 100000 in
set_option maxHeartbeats 4000000 in
theorem flike_step (l : Fe) (hs : l.sub FLikeC) : FLikeC l := by
  intro p n c p' n' c'
  refine FnP.intro (c := codeOf Tryd.f7) [.tmp 4] 55 Tryd.func7 kr kr kr fun w hpre => ?_
  have H0 := St.start w
  obtain ⟨hF, hG⟩ := hpre
  have hn := hF.1
  have hnm : n ≤ 140737488355328 := hF.2.1
  obtain rfl : n = n' := hn.trans hG.1.symm
  refine rS [.v] H0 kr fun gs1 w1 H1 => ?_
  refine g_seq kr ?_
  refine rS [.v, .v, .v, .v, .e (v := .bool (!(((n : Nat) : Int) == ((n : Nat) : Int)))) (v' := .bool false) (bool_eq (by rw [beq_self_eq_true]; rfl))] H1 kr fun gs2 w2 H2 => ?_
  refine g_cond_f kr kr ?_
  refine g_skip kr ?_
  show WP _ _ _ _ _ _
  refine g_seq kr ?_
  refine rS [.v, .v, .v] H2 kr fun gs3 w3 H3 => ?_
  refine g_block 0 kr ?_
  have H4 : St w.heap.size w w3 [] := H3.as kr
  refine g_loop kr (fun mz ρ ww => ∃ (i : Nat) (r : Fe), n - i = mz ∧ FrR fS w.heap.size w p i r ∧ FrR fS w.heap.size w p' i r ∧ i + r.len = n ∧ r.sub FLikeC ∧ St w.heap.size w ww [] ∧ Is [(0, .slice p n c), (1, .slice p' n c'), (12, .int .i64 ((n : Nat) : Int)), (13, .int .i64 ((i : Nat) : Int))] ρ) (n - 0) ⟨0, l, rfl, hF.start, hG.start, by omega, hs, H4, (Is.of ⟨kr, kr, kr, kr, trivial⟩)⟩ ?_
  clear H0 H1 H2 H3 H4
  rintro _ _ w4 ⟨i, r, rfl, hR, hR', hN, hsub, H5, _, rfl⟩
  by_cases hi : i < n
  · refine rS [.e (v := .bool (decide (((i : Nat) : Int) < ((n : Nat) : Int)))) (v' := .bool true) (bool_eq (decide_eq_true (by omega)))] H5 kr fun gs4 w5 H6 => ?_
    refine g_seq kr ?_
    refine g_cond_t kr kr ?_
    refine g_skip kr ?_
    show WP _ _ _ _ _ _
    refine g_seq kr ?_
    refine g_block 1 kr ?_
    obtain ⟨⟨m1, s1⟩, k1, r1, b1, off1, C1, T1, fz1, p1, n1, c1, hr1, hp1, hb1, hh1, hs1, hx1, hz1, hk1, hR1, hN1⟩ := FrR.open hR hN hi
    obtain ⟨a2, k2, r2, b2, off2, C2, T2, fz2, p2, n2, c2, hr2, hp2, hb2, hh2, hs2, hx2, hz2, hk2, hR2, hN2⟩ := FrR.open hR' hN hi
    subst hr1
    obtain ⟨rfl, rfl, rfl⟩ : a2 = (m1, s1) ∧ k2 = k1 ∧ r2 = r1 := by injection hr2 with h1 h2 h3; exact ⟨h1.symm, h2.symm, h3.symm⟩
    obtain ⟨e1, e2, e3⟩ := ext3 hs1 hx1
    obtain ⟨f1, f2, f3⟩ := ext3 hs2 hx2
    refine rS [.v, .v] H6 kr fun gs5 w6 H7 => ?_
    refine g_seq kr ?_
    refine dL [.v, .v, .o (ins := [((.tmp 16), .slice p n c), ((.tmp 17), .int .i64 ((i : Nat) : Int))]) (v := .pointer (some ⟨b1, off1 + i * 3, none⟩)) (fun ρ o w ho hi2 => idxR_run (kd := .i64) (t := 22) (e := 34) (K := 3) (bytes := 48) kr (x := (.tmp 16)) (y := (.tmp 17)) b1 off1 n c i hp1 ho hi2.1 hi2.2.1 (by omega) w), .v, .fs (off := off1 + i * 3) (v := .int .u64 ((m1 : Nat) : Int)) hh1 hb1 e1, .v, .v, .o (ins := [((.tmp 21), .slice p' n c'), ((.tmp 22), .int .i64 ((i : Nat) : Int))]) (v := .pointer (some ⟨b2, off2 + i * 3, none⟩)) (fun ρ o w ho hi2 => idxR_run (kd := .i64) (t := 22) (e := 34) (K := 3) (bytes := 48) kr (x := (.tmp 21)) (y := (.tmp 22)) b2 off2 n c' i hp2 ho hi2.1 hi2.2.1 (by omega) w), .v, .fs (off := off2 + i * 3) (v := .int .u64 ((m1 : Nat) : Int)) hh2 hb2 f1, .e (v := .bool (!(((m1 : Nat) : Int) == ((m1 : Nat) : Int)))) (v' := .bool false) (bool_eq (by rw [beq_self_eq_true]; rfl)), .v, .v, .v, .o (ins := [((.tmp 28), .slice p n c), ((.tmp 29), .int .i64 ((i : Nat) : Int))]) (v := .pointer (some ⟨b1, off1 + i * 3, none⟩)) (fun ρ o w ho hi2 => idxR_run (kd := .i64) (t := 22) (e := 34) (K := 3) (bytes := 48) kr (x := (.tmp 28)) (y := (.tmp 29)) b1 off1 n c i hp1 ho hi2.1 hi2.2.1 (by omega) w), .v, .fs (off := off1 + i * 3 + 1) (v := .string s1) hh1 hb1 e2, .v, .v, .o (ins := [((.tmp 33), .slice p' n c'), ((.tmp 34), .int .i64 ((i : Nat) : Int))]) (v := .pointer (some ⟨b2, off2 + i * 3, none⟩)) (fun ρ o w ho hi2 => idxR_run (kd := .i64) (t := 22) (e := 34) (K := 3) (bytes := 48) kr (x := (.tmp 33)) (y := (.tmp 34)) b2 off2 n c' i hp2 ho hi2.1 hi2.2.1 (by omega) w), .v, .fs (off := off2 + i * 3 + 1) (v := .string s1) hh2 hb2 f2, .e (v := .bool (!(s1.toList == s1.toList))) (v' := .bool false) (bool_eq (by rw [beq_self_eq_true]; rfl)), .v, .v, .v, .v, .o (ins := [((.tmp 41), .slice p n c), ((.tmp 42), .int .i64 ((i : Nat) : Int))]) (v := .pointer (some ⟨b1, off1 + i * 3, none⟩)) (fun ρ o w ho hi2 => idxR_run (kd := .i64) (t := 22) (e := 34) (K := 3) (bytes := 48) kr (x := (.tmp 41)) (y := (.tmp 42)) b1 off1 n c i hp1 ho hi2.1 hi2.2.1 (by omega) w), .v, .fs (off := off1 + i * 3 + 2) (v := .slice p1 n1 c1) hh1 hb1 e3, .v, .v, .o (ins := [((.tmp 46), .slice p' n c'), ((.tmp 47), .int .i64 ((i : Nat) : Int))]) (v := .pointer (some ⟨b2, off2 + i * 3, none⟩)) (fun ρ o w ho hi2 => idxR_run (kd := .i64) (t := 22) (e := 34) (K := 3) (bytes := 48) kr (x := (.tmp 46)) (y := (.tmp 47)) b2 off2 n c' i hp2 ho hi2.1 hi2.2.1 (by omega) w), .v, .fs (off := off2 + i * 3 + 2) (v := .slice p2 n2 c2) hh2 hb2 f3, .cp (pre := fun w => SlR fS w.heap.size w p1 n1 k2 ∧ SlR fS w.heap.size w p2 n2 k2) (hsub.1 p1 n1 c1 p2 n2 c2) [] (fun w hb hd => ⟨hk1.call hb, hk2.call hb⟩), .v, .v] H7 kr fun w7 H8 => ?_
    show WP _ _ _ _ _ _
    refine g_cond_f kr kr ?_
    refine g_skip kr ?_
    show WP _ _ _ _ _ _
    refine rL [.e (v := .int .i64 (IntKind.i64.wrap (((i : Nat) : Int) + 1))) (v' := .int .i64 ((i + 1 : Nat) : Int)) (int_eq (wrapAdd_i64 (a := i) (b := 1) (by omega))), .v] H8 kr fun gs9 w12 H15 => ?_
    show ∃ m, _ ∧ _
    exact ⟨_, (by omega), i + 1, r2, rfl, hR1, hR2, hN1, hsub.2, H15.as kr, (Is.of ⟨kr, kr, kr, kr, trivial⟩)⟩
  · refine rS [.e (v := .bool (decide (((i : Nat) : Int) < ((n : Nat) : Int)))) (v' := .bool false) (bool_eq (decide_eq_false (by omega)))] H5 kr fun gs4 w5 H6 => ?_
    refine g_seq kr ?_
    refine g_cond_f kr kr ?_
    refine g_exit 0 kr ?_
    show WP _ _ _ _ _ _
    refine rS [.v] H6 kr fun gs5 w6 H7 => ?_
    exact rR [.tmp 4] [] (.bool true) H7 kr
theorem flike_fn (l : Fe) : FLikeC l := (Fr.induct flike_step l).1
end Go.Proofs.YtkkbkpneodecnaaDoor

namespace Go.Proofs.YtkkbkpneodecnaaDoor
open Go Go.RowKit
set_option linter.unusedVariables false
theorem writeM_inj {k : Kf} {l l' : Fe} {s : ByteArray} (h : writeM 40 k (0, ⟨#[]⟩) l = (s, 0)) (h' : writeM 40 k (0, ⟨#[]⟩) l' = (s, 0)) (ho : l.all fS.ok) (ho' : l'.all fS.ok) : l = l' := by
  obtain ⟨h1, h2⟩ := writeM_ok h
  obtain ⟨h1', h2'⟩ := writeM_ok h'
  have hi := is_of_enc h2
  have hz : s.size ≤ 4000 := by
    have := encS_ok (show (encS true ⟨#[]⟩ (item1 40 k l).len (item1 40 k l)).2 = 0 by rw [h2])
    have h9 := congrArg ByteArray.size this.1
    rw [h2, strB_size, this.2.2.2.2.2.2] at h9
    simp only at h9
    omega
  have e := (itIs.inj hz hi (is_of_enc h2')).2.2
  rw [← (writeM_field (by decide) ho h1).2.2, ← (writeM_field (by decide) ho' h1').2.2, e]
theorem wrV_size (form : ByteArray) (l : Fe) : (wrV form l).1.size ≤ 4000 := by
  unfold wrV
  split
  · exact Nat.zero_le _
  · rename_i k _
    rcases writeM_two k l with h | h
    · have h2 := writeM_ok (s := (writeM 40 k (0, ⟨#[]⟩) l).1) (Prod.ext rfl h)
      have := encS_ok (show (encS true ⟨#[]⟩ (item1 40 k l).len (item1 40 k l)).2 = 0 by rw [h2.2])
      have h9 := congrArg ByteArray.size this.1
      rw [h2.2, strB_size, this.2.2.2.2.2.2] at h9
      simp only at h9
      omega
    · rw [h]; exact Nat.zero_le _
theorem wrV_some {form : ByteArray} {l : Fe} (h : (wrV form l).2 = 0) : ∃ k, parseM form = some k ∧ writeM 40 k (0, ⟨#[]⟩) l = ((wrV form l).1, 0) := by
  unfold wrV at h ⊢
  cases hp : parseM form with
  | none => rw [hp] at h; exact absurd h Nat.one_ne_zero
  | some k => rw [hp] at h; exact ⟨k, rfl, Prod.ext rfl h⟩
def aliveL : Fe := .cons (5, ⟨#[]⟩) .nil (.cons (0, ⟨#[]⟩) (.cons (1, ⟨#[]⟩) .nil (.cons (2, ⟨#[]⟩) .nil .nil)) .nil)
theorem alive_wr : wrV ⟨#[110, 42, 110]⟩ aliveL = (⟨#[196, 5, 194, 1, 2]⟩, 0) := kr
set_option maxRecDepth 100000 in
set_option maxHeartbeats 4000000 in
theorem falive_fn : Fn Tryd.prog 8 #[] (.bool true) := by
  refine Fn.intro (c := codeOf Tryd.f8) [.tmp 0] 19 Tryd.func8 kr kr kr fun w => ?_
  have H0 := St.start w
  refine rS [.v] H0 kr fun gs1 w1 H1 => ?_
  refine g_sreg [0, 1, 2, 3, 4, 5, 6, 7, 8, 9, 10, 11] kr kr ?_
  refine rp [.v, .v, .v, .nw (fun b => .slice (some ⟨b, 0, none⟩) 2 2) #[.int .u64 1, .string ⟨#[]⟩, .slice none 0 0, .int .u64 2, .string ⟨#[]⟩, .slice none 0 0] 34, .v] H1 kr fun gs2 w2 H2 => ?_
  show WPs _ _ _ _ [5, 6, 7, 8, 9, 10, 11] _ _
  refine rp [.nw (fun b => .slice (some ⟨b, 0, none⟩) 2 2) #[.int .u64 5, .string ⟨#[]⟩, .slice none 0 0, .int .u64 0, .string ⟨#[]⟩, .slice (some ⟨(gs2 3).b, 0, none⟩) 2 2] 34] H2 kr fun gs3 w3 H3 => ?_
  show WPs _ _ _ _ [6, 7, 8, 9, 10, 11] _ _
  have H4 : St w.heap.size w w3 [((gs2 3).b, frO #[.int .u64 1, .string ⟨#[]⟩, .slice none 0 0, .int .u64 2, .string ⟨#[]⟩, .slice none 0 0]), ((gs3 0).b, frO #[.int .u64 5, .string ⟨#[]⟩, .slice none 0 0, .int .u64 0, .string ⟨#[]⟩, .slice (some ⟨(gs2 3).b, 0, none⟩) 2 2])] := H3.as kr
  have hin : RIn fS [((gs2 3).b, frO #[.int .u64 1, .string ⟨#[]⟩, .slice none 0 0, .int .u64 2, .string ⟨#[]⟩, .slice none 0 0]), ((gs3 0).b, frO #[.int .u64 5, .string ⟨#[]⟩, .slice none 0 0, .int .u64 0, .string ⟨#[]⟩, .slice (some ⟨(gs2 3).b, 0, none⟩) 2 2])] (some ⟨(gs3 0).b, 0, none⟩) 2 aliveL := by
    have k0 : ((0 : Nat) : Nat) < 18446744073709551616 := by decide
    refine ⟨rfl, by decide, .inr ⟨_, 0, rfl, ⟨_, _, _, _, _, _, List.mem_cons_of_mem _ (List.mem_cons_self ..), of_decide_eq_true kr, rfl, ⟨by decide, by decide⟩, rfl, by decide, .inl rfl⟩, ⟨_, _, _, _, _, _, List.mem_cons_of_mem _ (List.mem_cons_self ..), of_decide_eq_true kr, rfl, ⟨by decide, by decide⟩, rfl, by decide, .inr ⟨_, 0, rfl, ⟨_, _, _, _, _, _, List.mem_cons_self .., of_decide_eq_true kr, rfl, ⟨by decide, by decide⟩, rfl, by decide, .inl rfl⟩, ⟨_, _, _, _, _, _, List.mem_cons_self .., of_decide_eq_true kr, rfl, ⟨by decide, by decide⟩, rfl, by decide, .inl rfl⟩, trivial⟩⟩, trivial⟩⟩
  refine s_callP H4 (some 10) 5 #[.string ⟨#[110, 42, 110]⟩, .slice (some ⟨(gs3 0).b, 0, none⟩) 2 2] _ _ (fWrite_fn ⟨#[110, 42, 110]⟩ (some ⟨(gs3 0).b, 0, none⟩) 2 2 aliveL) (hin.at H4 fun e he => he) (fun w => by kernel_rfl) kr ?_
  intro w4 H5
  rw [alive_wr]
  refine rp [.v, .v, .v, .v, .v] H5 kr fun gs4 w5 H6 => ?_
  show WPs _ _ _ _ [] _ _
  refine s_nil ?_
  refine rS [.v, .v, .v, .v, .v, .v, .v] H6 kr fun gs5 w6 H7 => ?_
  exact rR [.tmp 0] [] (.bool true) H7 kr
set_option maxRecDepth 100000 in
set_option maxHeartbeats 4000000 in
theorem frameBack_fn (form : ByteArray) (p : Option Addr) (n c : Nat) (l : Fe) (q : ByteArray) (hf : form.size ≤ 9223372036854775807) (hq : q.size ≤ 9223372036854775807) : FnP Tryd.prog 3 #[.string form, .slice p n c, .string q] (fun w => SlR fS w.heap.size w p n l) (.bool true) := by
  refine FnP.intro (c := codeOf Tryd.f3) [.tmp 6] 80 Tryd.func3 kr kr kr fun w hF => ?_
  have H0 := St.start w
  refine rS [.v] H0 kr fun gs1 w1 H1 => ?_
  refine dS [.v, .v, .v, .e (v := .int .i64 (if (60 : Int) < (((ByteArray.size form : Nat) : Int) : Int) then (60 : Int) else (((ByteArray.size form : Nat) : Int) : Int))) (v' := .int .i64 ((min (ByteArray.size form) 60 : Nat) : Int)) (int_eq (minN (ByteArray.size form) 60)), .o (ins := [((.tmp 15), .string form), ((.tmp 18), .int .i64 ((min (ByteArray.size form) 60 : Nat) : Int))]) (v := .string (ByteArray.extract form 0 (min (ByteArray.size form) 60))) (fun ρ o w ho hi => scut_run (t := 9) (kd := .i64) kr (x := (.tmp 15)) (y := (.tmp 18)) form _ ho hi.1 hi.2.1 (by omega) w),
    .v, .v, .v, .e (v := .int .i64 (if (4100 : Int) < (((ByteArray.size q : Nat) : Int) : Int) then (4100 : Int) else (((ByteArray.size q : Nat) : Int) : Int))) (v' := .int .i64 ((min (ByteArray.size q) 4100 : Nat) : Int)) (int_eq (minN (ByteArray.size q) 4100)), .o (ins := [((.tmp 20), .string q), ((.tmp 23), .int .i64 ((min (ByteArray.size q) 4100 : Nat) : Int))]) (v := .string (ByteArray.extract q 0 (min (ByteArray.size q) 4100))) (fun ρ o w ho hi => scut_run (t := 9) (kd := .i64) kr (x := (.tmp 20)) (y := (.tmp 23)) q _ ho hi.1 hi.2.1 (by omega) w), .v, .v] H1 kr fun w2 H2 => ?_
  obtain ⟨f, hfe⟩ : ∃ f, (ByteArray.extract form 0 (min (ByteArray.size form) 60)) = f := ⟨_, rfl⟩
  obtain ⟨t, ht⟩ : ∃ t, (ByteArray.extract q 0 (min (ByteArray.size q) 4100)) = t := ⟨_, rfl⟩
  have htz : ByteArray.size t ≤ 4100 := by rw [← ht]; simp only [ByteArray.size_extract]; omega
  refine g_now 0 (v := .string (ByteArray.extract form 0 (min (ByteArray.size form) 60))) (v' := .string f) (by rw [hfe]) kr ?_
  refine g_now 2 (v := .string (ByteArray.extract q 0 (min (ByteArray.size q) 4100))) (v' := .string t) (by rw [ht]) kr ?_
  refine g_is [(0, .string f), (1, .slice p n c), (2, .string t)] kr fun ρ1 => ?_
  have H3 : St w.heap.size w w2 [] := H2.as kr
  clear H0 H1 H2
  refine g_seq kr ?_
  refine g_mono (Q := fun e ρ ww => e = .normal ∧ St w.heap.size w ww [] ∧ Is [(0, .string f), (1, .slice p n c), (2, .string t)] ρ) ?_ ?_
  · refine g_sreg [0, 1, 2] kr kr ?_
    refine rp [.v] H3 kr fun gs3 w3 H4 => ?_
    show WPs _ _ _ _ [1, 2] _ _
    refine s_callFT H4 (some 26) 4 #[.slice p n c, .int .i64 1000] (many_fn p n c l) (hF.call H4.below) kr kr ?_
    intro v T w4 hok H5
    obtain ⟨m, rfl⟩ := hok
    have H6 := H5.sub (List.nil_sublist _)
    by_cases hm : m ≤ 1000
    · refine rp [.e (v := .bool (decide (((m : Nat) : Int) ≤ 1000))) (v' := .bool true) (bool_eq (decide_eq_true (by omega)))] H6 kr fun gs4 w5 H7 => ?_
      show WPs _ _ _ _ [] _ _
      refine s_nil ?_
      refine g_cond_t kr kr ?_
      refine rS [.v, .v, .cp (pre := fun w => SlR fS w.heap.size w p n l) (fWrite_fn f p n c l) [] (fun w hb hd => hF.call hb), .v, .v, .v, .v, .v] H7 kr fun gs5 w6 H8 => ?_
      by_cases h0 : (wrV f l).2 = 0
      · refine rS [.v, .e (v := .bool ((((wrV f l).2 : Nat) : Int) == 0)) (v' := .bool true) (bool_eq (beq_iff_eq.2 (by omega)))] H8 kr fun gs6 w7 H9 => ?_
        obtain ⟨k, hpk, hwk⟩ := wrV_some h0
        refine g_cond_t kr kr ?_
        refine g_sreg [0, 1, 2, 3, 4, 5, 6, 7] kr kr ?_
        refine rp [.v, .v] H9 kr fun gs7 w8 H10 => ?_
        show WPs _ _ _ _ [2, 3, 4, 5, 6, 7] _ _
        refine s_callFT H10 (some 39) 6 #[.string f, .string (wrV f l).1] (fRead_fn f (wrV f l).1 (by have := wrV_size f l; omega)) trivial kr kr ?_
        intro v Td w9 hrd H11
        rcases hrd with ⟨p9, n9, c9, l9, k9, hp9, rfl, hR9, hw9⟩ | ⟨e, he, rfl, hno⟩
        · obtain rfl : k = k9 := Option.some.inj (hpk.symm.trans hp9)
          have hok9 := (hR9.at H11 fun e he => List.mem_append_left _ he).ok
          obtain rfl := writeM_inj hwk hw9 hF.ok hok9
          refine rp [.v, .v, .v, .v, .v] H11 kr fun gs8 w10 H12 => ?_
          show WPs _ _ _ _ [] _ _
          refine s_nil ?_
          refine g_sreg [0, 1, 2, 3, 4, 5, 6, 7] kr kr ?_
          refine rp [.v, .v, .v, .v, .v] H12 kr fun gs9 w11 H13 => ?_
          show WPs _ _ _ _ [5, 6, 7] _ _
          have H14 : St w.heap.size w w11 (Td ++ []) := H13.as kr
          refine s_callP H14 (some 47) 7 #[.slice p n c, .slice p9 n9 c9] _ _ (flike_fn l p n c p9 n9 c9) ⟨hF.call H14.below, hR9.at H14 fun e he => List.mem_append_left _ he⟩ (fun w => by kernel_rfl) kr ?_
          intro w12 H15
          refine rp [.v, .v] H15 kr fun gs10 w13 H16 => ?_
          show WPs _ _ _ _ [] _ _
          refine s_nil ?_
          refine g_cond_f kr kr ?_
          refine g_skip kr ?_
          exact ⟨rfl, H16.sub (List.nil_sublist _), (Is.of ⟨kr, kr, kr, trivial⟩)⟩
        · exact absurd hwk (hno k l hpk hF.ok)
      · refine rS [.v, .e (v := .bool ((((wrV f l).2 : Nat) : Int) == 0)) (v' := .bool false) (bool_eq (beq_eq_false_iff_ne.2 (by omega)))] H8 kr fun gs6 w7 H9 => ?_
        refine g_cond_f kr kr ?_
        refine g_skip kr ?_
        exact ⟨rfl, H9.as kr, (Is.of ⟨kr, kr, kr, trivial⟩)⟩
    · refine rp [.e (v := .bool (decide (((m : Nat) : Int) ≤ 1000))) (v' := .bool false) (bool_eq (decide_eq_false (by omega)))] H6 kr fun gs4 w5 H7 => ?_
      show WPs _ _ _ _ [] _ _
      refine s_nil ?_
      refine g_cond_f kr kr ?_
      refine g_skip kr ?_
      exact ⟨rfl, H7.as kr, (Is.of ⟨kr, kr, kr, trivial⟩)⟩
  rintro _ _ w3 ⟨rfl, H4, _, rfl⟩
  show WP _ _ _ _ _ _
  refine g_sreg [0, 1, 2, 3, 4, 5, 6, 7] kr kr ?_
  refine rp [.v, .v] H4 kr fun gs5 w5 H5 => ?_
  show WPs _ _ _ _ [2, 3, 4, 5, 6, 7] _ _
  refine s_callFT H5 (some 53) 6 #[.string f, .string t] (fRead_fn f t (by omega)) trivial kr kr ?_
  intro v T w6 hrd H6
  rcases hrd with ⟨p9, n9, c9, l9, k9, hp9, rfl, hR9, hw9⟩ | ⟨e, he, rfl, hno⟩
  · refine rp [.v, .v, .v, .v, .v] H6 kr fun gs6 w7 H7 => ?_
    show WPs _ _ _ _ [] _ _
    refine s_nil ?_
    refine g_seq kr ?_
    refine rS [.v, .v] H7 kr fun gs7 w8 H8 => ?_
    refine g_cond_f kr kr ?_
    refine g_skip kr ?_
    show WP _ _ _ _ _ _
    refine g_sreg [0, 1, 2, 3, 4, 5, 6, 7] kr kr ?_
    refine rp [.v, .v] H8 kr fun gs8 w9 H9 => ?_
    show WPs _ _ _ _ [2, 3, 4, 5, 6, 7] _ _
    have H10 : St w.heap.size w w9 (T ++ []) := H9.as kr
    refine s_callP H10 (some 67) 5 #[.string f, .slice p9 n9 c9] _ _ (fWrite_fn f p9 n9 c9 l9) (hR9.at H10 fun e he => List.mem_append_left _ he) (fun w => by kernel_rfl) kr ?_
    intro w10 H11
    have hwr : wrV f l9 = (t, 0) := by unfold wrV; rw [hp9]; exact hw9
    rw [hwr]
    have H12 := H11.sub (List.nil_sublist _)
    refine rp [.v, .v, .v, .v, .v] H12 kr fun gs9 w11 H13 => ?_
    show WPs _ _ _ _ [] _ _
    refine s_nil ?_
    refine rS [.c falive_fn, .v, .v, .v, .v, .v, .v, .v, .e (v := .bool (t.toList == t.toList)) (v' := .bool true) (bool_eq (beq_self_eq_true _)), .v, .v] H13 kr fun gs10 w12 H14 => ?_
    exact rR [.tmp 6] [] (.bool true) H14 kr
  · refine rp [.v, .v, .v, .v, .v] H6 kr fun gs6 w7 H7 => ?_
    show WPs _ _ _ _ [] _ _
    refine s_nil ?_
    refine g_seq kr ?_
    refine rS [.v, .e (v := .bool (!(e == 0))) (v' := .bool true) (bool_eq (by rw [beq_eq_false_iff_ne.2 he]; rfl))] H7 kr fun gs7 w8 H8 => ?_
    refine g_cond_t kr kr ?_
    have H9 := H8.sub (List.nil_sublist _)
    refine rS [.c falive_fn, .v, .v, .v, .v, .v, .v] H9 kr fun gs10 w12 H14 => ?_
    exact rR [.tmp 6] [] (.bool true) H14 kr
end Go.Proofs.YtkkbkpneodecnaaDoor

namespace Go.Proofs.YtkkbkpneodecnaaDoor
open Go Go.ChangeShapes Go.WideShapes Go.ChangeAt Go.RowKit
set_option linter.unusedVariables false
set_option maxRecDepth 100000
theorem cellsI : Tryd.prog.cellsOf 34 = 3 := kr
theorem cellsBo : Tryd.prog.cellsOf 32 = 1 := kr
theorem cellsSt : Tryd.prog.cellsOf 9 = 1 := kr
theorem cellsSl : Tryd.prog.cellsOf 22 = 1 := kr
theorem bytesI : Tryd.prog.bytesOf 34 = 48 := kr
theorem u64_of_wf {a : Int} (h : (Lit.int .u64 a).wf = true) : ∃ n : Nat, n < 18446744073709551616 ∧ a = ((n : Nat) : Int) := by
  have h2 : 0 ≤ a ∧ a < 18446744073709551616 := by
    simp [Lit.wf, IntKind.min, IntKind.max, IntKind.signed, IntKind.bits] at h; omega
  exact ⟨a.toNat, by omega, by omega⟩
theorem wE {H : Type} {P : Program} {t : TypeId} {ts : List TypeId} {d : DataW H} {r : List (DataW H)} : DataW.weightsEach P (t :: ts) (d :: r) = d.weights P t ++ DataW.weightsEach P ts r := by simp [DataW.weightsEach]
theorem weightsAll_mem {H : Type} {P : Program} {e : TypeId} : ∀ {l : List (DataW H)} {d : DataW H} {n : Nat}, d ∈ l → n ∈ d.weights P e → n ∈ DataW.weightsAll P e l
  | [], _, _, h, _ => nomatch h
  | x :: r, d, n, h, hn => by
    unfold DataW.weightsAll
    rcases List.mem_cons.1 h with rfl | h
    · exact List.mem_append_left _ hn
    · exact List.mem_append_right _ (weightsAll_mem h hn)
theorem frAt_row {α : Type} {S : Sh α} {B : Nat} {w : World} {b : Nat} {C : Array Value} {T : TypeId} {fz : Nat × Nat} (hb : b < B) (hh : w.heap[b]? = some (.cells C T fz)) : ∀ (L : List (El α)) (o : Nat),
    (∀ (i : Nat) (x : El α), L[i]? = some x → o + i * S.K + S.K ≤ C.size ∧ C.extract (o + i * S.K) (o + i * S.K + S.K) = (x.cs S).toArray) → (∀ x ∈ L, SlR S B w x.p x.n x.k ∧ S.ok x.a) → FrAt S B w (toFr L) b o
  | [], _, _, _ => trivial
  | x :: r, o, h, hA => by
    have h1 := h 0 x rfl
    rw [Nat.zero_mul, Nat.add_zero] at h1
    have ha := hA x (List.mem_cons_self ..)
    refine ⟨⟨C, T, fz, x.p, x.n, x.c, hb, hh, h1.1, h1.2, ha.2, ha.1.1, ha.1.2.1, ha.1.2.2⟩, ?_⟩
    refine frAt_row hb hh r (o + S.K) (fun i y hy => ?_) fun y hy => hA y (List.mem_cons_of_mem _ hy)
    have := h (i + 1) y (by simpa using hy)
    rw [show o + (i + 1) * S.K = o + S.K + i * S.K by rw [Nat.succ_mul]; omega] at this
    exact this
section
variable {H : Type} {enc : TypeId × Value → H} {W : World} {sp : Nat → Bool} {held : Bool}
theorem cells3_of {a : Addr} {cs : List Value} (h : W.cells? 0 a 3 = some cs) : ∃ c0 c1 c2, cs = [c0, c1, c2] ∧ W.cell? a = some c0 ∧ W.cell? (a.add 1) = some c1 ∧ W.cell? (a.add 2) = some c2 := by
  unfold World.cells? at h
  rw [if_pos (Nat.zero_le _), show List.range 3 = [0, 1, 2] from rfl] at h
  have e0 : a.add 0 = a := rfl
  simp only [List.mapM_cons, List.mapM_nil, e0] at h
  cases h0 : W.cell? a with
  | none => simp [h0] at h
  | some c0 =>
    cases h1 : W.cell? (a.add 1) with
    | none => simp [h0, h1] at h
    | some c1 =>
      cases h2 : W.cell? (a.add 2) with
      | none => simp [h0, h1, h2] at h
      | some c2 => simp [h0, h1, h2] at h; exact ⟨c0, c1, c2, h.symm, rfl, rfl, rfl⟩
theorem spot_none {a : Addr} {v : Value} (h : W.cell? a = some v) : a = ⟨a.block, a.off, none⟩ ∧ ∃ C T fz, W.heap[a.block]? = some (.cells C T fz) ∧ C[a.off]? = some v := by
  obtain ⟨b, o, sp⟩ := a
  unfold World.cell? at h
  split at h
  · rename_i C T fz hh
    cases sp with
    | none => simp at h; exact ⟨rfl, C, T, fz, hh, h⟩
    | some x => simp at h
  · cases h
theorem cell_at {b o : Nat} {C : Array Value} {T : TypeId} {fz : Nat × Nat} {v : Value} (hh : W.heap[b]? = some (.cells C T fz)) (h : W.cell? ⟨b, o, none⟩ = some v) : C[o]? = some v := by
  unfold World.cell? at h; simp only [hh] at h; simpa using h
theorem trod_field (fuel : Nat) : ∀ (cs : List Value) (x : DataW H × List MemPlace), DataW.trod enc Tryd.prog W 0 sp held fuel 34 cs = some x → (∀ n ∈ x.1.weights Tryd.prog 34, n ≤ 140737488355328) →
    ∃ (l : Nat) (s : ByteArray) (p : Option Addr) (n c : Nat) (k : Fe), cs = [.int .u64 ((l : Nat) : Int), .string s, .slice p n c] ∧ fS.ok (l, s) ∧ SlR fS W.heap.size W p n k := by
  induction fuel using Nat.strongRecOn with
  | _ fuel ih =>
    intro cs x h hw
    obtain ⟨xs, m, rfl, rfl, hl, hlen, hf⟩ := DataW.trod_struct Tryd.underlying34 h
    rw [cellsI] at hl
    obtain ⟨c0, c1, c2, rfl⟩ : ∃ c0 c1 c2, cs = [c0, c1, c2] := by
      match cs, hl with
      | [c0, c1, c2], _ => exact ⟨c0, c1, c2, rfl⟩
    obtain ⟨y0, y1, y2, rfl⟩ : ∃ y0 y1 y2, xs = [y0, y1, y2] := by
      match xs, hlen with
      | [y0, y1, y2], _ => exact ⟨y0, y1, y2, rfl⟩
    have g0 := hf 0 _ rfl
    have g1 := hf 1 _ rfl
    have g2 := hf 2 _ rfl
    change DataW.trod enc Tryd.prog W 0 sp held m 32 (([c0, c1, c2].drop 0).take (Tryd.prog.cellsOf 32)) = some y0 at g0
    change DataW.trod enc Tryd.prog W 0 sp held m 9 (([c0, c1, c2].drop 1).take (Tryd.prog.cellsOf 9)) = some y1 at g1
    change DataW.trod enc Tryd.prog W 0 sp held m 22 (([c0, c1, c2].drop 2).take (Tryd.prog.cellsOf 22)) = some y2 at g2
    rw [cellsBo] at g0
    rw [cellsSt] at g1
    rw [cellsSl] at g2
    obtain ⟨x0, e0, e0', wf0⟩ := DataW.trod_int Tryd.underlying32 (show DataW.trod enc Tryd.prog W 0 sp held m 32 [c0] = some y0 from g0)
    obtain ⟨l, hl64, rfl⟩ := u64_of_wf wf0
    obtain ⟨s, e1, rfl, hsz⟩ := DataW.trod_string Tryd.underlying9 (show DataW.trod enc Tryd.prog W 0 sp held m 9 [c1] = some y1 from g1)
    obtain rfl : c0 = .int .u64 ((l : Nat) : Int) := by simpa using e0
    obtain rfl : c1 = .string s := by simpa using e1
    have hwS : s.size ≤ 140737488355328 := by
      refine hw s.data.toList.length ?_
      show _ ∈ DataW.weights Tryd.prog 34 (.agg [y0.1, .lit (.string s.data.toList), y2.1])
      unfold DataW.weights
      rw [Tryd.underlying34]
      simp [DataW.weightsEach, DataW.weights]
    have hwL : ∀ n ∈ y2.1.weights Tryd.prog 22, n ≤ 140737488355328 := fun n hn => by
      refine hw n ?_
      show _ ∈ DataW.weights Tryd.prog 34 (.agg [y0.1, .lit (.string s.data.toList), y2.1])
      unfold DataW.weights
      rw [Tryd.underlying34]
      simp [DataW.weightsEach, hn]
    rcases DataW.trod_slice Tryd.underlying22 (show DataW.trod enc Tryd.prog W 0 sp held m 22 [c2] = some y2 from g2) with ⟨hc, hx⟩ | ⟨a, len, cap, elems, rest, n', rfl, hc, hx, _, hlc, hcm, hel, hels, _, _⟩
    · obtain rfl : c2 = .slice none 0 0 := by simpa using hc
      exact ⟨l, s, none, 0, 0, .nil, rfl, ⟨hl64, hwS⟩, SlR.nil _ _ _⟩
    · obtain rfl : c2 = .slice (some a) len cap := by simpa using hc
      rw [hx] at hwL
      have hwl : len * 48 ≤ 140737488355328 := by
        have h9 := hwL ((elems.length + rest.length) * 48) (by
          unfold DataW.weights; rw [Tryd.underlying22]; simp [bytesI])
        rw [hel] at h9
        exact Nat.le_trans (Nat.mul_le_mul_right _ (Nat.le_add_right _ _)) h9
      have hwe : ∀ (i : Nat) y, elems[i]? = some y → ∀ n ∈ y.1.weights Tryd.prog 34, n ≤ 140737488355328 := fun i y hy n hn => by
        refine hwL n ?_
        unfold DataW.weights; rw [Tryd.underlying22]
        refine List.mem_cons_of_mem _ (List.mem_append_left _ ?_)
        exact weightsAll_mem (List.mem_map.2 ⟨y, List.mem_of_getElem? hy, rfl⟩) hn
      have rows : ∀ q, q ≤ len → ∃ L : List (El (Nat × ByteArray)), L.length = q ∧ (∀ x ∈ L, SlR fS W.heap.size W x.p x.n x.k ∧ fS.ok x.a) ∧ ∀ (i : Nat) (z : El (Nat × ByteArray)), L[i]? = some z → W.cell? (a.add (i * 3)) = some (.int .u64 ((z.a.1 : Nat) : Int)) ∧ W.cell? ((a.add (i * 3)).add 1) = some (.string z.a.2) ∧ W.cell? ((a.add (i * 3)).add 2) = some (.slice z.p z.n z.c) := by
        intro q
        induction q with
        | zero => exact fun _ => ⟨[], rfl, (fun _ h => nomatch h), fun i z h => by simp at h⟩
        | succ q ihq =>
          intro hq
          obtain ⟨L, hL, hA, hc⟩ := ihq (by omega)
          have hi := hels q (by omega)
          rw [cellsI] at hi
          have hlt : q < elems.length := by omega
          rw [List.getElem?_eq_getElem hlt] at hi
          obtain ⟨cs', hcs, ht⟩ := Option.bind_eq_some_iff.1 hi
          obtain ⟨l', s', p', m', c', k', rfl, hs', hk'⟩ := ih n' (by omega) cs' _ ht (hwe q _ (List.getElem?_eq_getElem hlt))
          obtain ⟨d0, d1, d2, e9, h0, h1, h2⟩ := cells3_of hcs
          simp only [List.cons.injEq, and_true] at e9
          obtain ⟨rfl, rfl, rfl⟩ := e9
          refine ⟨L ++ [El.mk (l', s') p' m' c' k'], by simp [hL], (fun x hx => by
            rcases List.mem_append.1 hx with h | h
            · exact hA x h
            · obtain rfl := List.mem_singleton.1 h; exact ⟨hk', hs'⟩), fun i z hz => ?_⟩
          by_cases hiq : i < L.length
          · rw [List.getElem?_append_left hiq] at hz; exact hc i z hz
          · rw [List.getElem?_append_right (by omega)] at hz
            have : i - L.length = 0 := by
              have := (List.getElem?_eq_some_iff.1 hz).1; simp at this; omega
            rw [this] at hz
            simp at hz; subst hz
            obtain rfl : i = q := by omega
            exact ⟨h0, h1, h2⟩
      obtain ⟨L, hL, hA, hc⟩ := rows len (Nat.le_refl _)
      refine ⟨l, s, some a, len, cap, toFr L, rfl, ⟨hl64, hwS⟩, by rw [toFr_len, hL], (show len ≤ 140737488355328 by omega), ?_⟩
      cases L with
      | nil => exact .inl rfl
      | cons z0 L0 =>
        obtain ⟨f0, f1, f2⟩ := hc 0 z0 rfl
        rw [Nat.zero_mul] at f0
        have e0 : a.add 0 = a := rfl
        rw [e0] at f0
        obtain ⟨ea, C, T, fz, hh, hC0⟩ := spot_none f0
        refine .inr ⟨a.block, a.off, congrArg some ea, frAt_row (S := fS) (lt_of_heap hh) hh (z0 :: L0) a.off (fun i z hz => ?_) hA⟩
        obtain ⟨k0, k1, k2⟩ := hc i z hz
        rw [ea, addr_add] at k0 k1 k2
        rw [addr_add] at k1 k2
        exact ex3 (cell_at hh k0) (cell_at hh k1) (cell_at hh k2)
theorem trod_fields (m : Nat) (cs : List Value) (y2 : DataW H × List MemPlace) (h : DataW.trod enc Tryd.prog W 0 sp held m 22 cs = some y2) (hwL : ∀ n ∈ y2.1.weights Tryd.prog 22, n ≤ 140737488355328) :
    cs = [.slice none 0 0] ∨ ∃ (a : Addr) (n c : Nat) (k : Fe), cs = [.slice (some a) n c] ∧ n ≤ c ∧ SlR fS W.heap.size W (some a) n k := by
    rcases DataW.trod_slice Tryd.underlying22 h with ⟨hc, hx⟩ | ⟨a, len, cap, elems, rest, n', rfl, rfl, hx, _, hlc, hcm, hel, hels, _, _⟩
    · exact .inl hc
    · skip
      rw [hx] at hwL
      have hwl : len * 48 ≤ 140737488355328 := by
        have h9 := hwL ((elems.length + rest.length) * 48) (by
          unfold DataW.weights; rw [Tryd.underlying22]; simp [bytesI])
        rw [hel] at h9
        exact Nat.le_trans (Nat.mul_le_mul_right _ (Nat.le_add_right _ _)) h9
      have hwe : ∀ (i : Nat) y, elems[i]? = some y → ∀ n ∈ y.1.weights Tryd.prog 34, n ≤ 140737488355328 := fun i y hy n hn => by
        refine hwL n ?_
        unfold DataW.weights; rw [Tryd.underlying22]
        refine List.mem_cons_of_mem _ (List.mem_append_left _ ?_)
        exact weightsAll_mem (List.mem_map.2 ⟨y, List.mem_of_getElem? hy, rfl⟩) hn
      have rows : ∀ q, q ≤ len → ∃ L : List (El (Nat × ByteArray)), L.length = q ∧ (∀ x ∈ L, SlR fS W.heap.size W x.p x.n x.k ∧ fS.ok x.a) ∧ ∀ (i : Nat) (z : El (Nat × ByteArray)), L[i]? = some z → W.cell? (a.add (i * 3)) = some (.int .u64 ((z.a.1 : Nat) : Int)) ∧ W.cell? ((a.add (i * 3)).add 1) = some (.string z.a.2) ∧ W.cell? ((a.add (i * 3)).add 2) = some (.slice z.p z.n z.c) := by
        intro q
        induction q with
        | zero => exact fun _ => ⟨[], rfl, (fun _ h => nomatch h), fun i z h => by simp at h⟩
        | succ q ihq =>
          intro hq
          obtain ⟨L, hL, hA, hc⟩ := ihq (by omega)
          have hi := hels q (by omega)
          rw [cellsI] at hi
          have hlt : q < elems.length := by omega
          rw [List.getElem?_eq_getElem hlt] at hi
          obtain ⟨cs', hcs, ht⟩ := Option.bind_eq_some_iff.1 hi
          obtain ⟨l', s', p', m', c', k', rfl, hs', hk'⟩ := trod_field n' cs' _ ht (hwe q _ (List.getElem?_eq_getElem hlt))
          obtain ⟨d0, d1, d2, e9, h0, h1, h2⟩ := cells3_of hcs
          simp only [List.cons.injEq, and_true] at e9
          obtain ⟨rfl, rfl, rfl⟩ := e9
          refine ⟨L ++ [El.mk (l', s') p' m' c' k'], by simp [hL], (fun x hx => by
            rcases List.mem_append.1 hx with h | h
            · exact hA x h
            · obtain rfl := List.mem_singleton.1 h; exact ⟨hk', hs'⟩), fun i z hz => ?_⟩
          by_cases hiq : i < L.length
          · rw [List.getElem?_append_left hiq] at hz; exact hc i z hz
          · rw [List.getElem?_append_right (by omega)] at hz
            have : i - L.length = 0 := by
              have := (List.getElem?_eq_some_iff.1 hz).1; simp at this; omega
            rw [this] at hz
            simp at hz; subst hz
            obtain rfl : i = q := by omega
            exact ⟨h0, h1, h2⟩
      obtain ⟨L, hL, hA, hc⟩ := rows len (Nat.le_refl _)
      refine .inr ⟨a, len, cap, toFr L, rfl, hlc, by rw [toFr_len, hL], (show len ≤ 140737488355328 by omega), ?_⟩
      cases L with
      | nil => exact .inl rfl
      | cons z0 L0 =>
        obtain ⟨f0, f1, f2⟩ := hc 0 z0 rfl
        rw [Nat.zero_mul] at f0
        have e0 : a.add 0 = a := rfl
        rw [e0] at f0
        obtain ⟨ea, C, T, fz, hh, hC0⟩ := spot_none f0
        refine .inr ⟨a.block, a.off, congrArg some ea, frAt_row (S := fS) (lt_of_heap hh) hh (z0 :: L0) a.off (fun i z hz => ?_) hA⟩
        obtain ⟨k0, k1, k2⟩ := hc i z hz
        rw [ea, addr_add] at k0 k1 k2
        rw [addr_add] at k1 k2
        exact ex3 (cell_at hh k0) (cell_at hh k1) (cell_at hh k2)
def FieldsV (w : World) (v : Value) : Prop := v = .slice none 0 0 ∨ ∃ (a : Addr) (n c : Nat) (k : Fe), v = .slice (some a) n c ∧ n ≤ c ∧ SlR fS w.heap.size w (some a) n k
theorem openFields {v : Value} {d : DataW H} {p : List MemPlace} {base : Nat} (hv : Value.okWide Tryd.prog W .any base 22 v) (h : DataW.Trod enc Tryd.prog W 0 sp held 22 v d p) (hw : ∀ n ∈ d.weights Tryd.prog 22, n ≤ 140737488355328) : FieldsV W v := by
  obtain ⟨ao, len, cap, rfl⟩ := okWide_slice Tryd.underlying22 hv
  obtain ⟨fuel, hf⟩ := h
  rcases trod_fields fuel _ _ hf hw with h | ⟨a, n, c, k, e, h1, h2⟩
  · left; simpa [Value.cells] using h
  · right; exact ⟨a, n, c, k, by simpa [Value.cells] using e, h1, h2⟩
end
theorem frameBack_v (form : ByteArray) (hf : form.size ≤ 9223372036854775807) (v : Value) (q : ByteArray) (hq : q.size ≤ 9223372036854775807) : FnP Tryd.prog 3 #[.string form, v, .string q] (fun w => FieldsV w v) (.bool true) := fun w hp => by
  rcases hp with rfl | ⟨a, n, c, k, rfl, _, hk⟩
  · exact frameBack_fn form none 0 0 .nil q hf hq w (SlR.nil _ _ _)
  · exact frameBack_fn form (some a) n c k q hf hq w hk
end Go.Proofs.YtkkbkpneodecnaaDoor
