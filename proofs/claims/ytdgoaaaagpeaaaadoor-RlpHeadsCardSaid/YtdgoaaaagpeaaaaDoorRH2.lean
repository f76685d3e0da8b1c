/-
  Texts of the proof, part 2.
-/
import Derived.Test.YtdgoaaaagpeaaaaDoorProg
import Derived.Lib.AppendStr
import Derived.Lib.Builder
import Derived.Test.YtdgoaaaagpeaaaaDoorRows
import Derived.LaidLaws
import Derived.LaidHandle
import Derived.MakeChecks
import Derived.WalkKit
import Derived.Test.YtdgoaaaagpeaaaaDoorRH1

namespace Go.Proofs.YtdgoaaaagpeaaaaDoor
open Go Go.RowKit
set_option linter.unusedVariables false
set_option maxRecDepth 100000 in
set_option maxHeartbeats 2000000 in
theorem mixed_fn (l : Bool) (s : ByteArray) (p : Option Addr) (n c : Nat) (k : Fo) (hs : s.size ≤ 140737488355328) : FnP Tryd.prog 37 #[.agg #[.bool l, .string s, .slice p n c]] (fun w => SlAt w.heap.size w p n k) (.bool (mixed l s n)) := by
  refine FnP.intro (c := codeOf Tryd.f37) [.tmp 2] 12 Tryd.func37 kr kr kr fun w hpre => ?_
  have H0 := St.start w
  have hn := hpre.1
  have hnm := hpre.2.1
  refine rS [.b, .v] H0 kr fun gs1 w1 H1 => ?_
  clear H0
  refine g_seq kr ?_
  refine rS [.v, .l 0] H1 kr fun gs2 w2 H2 => ?_
  clear H1
  rcases (Bool.eq_false_or_eq_true (l)).symm with hq1 | hq1
  · skip
    refine g_now 4 (v := .bool l) (v' := .bool false) (bool_eq hq1) kr ?_
    refine g_cond_f kr kr ?_
    refine g_skip kr ?_
    show WP _ _ _ _ _ _
    refine g_sreg [0, 1, 2, 3, 4] kr kr ?_
    refine rp [.v, .l 0, .v] H2 kr fun gs3 w3 H3 => ?_
    show WPs _ _ _ _ [3, 4] _ _
    clear H2
    by_cases hc1 : (n : Nat) > 0
    · skip
      refine rp [.e (v := .bool (decide (0 < ((n : Nat) : Int)))) (v' := .bool true) (bool_eq (decide_eq_true (by omega))), .v] H3 kr fun gs4 w4 H4 => ?_
      show WPs _ _ _ _ [] _ _
      clear H3
      refine s_nil ?_
      refine g_ret kr ?_
      show ∃ vs, Res _ _ _ _ vs ∧ _
      refine ⟨[.bool true], (.tmp (.bool true) kr .nil), ?_, H4.below⟩
      rw [hq1]; exact bool_eq (mixed_f (decide_eq_true (by omega)))
    · skip
      refine rp [.e (v := .bool (decide (0 < ((n : Nat) : Int)))) (v' := .bool false) (bool_eq (decide_eq_false (by omega))), .v] H3 kr fun gs5 w5 H5 => ?_
      show WPs _ _ _ _ [] _ _
      clear H3
      refine s_nil ?_
      refine g_ret kr ?_
      show ∃ vs, Res _ _ _ _ vs ∧ _
      refine ⟨[.bool false], (.tmp (.bool false) kr .nil), ?_, H5.below⟩
      rw [hq1]; exact bool_eq (mixed_f (decide_eq_false (by omega)))
  · skip
    refine g_now 4 (v := .bool l) (v' := .bool true) (bool_eq hq1) kr ?_
    refine g_cond_t kr kr ?_
    refine g_sreg [0, 1, 2, 3] kr kr ?_
    refine rp [.v, .l 0] H2 kr fun gs6 w6 H6 => ?_
    show WPs _ _ _ _ [2, 3] _ _
    clear H2
    by_cases hx2 : s = ⟨#[]⟩
    · skip
      refine rp [.e (v := .bool (!(ByteArray.toList s == ByteArray.toList (⟨#[]⟩)))) (v' := .bool false) (bool_eq (by rw [str_same s (⟨#[]⟩) hx2]; rfl)), .v] H6 kr fun gs7 w7 H7 => ?_
      show WPs _ _ _ _ [] _ _
      clear H6
      refine s_nil ?_
      refine g_ret kr ?_
      show ∃ vs, Res _ _ _ _ vs ∧ _
      refine ⟨[.bool false], (.tmp (.bool false) kr .nil), ?_, H7.below⟩
      rw [hq1]; exact bool_eq (mixed_t (decide_eq_false (by rw [hx2]; decide)))
    · skip
      refine rp [.e (v := .bool (!(ByteArray.toList s == ByteArray.toList (⟨#[]⟩)))) (v' := .bool true) (bool_eq (by rw [str_other s (⟨#[]⟩) hx2]; rfl)), .v] H6 kr fun gs8 w8 H8 => ?_
      show WPs _ _ _ _ [] _ _
      clear H6
      refine s_nil ?_
      refine g_ret kr ?_
      show ∃ vs, Res _ _ _ _ vs ∧ _
      refine ⟨[.bool true], (.tmp (.bool true) kr .nil), ?_, H8.below⟩
      rw [hq1]; exact bool_eq (mixed_t (decide_eq_true (size_ne hx2)))
set_option maxRecDepth 100000 in
set_option maxHeartbeats 2000000 in
theorem left_step (m : Nat) (ih : ∀ (l : Bool) (s : ByteArray) (p : Option Addr) (n c : Nat) (k : Fo) (room : Nat), s.size ≤ 140737488355328 → room ≤ 4000 → k.cnt < m → FnP Tryd.prog 23 #[.agg #[.bool l, .string s, .slice p n c], .int .i64 ((room : Nat) : Int)] (fun w => SlAt w.heap.size w p n k) (.int .i64 (lfV (lf1 l s n (lfF k) room)))) (l : Bool) (s : ByteArray) (p : Option Addr) (n c : Nat) (k : Fo) (hs : s.size ≤ 140737488355328) (room : Nat) (hro : room ≤ 4000) (hkm : k.cnt < m + 1) : FnP Tryd.prog 23 #[.agg #[.bool l, .string s, .slice p n c], .int .i64 ((room : Nat) : Int)] (fun w => SlAt w.heap.size w p n k) (.int .i64 (lfV (lf1 l s n (lfF k) room))) := by
  refine FnP.intro (c := codeOf Tryd.f23) [.tmp 4] 30 Tryd.func23 kr kr kr fun w hpre => ?_
  have H0 := St.start w
  have hn := hpre.1
  have hnm := hpre.2.1
  refine rS [.b, .v] H0 kr fun gs1 w1 H1 => ?_
  clear H0
  refine g_seq kr ?_
  refine g_sreg [0, 1, 2, 3, 4, 5] kr kr ?_
  refine rp [.v] H1 kr fun gs2 w2 H2 => ?_
  show WPs _ _ _ _ [1, 2, 3, 4, 5] _ _
  clear H1
  by_cases hc1 : (room : Nat) = 0
  · skip
    refine rp [.e (v := .bool (((room : Nat) : Int) == 0)) (v' := .bool true) (bool_eq (beq_iff_eq.2 (by omega))), .v, .n, .n, .v] H2 kr fun gs3 w3 H3 => ?_
    show WPs _ _ _ _ [] _ _
    clear H2
    refine s_nil ?_
    refine g_cond_t kr kr ?_
    refine rS [.v] H3 kr fun gs4 w4 H4 => ?_
    clear H3
    refine g_ret kr ?_
    show ∃ vs, Res _ _ _ _ vs ∧ _
    refine ⟨[.int .i64 (-1)], (.tmp (.int .i64 (-1)) kr .nil), ?_, H4.below⟩
    exact int_eq (lf1_zero (by omega)).symm
  · skip
    refine rp [.e (v := .bool (((room : Nat) : Int) == 0)) (v' := .bool false) (bool_eq (beq_eq_false_iff_ne.2 (by omega))), .v, .l 0, .cp (pre := fun w => SlAt w.heap.size w p n k) (mixed_fn l s p n c k (by omega) ) [] (fun w hb hd => (SlAt.call hpre hb)), .v] H2 kr fun gs5 w5 H5 => ?_
    show WPs _ _ _ _ [] _ _
    clear H2
    refine s_nil ?_
    rcases (Bool.eq_false_or_eq_true (mixed l s n)).symm with hq1 | hq1
    · skip
      refine g_now 11 (v := .bool (mixed l s n)) (v' := .bool false) (bool_eq hq1) kr ?_
      refine g_now 12 (v := .bool (mixed l s n)) (v' := .bool false) (bool_eq hq1) kr ?_
      refine g_cond_f kr kr ?_
      refine g_skip kr ?_
      show WP _ _ _ _ _ _
      refine rS [.v, .e (v := .int .i64 (IntKind.i64.wrap (((room : Nat) : Int) - 1))) (v' := .int .i64 ((room - 1 : Nat) : Int)) (int_eq (wrapSub_i64 (a := room) (b := 1) (by omega))), .v] H5 kr fun gs6 w6 H6 => ?_
      clear H5
      refine g_seq kr ?_
      refine rS [.v, .l 0, .v, .v] H6 kr fun gs7 w7 H7 => ?_
      clear H6
      refine g_block 0 kr ?_
      have HL2 : St w.heap.size w w7 [((gs1 0).b, Obj.cells #[.bool l, .string s, .slice p n c] 24 (0, 0))] := H7.as kr
      clear H7
      have HD3 : St w.heap.size w w7 [] := HL2.sub (List.Sublist.cons _ List.Sublist.slnil)
      refine g_loop kr (fun mz ρ ww => ∃ (i : Nat) (r : Fo) (q : Nat), n - i = mz ∧ (FoR w.heap.size w p i r) ∧ (i + Fo.len r = n) ∧ (q ≤ 4000) ∧ (Fo.cnt r ≤ Fo.cnt k) ∧ (lfF k (room - 1) = lfF r q) ∧ St w.heap.size w ww [] ∧ Is [(0, .agg #[.bool l, .string s, .slice p n c]), (1, .int .i64 ((q : Nat) : Int)), (2, .pointer (some ⟨(gs1 0).b, 0, none⟩)), (12, .bool false), (16, .slice p n c), (17, .int .i64 ((n : Nat) : Int)), (18, .int .i64 ((i : Nat) : Int))] ρ) (n - 0) ⟨0, k, (room - 1), rfl, (SlAt.start hpre), (by have hn0 := (hpre).1; omega), (by omega), (Nat.le_refl _), rfl, HD3, (Is.of ⟨kr, kr, kr, kr, kr, kr, kr, trivial⟩)⟩ ?_
      clear HD3
      rintro _ _ w8 ⟨i, r, q, rfl, hR, hN, hq0, hcn, hlf, H8, _, rfl⟩
      by_cases hc4 : (i : Nat) < n
      · skip
        refine rS [.e (v := .bool (decide (((i : Nat) : Int) < ((n : Nat) : Int)))) (v' := .bool true) (bool_eq (decide_eq_true (by omega)))] H8 kr fun gs9 w9 H9 => ?_
        clear H8
        refine g_seq kr ?_
        refine g_cond_t kr kr ?_
        refine g_skip kr ?_
        show WP _ _ _ _ _ _
        refine g_seq kr ?_
        refine g_block 1 kr ?_
        obtain ⟨l1, s1, k1, r1, b1, off1, C1, T1, fz1, p1, n1, c1, hr1, hp1, hb1, hh1, hs1, hx1, hz1, hk1, hR1, hN1⟩ := FoR.open hR hN (by omega)
        refine rS [.o (ins := [((.tmp 16), .slice p n c), ((.tmp 18), .int .i64 ((i : Nat) : Int))]) (v := .pointer (some ⟨b1, off1 + i * 3, none⟩)) (fun ρ o w ho hi => idxO_run (kd := .i64) (t := 22) (e := 24) (bytes := 48) kr (x := (.tmp 16)) (y := (.tmp 18)) b1 off1 n c i hp1 ho hi.1 hi.2.1 (by omega) w), .fp (off := off1 + i * 3) (n := 3) (W := #[.bool l1, .string s1, .slice p1 n1 c1]) hh1 hb1 hs1 hx1, .a, .s 0] H9 kr fun gs10 w10 H10 => ?_
        clear H9
        refine g_keep [0, 1, 2, 6, 12, 16, 17, 18, 19] fun ρ1 => ?_
        have HK5 := H10.keep
        clear H10
        have hcn1 := hcn
        rw [hr1] at hcn1
        simp only [Fo.cnt] at hcn1
        refine g_sreg [0, 1, 2, 3] kr kr ?_
        refine rp [.l 0, .v, .cp (pre := fun w => SlAt w.heap.size w p1 n1 k1) (ih l1 s1 p1 n1 c1 k1 q hz1 (by omega) (by omega)) [] (fun w hb hd => (SlAt.call hk1 hb))] HK5 kr fun gs11 w11 H11 => ?_
        show WPs _ _ _ _ [3] _ _
        clear HK5
        rcases opt_cases (lf1 l1 s1 n1 (lfF k1) q) with hv1 | ⟨y, hv1⟩
        · skip
          refine s_now 24 (v := .int .i64 (lfV (lf1 l1 s1 n1 (lfF k1) q))) (v' := .int .i64 (-1)) (int_eq (show (lfV (lf1 l1 s1 n1 (lfF k1) q)) = -1 from by rw [hv1]; rfl)) kr ?_
          refine rp [.v] H11 kr fun gs12 w12 H12 => ?_
          show WPs _ _ _ _ [] _ _
          clear H11
          refine s_nil ?_
          refine rS [.v, .v] H12 kr fun gs13 w13 H13 => ?_
          clear H12
          refine g_cond_t kr kr ?_
          refine rS [.v, .v] H13 kr fun gs14 w14 H14 => ?_
          clear H13
          refine g_ret kr ?_
          show ∃ vs, Res _ _ _ _ vs ∧ _
          refine ⟨[.int .i64 (-1)], (.tmp (.int .i64 (-1)) kr .nil), ?_, H14.below⟩
          refine int_eq ?_
          rw [lf1_go (by omega) hq1, hlf, hr1]; exact (lfF_stop hk1.1 hv1).symm
        · skip
          refine s_now 24 (v := .int .i64 (lfV (lf1 l1 s1 n1 (lfF k1) q))) (v' := .int .i64 ((y : Nat) : Int)) (int_eq (show (lfV (lf1 l1 s1 n1 (lfF k1) q)) = ((y : Nat) : Int) from by rw [hv1]; rfl)) kr ?_
          have hy4 := lf1_le hv1
          refine rp [.v] H11 kr fun gs15 w15 H15 => ?_
          show WPs _ _ _ _ [] _ _
          clear H11
          refine s_nil ?_
          refine rS [.v, .e (v := .bool (decide (((y : Nat) : Int) < 0))) (v' := .bool false) (bool_eq (decide_eq_false (by omega)))] H15 kr fun gs16 w16 H16 => ?_
          clear H15
          refine g_cond_f kr kr ?_
          refine g_skip kr ?_
          show WP _ _ _ _ _ _
          refine rL [.e (v := .int .i64 (IntKind.i64.wrap (((i : Nat) : Int) + 1))) (v' := .int .i64 ((i + 1 : Nat) : Int)) (int_eq (wrapAdd_i64 (a := i) (b := 1) (by omega))), .v] H16 kr fun gs17 w17 H17 => ?_
          clear H16
          have HL6 : St w.heap.size w w17 [((gs10 2).b, Obj.cells #[.bool l1, .string s1, .slice p1 n1 c1] 24 (0, 0))] := H17.as kr
          clear H17
          have HD7 : St w.heap.size w w17 [] := HL6.sub (List.Sublist.cons _ List.Sublist.slnil)
          show ∃ m, _ ∧ _
          exact ⟨_, (by omega), (i + 1), r1, y, rfl, hR1, hN1, (by omega), (by omega), (by rw [hlf, hr1]; exact lfF_next hk1.1 hv1), HD7, (Is.of ⟨kr, kr, kr, kr, kr, kr, kr, trivial⟩)⟩
      · skip
        refine rS [.e (v := .bool (decide (((i : Nat) : Int) < ((n : Nat) : Int)))) (v' := .bool false) (bool_eq (decide_eq_false (by omega)))] H8 kr fun gs18 w18 H18 => ?_
        clear H8
        refine g_seq kr ?_
        refine g_cond_f kr kr ?_
        refine g_exit 0 kr ?_
        show WP _ _ _ _ _ _
        refine rS [.v, .v] H18 kr fun gs19 w19 H19 => ?_
        clear H18
        refine g_ret kr ?_
        show ∃ vs, Res _ _ _ _ vs ∧ _
        refine ⟨[.int .i64 ((q : Nat) : Int)], (.tmp (.int .i64 ((q : Nat) : Int)) kr .nil), ?_, H19.below⟩
        refine int_eq ?_
        rw [lf1_go (by omega) hq1, hlf, FoR.done hN (by omega)]; rfl
    · skip
      refine g_now 11 (v := .bool (mixed l s n)) (v' := .bool true) (bool_eq hq1) kr ?_
      refine g_now 12 (v := .bool (mixed l s n)) (v' := .bool true) (bool_eq hq1) kr ?_
      refine g_cond_t kr kr ?_
      refine rS [.v] H5 kr fun gs20 w20 H20 => ?_
      clear H5
      refine g_ret kr ?_
      show ∃ vs, Res _ _ _ _ vs ∧ _
      refine ⟨[.int .i64 (-1)], (.tmp (.int .i64 (-1)) kr .nil), ?_, H20.below⟩
      exact int_eq (lf1_mixed hq1).symm
theorem left_fn (l : Bool) (s : ByteArray) (p : Option Addr) (n c : Nat) (k : Fo) (hs : s.size ≤ 140737488355328) (room : Nat) (hro : room ≤ 4000) : FnP Tryd.prog 23 #[.agg #[.bool l, .string s, .slice p n c], .int .i64 ((room : Nat) : Int)] (fun w => SlAt w.heap.size w p n k) (.int .i64 (lfV (lf1 l s n (lfF k) room))) := by
  have key : ∀ (m : Nat) (l : Bool) (s : ByteArray) (p : Option Addr) (n c : Nat) (k : Fo) (room : Nat), s.size ≤ 140737488355328 → room ≤ 4000 → k.cnt < m → FnP Tryd.prog 23 #[.agg #[.bool l, .string s, .slice p n c], .int .i64 ((room : Nat) : Int)] (fun w => SlAt w.heap.size w p n k) (.int .i64 (lfV (lf1 l s n (lfF k) room))) := by
    intro m
    induction m with
    | zero => intros; omega
    | succ m ih => intro l s p n c k room hs hro hkm; exact left_step m ih l s p n c k hs room hro hkm
  exact key (k.cnt + 1) l s p n c k room hs hro (by omega)
set_option maxRecDepth 100000 in
set_option maxHeartbeats 2000000 in
theorem depth_step (m : Nat) (ih : ∀ (l : Bool) (s : ByteArray) (p : Option Addr) (n c : Nat) (k : Fo), s.size ≤ 140737488355328 → k.cnt ≤ 1000000 → k.cnt < m → FnP Tryd.prog 24 #[.agg #[.bool l, .string s, .slice p n c]] (fun w => SlAt w.heap.size w p n k) (.int .i64 ((dp1 l (dpF k) : Nat) : Int))) (l : Bool) (s : ByteArray) (p : Option Addr) (n c : Nat) (k : Fo) (hs : s.size ≤ 140737488355328) (hk6 : k.cnt ≤ 1000000) (hkm : k.cnt < m + 1) : FnP Tryd.prog 24 #[.agg #[.bool l, .string s, .slice p n c]] (fun w => SlAt w.heap.size w p n k) (.int .i64 ((dp1 l (dpF k) : Nat) : Int)) := by
  refine FnP.intro (c := codeOf Tryd.f24) [.tmp 2] 23 Tryd.func24 kr kr kr fun w hpre => ?_
  have H0 := St.start w
  have hn := hpre.1
  have hnm := hpre.2.1
  have hdk := dpF_le k
  refine rS [.b, .v] H0 kr fun gs1 w1 H1 => ?_
  clear H0
  refine g_seq kr ?_
  refine g_sreg [0, 1, 2] kr kr ?_
  refine rp [.v, .l 0] H1 kr fun gs2 w2 H2 => ?_
  show WPs _ _ _ _ [2] _ _
  clear H1
  rcases (Bool.eq_false_or_eq_true (l)).symm with hq1 | hq1
  · skip
    refine s_now 7 (v := .bool l) (v' := .bool false) (bool_eq hq1) kr ?_
    refine rp [.v] H2 kr fun gs3 w3 H3 => ?_
    show WPs _ _ _ _ [] _ _
    clear H2
    refine s_nil ?_
    refine g_cond_t kr kr ?_
    refine rS [.v] H3 kr fun gs4 w4 H4 => ?_
    clear H3
    refine g_ret kr ?_
    show ∃ vs, Res _ _ _ _ vs ∧ _
    refine ⟨[.int .i64 0], (.tmp (.int .i64 0) kr .nil), ?_, H4.below⟩
    rw [hq1]; rfl
  · skip
    refine s_now 7 (v := .bool l) (v' := .bool true) (bool_eq hq1) kr ?_
    refine rp [.v] H2 kr fun gs5 w5 H5 => ?_
    show WPs _ _ _ _ [] _ _
    clear H2
    refine s_nil ?_
    refine g_cond_f kr kr ?_
    refine g_skip kr ?_
    show WP _ _ _ _ _ _
    refine rS [.v] H5 kr fun gs6 w6 H6 => ?_
    clear H5
    refine g_seq kr ?_
    refine rS [.v, .l 0, .v, .v] H6 kr fun gs7 w7 H7 => ?_
    clear H6
    refine g_block 0 kr ?_
    have HL1 : St w.heap.size w w7 [((gs1 0).b, Obj.cells #[.bool l, .string s, .slice p n c] 24 (0, 0))] := H7.as kr
    clear H7
    have HD2 : St w.heap.size w w7 [] := HL1.sub (List.Sublist.cons _ List.Sublist.slnil)
    refine g_loop kr (fun mz ρ ww => ∃ (i : Nat) (r : Fo) (d : Nat), n - i = mz ∧ (FoR w.heap.size w p i r) ∧ (i + Fo.len r = n) ∧ (Fo.cnt r ≤ Fo.cnt k) ∧ (dpF k = max d (dpF r)) ∧ St w.heap.size w ww [] ∧ Is [(0, .agg #[.bool l, .string s, .slice p n c]), (1, .pointer (some ⟨(gs1 0).b, 0, none⟩)), (2, .int .i64 0), (3, .int .i64 ((d : Nat) : Int)), (8, .bool false), (10, .slice p n c), (11, .int .i64 ((n : Nat) : Int)), (12, .int .i64 ((i : Nat) : Int))] ρ) (n - 0) ⟨0, k, 0, rfl, (SlAt.start hpre), (by have hn0 := (hpre).1; omega), (Nat.le_refl _), (by omega), HD2, (Is.of ⟨kr, kr, kr, kr, kr, kr, kr, kr, trivial⟩)⟩ ?_
    clear HD2
    rintro _ _ w8 ⟨i, r, d, rfl, hR, hN, hcn, hd, H8, _, rfl⟩
    by_cases hc3 : (i : Nat) < n
    · skip
      refine rS [.e (v := .bool (decide (((i : Nat) : Int) < ((n : Nat) : Int)))) (v' := .bool true) (bool_eq (decide_eq_true (by omega)))] H8 kr fun gs9 w9 H9 => ?_
      clear H8
      refine g_seq kr ?_
      refine g_cond_t kr kr ?_
      refine g_skip kr ?_
      show WP _ _ _ _ _ _
      refine g_seq kr ?_
      refine g_block 1 kr ?_
      obtain ⟨l1, s1, k1, r1, b1, off1, C1, T1, fz1, p1, n1, c1, hr1, hp1, hb1, hh1, hs1, hx1, hz1, hk1, hR1, hN1⟩ := FoR.open hR hN (by omega)
      refine rS [.o (ins := [((.tmp 10), .slice p n c), ((.tmp 12), .int .i64 ((i : Nat) : Int))]) (v := .pointer (some ⟨b1, off1 + i * 3, none⟩)) (fun ρ o w ho hi => idxO_run (kd := .i64) (t := 22) (e := 24) (bytes := 48) kr (x := (.tmp 10)) (y := (.tmp 12)) b1 off1 n c i hp1 ho hi.1 hi.2.1 (by omega) w), .fp (off := off1 + i * 3) (n := 3) (W := #[.bool l1, .string s1, .slice p1 n1 c1]) hh1 hb1 hs1 hx1, .a, .s 0] H9 kr fun gs10 w10 H10 => ?_
      clear H9
      have hcn1 := hcn
      rw [hr1] at hcn1
      simp only [Fo.cnt] at hcn1
      refine rL [.v, .l 0, .cp (pre := fun w => SlAt w.heap.size w p1 n1 k1) (ih l1 s1 p1 n1 c1 k1 hz1 (by omega) (by omega)) [] (fun w hb hd => (SlAt.call hk1 hb)), .e (v := .int .i64 (if (((dp1 l1 (dpF k1) : Nat) : Int) : Int) > (((d : Nat) : Int) : Int) then (((dp1 l1 (dpF k1) : Nat) : Int) : Int) else (((d : Nat) : Int) : Int))) (v' := .int .i64 ((max d (dp1 l1 (dpF k1)) : Nat) : Int)) (int_eq (maxN d (dp1 l1 (dpF k1)))), .v] H10 kr fun gs11 w11 H11 => ?_
      clear H10
      show WP _ _ _ _ _ _
      refine g_keep [0, 1, 2, 3, 5, 8, 10, 11, 12, 13] fun ρ1 => ?_
      have HK4 := H11.keep
      clear H11
      refine rL [.e (v := .int .i64 (IntKind.i64.wrap (((i : Nat) : Int) + 1))) (v' := .int .i64 ((i + 1 : Nat) : Int)) (int_eq (wrapAdd_i64 (a := i) (b := 1) (by omega))), .v] HK4 kr fun gs12 w12 H12 => ?_
      clear HK4
      have HL5 : St w.heap.size w w12 [((gs10 2).b, Obj.cells #[.bool l1, .string s1, .slice p1 n1 c1] 24 (0, 0))] := H12.as kr
      clear H12
      have HD6 : St w.heap.size w w12 [] := HL5.sub (List.Sublist.cons _ List.Sublist.slnil)
      show ∃ m, _ ∧ _
      exact ⟨_, (by omega), (i + 1), r1, (max d (dp1 l1 (dpF k1))), rfl, hR1, hN1, (by omega), (by rw [hd, hr1]; simp only [dpF]; omega), HD6, (Is.of ⟨kr, kr, kr, kr, kr, kr, kr, kr, trivial⟩)⟩
    · skip
      refine rS [.e (v := .bool (decide (((i : Nat) : Int) < ((n : Nat) : Int)))) (v' := .bool false) (bool_eq (decide_eq_false (by omega)))] H8 kr fun gs13 w13 H13 => ?_
      clear H8
      refine g_seq kr ?_
      refine g_cond_f kr kr ?_
      refine g_exit 0 kr ?_
      show WP _ _ _ _ _ _
      refine rS [.v, .e (v := .int .i64 (IntKind.i64.wrap (1 + ((d : Nat) : Int)))) (v' := .int .i64 ((1 + d : Nat) : Int)) (int_eq (wrapAdd_i64 (a := 1) (b := d) (by omega))), .v] H13 kr fun gs14 w14 H14 => ?_
      clear H13
      refine g_ret kr ?_
      show ∃ vs, Res _ _ _ _ vs ∧ _
      refine ⟨[.int .i64 ((1 + d : Nat) : Int)], (.tmp (.int .i64 ((1 + d : Nat) : Int)) kr .nil), ?_, H14.below⟩
      refine int_eq ?_
      rw [hq1, hd, FoR.done hN (by omega)]; show ((1 + d : Nat) : Int) = ((1 + max d 0 : Nat) : Int); omega
theorem depth_fn (l : Bool) (s : ByteArray) (p : Option Addr) (n c : Nat) (k : Fo) (hs : s.size ≤ 140737488355328) (hk6 : k.cnt ≤ 1000000) : FnP Tryd.prog 24 #[.agg #[.bool l, .string s, .slice p n c]] (fun w => SlAt w.heap.size w p n k) (.int .i64 ((dp1 l (dpF k) : Nat) : Int)) := by
  have key : ∀ (m : Nat) (l : Bool) (s : ByteArray) (p : Option Addr) (n c : Nat) (k : Fo), s.size ≤ 140737488355328 → k.cnt ≤ 1000000 → k.cnt < m → FnP Tryd.prog 24 #[.agg #[.bool l, .string s, .slice p n c]] (fun w => SlAt w.heap.size w p n k) (.int .i64 ((dp1 l (dpF k) : Nat) : Int)) := by
    intro m
    induction m with
    | zero => intros; omega
    | succ m ih => intro l s p n c k hs hk6 hkm; exact depth_step m ih l s p n c k hs hk6 hkm
  exact key (k.cnt + 1) l s p n c k hs hk6 (by omega)
set_option maxRecDepth 100000 in
set_option maxHeartbeats 2000000 in
theorem single_fn (s : ByteArray) : Fn Tryd.prog 38 #[.string s] (.bool (single s)) := by
  refine Fn.intro (c := codeOf Tryd.f38) [.tmp 2] 11 Tryd.func38 kr kr kr fun w => ?_
  have H0 := St.start w
  refine rS [.v] H0 kr fun gs1 w1 H1 => ?_
  clear H0
  refine g_sreg [0, 1, 2, 3, 4, 5, 6, 7, 8] kr kr ?_
  refine rp [.v, .v] H1 kr fun gs2 w2 H2 => ?_
  show WPs _ _ _ _ [2, 3, 4, 5, 6, 7, 8] _ _
  clear H1
  by_cases hc1 : (ByteArray.size s : Nat) = 1
  · skip
    refine rp [.e (v := .bool (((ByteArray.size s : Nat) : Int) == 1)) (v' := .bool true) (bool_eq (beq_iff_eq.2 (by omega))), .v, .v, .o (ins := [((.tmp 7), .string s), ((.const (.int .i64 0)), .int .i64 0)]) (v := .int .u8 ((by_ s 0 : Nat) : Int)) (fun ρ o w ho hi => sindex_run (t := 9) (kd := .i64) kr (x := (.tmp 7)) (y := (.const (.int .i64 0))) s 0 ho hi.1 hi.2.1 (by omega) w)] H2 kr fun gs3 w3 H3 => ?_
    show WPs _ _ _ _ [6, 7, 8] _ _
    clear H2
    by_cases hc2 : (by_ s 0 : Nat) < 128
    · skip
      refine rp [.e (v := .bool (decide (((by_ s 0 : Nat) : Int) < 128))) (v' := .bool true) (bool_eq (decide_eq_true (by omega))), .v, .v] H3 kr fun gs4 w4 H4 => ?_
      show WPs _ _ _ _ [] _ _
      clear H3
      refine s_nil ?_
      refine g_ret kr ?_
      show ∃ vs, Res _ _ _ _ vs ∧ _
      refine ⟨[.bool true], (.tmp (.bool true) kr .nil), ?_, H4.below⟩
      exact bool_eq (by unfold single; simp [*])
    · skip
      refine rp [.e (v := .bool (decide (((by_ s 0 : Nat) : Int) < 128))) (v' := .bool false) (bool_eq (decide_eq_false (by omega))), .v, .v] H3 kr fun gs5 w5 H5 => ?_
      show WPs _ _ _ _ [] _ _
      clear H3
      refine s_nil ?_
      refine g_ret kr ?_
      show ∃ vs, Res _ _ _ _ vs ∧ _
      refine ⟨[.bool false], (.tmp (.bool false) kr .nil), ?_, H5.below⟩
      exact bool_eq (by unfold single; simp [*])
  · skip
    refine rp [.e (v := .bool (((ByteArray.size s : Nat) : Int) == 1)) (v' := .bool false) (bool_eq (beq_eq_false_iff_ne.2 (by omega))), .v, .n, .n, .n, .v, .v] H2 kr fun gs6 w6 H6 => ?_
    show WPs _ _ _ _ [] _ _
    clear H2
    refine s_nil ?_
    refine g_ret kr ?_
    show ∃ vs, Res _ _ _ _ vs ∧ _
    refine ⟨[.bool false], (.tmp (.bool false) kr .nil), ?_, H6.below⟩
    exact bool_eq (by unfold single; simp [*])
end Go.Proofs.YtdgoaaaagpeaaaaDoor

namespace Go.Proofs.YtdgoaaaagpeaaaaDoor
open Go Go.RowKit
set_option linter.unusedVariables false
set_option maxRecDepth 100000 in
set_option maxHeartbeats 2000000 in
theorem trimByte_fn (s : ByteArray) (hs : ByteArray.size s ≤ 140737488355328) : Fn Tryd.prog 54 #[.string s, .int .u8 0] (.string (strB ((tl s).dropWhile (· == 0)))) := by
  refine Fn.intro (c := codeOf Tryd.f54) [.tmp 4] 17 Tryd.func54 kr kr kr fun w => ?_
  have H0 := St.start w
  refine rS [.v] H0 kr fun gs1 w1 H1 => ?_
  clear H0
  refine g_seq kr ?_
  refine g_block 0 kr ?_
  have HL1 : St w.heap.size w w1 [] := H1.as kr
  clear H1
  refine g_loop kr (fun mz ρ ww => ∃ (t : ByteArray), ByteArray.size t = mz ∧ ((tl t).dropWhile (· == 0) = (tl s).dropWhile (· == 0)) ∧ (ByteArray.size t ≤ ByteArray.size s) ∧ St w.heap.size w ww [] ∧ Is [(0, .string t), (1, .int .u8 0), (4, .string (⟨#[]⟩))] ρ) (ByteArray.size s) ⟨s, rfl, rfl, (Nat.le_refl _), HL1, (Is.of ⟨kr, kr, kr, trivial⟩)⟩ ?_
  clear HL1
  rintro _ _ w2 ⟨t, rfl, ht, htz, H2, _, rfl⟩
  refine g_seq kr ?_
  refine g_sreg [0, 1, 2, 3, 4, 5, 6, 7, 8] kr kr ?_
  refine rp [.v, .v] H2 kr fun gs3 w3 H3 => ?_
  show WPs _ _ _ _ [2, 3, 4, 5, 6, 7, 8] _ _
  clear H2
  by_cases hc2 : (ByteArray.size t : Nat) > 0
  · skip
    refine rp [.e (v := .bool (decide (0 < ((ByteArray.size t : Nat) : Int)))) (v' := .bool true) (bool_eq (decide_eq_true (by omega))), .v, .v, .o (ins := [((.tmp 9), .string t), ((.const (.int .i64 0)), .int .i64 0)]) (v := .int .u8 ((by_ t 0 : Nat) : Int)) (fun ρ o w ho hi => sindex_run (t := 9) (kd := .i64) kr (x := (.tmp 9)) (y := (.const (.int .i64 0))) t 0 ho hi.1 hi.2.1 (by omega) w), .v] H3 kr fun gs4 w4 H4 => ?_
    show WPs _ _ _ _ [7, 8] _ _
    clear H3
    by_cases hc3 : (by_ t 0 : Nat) = 0
    · skip
      refine rp [.e (v := .bool (((by_ t 0 : Nat) : Int) == 0)) (v' := .bool true) (bool_eq (beq_iff_eq.2 (by omega))), .v] H4 kr fun gs5 w5 H5 => ?_
      show WPs _ _ _ _ [] _ _
      clear H4
      refine s_nil ?_
      refine g_cond_t kr kr ?_
      refine g_skip kr ?_
      show WP _ _ _ _ _ _
      refine g_block 1 kr ?_
      refine rL [.v, .o (ins := [((.tmp 14), .string t), ((.const (.int .i64 1)), .int .i64 1)]) (v := .string (ByteArray.extract t 1 (ByteArray.size t))) (fun ρ o w ho hi => scut3_run (t := 9) (kz := .i64) kr (x := (.tmp 14)) (z := (.const (.int .i64 1))) t 1 ho hi.1 hi.2.1 (by omega) w), .v] H5 kr fun gs6 w6 H6 => ?_
      clear H5
      have HL4 : St w.heap.size w w6 [] := H6.as kr
      clear H6
      show ∃ m, _ ∧ _
      exact ⟨_, (by rw [cut1_size t (by omega)]; omega), (ByteArray.extract t 1 (ByteArray.size t)), rfl, (by rw [trim_next t (by omega) (by omega)]; exact ht), (by rw [cut1_size t (by omega)]; omega), HL4, (Is.of ⟨kr, kr, kr, trivial⟩)⟩
    · skip
      refine rp [.e (v := .bool (((by_ t 0 : Nat) : Int) == 0)) (v' := .bool false) (bool_eq (beq_eq_false_iff_ne.2 (by omega))), .v] H4 kr fun gs7 w7 H7 => ?_
      show WPs _ _ _ _ [] _ _
      clear H4
      refine s_nil ?_
      refine g_cond_f kr kr ?_
      refine g_exit 0 kr ?_
      show WP _ _ _ _ _ _
      refine rS [.v, .v] H7 kr fun gs8 w8 H8 => ?_
      clear H7
      refine g_ret kr ?_
      show ∃ vs, Res _ _ _ _ vs ∧ _
      refine ⟨[.string t], (.tmp (.string t) kr .nil), ?_, H8.below⟩
      have hdone : strB ((tl s).dropWhile (· == 0)) = t := by rw [← ht]; exact trim_done t (by omega)
      exact congrArg Value.string hdone.symm
  · skip
    refine rp [.e (v := .bool (decide (0 < ((ByteArray.size t : Nat) : Int)))) (v' := .bool false) (bool_eq (decide_eq_false (by omega))), .v, .n, .n, .n, .n, .v] H3 kr fun gs9 w9 H9 => ?_
    show WPs _ _ _ _ [] _ _
    clear H3
    refine s_nil ?_
    refine g_cond_f kr kr ?_
    refine g_exit 0 kr ?_
    show WP _ _ _ _ _ _
    refine rS [.v, .v] H9 kr fun gs10 w10 H10 => ?_
    clear H9
    refine g_ret kr ?_
    show ∃ vs, Res _ _ _ _ vs ∧ _
    refine ⟨[.string t], (.tmp (.string t) kr .nil), ?_, H10.below⟩
    have hdone : strB ((tl s).dropWhile (· == 0)) = t := by rw [← ht]; exact trim_done t (by omega)
    exact congrArg Value.string hdone.symm
set_option maxRecDepth 100000 in
set_option maxHeartbeats 2000000 in
theorem trim_fn (s : ByteArray) (hs : ByteArray.size s ≤ 140737488355328) : Fn Tryd.prog 47 #[.string s, .string (⟨#[0]⟩)] (.string (strB ((tl s).dropWhile (· == 0)))) := by
  refine Fn.intro (c := codeOf Tryd.f47) [.tmp 4] 37 Tryd.func47 kr kr kr fun w => ?_
  have H0 := St.start w
  refine rS [.v] H0 kr fun gs1 w1 H1 => ?_
  clear H0
  refine g_seq kr ?_
  refine g_sreg [0, 1, 2, 3, 4, 5] kr kr ?_
  refine rp [.v] H1 kr fun gs2 w2 H2 => ?_
  show WPs _ _ _ _ [1, 2, 3, 4, 5] _ _
  clear H1
  by_cases hx1 : s = ⟨#[]⟩
  · skip
    refine rp [.e (v := .bool (ByteArray.toList s == ByteArray.toList (⟨#[]⟩))) (v' := .bool true) (bool_eq (str_same s (⟨#[]⟩) hx1)), .v, .n, .n, .v] H2 kr fun gs3 w3 H3 => ?_
    show WPs _ _ _ _ [] _ _
    clear H2
    refine s_nil ?_
    refine g_cond_t kr kr ?_
    refine rS [.v, .v] H3 kr fun gs4 w4 H4 => ?_
    clear H3
    refine g_ret kr ?_
    show ∃ vs, Res _ _ _ _ vs ∧ _
    refine ⟨[.string s], (.tmp (.string s) kr .nil), ?_, H4.below⟩
    exact congrArg Value.string (trim_empty (by assumption)).symm
  · skip
    refine rp [.e (v := .bool (ByteArray.toList s == ByteArray.toList (⟨#[]⟩))) (v' := .bool false) (bool_eq (str_other s (⟨#[]⟩) hx1)), .v, .v, .e (v := .bool (ByteArray.toList (⟨#[0]⟩) == ByteArray.toList (⟨#[]⟩))) (v' := .bool false) (bool_eq (str_other (⟨#[0]⟩) (⟨#[]⟩) (fun h => absurd (congrArg ByteArray.size h) (by decide)))), .v] H2 kr fun gs5 w5 H5 => ?_
    show WPs _ _ _ _ [] _ _
    clear H2
    refine s_nil ?_
    refine g_cond_f kr kr ?_
    refine g_skip kr ?_
    show WP _ _ _ _ _ _
    refine g_seq kr ?_
    refine rS [.v, .v, .v, .v, .v, .oe (ins := [((.tmp 18), .string (⟨#[0]⟩)), ((.const (.int .i64 0)), .int .i64 0)]) (v := .int .u8 ((by_ (⟨#[0]⟩) 0 : Nat) : Int)) (v' := .int .u8 0) (fun ρ o w ho hi => sindex_run (t := 9) (kd := .i64) kr (x := (.tmp 18)) (y := (.const (.int .i64 0))) (⟨#[0]⟩) 0 ho hi.1 hi.2.1 (by decide) w) (int_eq (by decide)), .v, .v] H5 kr fun gs6 w6 H6 => ?_
    clear H5
    refine g_cond_t kr kr ?_
    refine rS [.v, .v, .oe (ins := [((.tmp 23), .string (⟨#[0]⟩)), ((.const (.int .i64 0)), .int .i64 0)]) (v := .int .u8 ((by_ (⟨#[0]⟩) 0 : Nat) : Int)) (v' := .int .u8 0) (fun ρ o w ho hi => sindex_run (t := 9) (kd := .i64) kr (x := (.tmp 23)) (y := (.const (.int .i64 0))) (⟨#[0]⟩) 0 ho hi.1 hi.2.1 (by decide) w) (int_eq (by decide)), .c (trimByte_fn s (by omega)), .v] H6 kr fun gs7 w7 H7 => ?_
    clear H6
    refine g_ret kr ?_
    show ∃ vs, Res _ _ _ _ vs ∧ _
    refine ⟨[.string (strB ((tl s).dropWhile (· == 0)))], (.tmp (.string (strB ((tl s).dropWhile (· == 0)))) kr .nil), ?_, H7.below⟩
    rfl
set_option maxRecDepth 100000 in
set_option maxHeartbeats 2000000 in
theorem digits_fn (n : Nat) (hn : n < 18446744073709551616) : Fn Tryd.prog 35 #[.int .u64 ((n : Nat) : Int)] (.string (strB (dg n))) := by
  refine Fn.intro (c := codeOf Tryd.f35) [.tmp 2] 20 Tryd.func35 kr kr kr fun w => ?_
  have H0 := St.start w
  refine rS [.v] H0 kr fun gs1 w1 H1 => ?_
  clear H0
  refine rS [.a] H1 kr fun gs2 w2 H2 => ?_
  clear H1
  refine g_seq kr ?_
  refine rS [.v] H2 kr fun gs3 w3 H3 => ?_
  clear H2
  refine g_block 0 kr ?_
  have HL1 : St w.heap.size w w3 [((gs2 0).b, Obj.cells #[.int .u8 0, .int .u8 0, .int .u8 0, .int .u8 0, .int .u8 0, .int .u8 0, .int .u8 0, .int .u8 0] 72 (0, 0))] := H3.as kr
  clear H3
  refine g_first kr ?_
  refine rS [.v] HL1 kr fun gs4 w4 H4 => ?_
  clear HL1
  refine g_seq kr ?_
  refine g_cond_t kr kr ?_
  refine g_skip kr ?_
  show WP _ _ _ _ _ _
  refine g_seq kr ?_
  refine g_block 1 kr ?_
  refine rS [.v, .v] H4 kr fun gs5 w5 H5 => ?_
  clear H4
  refine rL [.v, .v, .v, .v, .v, .e (v := .int .u64 (Int.fdiv (((n : Nat) : Int)) (2 ^ 0))) (v' := .int .u64 ((n : Nat) : Int)) (int_eq (shr0 (a := n) (by omega))), .e (v := .int .u8 (IntKind.u8.wrap (((n : Nat) : Int)))) (v' := .int .u8 ((BitVec.toNat (dgB n 1) : Nat) : Int)) (dgB_conv1 n), .v, .s 0] H5 kr fun gs6 w6 H6 => ?_
  clear H5
  show WP _ _ _ _ _ _
  have HL2 : St w.heap.size w w6 [((gs2 0).b, Obj.cells #[.int .u8 0, .int .u8 0, .int .u8 0, .int .u8 0, .int .u8 0, .int .u8 0, .int .u8 0, .int .u8 ((BitVec.toNat (dgB n 1) : Nat) : Int)] 72 (0, 0))] := H6.as kr
  clear H6
  refine rL [.v, .v] HL2 kr fun gs7 w7 H7 => ?_
  clear HL2
  show WPL _ _ _ _ _ _
  refine g_next ?_
  refine g_keep [0, 2, 3, 4, 5, 6] fun ρ1 => ?_
  have HK3 := H7.keep
  clear H7
  refine rS [.v] HK3 kr fun gs8 w8 H8 => ?_
  clear HK3
  refine g_seq kr ?_
  refine g_cond_t kr kr ?_
  refine g_skip kr ?_
  show WP _ _ _ _ _ _
  refine g_seq kr ?_
  refine g_block 1 kr ?_
  refine rS [.v, .v] H8 kr fun gs9 w9 H9 => ?_
  clear H8
  refine rL [.v, .v, .v, .v, .v, .e (v := .int .u64 (Int.fdiv ((n : Nat) : Int) (2 ^ 8))) (v' := .int .u64 ((n / 256 : Nat) : Int)) (int_eq (shrN (k := 8) n 256 rfl)), .e (v := .int .u8 (IntKind.u8.wrap (((n / 256 : Nat) : Int)))) (v' := .int .u8 ((BitVec.toNat (dgB n 256) : Nat) : Int)) (dgB_conv n 256), .v, .s 0] H9 kr fun gs10 w10 H10 => ?_
  clear H9
  show WP _ _ _ _ _ _
  have HL4 : St w.heap.size w w10 [((gs2 0).b, Obj.cells #[.int .u8 0, .int .u8 0, .int .u8 0, .int .u8 0, .int .u8 0, .int .u8 0, .int .u8 ((BitVec.toNat (dgB n 256) : Nat) : Int), .int .u8 ((BitVec.toNat (dgB n 1) : Nat) : Int)] 72 (0, 0))] := H10.as kr
  clear H10
  refine rL [.v, .v] HL4 kr fun gs11 w11 H11 => ?_
  clear HL4
  show WPL _ _ _ _ _ _
  refine g_next ?_
  refine rS [.v] H11 kr fun gs12 w12 H12 => ?_
  clear H11
  refine g_seq kr ?_
  refine g_cond_t kr kr ?_
  refine g_skip kr ?_
  show WP _ _ _ _ _ _
  refine g_seq kr ?_
  refine g_block 1 kr ?_
  refine rS [.v, .v] H12 kr fun gs13 w13 H13 => ?_
  clear H12
  refine g_keep [0, 2, 3, 4, 5, 6] fun ρ2 => ?_
  have HK5 := H13.keep
  clear H13
  refine rL [.v, .v, .v, .v, .v, .e (v := .int .u64 (Int.fdiv ((n : Nat) : Int) (2 ^ 16))) (v' := .int .u64 ((n / 65536 : Nat) : Int)) (int_eq (shrN (k := 16) n 65536 rfl)), .e (v := .int .u8 (IntKind.u8.wrap (((n / 65536 : Nat) : Int)))) (v' := .int .u8 ((BitVec.toNat (dgB n 65536) : Nat) : Int)) (dgB_conv n 65536), .v, .s 0] HK5 kr fun gs14 w14 H14 => ?_
  clear HK5
  show WP _ _ _ _ _ _
  have HL6 : St w.heap.size w w14 [((gs2 0).b, Obj.cells #[.int .u8 0, .int .u8 0, .int .u8 0, .int .u8 0, .int .u8 0, .int .u8 ((BitVec.toNat (dgB n 65536) : Nat) : Int), .int .u8 ((BitVec.toNat (dgB n 256) : Nat) : Int), .int .u8 ((BitVec.toNat (dgB n 1) : Nat) : Int)] 72 (0, 0))] := H14.as kr
  clear H14
  refine rL [.v, .v] HL6 kr fun gs15 w15 H15 => ?_
  clear HL6
  show WPL _ _ _ _ _ _
  refine g_next ?_
  refine rS [.v] H15 kr fun gs16 w16 H16 => ?_
  clear H15
  refine g_seq kr ?_
  refine g_cond_t kr kr ?_
  refine g_skip kr ?_
  show WP _ _ _ _ _ _
  refine g_seq kr ?_
  refine g_block 1 kr ?_
  refine rS [.v, .v] H16 kr fun gs17 w17 H17 => ?_
  clear H16
  refine rL [.v, .v, .v, .v, .v, .e (v := .int .u64 (Int.fdiv ((n : Nat) : Int) (2 ^ 24))) (v' := .int .u64 ((n / 16777216 : Nat) : Int)) (int_eq (shrN (k := 24) n 16777216 rfl)), .e (v := .int .u8 (IntKind.u8.wrap (((n / 16777216 : Nat) : Int)))) (v' := .int .u8 ((BitVec.toNat (dgB n 16777216) : Nat) : Int)) (dgB_conv n 16777216), .v, .s 0] H17 kr fun gs18 w18 H18 => ?_
  clear H17
  show WP _ _ _ _ _ _
  refine g_keep [0, 2, 3, 4, 5, 6] fun ρ3 => ?_
  have HK7 := H18.keep
  clear H18
  have HL8 : St w.heap.size w w18 [((gs2 0).b, Obj.cells #[.int .u8 0, .int .u8 0, .int .u8 0, .int .u8 0, .int .u8 ((BitVec.toNat (dgB n 16777216) : Nat) : Int), .int .u8 ((BitVec.toNat (dgB n 65536) : Nat) : Int), .int .u8 ((BitVec.toNat (dgB n 256) : Nat) : Int), .int .u8 ((BitVec.toNat (dgB n 1) : Nat) : Int)] 72 (0, 0))] := HK7.as kr
  clear HK7
  refine rL [.v, .v] HL8 kr fun gs19 w19 H19 => ?_
  clear HL8
  show WPL _ _ _ _ _ _
  refine g_next ?_
  refine rS [.v] H19 kr fun gs20 w20 H20 => ?_
  clear H19
  refine g_seq kr ?_
  refine g_cond_t kr kr ?_
  refine g_skip kr ?_
  show WP _ _ _ _ _ _
  refine g_seq kr ?_
  refine g_block 1 kr ?_
  refine rS [.v, .v] H20 kr fun gs21 w21 H21 => ?_
  clear H20
  refine rL [.v, .v, .v, .v, .v, .e (v := .int .u64 (Int.fdiv ((n : Nat) : Int) (2 ^ 32))) (v' := .int .u64 ((n / 4294967296 : Nat) : Int)) (int_eq (shrN (k := 32) n 4294967296 rfl)), .e (v := .int .u8 (IntKind.u8.wrap (((n / 4294967296 : Nat) : Int)))) (v' := .int .u8 ((BitVec.toNat (dgB n 4294967296) : Nat) : Int)) (dgB_conv n 4294967296), .v, .s 0] H21 kr fun gs22 w22 H22 => ?_
  clear H21
  show WP _ _ _ _ _ _
  have HL9 : St w.heap.size w w22 [((gs2 0).b, Obj.cells #[.int .u8 0, .int .u8 0, .int .u8 0, .int .u8 ((BitVec.toNat (dgB n 4294967296) : Nat) : Int), .int .u8 ((BitVec.toNat (dgB n 16777216) : Nat) : Int), .int .u8 ((BitVec.toNat (dgB n 65536) : Nat) : Int), .int .u8 ((BitVec.toNat (dgB n 256) : Nat) : Int), .int .u8 ((BitVec.toNat (dgB n 1) : Nat) : Int)] 72 (0, 0))] := H22.as kr
  clear H22
  refine rL [.v, .v] HL9 kr fun gs23 w23 H23 => ?_
  clear HL9
  show WPL _ _ _ _ _ _
  refine g_next ?_
  refine rS [.v] H23 kr fun gs24 w24 H24 => ?_
  clear H23
  refine g_keep [0, 2, 3, 4, 5, 6] fun ρ4 => ?_
  have HK10 := H24.keep
  clear H24
  refine g_seq kr ?_
  refine g_cond_t kr kr ?_
  refine g_skip kr ?_
  show WP _ _ _ _ _ _
  refine g_seq kr ?_
  refine g_block 1 kr ?_
  refine rS [.v, .v] HK10 kr fun gs25 w25 H25 => ?_
  clear HK10
  refine rL [.v, .v, .v, .v, .v, .e (v := .int .u64 (Int.fdiv ((n : Nat) : Int) (2 ^ 40))) (v' := .int .u64 ((n / 1099511627776 : Nat) : Int)) (int_eq (shrN (k := 40) n 1099511627776 rfl)), .e (v := .int .u8 (IntKind.u8.wrap (((n / 1099511627776 : Nat) : Int)))) (v' := .int .u8 ((BitVec.toNat (dgB n 1099511627776) : Nat) : Int)) (dgB_conv n 1099511627776), .v, .s 0] H25 kr fun gs26 w26 H26 => ?_
  clear H25
  show WP _ _ _ _ _ _
  have HL11 : St w.heap.size w w26 [((gs2 0).b, Obj.cells #[.int .u8 0, .int .u8 0, .int .u8 ((BitVec.toNat (dgB n 1099511627776) : Nat) : Int), .int .u8 ((BitVec.toNat (dgB n 4294967296) : Nat) : Int), .int .u8 ((BitVec.toNat (dgB n 16777216) : Nat) : Int), .int .u8 ((BitVec.toNat (dgB n 65536) : Nat) : Int), .int .u8 ((BitVec.toNat (dgB n 256) : Nat) : Int), .int .u8 ((BitVec.toNat (dgB n 1) : Nat) : Int)] 72 (0, 0))] := H26.as kr
  clear H26
  refine rL [.v, .v] HL11 kr fun gs27 w27 H27 => ?_
  clear HL11
  show WPL _ _ _ _ _ _
  refine g_next ?_
  refine rS [.v] H27 kr fun gs28 w28 H28 => ?_
  clear H27
  refine g_seq kr ?_
  refine g_cond_t kr kr ?_
  refine g_skip kr ?_
  show WP _ _ _ _ _ _
  refine g_seq kr ?_
  refine g_block 1 kr ?_
  refine rS [.v, .v] H28 kr fun gs29 w29 H29 => ?_
  clear H28
  refine rL [.v, .v, .v, .v, .v, .e (v := .int .u64 (Int.fdiv ((n : Nat) : Int) (2 ^ 48))) (v' := .int .u64 ((n / 281474976710656 : Nat) : Int)) (int_eq (shrN (k := 48) n 281474976710656 rfl)), .e (v := .int .u8 (IntKind.u8.wrap (((n / 281474976710656 : Nat) : Int)))) (v' := .int .u8 ((BitVec.toNat (dgB n 281474976710656) : Nat) : Int)) (dgB_conv n 281474976710656), .v, .s 0] H29 kr fun gs30 w30 H30 => ?_
  clear H29
  show WP _ _ _ _ _ _
  refine g_keep [0, 2, 3, 4, 5, 6] fun ρ5 => ?_
  have HK12 := H30.keep
  clear H30
  have HL13 : St w.heap.size w w30 [((gs2 0).b, Obj.cells #[.int .u8 0, .int .u8 ((BitVec.toNat (dgB n 281474976710656) : Nat) : Int), .int .u8 ((BitVec.toNat (dgB n 1099511627776) : Nat) : Int), .int .u8 ((BitVec.toNat (dgB n 4294967296) : Nat) : Int), .int .u8 ((BitVec.toNat (dgB n 16777216) : Nat) : Int), .int .u8 ((BitVec.toNat (dgB n 65536) : Nat) : Int), .int .u8 ((BitVec.toNat (dgB n 256) : Nat) : Int), .int .u8 ((BitVec.toNat (dgB n 1) : Nat) : Int)] 72 (0, 0))] := HK12.as kr
  clear HK12
  refine rL [.v, .v] HL13 kr fun gs31 w31 H31 => ?_
  clear HL13
  show WPL _ _ _ _ _ _
  refine g_next ?_
  refine rS [.v] H31 kr fun gs32 w32 H32 => ?_
  clear H31
  refine g_seq kr ?_
  refine g_cond_t kr kr ?_
  refine g_skip kr ?_
  show WP _ _ _ _ _ _
  refine g_seq kr ?_
  refine g_block 1 kr ?_
  refine rS [.v, .v] H32 kr fun gs33 w33 H33 => ?_
  clear H32
  refine rL [.v, .v, .v, .v, .v, .e (v := .int .u64 (Int.fdiv ((n : Nat) : Int) (2 ^ 56))) (v' := .int .u64 ((n / 72057594037927936 : Nat) : Int)) (int_eq (shrN (k := 56) n 72057594037927936 rfl)), .e (v := .int .u8 (IntKind.u8.wrap (((n / 72057594037927936 : Nat) : Int)))) (v' := .int .u8 ((BitVec.toNat (dgB n 72057594037927936) : Nat) : Int)) (dgB_conv n 72057594037927936), .v, .s 0] H33 kr fun gs34 w34 H34 => ?_
  clear H33
  show WP _ _ _ _ _ _
  have HL14 : St w.heap.size w w34 [((gs2 0).b, Obj.cells #[.int .u8 ((BitVec.toNat (dgB n 72057594037927936) : Nat) : Int), .int .u8 ((BitVec.toNat (dgB n 281474976710656) : Nat) : Int), .int .u8 ((BitVec.toNat (dgB n 1099511627776) : Nat) : Int), .int .u8 ((BitVec.toNat (dgB n 4294967296) : Nat) : Int), .int .u8 ((BitVec.toNat (dgB n 16777216) : Nat) : Int), .int .u8 ((BitVec.toNat (dgB n 65536) : Nat) : Int), .int .u8 ((BitVec.toNat (dgB n 256) : Nat) : Int), .int .u8 ((BitVec.toNat (dgB n 1) : Nat) : Int)] 72 (0, 0))] := H34.as kr
  clear H34
  refine rL [.v, .v] HL14 kr fun gs35 w35 H35 => ?_
  clear HL14
  show WPL _ _ _ _ _ _
  refine g_next ?_
  refine rS [.v] H35 kr fun gs36 w36 H36 => ?_
  clear H35
  refine g_keep [0, 2, 3, 4, 5, 6] fun ρ6 => ?_
  have HK15 := H36.keep
  clear H36
  refine g_seq kr ?_
  refine g_cond_f kr kr ?_
  refine g_exit 0 kr ?_
  show WP _ _ _ _ _ _
  have HL16 : St w.heap.size w w36 [((gs2 0).b, Obj.cells #[.int .u8 ((BitVec.toNat (dgB n 72057594037927936) : Nat) : Int), .int .u8 ((BitVec.toNat (dgB n 281474976710656) : Nat) : Int), .int .u8 ((BitVec.toNat (dgB n 1099511627776) : Nat) : Int), .int .u8 ((BitVec.toNat (dgB n 4294967296) : Nat) : Int), .int .u8 ((BitVec.toNat (dgB n 16777216) : Nat) : Int), .int .u8 ((BitVec.toNat (dgB n 65536) : Nat) : Int), .int .u8 ((BitVec.toNat (dgB n 256) : Nat) : Int), .int .u8 ((BitVec.toNat (dgB n 1) : Nat) : Int)] 72 (0, 0))] := HK15.as kr
  clear HK15
  have hz_1 : ∀ (ρ : Env) (o : Oper) (w : World), o.op = .slice 72 (.tmp 3) none none none → Ins (ev ρ) [((.tmp 3), .pointer (some ⟨(gs2 0).b, 0, none⟩))] → (execOp (ev ρ) o).run Tryd.prog w = .ok (.value (.slice (some ⟨(gs2 0).b, 0, none⟩) 8 8)) w := (fun ρ o w ho hi => slArr_run (t := 72) (n := 8) (e := 5) (z := 1) kr kr (x := (.tmp 3)) ((gs2 0).b) ho hi.1 w)
  refine rS [.o hz_1, .x (op := .convert 46 9 (.tmp 17)) (ins := [((.tmp 17), .slice (some ⟨(gs2 0).b, 0, none⟩) 8 8)]) [(0, ((gs2 0).b, Obj.cells #[.int .u8 ((BitVec.toNat (dgB n 72057594037927936) : Nat) : Int), .int .u8 ((BitVec.toNat (dgB n 281474976710656) : Nat) : Int), .int .u8 ((BitVec.toNat (dgB n 1099511627776) : Nat) : Int), .int .u8 ((BitVec.toNat (dgB n 4294967296) : Nat) : Int), .int .u8 ((BitVec.toNat (dgB n 16777216) : Nat) : Int), .int .u8 ((BitVec.toNat (dgB n 65536) : Nat) : Int), .int .u8 ((BitVec.toNat (dgB n 256) : Nat) : Int), .int .u8 ((BitVec.toNat (dgB n 1) : Nat) : Int)] 72 (0, 0)))] (bytesX (t := 46) (t' := 9) (e := 5) [((BitVec.toNat (dgB n 72057594037927936) : Nat) : Int), ((BitVec.toNat (dgB n 281474976710656) : Nat) : Int), ((BitVec.toNat (dgB n 1099511627776) : Nat) : Int), ((BitVec.toNat (dgB n 4294967296) : Nat) : Int), ((BitVec.toNat (dgB n 16777216) : Nat) : Int), ((BitVec.toNat (dgB n 65536) : Nat) : Int), ((BitVec.toNat (dgB n 256) : Nat) : Int), ((BitVec.toNat (dgB n 1) : Nat) : Int)] kr kr kr (Rw.lit #[.int .u8 ((BitVec.toNat (dgB n 72057594037927936) : Nat) : Int), .int .u8 ((BitVec.toNat (dgB n 281474976710656) : Nat) : Int), .int .u8 ((BitVec.toNat (dgB n 1099511627776) : Nat) : Int), .int .u8 ((BitVec.toNat (dgB n 4294967296) : Nat) : Int), .int .u8 ((BitVec.toNat (dgB n 16777216) : Nat) : Int), .int .u8 ((BitVec.toNat (dgB n 65536) : Nat) : Int), .int .u8 ((BitVec.toNat (dgB n 256) : Nat) : Int), .int .u8 ((BitVec.toNat (dgB n 1) : Nat) : Int)] 8 (by rfl) (by unfold maxLen; omega))), .c (trim_fn (strOfNums ([((BitVec.toNat (dgB n 72057594037927936) : Nat) : Int), ((BitVec.toNat (dgB n 281474976710656) : Nat) : Int), ((BitVec.toNat (dgB n 1099511627776) : Nat) : Int), ((BitVec.toNat (dgB n 4294967296) : Nat) : Int), ((BitVec.toNat (dgB n 16777216) : Nat) : Int), ((BitVec.toNat (dgB n 65536) : Nat) : Int), ((BitVec.toNat (dgB n 256) : Nat) : Int), ((BitVec.toNat (dgB n 1) : Nat) : Int)])) (by rw [strOfNums_size]; show 8 ≤ 140737488355328; omega)), .v] HL16 kr fun gs37 w37 H37 => ?_
  clear HL16
  refine g_ret kr ?_
  show ∃ vs, Res _ _ _ _ vs ∧ _
  refine ⟨[.string (strB ((tl (strOfNums ([((BitVec.toNat (dgB n 72057594037927936) : Nat) : Int), ((BitVec.toNat (dgB n 281474976710656) : Nat) : Int), ((BitVec.toNat (dgB n 1099511627776) : Nat) : Int), ((BitVec.toNat (dgB n 4294967296) : Nat) : Int), ((BitVec.toNat (dgB n 16777216) : Nat) : Int), ((BitVec.toNat (dgB n 65536) : Nat) : Int), ((BitVec.toNat (dgB n 256) : Nat) : Int), ((BitVec.toNat (dgB n 1) : Nat) : Int)]))).dropWhile (· == 0)))], (.tmp (.string (strB ((tl (strOfNums ([((BitVec.toNat (dgB n 72057594037927936) : Nat) : Int), ((BitVec.toNat (dgB n 281474976710656) : Nat) : Int), ((BitVec.toNat (dgB n 1099511627776) : Nat) : Int), ((BitVec.toNat (dgB n 4294967296) : Nat) : Int), ((BitVec.toNat (dgB n 16777216) : Nat) : Int), ((BitVec.toNat (dgB n 65536) : Nat) : Int), ((BitVec.toNat (dgB n 256) : Nat) : Int), ((BitVec.toNat (dgB n 1) : Nat) : Int)]))).dropWhile (· == 0)))) kr .nil), ?_, H37.below⟩
  exact congrArg Value.string (congrArg strB (be_drop n hn))
set_option maxRecDepth 100000 in
set_option maxHeartbeats 2000000 in
theorem head_fn (l : Bool) (s : ByteArray) (p : Option Addr) (n c m : Nat) (hm : m < 18446744073709551616) : Fn Tryd.prog 40 #[.agg #[.bool l, .string s, .slice p n c], .int .u64 ((m : Nat) : Int)] (.string (strB (hd (frm l) m))) := by
  refine Fn.intro (c := codeOf Tryd.f40) [.tmp 4] 29 Tryd.func40 kr kr kr fun w => ?_
  have H0 := St.start w
  refine rS [.b, .v] H0 kr fun gs1 w1 H1 => ?_
  clear H0
  refine rS [.v] H1 kr fun gs2 w2 H2 => ?_
  clear H1
  refine g_seq kr ?_
  refine rS [.v, .l 0] H2 kr fun gs3 w3 H3 => ?_
  clear H2
  rcases (Bool.eq_false_or_eq_true (l)).symm with hq1 | hq1
  · skip
    refine g_now 8 (v := .bool l) (v' := .bool false) (bool_eq hq1) kr ?_
    refine g_cond_f kr kr ?_
    refine g_skip kr ?_
    show WP _ _ _ _ _ _
    refine g_seq kr ?_
    refine g_sreg [0, 1] kr kr ?_
    refine rp [.v] H3 kr fun gs4 w4 H4 => ?_
    show WPs _ _ _ _ [1] _ _
    clear H3
    by_cases hc1 : (m : Nat) ≤ 55
    · skip
      refine rp [.e (v := .bool (decide (((m : Nat) : Int) ≤ 55))) (v' := .bool true) (bool_eq (decide_eq_true (by omega)))] H4 kr fun gs5 w5 H5 => ?_
      show WPs _ _ _ _ [] _ _
      clear H4
      refine s_nil ?_
      refine g_cond_t kr kr ?_
      refine rS [.v, .v, .e (v := .int .u8 (IntKind.u8.wrap (((m : Nat) : Int)))) (v' := .int .u8 ((BitVec.toNat (BitVec.ofNat 8 m) : Nat) : Int)) (bv_ofNat_u8 m), .e (v := .int .u8 (IntKind.u8.wrap ((128) + (((BitVec.toNat (BitVec.ofNat 8 m) : Nat) : Int))))) (v' := .int .u8 ((BitVec.toNat ((128 : BitVec 8) + (BitVec.ofNat 8 m)) : Nat) : Int)) (bv_add_u8 (128 : BitVec 8) (BitVec.ofNat 8 m)), .nw (fun b => .slice (some ⟨b, 0, none⟩) 1 1) #[.int .u8 ((BitVec.toNat ((128 : BitVec 8) + (BitVec.ofNat 8 m)) : Nat) : Int)] 5, .w fun nn => .x (op := .convert 46 9 (.tmp 15)) (ins := [((.tmp 15), .slice (some ⟨(nn 1), 0, none⟩) 1 1)]) [(1, ((nn 1), Obj.cells #[.int .u8 ((BitVec.toNat ((128 : BitVec 8) + (BitVec.ofNat 8 m)) : Nat) : Int)] 5 (0, 0)))] (bytesX (t := 46) (t' := 9) (e := 5) [((BitVec.toNat ((128 : BitVec 8) + (BitVec.ofNat 8 m)) : Nat) : Int)] kr kr kr (Rw.lit #[.int .u8 ((BitVec.toNat ((128 : BitVec 8) + (BitVec.ofNat 8 m)) : Nat) : Int)] 1 (by rfl) (by unfold maxLen; omega))), .v] H5 kr fun gs6 w6 H6 => ?_
      clear H5
      refine g_ret kr ?_
      show ∃ vs, Res _ _ _ _ vs ∧ _
      refine ⟨[.string (strOfNums ([((BitVec.toNat ((128 : BitVec 8) + (BitVec.ofNat 8 m)) : Nat) : Int)]))], (.tmp (.string (strOfNums ([((BitVec.toNat ((128 : BitVec 8) + (BitVec.ofNat 8 m)) : Nat) : Int)]))) kr .nil), ?_, H6.below⟩
      exact congrArg Value.string (hd_small (f := frm l) _ (by rw [hq1]; rfl) m (by omega) (by rw [hq1]; decide))
    · skip
      refine rp [.e (v := .bool (decide (((m : Nat) : Int) ≤ 55))) (v' := .bool false) (bool_eq (decide_eq_false (by omega)))] H4 kr fun gs7 w7 H7 => ?_
      show WPs _ _ _ _ [] _ _
      clear H4
      refine s_nil ?_
      refine g_cond_f kr kr ?_
      refine g_skip kr ?_
      show WP _ _ _ _ _ _
      refine rS [.v, .c (digits_fn m (by omega)), .v] H7 kr fun gs8 w8 H8 => ?_
      clear H7
      refine rS [.v, .v, .v, .v, .e (v := .int .u8 (IntKind.u8.wrap (((ByteArray.size (strB (dg m)) : Nat) : Int)))) (v' := .int .u8 ((BitVec.toNat (BitVec.ofNat 8 (ByteArray.size (strB (dg m)))) : Nat) : Int)) (bv_ofNat_u8 (ByteArray.size (strB (dg m)))), .e (v := .int .u8 (IntKind.u8.wrap ((183) + (((BitVec.toNat (BitVec.ofNat 8 (ByteArray.size (strB (dg m)))) : Nat) : Int))))) (v' := .int .u8 ((BitVec.toNat ((183 : BitVec 8) + (BitVec.ofNat 8 (ByteArray.size (strB (dg m))))) : Nat) : Int)) (bv_add_u8 (183 : BitVec 8) (BitVec.ofNat 8 (ByteArray.size (strB (dg m))))), .nw (fun b => .slice (some ⟨b, 0, none⟩) 1 1) #[.int .u8 ((BitVec.toNat ((183 : BitVec 8) + (BitVec.ofNat 8 (ByteArray.size (strB (dg m))))) : Nat) : Int)] 5, .w fun nn => .x (op := .convert 46 9 (.tmp 25)) (ins := [((.tmp 25), .slice (some ⟨(nn 1), 0, none⟩) 1 1)]) [(1, ((nn 1), Obj.cells #[.int .u8 ((BitVec.toNat ((183 : BitVec 8) + (BitVec.ofNat 8 (ByteArray.size (strB (dg m))))) : Nat) : Int)] 5 (0, 0)))] (bytesX (t := 46) (t' := 9) (e := 5) [((BitVec.toNat ((183 : BitVec 8) + (BitVec.ofNat 8 (ByteArray.size (strB (dg m))))) : Nat) : Int)] kr kr kr (Rw.lit #[.int .u8 ((BitVec.toNat ((183 : BitVec 8) + (BitVec.ofNat 8 (ByteArray.size (strB (dg m))))) : Nat) : Int)] 1 (by rfl) (by unfold maxLen; omega))), .v, .o (ins := [((.tmp 26), .string (strOfNums ([((BitVec.toNat ((183 : BitVec 8) + (BitVec.ofNat 8 (ByteArray.size (strB (dg m))))) : Nat) : Int)]))), ((.tmp 27), .string (strB (dg m)))]) (v := .string ((strOfNums ([((BitVec.toNat ((183 : BitVec 8) + (BitVec.ofNat 8 (ByteArray.size (strB (dg m))))) : Nat) : Int)])) ++ (strB (dg m)))) (fun ρ o w ho hi => sadd_run (t := 9) (t' := 9) (x := (.tmp 26)) (y := (.tmp 27)) (strOfNums ([((BitVec.toNat ((183 : BitVec 8) + (BitVec.ofNat 8 (ByteArray.size (strB (dg m))))) : Nat) : Int)])) (strB (dg m)) w ho hi.1 hi.2.1 (by rw [strOfNums_size, strB_size]; have := dg_len m; show 1 + _ ≤ _; omega)), .v] H8 kr fun gs9 w9 H9 => ?_
      clear H8
      refine g_ret kr ?_
      show ∃ vs, Res _ _ _ _ vs ∧ _
      refine ⟨[.string ((strOfNums ([((BitVec.toNat ((183 : BitVec 8) + (BitVec.ofNat 8 (ByteArray.size (strB (dg m))))) : Nat) : Int)])) ++ (strB (dg m)))], (.tmp (.string ((strOfNums ([((BitVec.toNat ((183 : BitVec 8) + (BitVec.ofNat 8 (ByteArray.size (strB (dg m))))) : Nat) : Int)])) ++ (strB (dg m)))) kr .nil), ?_, H9.below⟩
      exact congrArg Value.string (hd_big (f := frm l) _ (by rw [hq1]; rfl) m (by omega) (by rw [hq1]; decide))
  · skip
    refine g_now 8 (v := .bool l) (v' := .bool true) (bool_eq hq1) kr ?_
    refine g_cond_t kr kr ?_
    refine rL [.v] H3 kr fun gs10 w10 H10 => ?_
    clear H3
    show WP _ _ _ _ _ _
    refine g_seq kr ?_
    refine g_sreg [0, 1] kr kr ?_
    refine rp [.v] H10 kr fun gs11 w11 H11 => ?_
    show WPs _ _ _ _ [1] _ _
    clear H10
    by_cases hc2 : (m : Nat) ≤ 55
    · skip
      refine rp [.e (v := .bool (decide (((m : Nat) : Int) ≤ 55))) (v' := .bool true) (bool_eq (decide_eq_true (by omega)))] H11 kr fun gs12 w12 H12 => ?_
      show WPs _ _ _ _ [] _ _
      clear H11
      refine s_nil ?_
      refine g_cond_t kr kr ?_
      refine rS [.v, .v, .e (v := .int .u8 (IntKind.u8.wrap (((m : Nat) : Int)))) (v' := .int .u8 ((BitVec.toNat (BitVec.ofNat 8 m) : Nat) : Int)) (bv_ofNat_u8 m), .e (v := .int .u8 (IntKind.u8.wrap ((192) + (((BitVec.toNat (BitVec.ofNat 8 m) : Nat) : Int))))) (v' := .int .u8 ((BitVec.toNat ((192 : BitVec 8) + (BitVec.ofNat 8 m)) : Nat) : Int)) (bv_add_u8 (192 : BitVec 8) (BitVec.ofNat 8 m)), .nw (fun b => .slice (some ⟨b, 0, none⟩) 1 1) #[.int .u8 ((BitVec.toNat ((192 : BitVec 8) + (BitVec.ofNat 8 m)) : Nat) : Int)] 5, .w fun nn => .x (op := .convert 46 9 (.tmp 15)) (ins := [((.tmp 15), .slice (some ⟨(nn 1), 0, none⟩) 1 1)]) [(1, ((nn 1), Obj.cells #[.int .u8 ((BitVec.toNat ((192 : BitVec 8) + (BitVec.ofNat 8 m)) : Nat) : Int)] 5 (0, 0)))] (bytesX (t := 46) (t' := 9) (e := 5) [((BitVec.toNat ((192 : BitVec 8) + (BitVec.ofNat 8 m)) : Nat) : Int)] kr kr kr (Rw.lit #[.int .u8 ((BitVec.toNat ((192 : BitVec 8) + (BitVec.ofNat 8 m)) : Nat) : Int)] 1 (by rfl) (by unfold maxLen; omega))), .v] H12 kr fun gs13 w13 H13 => ?_
      clear H12
      refine g_ret kr ?_
      show ∃ vs, Res _ _ _ _ vs ∧ _
      refine ⟨[.string (strOfNums ([((BitVec.toNat ((192 : BitVec 8) + (BitVec.ofNat 8 m)) : Nat) : Int)]))], (.tmp (.string (strOfNums ([((BitVec.toNat ((192 : BitVec 8) + (BitVec.ofNat 8 m)) : Nat) : Int)]))) kr .nil), ?_, H13.below⟩
      exact congrArg Value.string (hd_small (f := frm l) _ (by rw [hq1]; rfl) m (by omega) (by rw [hq1]; decide))
    · skip
      refine rp [.e (v := .bool (decide (((m : Nat) : Int) ≤ 55))) (v' := .bool false) (bool_eq (decide_eq_false (by omega)))] H11 kr fun gs14 w14 H14 => ?_
      show WPs _ _ _ _ [] _ _
      clear H11
      refine s_nil ?_
      refine g_cond_f kr kr ?_
      refine g_skip kr ?_
      show WP _ _ _ _ _ _
      refine rS [.v, .c (digits_fn m (by omega)), .v] H14 kr fun gs15 w15 H15 => ?_
      clear H14
      refine rS [.v, .v, .v, .v, .e (v := .int .u8 (IntKind.u8.wrap (((ByteArray.size (strB (dg m)) : Nat) : Int)))) (v' := .int .u8 ((BitVec.toNat (BitVec.ofNat 8 (ByteArray.size (strB (dg m)))) : Nat) : Int)) (bv_ofNat_u8 (ByteArray.size (strB (dg m)))), .e (v := .int .u8 (IntKind.u8.wrap ((247) + (((BitVec.toNat (BitVec.ofNat 8 (ByteArray.size (strB (dg m)))) : Nat) : Int))))) (v' := .int .u8 ((BitVec.toNat ((247 : BitVec 8) + (BitVec.ofNat 8 (ByteArray.size (strB (dg m))))) : Nat) : Int)) (bv_add_u8 (247 : BitVec 8) (BitVec.ofNat 8 (ByteArray.size (strB (dg m))))), .nw (fun b => .slice (some ⟨b, 0, none⟩) 1 1) #[.int .u8 ((BitVec.toNat ((247 : BitVec 8) + (BitVec.ofNat 8 (ByteArray.size (strB (dg m))))) : Nat) : Int)] 5, .w fun nn => .x (op := .convert 46 9 (.tmp 25)) (ins := [((.tmp 25), .slice (some ⟨(nn 1), 0, none⟩) 1 1)]) [(1, ((nn 1), Obj.cells #[.int .u8 ((BitVec.toNat ((247 : BitVec 8) + (BitVec.ofNat 8 (ByteArray.size (strB (dg m))))) : Nat) : Int)] 5 (0, 0)))] (bytesX (t := 46) (t' := 9) (e := 5) [((BitVec.toNat ((247 : BitVec 8) + (BitVec.ofNat 8 (ByteArray.size (strB (dg m))))) : Nat) : Int)] kr kr kr (Rw.lit #[.int .u8 ((BitVec.toNat ((247 : BitVec 8) + (BitVec.ofNat 8 (ByteArray.size (strB (dg m))))) : Nat) : Int)] 1 (by rfl) (by unfold maxLen; omega))), .v, .o (ins := [((.tmp 26), .string (strOfNums ([((BitVec.toNat ((247 : BitVec 8) + (BitVec.ofNat 8 (ByteArray.size (strB (dg m))))) : Nat) : Int)]))), ((.tmp 27), .string (strB (dg m)))]) (v := .string ((strOfNums ([((BitVec.toNat ((247 : BitVec 8) + (BitVec.ofNat 8 (ByteArray.size (strB (dg m))))) : Nat) : Int)])) ++ (strB (dg m)))) (fun ρ o w ho hi => sadd_run (t := 9) (t' := 9) (x := (.tmp 26)) (y := (.tmp 27)) (strOfNums ([((BitVec.toNat ((247 : BitVec 8) + (BitVec.ofNat 8 (ByteArray.size (strB (dg m))))) : Nat) : Int)])) (strB (dg m)) w ho hi.1 hi.2.1 (by rw [strOfNums_size, strB_size]; have := dg_len m; show 1 + _ ≤ _; omega)), .v] H15 kr fun gs16 w16 H16 => ?_
      clear H15
      refine g_ret kr ?_
      show ∃ vs, Res _ _ _ _ vs ∧ _
      refine ⟨[.string ((strOfNums ([((BitVec.toNat ((247 : BitVec 8) + (BitVec.ofNat 8 (ByteArray.size (strB (dg m))))) : Nat) : Int)])) ++ (strB (dg m)))], (.tmp (.string ((strOfNums ([((BitVec.toNat ((247 : BitVec 8) + (BitVec.ofNat 8 (ByteArray.size (strB (dg m))))) : Nat) : Int)])) ++ (strB (dg m)))) kr .nil), ?_, H16.below⟩
      exact congrArg Value.string (hd_big (f := frm l) _ (by rw [hq1]; rfl) m (by omega) (by rw [hq1]; decide))
set_option maxRecDepth 100000 in
set_option maxHeartbeats 2000000 in
theorem inside_step (m : Nat) (ih : ∀ (l : Bool) (s : ByteArray) (p : Option Addr) (n c : Nat) (k : Fo), s.size ≤ 140737488355328 → s.size + wtF k ≤ 4611686018427387904 → k.cnt < m → FnP Tryd.prog 25 #[.agg #[.bool l, .string s, .slice p n c]] (fun w => SlAt w.heap.size w p n k) (.int .u64 ((sz1 l s (szF k) : Nat) : Int))) (l : Bool) (s : ByteArray) (p : Option Addr) (n c : Nat) (k : Fo) (hs : s.size ≤ 140737488355328) (hw : s.size + wtF k ≤ 4611686018427387904) (hkm : k.cnt < m + 1) : FnP Tryd.prog 39 #[.agg #[.bool l, .string s, .slice p n c]] (fun w => SlAt w.heap.size w p n k) (.int .u64 ((ByteArray.size s + szF k : Nat) : Int)) := by
  refine FnP.intro (c := codeOf Tryd.f39) [.tmp 2] 23 Tryd.func39 kr kr kr fun w hpre => ?_
  have H0 := St.start w
  have hn := hpre.1
  have hnm := hpre.2.1
  refine rS [.b, .v] H0 kr fun gs1 w1 H1 => ?_
  clear H0
  refine rS [.v, .l 0, .v, .e (v := .int .u64 (IntKind.u64.wrap (((ByteArray.size s : Nat) : Int)))) (v' := .int .u64 ((ByteArray.size s : Nat) : Int)) (int_eq (wrapN_u64 (a := ByteArray.size s) (by omega))), .v] H1 kr fun gs2 w2 H2 => ?_
  clear H1
  refine g_seq kr ?_
  refine rS [.v, .l 0, .v, .v] H2 kr fun gs3 w3 H3 => ?_
  clear H2
  refine g_block 0 kr ?_
  have HL1 : St w.heap.size w w3 [((gs1 0).b, Obj.cells #[.bool l, .string s, .slice p n c] 24 (0, 0))] := H3.as kr
  clear H3
  have HD2 : St w.heap.size w w3 [] := HL1.sub (List.Sublist.cons _ List.Sublist.slnil)
  refine g_loop kr (fun mz ρ ww => ∃ (i : Nat) (r : Fo) (a : Nat), n - i = mz ∧ (FoR w.heap.size w p i r) ∧ (i + Fo.len r = n) ∧ (Fo.cnt r ≤ Fo.cnt k) ∧ (a + wtF r ≤ 4611686018427387904) ∧ (s.size + szF k = a + szF r) ∧ St w.heap.size w ww [] ∧ Is [(0, .agg #[.bool l, .string s, .slice p n c]), (1, .pointer (some ⟨(gs1 0).b, 0, none⟩)), (2, .int .u64 0), (3, .int .u64 ((a : Nat) : Int)), (11, .slice p n c), (12, .int .i64 ((n : Nat) : Int)), (13, .int .i64 ((i : Nat) : Int))] ρ) (n - 0) ⟨0, k, (ByteArray.size s), rfl, (SlAt.start hpre), (by have hn0 := (hpre).1; omega), (Nat.le_refl _), hw, rfl, HD2, (Is.of ⟨kr, kr, kr, kr, kr, kr, kr, trivial⟩)⟩ ?_
  clear HD2
  rintro _ _ w4 ⟨i, r, a, rfl, hR, hN, hcn, hwt, hd, H4, _, rfl⟩
  by_cases hc3 : (i : Nat) < n
  · skip
    refine rS [.e (v := .bool (decide (((i : Nat) : Int) < ((n : Nat) : Int)))) (v' := .bool true) (bool_eq (decide_eq_true (by omega)))] H4 kr fun gs5 w5 H5 => ?_
    clear H4
    refine g_seq kr ?_
    refine g_cond_t kr kr ?_
    refine g_skip kr ?_
    show WP _ _ _ _ _ _
    refine g_seq kr ?_
    refine g_block 1 kr ?_
    obtain ⟨l1, s1, k1, r1, b1, off1, C1, T1, fz1, p1, n1, c1, hr1, hp1, hb1, hh1, hs1, hx1, hz1, hk1, hR1, hN1⟩ := FoR.open hR hN (by omega)
    refine rS [.o (ins := [((.tmp 11), .slice p n c), ((.tmp 13), .int .i64 ((i : Nat) : Int))]) (v := .pointer (some ⟨b1, off1 + i * 3, none⟩)) (fun ρ o w ho hi => idxO_run (kd := .i64) (t := 22) (e := 24) (bytes := 48) kr (x := (.tmp 11)) (y := (.tmp 13)) b1 off1 n c i hp1 ho hi.1 hi.2.1 (by omega) w), .fp (off := off1 + i * 3) (n := 3) (W := #[.bool l1, .string s1, .slice p1 n1 c1]) hh1 hb1 hs1 hx1, .a, .s 0] H5 kr fun gs6 w6 H6 => ?_
    clear H5
    have hcn1 := hcn
    rw [hr1] at hcn1
    simp only [Fo.cnt] at hcn1
    have hwt1 := hwt
    rw [hr1] at hwt1
    simp only [wtF] at hwt1
    have hsl1 := szF_le k1
    have hsm1 := sz1_le l1 s1 (szF k1)
    refine rL [.v, .l 0, .cp (pre := fun w => SlAt w.heap.size w p1 n1 k1) (ih l1 s1 p1 n1 c1 k1 hz1 (by omega) (by omega)) [] (fun w hb hd => (SlAt.call hk1 hb)), .e (v := .int .u64 (IntKind.u64.wrap (((a : Nat) : Int) + ((sz1 l1 s1 (szF k1) : Nat) : Int)))) (v' := .int .u64 ((a + (sz1 l1 s1 (szF k1)) : Nat) : Int)) (int_eq (wrapAdd_u64 (a := a) (b := sz1 l1 s1 (szF k1)) (by omega))), .v] H6 kr fun gs7 w7 H7 => ?_
    clear H6
    show WP _ _ _ _ _ _
    refine g_keep [0, 1, 2, 3, 5, 11, 12, 13, 14] fun ρ1 => ?_
    have HK4 := H7.keep
    clear H7
    refine rL [.e (v := .int .i64 (IntKind.i64.wrap (((i : Nat) : Int) + 1))) (v' := .int .i64 ((i + 1 : Nat) : Int)) (int_eq (wrapAdd_i64 (a := i) (b := 1) (by omega))), .v] HK4 kr fun gs8 w8 H8 => ?_
    clear HK4
    have HL5 : St w.heap.size w w8 [((gs6 2).b, Obj.cells #[.bool l1, .string s1, .slice p1 n1 c1] 24 (0, 0))] := H8.as kr
    clear H8
    have HD6 : St w.heap.size w w8 [] := HL5.sub (List.Sublist.cons _ List.Sublist.slnil)
    show ∃ m, _ ∧ _
    exact ⟨_, (by omega), (i + 1), r1, (a + sz1 l1 s1 (szF k1)), rfl, hR1, hN1, (by omega), (by omega), (by rw [hd, hr1]; simp only [szF]; omega), HD6, (Is.of ⟨kr, kr, kr, kr, kr, kr, kr, trivial⟩)⟩
  · skip
    refine rS [.e (v := .bool (decide (((i : Nat) : Int) < ((n : Nat) : Int)))) (v' := .bool false) (bool_eq (decide_eq_false (by omega)))] H4 kr fun gs9 w9 H9 => ?_
    clear H4
    refine g_seq kr ?_
    refine g_cond_f kr kr ?_
    refine g_exit 0 kr ?_
    show WP _ _ _ _ _ _
    refine rS [.v, .v] H9 kr fun gs10 w10 H10 => ?_
    clear H9
    refine g_ret kr ?_
    show ∃ vs, Res _ _ _ _ vs ∧ _
    refine ⟨[.int .u64 ((a : Nat) : Int)], (.tmp (.int .u64 ((a : Nat) : Int)) kr .nil), ?_, H10.below⟩
    refine int_eq ?_
    rw [hd, FoR.done hN (by omega)]; rfl
set_option maxRecDepth 100000 in
set_option maxHeartbeats 2000000 in
theorem size_step (m : Nat) (ih : ∀ (l : Bool) (s : ByteArray) (p : Option Addr) (n c : Nat) (k : Fo), s.size ≤ 140737488355328 → s.size + wtF k ≤ 4611686018427387904 → k.cnt < m → FnP Tryd.prog 25 #[.agg #[.bool l, .string s, .slice p n c]] (fun w => SlAt w.heap.size w p n k) (.int .u64 ((sz1 l s (szF k) : Nat) : Int))) (l : Bool) (s : ByteArray) (p : Option Addr) (n c : Nat) (k : Fo) (hs : s.size ≤ 140737488355328) (hw : s.size + wtF k ≤ 4611686018427387904) (hkm : k.cnt < m + 1) : FnP Tryd.prog 25 #[.agg #[.bool l, .string s, .slice p n c]] (fun w => SlAt w.heap.size w p n k) (.int .u64 ((sz1 l s (szF k) : Nat) : Int)) := by
  refine FnP.intro (c := codeOf Tryd.f25) [.tmp 2] 16 Tryd.func25 kr kr kr fun w hpre => ?_
  have H0 := St.start w
  have hn := hpre.1
  have hnm := hpre.2.1
  refine rS [.b, .v] H0 kr fun gs1 w1 H1 => ?_
  clear H0
  refine g_seq kr ?_
  refine rS [.v, .l 0, .c (single_fn s)] H1 kr fun gs2 w2 H2 => ?_
  clear H1
  rcases (Bool.eq_false_or_eq_true (single s)).symm with hq1 | hq1
  · skip
    refine g_now 6 (v := .bool (single s)) (v' := .bool false) (bool_eq hq1) kr ?_
    refine g_cond_f kr kr ?_
    refine g_skip kr ?_
    show WP _ _ _ _ _ _
    refine rS [.l 0, .cp (pre := fun w => SlAt w.heap.size w p n k) (inside_step m ih l s p n c k (by omega) (by omega) (by omega)) [] (fun w hb hd => (SlAt.call hpre hb)), .v] H2 kr fun gs3 w3 H3 => ?_
    clear H2
    have hhl := hd_len (frm l) (ByteArray.size s + szF k)
    have hsz := szF_le k
    have hhs : ByteArray.size (strB (hd (frm l) (ByteArray.size s + szF k))) ≤ 9 := hhl.2
    refine rS [.l 0, .v, .c (head_fn l s p n c (ByteArray.size s + szF k) (by omega)), .v, .e (v := .int .u64 (IntKind.u64.wrap (((ByteArray.size (strB (hd (frm l) (ByteArray.size s + szF k))) : Nat) : Int)))) (v' := .int .u64 ((ByteArray.size (strB (hd (frm l) (ByteArray.size s + szF k))) : Nat) : Int)) (int_eq (wrapN_u64 (a := ByteArray.size (strB (hd (frm l) (ByteArray.size s + szF k)))) (by omega))), .v, .e (v := .int .u64 (IntKind.u64.wrap (((ByteArray.size (strB (hd (frm l) (ByteArray.size s + szF k))) : Nat) : Int) + ((ByteArray.size s + szF k : Nat) : Int)))) (v' := .int .u64 (((ByteArray.size (strB (hd (frm l) (ByteArray.size s + szF k)))) + (ByteArray.size s + szF k) : Nat) : Int)) (int_eq (wrapAdd_u64 (a := ByteArray.size (strB (hd (frm l) (ByteArray.size s + szF k)))) (b := ByteArray.size s + szF k) (by omega))), .v] H3 kr fun gs4 w4 H4 => ?_
    clear H3
    refine g_ret kr ?_
    show ∃ vs, Res _ _ _ _ vs ∧ _
    refine ⟨[.int .u64 (((ByteArray.size (strB (hd (frm l) (ByteArray.size s + szF k)))) + (ByteArray.size s + szF k) : Nat) : Int)], (.tmp (.int .u64 (((ByteArray.size (strB (hd (frm l) (ByteArray.size s + szF k)))) + (ByteArray.size s + szF k) : Nat) : Int)) kr .nil), ?_, H4.below⟩
    refine int_eq ?_
    unfold sz1; rw [if_neg (by rw [hq1]; decide)]; rfl
  · skip
    refine g_now 6 (v := .bool (single s)) (v' := .bool true) (bool_eq hq1) kr ?_
    refine g_cond_t kr kr ?_
    refine rS [.v] H2 kr fun gs5 w5 H5 => ?_
    clear H2
    refine g_ret kr ?_
    show ∃ vs, Res _ _ _ _ vs ∧ _
    refine ⟨[.int .u64 1], (.tmp (.int .u64 1) kr .nil), ?_, H5.below⟩
    refine int_eq ?_
    unfold sz1; rw [if_pos hq1]; rfl
theorem size_fn (l : Bool) (s : ByteArray) (p : Option Addr) (n c : Nat) (k : Fo) (hs : s.size ≤ 140737488355328) (hw : s.size + wtF k ≤ 4611686018427387904) : FnP Tryd.prog 25 #[.agg #[.bool l, .string s, .slice p n c]] (fun w => SlAt w.heap.size w p n k) (.int .u64 ((sz1 l s (szF k) : Nat) : Int)) := by
  have key : ∀ (m : Nat) (l : Bool) (s : ByteArray) (p : Option Addr) (n c : Nat) (k : Fo), s.size ≤ 140737488355328 → s.size + wtF k ≤ 4611686018427387904 → k.cnt < m → FnP Tryd.prog 25 #[.agg #[.bool l, .string s, .slice p n c]] (fun w => SlAt w.heap.size w p n k) (.int .u64 ((sz1 l s (szF k) : Nat) : Int)) := by
    intro m
    induction m with
    | zero => intros; omega
    | succ m ih => intro l s p n c k hs hw hkm; exact size_step m ih l s p n c k hs hw hkm
  exact key (k.cnt + 1) l s p n c k hs hw (by omega)
theorem inside_fn (l : Bool) (s : ByteArray) (p : Option Addr) (n c : Nat) (k : Fo) (hs : s.size ≤ 140737488355328) (hw : s.size + wtF k ≤ 4611686018427387904) : FnP Tryd.prog 39 #[.agg #[.bool l, .string s, .slice p n c]] (fun w => SlAt w.heap.size w p n k) (.int .u64 ((ByteArray.size s + szF k : Nat) : Int)) := inside_step k.cnt (fun l s p n c k hs hw _ => size_fn l s p n c k hs hw) l s p n c k hs hw (by omega)
end Go.Proofs.YtdgoaaaagpeaaaaDoor

namespace Go.Proofs.YtdgoaaaagpeaaaaDoor
open Go Go.RowKit
set_option linter.unusedVariables false
theorem St.perm {B : Nat} {w0 w : World} {l l' : List (Nat × Obj)} (h : St B w0 w l) (hp : l'.Perm l) : St B w0 w l' :=
  ⟨h.below, h.le, fun x hx => h.own x (hp.mem_iff.1 hx), ((hp.map (·.1)).nodup_iff).2 h.nd⟩
/-- The builder in block p (of type T, its bytes of type e) holds out. -/
inductive BE (p : Nat) (T e : TypeId) : List UInt8 → List (Nat × Obj) → Prop
  | nil (a : Option Addr) : a = none ∨ a = some ⟨p, 0, none⟩ → BE p T e [] [(p, .cells #[.pointer a, .slice none 0 0] T (0, 0))]
  | row (a : Option Addr) (b n cap : Nat) (cur : Array Value) (out : List UInt8) : a = none ∨ a = some ⟨p, 0, none⟩ → n = out.length → Rw 1 cur cap n (cellsB out) →
      BE p T e out [(b, .cells cur e (0, 0)), (p, .cells #[.pointer a, .slice (some ⟨b, 0, none⟩) n cap] T (0, 0))]
/-- A call that writes from out to out' into a builder. -/
def FnB (P : Program) (f : Nat) (args : Array Value) (v : Value) (p : Nat) (T e : TypeId) (out out' : List UInt8) (pre : World → Prop) : Prop :=
  ∀ (w0 w : World) (L E : List (Nat × Obj)), BE p T e out E → pre w0 → St w0.heap.size w0 w (E ++ L) → Calls P f args w fun r w' => ∃ E', r = .returned v ∧ BE p T e out' E' ∧ St w0.heap.size w0 w' (E' ++ L)
/-- The same, where nothing lies beside it. -/
def FnB0 (P : Program) (f : Nat) (args : Array Value) (v : Value) (p : Nat) (T e : TypeId) (out out' : List UInt8) (pre : World → Prop) : Prop :=
  ∀ (w0 w : World) (E : List (Nat × Obj)), BE p T e out E → pre w0 → St w0.heap.size w0 w E → Calls P f args w fun r w' => ∃ E', r = .returned v ∧ BE p T e out' E' ∧ St w0.heap.size w0 w' E'
section
variable {P : Program} {N : Nat} {ops : Array Oper} {i : Nat} {r : List Nat} {K : Env → World → Prop} {ρ : Env} {w : World} {w0 : World} {l E : List (Nat × Obj)}
theorem s_callB (HS : St w0.heap.size w0 w (l ++ E)) {p : Nat} {T e : TypeId} {out : List UInt8} (hE : BE p T e out E) (d : Option Nat) (f : Nat) (args : Array Value) (v : Value) (out' : List UInt8) (pre : World → Prop) (hc : FnB P f args v p T e out out' pre) (hp : pre w0)
    (h : opv P ops i ρ w = some (d, true, .ok (.enter f args) w)) (hd : dOK d N = true)
    (kk : ∀ E' w', BE p T e out' E' → St w0.heap.size w0 w' (l ++ E') → WPs P N ops K r (updO ρ d v) w') : WPs P N ops K (i :: r) ρ w := by
  obtain ⟨o, ho, rfl, hw, hr⟩ := opv_some h
  refine WPo.run ho hw fun a ha => ?_
  rw [hr, Oper.upon_enter]
  refine (hc w0 w l E hE hp (HS.perm List.perm_append_comm)).mono ?_
  rintro _ w' ⟨E', rfl, hE', HS'⟩
  exact ⟨_, ha.put _ (dOK_lt hd) v, kk E' w' hE' (HS'.perm List.perm_append_comm)⟩
theorem s_callB0 (HS : St w0.heap.size w0 w E) {p : Nat} {T e : TypeId} {out : List UInt8} (hE : BE p T e out E) (d : Option Nat) (f : Nat) (args : Array Value) (v : Value) (out' : List UInt8) (pre : World → Prop) (hc : FnB0 P f args v p T e out out' pre) (hp : pre w0)
    (h : opv P ops i ρ w = some (d, true, .ok (.enter f args) w)) (hd : dOK d N = true)
    (kk : ∀ E' w', BE p T e out' E' → St w0.heap.size w0 w' E' → WPs P N ops K r (updO ρ d v) w') : WPs P N ops K (i :: r) ρ w := by
  obtain ⟨o, ho, rfl, hw, hr⟩ := opv_some h
  refine WPo.run ho hw fun a ha => ?_
  rw [hr, Oper.upon_enter]
  refine (hc w0 w E hE hp HS).mono ?_
  rintro _ w' ⟨E', rfl, hE', HS'⟩
  exact ⟨_, ha.put _ (dOK_lt hd) v, kk E' w' hE' HS'⟩
theorem FnB.intro {f : Nat} {fn : Func} {c : Code} (rs : List ResultVar) (N : Nat) {args : Array Value} {v : Value} {p : Nat} {T e : TypeId} {out out' : List UInt8} {pre : World → Prop} (hf : P.funcs[f]? = some fn) (hb : fn.body = some c) (hr : fn.results.toList = rs) (hn : args.size + (fn.ntmps - args.size) = N)
    (h : ∀ w0 w L E, BE p T e out E → pre w0 → St w0.heap.size w0 w (E ++ L) → WP P N c (ends P rs fun v' w' => v' = v ∧ ∃ E', BE p T e out' E' ∧ St w0.heap.size w0 w' (E' ++ L)) (ini args) w) : FnB P f args v p T e out out' pre := fun w0 w L E hE hp HS =>
  (calls_intro hf hb hr hn (h w0 w L E hE hp HS)).mono fun _ w' ⟨v', he, hv, E', h1, h2⟩ => ⟨E', by rw [he, hv], h1, h2⟩
theorem FnB0.intro {f : Nat} {fn : Func} {c : Code} (rs : List ResultVar) (N : Nat) {args : Array Value} {v : Value} {p : Nat} {T e : TypeId} {out out' : List UInt8} {pre : World → Prop} (hf : P.funcs[f]? = some fn) (hb : fn.body = some c) (hr : fn.results.toList = rs) (hn : args.size + (fn.ntmps - args.size) = N)
    (h : ∀ w0 w E, BE p T e out E → pre w0 → St w0.heap.size w0 w E → WP P N c (ends P rs fun v' w' => v' = v ∧ ∃ E', BE p T e out' E' ∧ St w0.heap.size w0 w' E') (ini args) w) : FnB0 P f args v p T e out out' pre := fun w0 w E hE hp HS =>
  (calls_intro hf hb hr hn (h w0 w E hE hp HS)).mono fun _ w' ⟨v', he, hv, E', h1, h2⟩ => ⟨E', by rw [he, hv], h1, h2⟩
def appendOp2 (t u : TypeId) (s x : Operand) : Op := .call { callee := .builtin .append, args := #[s, x], argTypes := #[t, u] }
theorem append2_ex {P : Program} {ρ : Env} {w w' : World} {o : Oper} {t u : TypeId} {s x : Operand} {vs v' : Value} {tx : ByteArray} (hop : o.op = appendOp2 t u s x) (hs : ev ρ s = vs) (hx : ev ρ x = .string tx)
    (hrun : (Builtin.append_ #[t, u] o.type #[vs, .string tx]).run P w = .ok v' w') : (execOp (ev ρ) o).run P w = .ok (.value v') w' := by
  unfold execOp
  simp only [hop, appendOp2, resolve, invoke, builtin, Sem.run_bind, Sem.run_pure, Result.andThen_ok, List.map_toArray, List.map_cons, List.map_nil, hs, hx, hrun]
/-- 'append(b, s...)', of a text, to a row. -/
theorem s_appendStr (HS : St w0.heap.size w0 w l) (d : Option Nat) (t u e : TypeId) (s x : Operand) (j b n cap : Nat) (cur : Array Value) (xs : List UInt8) (tx : ByteArray) (l' : Nat → Array Value → List (Nat × Obj))
    (h : opk ops i ρ = some (d, true, appendOp2 t u s x)) (hd : dOK d N = true) (ht : sliceOf P t = some (e, 1, 1)) (hu' : P.underlying u = some .string)
    (hs : ev ρ s = .slice (some ⟨b, 0, none⟩) n cap) (hj : l[j]? = some (b, .cells cur e (0, 0))) (hr : Rw 1 cur cap n (cellsB xs)) (hx : ev ρ x = .string tx) (hm : n + tx.size ≤ 140737488355328)
    (hl' : ∀ b' cur', l.set j (b', .cells cur' e (0, 0)) = l' b' cur')
    (kk : ∀ b' cap' cur' w', St w0.heap.size w0 w' (l' b' cur') → Rw 1 cur' cap' (n + tx.size) (cellsB (xs ++ tl tx)) → WPs P N ops K r (updO ρ d (.slice (some ⟨b', 0, none⟩) (n + tx.size) cap')) w') : WPs P N ops K (i :: r) ρ w := by
  obtain ⟨o, ho, rfl, hw, hop⟩ := opk_some h
  obtain ⟨it, z, hu, hi, hz, hsz, hby, hzs, h0⟩ := sliceOf_spec ht
  have hg := HS.get j hj
  have hcx : Lib.strCells tx = cellsB (tl tx) := rfl
  have hxn : xs.length = n := by have := hr.len; rw [cellsB_len] at this; omega
  have hlen : (cellsB (xs ++ tl tx)).length = (n + tx.size) * 1 := by rw [cellsB_len, List.length_append, tl_len]; omega
  have hcsz := hr.sz
  by_cases hroom : n + tx.size ≤ cap
  · have hrun := Lib.run_append_room_string (P := P) w t u o.type e it hu hu' hi hsz b n cap cur hg tx hroom (by omega)
    refine WPo.run ho hw fun a ha => ?_
    have hex : (execOp (ev ρ) o).run P w = .ok (.value (.slice (some ⟨b, 0, none⟩) (n + tx.size) cap)) (w.setRow b (cur.toList.take n ++ Lib.strCells tx ++ cur.toList.drop (n + tx.size)).toArray) := by
      unfold execOp
      simp only [hop, appendOp2, resolve, invoke, builtin, Sem.run_bind, Sem.run_pure, Result.andThen_ok, List.map_toArray, List.map_cons, List.map_nil, hs, hx, hrun]
    rw [hex, Oper.upon_value]
    have HS' := HS.store j (C' := (cur.toList.take n ++ Lib.strCells tx ++ cur.toList.drop (n + tx.size)).toArray) hj
    rw [hl'] at HS'
    refine ⟨_, ha.put _ (dOK_lt hd) _, kk b cap _ _ HS' ⟨hlen, hroom, hr.max, ?_, ?_⟩⟩
    · have h1 : cur.toList.take n = cellsB xs := by have := hr.take; rwa [Nat.mul_one] at this
      rw [h1, hcx, ← cellsB_append, ← hlen]
      exact List.take_left
    · simp only [List.size_toArray, List.length_append, List.length_take, List.length_drop, Array.length_toList, Lib.strCells_length]
      omega
  · have holds : ∀ q v, (cellsB xs)[q]? = some v → w.cell? ((⟨b, 0, none⟩ : Addr).add q) = some v := fun q v hq => by
      have hql : q < n := by rw [← hxn, ← cellsB_len]; exact (List.getElem?_eq_some_iff.1 hq).1
      rw [addr_add, Nat.zero_add]
      simp [World.cell?, hg, hr.get q (by omega), hq]
    have hrun := Lib.run_append_grow_string (P := P) w t u o.type e it z hu hu' hi hz ⟨b, 0, none⟩ n cap (cellsB xs) (by rw [cellsB_len, hsz]; omega) holds tx (by omega) (by omega) (by rw [hby]; exact growslice_fits (by omega) (by omega))
    refine WPo.run ho hw fun a ha => ?_
    rw [append2_ex hop hs hx hrun, Oper.upon_value]
    have hgr : w.grownBy (w.drew.alloc (.cells ((cellsB xs).toArray ++ (Lib.strCells tx).toArray ++ Builtin.zeroCells z.cells (grownCap w (n + tx.size) cap e - (n + tx.size))) e)) (some b) :=
      ⟨rfl, rfl, rfl, by simp, fun k hk _ => Go.heap_alloc_old w.drew _ hk⟩
    have HS' := HS.grown j hj hgr (.inr rfl) (heap_alloc_new w.drew _)
    rw [hl'] at HS'
    have hge := grownCap_ge w (n + tx.size) cap e
    refine ⟨_, ha.put _ (dOK_lt hd) _, kk _ (grownCap w (n + tx.size) cap e) _ _ HS' ⟨hlen, hge, grownCap_le_maxLen w (n + tx.size) cap e (by unfold maxLen; omega), ?_, ?_⟩⟩
    · simp only [Array.toList_append]
      rw [hcx]
      show List.take _ (cellsB xs ++ cellsB (tl tx) ++ _) = _
      rw [← cellsB_append, ← hlen]
      exact List.take_left
    · simp only [Array.size_append, List.size_toArray, size_zeroCells, hzs, cellsB_len, Lib.strCells_length]
      omega
/-- To none. -/
theorem s_appendStrNil (HS : St w0.heap.size w0 w l) (d : Option Nat) (t u e : TypeId) (s x : Operand) (tx : ByteArray)
    (h : opk ops i ρ = some (d, true, appendOp2 t u s x)) (hd : dOK d N = true) (ht : sliceOf P t = some (e, 1, 1)) (hu' : P.underlying u = some .string)
    (hs : ev ρ s = .slice none 0 0) (hx : ev ρ x = .string tx) (h0 : 0 < tx.size) (hm : tx.size ≤ 140737488355328)
    (kk : ∀ b' cap' cur' w', St w0.heap.size w0 w' ((b', .cells cur' e (0, 0)) :: l) → Rw 1 cur' cap' tx.size (cellsB (tl tx)) → WPs P N ops K r (updO ρ d (.slice (some ⟨b', 0, none⟩) tx.size cap')) w') : WPs P N ops K (i :: r) ρ w := by
  obtain ⟨o, ho, rfl, hw, hop⟩ := opk_some h
  obtain ⟨it, z, hu, hi, hz, hsz, hby, hzs, h0'⟩ := sliceOf_spec ht
  have hcx : Lib.strCells tx = cellsB (tl tx) := rfl
  have hrun := Go.run_append_nil_string (P := P) w t u o.type e it z hu hu' hi hz tx h0 (by omega) (by rw [hby]; omega)
  refine WPo.run ho hw fun a ha => ?_
  rw [append2_ex hop hs hx hrun, Oper.upon_value]
  have hge := grownCap_ge w tx.size 0 e
  have e1 : (tx.data.map (fun b => Value.int .u8 b.toNat) ++ Builtin.zeroCells z.cells (grownCap w tx.size 0 e - tx.size)).toList = cellsB (tl tx) ++ (Builtin.zeroCells z.cells (grownCap w tx.size 0 e - tx.size)).toList := by
    unfold cellsB tl; simp
  refine ⟨_, ha.put _ (dOK_lt hd) _, kk _ (grownCap w tx.size 0 e) _ _ (HS.drew.alloc _) ⟨by rw [cellsB_len, tl_len, Nat.mul_one], hge, grownCap_le_maxLen w tx.size 0 e (by unfold maxLen; omega), ?_, ?_⟩⟩
  · rw [e1, Nat.mul_one, List.take_append_of_le_length (by rw [cellsB_len, tl_len]; exact Nat.le_refl _), List.take_of_length_le (by rw [cellsB_len, tl_len]; exact Nat.le_refl _)]
  · rw [← Array.length_toList, e1, List.length_append, cellsB_len, tl_len, Array.length_toList, size_zeroCells, hzs]; omega
/-- A pointer to a block of the list as an unsafe one, and back. -/
theorem s_toU {B : Nat} (HS : St B w0 w l) (d : Option Nat) (t t' tp : TypeId) (x : Operand) (j b : Nat) (C : Array Value) (T : TypeId) (h : opk ops i ρ = some (d, true, .convert t t' x)) (hd : dOK d N = true) (hx : ev ρ x = .pointer (some ⟨b, 0, none⟩)) (hj : l[j]? = some (b, .cells C T (0, 0)))
    (ht : P.underlying t = some (.pointer tp)) (ht' : P.underlying t' = some .unsafePointer) (hz : ((P.info? tp).map fun i => Nat.blt 0 i.size) = some true) (hC : 0 < C.size) (kk : WPs P N ops K r (updO ρ d (.pointer (some ⟨b, 0, none⟩))) w) : WPs P N ops K (i :: r) ρ w :=
  s_genw d _ _ w h hd (fun o ho => by
    obtain ⟨it, hi, hs⟩ := Option.map_eq_some_iff.1 hz
    have hsh : w.shape? b = some (T, C.size) := by unfold World.shape?; rw [HS.get j hj]
    have := Lib.run_to_unsafe (P := P) w (src := t) (dst := t') ⟨b, 0, none⟩ ht ht' hi (by have := Nat.le_of_ble_eq_true hs; omega) hsh hC
    unfold execOp
    simp only [ho, hx, Sem.run_bind, this, Result.andThen_ok]; rfl) kk
theorem s_fromU {B : Nat} (HS : St B w0 w l) (d : Option Nat) (t t' tp : TypeId) (x : Operand) (j b : Nat) (C : Array Value) (T : TypeId) (h : opk ops i ρ = some (d, true, .convert t t' x)) (hd : dOK d N = true) (hx : ev ρ x = .pointer (some ⟨b, 0, none⟩)) (hj : l[j]? = some (b, .cells C T (0, 0)))
    (ht : P.underlying t = some .unsafePointer) (ht' : P.underlying t' = some (.pointer tp)) (hz : (P.info? tp).isSome = true) (hl : liesAt P P.depth T (C.size / P.cellsOf T) 0 tp 1 = true) (kk : WPs P N ops K r (updO ρ d (.pointer (some ⟨b, 0, none⟩))) w) : WPs P N ops K (i :: r) ρ w :=
  s_genw d _ _ w h hd (fun o ho => by
    obtain ⟨it, hi⟩ := Option.isSome_iff_exists.1 hz
    have hsh : w.shape? b = some (T, C.size) := by unfold World.shape?; rw [HS.get j hj]
    have := Lib.run_from_unsafe (P := P) w (src := t) (dst := t') ⟨b, 0, none⟩ ht ht' hi hsh hl
    unfold execOp
    simp only [ho, hx, Sem.run_bind, this, Result.andThen_ok]; rfl) kk
theorem neqP_run {t tp t' : TypeId} (ht : P.underlying t = some (.pointer tp)) (hz : (P.info? tp).isSome = true) {x y : Operand} {o : Oper} (a : Addr) (ho : o.op = .binOp .neq t x y t') (hx : ev ρ x = .pointer (some a)) (hy : ev ρ y = .pointer (some a)) :
    ∀ w, (execOp (ev ρ) o).run P w = .ok (.value (.bool false)) w := fun w => by
  obtain ⟨it, hi⟩ := Option.isSome_iff_exists.1 hz
  have := Lib.run_neq_ptr_same (P := P) w a ht hi
  unfold execOp
  simp [ho, hx, hy, eqGuard, this]
def noEscOp (f : Nat) (t : TypeId) (x : Operand) : Op := .call { callee := .value (.func f), args := #[x], argTypes := #[t] }
end
/-- A region that draws its order, whose operation q writes into the builder, behind all others; bx lies beside it. -/
def PreB (w0 : World) (p : Nat) (T e : TypeId) (out' : List UInt8) (bx : Nat × Obj) (E : List (Nat × Obj)) (q : Nat) : (Nat → Bool) → (Nat → D2.Gh) → World → Prop := fun L _ w =>
  bif L q then (∃ E', BE p T e out' E' ∧ St w0.heap.size w0 w ([bx] ++ E')) else St w0.heap.size w0 w ([bx] ++ E)
section
variable {P : Program} {ops : Array Oper} {R : (Nat → D2.Gh) → Env} {i : Nat} {d : Option Nat} {w0 : World} {p : Nat} {T e : TypeId} {out' : List UInt8} {bx : Nat × Obj} {E : List (Nat × Obj)} {q : Nat}
theorem putB_ne {L : Nat → Bool} (h : Nat.beq q i = false) : D2.put1 L i q = L q := by unfold D2.put1; rw [h]; rfl
theorem PreB.keep (h : Nat.beq q i = false) {L : Nat → Bool} {g g' : Nat → D2.Gh} {w : World} (hp : PreB w0 p T e out' bx E q L g w) : PreB w0 p T e out' bx E q (D2.put1 L i) g' w := by
  unfold PreB at hp ⊢; rw [putB_ne h]; exact hp
theorem PreB.cases {L : Nat → Bool} {g : Nat → D2.Gh} {w : World} (hp : PreB w0 p T e out' bx E q L g w) : ∃ E', St w0.heap.size w0 w ([bx] ++ E') ∧ ((∀ w', St w0.heap.size w0 w' ([bx] ++ E') → PreB w0 p T e out' bx E q L g w')) := by
  unfold PreB at hp ⊢
  cases hl : L q with
  | false => rw [hl] at hp; exact ⟨E, hp, fun w' h => h⟩
  | true => rw [hl] at hp; obtain ⟨E', h1, h2⟩ := hp; exact ⟨E', h2, fun w' h => ⟨E', h1, h⟩⟩
theorem gvB_val {V : Value} (hq : Nat.beq q i = false) (h : ∀ g w, opv P ops i (R g) w = some (d, true, .ok (.value V) w)) : D2.Gives P ops R (PreB w0 p T e out' bx E q) i d (fun _ => V) := D2.gv_val (fun _ _ _ hp => hp.keep hq) h
theorem gvB_load {C : Array Value} {T' : TypeId} {t : TypeId} {x : Operand} (hq : Nat.beq q i = false) (h : ∀ g, opk ops i (R g) = some (d, true, .load t x)) (hx : ∀ g, ev (R g) x = .pointer (some ⟨bx.1, 0, none⟩)) (hb : bx.2 = .cells C T' (0, 0)) (ht : aggSize P t = some C.size) : D2.Gives P ops R (PreB w0 p T e out' bx E q) i d (fun _ => .agg C) := D2.gives_of fun L g w hp hN => by
  obtain ⟨o, ho, hd, hw, hop⟩ := opk_some (h g)
  obtain ⟨E', hS, _⟩ := hp.cases
  have hh : w.heap[bx.1]? = some (.cells C T' (0, 0)) := by rw [← hb]; exact hS.get 0 rfl
  have := load_agg (P := P) (w := w) (off := 0) ht hh (by omega)
  have e1 : C.extract 0 (0 + C.size) = C := by simp
  rw [e1] at this
  have e2 : (execOp (ev (R g)) o).run P w = .ok (.value (.agg C)) w := by simp [execOp, hop, Instr.loadAt, Instr.sureAddr, hx g, this]
  exact ⟨o, ho, hd, .inr ⟨hw, by rw [e2]; exact ⟨g i, rfl, by rw [D2.setN_self]; exact hp.keep hq⟩⟩⟩
theorem gvB_callP {V : Value} {f : Nat} {args : Array Value} {pr : World → Prop} (hq : Nat.beq q i = false) (hc : FnP P f args pr V) (hpr : ∀ w, Below w0.heap.size w0 w → pr w) (h : ∀ g w, opv P ops i (R g) w = some (d, true, .ok (.enter f args) w)) : D2.Gives P ops R (PreB w0 p T e out' bx E q) i d (fun _ => V) := D2.gives_of fun L g w hp hN => by
  obtain ⟨o, ho, hd, hw, hr⟩ := opv_some (h g w)
  obtain ⟨E', hS, hk⟩ := hp.cases
  exact ⟨o, ho, hd, .inr ⟨hw, by rw [hr]; exact (hc w (hpr w hS.below)).mono fun e w' ⟨he, hb⟩ => ⟨V, he, g i, rfl, by rw [D2.setN_self]; exact (hk w' (hS.call hb)).keep hq⟩⟩⟩
theorem gvB_call {V : Value} {f : Nat} {args : Array Value} (hq : Nat.beq q i = false) (hc : Fn P f args V) (h : ∀ g w, opv P ops i (R g) w = some (d, true, .ok (.enter f args) w)) : D2.Gives P ops R (PreB w0 p T e out' bx E q) i d (fun _ => V) :=
  gvB_callP (pr := fun _ => True) hq (fun w _ => hc w) (fun _ _ => trivial) h
theorem gvB_eff {V : Value} {f : Nat} {args : Array Value} {out : List UInt8} (hq : q = i) (hE : BE p T e out E) (hc : FnB P f args V p T e out out' (fun _ => True)) (h : ∀ g w, opv P ops i (R g) w = some (d, true, .ok (.enter f args) w)) : D2.Gives P ops R (PreB w0 p T e out' bx E q) i d (fun _ => V) := D2.gives_of fun L g w hp hN => by
  subst hq
  obtain ⟨o, ho, hd, hw, hr⟩ := opv_some (h g w)
  have hS : St w0.heap.size w0 w ([bx] ++ E) := by unfold PreB at hp; rw [hN.1] at hp; exact hp
  refine ⟨o, ho, hd, .inr ⟨hw, ?_⟩⟩
  rw [hr]
  refine (hc w0 w [bx] E hE trivial (hS.perm List.perm_append_comm)).mono ?_
  rintro _ w' ⟨E', rfl, hE', hS'⟩
  refine ⟨V, rfl, g q, rfl, ?_⟩
  unfold PreB
  rw [show D2.put1 L q q = true from D2.put1_self L q]
  exact ⟨E', hE', hS'.perm List.perm_append_comm⟩
theorem PreB.done {L : Nat → Bool} {g : Nat → D2.Gh} {w : World} (hp : PreB w0 p T e out' bx E q L g w) (h : L q = true) : ∃ E', BE p T e out' E' ∧ St w0.heap.size w0 w ([bx] ++ E') := by
  unfold PreB at hp; rw [h] at hp; exact hp
end
/-- A region whose operation q takes all that was known of the blocks. -/
def PreS (w0 : World) (l : List (Nat × Obj)) (q : Nat) : (Nat → Bool) → (Nat → D2.Gh) → World → Prop := fun L _ w => bif L q then St w0.heap.size w0 w [] else St w0.heap.size w0 w l
section
variable {P : Program} {ops : Array Oper} {R : (Nat → D2.Gh) → Env} {i : Nat} {d : Option Nat} {w0 : World} {l : List (Nat × Obj)} {q : Nat}
theorem PreS.keep (h : Nat.beq q i = false) {L : Nat → Bool} {g g' : Nat → D2.Gh} {w : World} (hp : PreS w0 l q L g w) : PreS w0 l q (D2.put1 L i) g' w := by
  unfold PreS at hp ⊢; rw [putB_ne h]; exact hp
theorem gvS_val {V : Value} (hq : Nat.beq q i = false) (h : ∀ g w, opv P ops i (R g) w = some (d, true, .ok (.value V) w)) : D2.Gives P ops R (PreS w0 l q) i d (fun _ => V) := D2.gv_val (fun _ _ _ hp => hp.keep hq) h
/-- An operation ahead of q, of a known run where the blocks lie so. -/
theorem gvS_op {V : Value} (hq : Nat.beq q i = false) (hb : ∀ L, D2.Now ops i L → L q = false) (op : Op) (h : ∀ g, opk ops i (R g) = some (d, true, op)) (hr : ∀ g w (o : Oper), St w0.heap.size w0 w l → o.op = op → (execOp (ev (R g)) o).run P w = .ok (.value V) w) : D2.Gives P ops R (PreS w0 l q) i d (fun _ => V) := D2.gives_of fun L g w hp hN => by
  obtain ⟨o, ho, hd, hw, hop⟩ := opk_some (h g)
  have hS : St w0.heap.size w0 w l := by have h9 := hp; unfold PreS at h9; rw [hb L hN] at h9; exact h9
  exact ⟨o, ho, hd, .inr ⟨hw, by rw [hr g w o hS hop]; exact ⟨g i, rfl, by rw [D2.setN_self]; exact hp.keep hq⟩⟩⟩
theorem gvS_eff {V : Value} (hq : q = i) (op : Op) (h : ∀ g, opk ops i (R g) = some (d, true, op)) (hr : ∀ g w (o : Oper), St w0.heap.size w0 w l → o.op = op → ∃ w', (execOp (ev (R g)) o).run P w = .ok (.value V) w' ∧ St w0.heap.size w0 w' []) : D2.Gives P ops R (PreS w0 l q) i d (fun _ => V) := D2.gives_of fun L g w hp hN => by
  subst hq
  obtain ⟨o, ho, hd, hw, hop⟩ := opk_some (h g)
  have hS : St w0.heap.size w0 w l := by have h9 := hp; unfold PreS at h9; rw [hN.1] at h9; exact h9
  obtain ⟨w', h1, h2⟩ := hr g w o hS hop
  exact ⟨o, ho, hd, .inr ⟨hw, by rw [h1]; exact ⟨g q, rfl, by unfold PreS; rw [show D2.put1 L q q = true from D2.put1_self L q]; exact h2⟩⟩⟩
end
def sliceDataOp (t : TypeId) (x : Operand) : Op := .call { callee := .builtin .unsafeSliceData, args := #[x], argTypes := #[t] }
theorem sliceData_run {P : Program} {ρ : Env} {w : World} {t : TypeId} {x : Operand} {a : Addr} {n c : Nat} (hx : ev ρ x = .slice (some a) n c) (hc : c ≠ 0) (o : Oper) (ho : o.op = sliceDataOp t x) : (execOp (ev ρ) o).run P w = .ok (.value (.pointer (some a))) w := by
  have := Lib.run_unsafeSliceData_row (P := P) (w := w) #[t] o.type a n c hc
  unfold execOp
  simp only [ho, sliceDataOp, resolve, invoke, builtin, Sem.run_bind, Sem.run_pure, Result.andThen_ok, List.map_toArray, List.map_cons, List.map_nil, hx, this]
theorem unsafeStr_run {P : Program} {ρ : Env} {w w0 : World} {l : List (Nat × Obj)} {j b n cap : Nat} {C : Array Value} {t t' e : TypeId} {x y : Operand} {xs : List UInt8} (HS : St w0.heap.size w0 w l) (hj : l[j]? = some (b, .cells C e (0, 0))) (ht : P.underlying t = some (.pointer e)) (hc : P.cellsOf e = 1)
    (hx : ev ρ x = .pointer (some ⟨b, 0, none⟩)) (hy : ev ρ y = .int .i64 (n : Int)) (hr : Rw 1 C cap n (cellsB xs)) (h0 : 0 < n) (hm : n ≤ 9223372036854775807) (o : Oper) (hop : o.op = unsafeOp t t' x y) :
    ∃ w', (execOp (ev ρ) o).run P w = .ok (.value (.string (strB xs))) w' ∧ St w0.heap.size w0 w' [] := by
  have hb := HS.get j hj
  have hB := HS.ge j hj
  have hlen : xs.length = n := by have := hr.len; rw [cellsB_len] at this; omega
  have hsz := hr.sz
  have hle := hr.le
  have hrun := Lib.run_unsafeString_row (P := P) w t t' o.type e ht hc b C.size (by unfold World.shape?; rw [hb]) xs (by intro e; subst e; simp at hlen; omega) (by omega) (by omega) (fun j u hj => by
    have hjl : j < xs.length := (List.getElem?_eq_some_iff.1 hj).1
    have h2 := hr.get j (by omega)
    rw [addr_add, Nat.zero_add]
    have h3 : (cellsB xs)[j]? = some (.int .u8 ((u.toNat : Nat) : Int)) := by unfold cellsB; rw [List.getElem?_map, hj]; rfl
    simp [World.cell?, hb, h2, h3])
  rw [hlen] at hrun
  refine ⟨w.freeze ⟨b, 0, none⟩ n, ?_, ?_⟩
  · unfold execOp
    simp only [hop, unsafeOp, resolve, invoke, builtin, Sem.run_bind, Sem.run_pure, Result.andThen_ok, List.map_toArray, List.map_cons, List.map_nil, hx, hy, hrun]
    rfl
  · have hbel := Lib.below_freeze HS.below (p := ⟨b, 0, none⟩) hB n
    refine ⟨hbel, Nat.le_trans HS.le ?_, (fun e he => nomatch he), List.nodup_nil⟩
    unfold World.freeze
    split <;> simp
theorem St.load1_run {P : Program} {ρ : Env} {w w0 : World} {l : List (Nat × Obj)} {j b off : Nat} {C : Array Value} {T t : TypeId} {x : Operand} {v : Value} (HS : St w0.heap.size w0 w l) (hj : l[j]? = some (b, .cells C T (0, 0))) (ht : oneCell P t = true) (hx : ev ρ x = .pointer (some ⟨b, off, none⟩)) (hv : C[off]? = some v) (o : Oper) (ho : o.op = .load t x) :
    (execOp (ev ρ) o).run P w = .ok (.value v) w := by
  have := load_one (P := P) (w := w) ht (HS.get j hj) hv
  simp [execOp, ho, Instr.loadAt, Instr.sureAddr, hx, this]
end Go.Proofs.YtdgoaaaagpeaaaaDoor

namespace Go.Proofs.YtdgoaaaagpeaaaaDoor
open Go Go.RowKit
set_option linter.unusedVariables false
set_option maxRecDepth 100000 in
set_option maxHeartbeats 2000000 in
theorem copyCheck_nil_none  (p : Nat) (w0 w : World) (L : List (Nat × Obj)) (H0 : St w0.heap.size w0 w ([(p, Obj.cells #[.pointer none, .slice none 0 0] 48 (0, 0))] ++ L)) : WP Tryd.prog 20 (codeOf Tryd.f48) (ends Tryd.prog [] fun v' w' => v' = .tuple #[] ∧ ∃ E', BE p 48 5 ([]) E' ∧ St w0.heap.size w0 w' (E' ++ L)) (ini #[.pointer (some ⟨p, 0, none⟩)]) w := by
  refine g_sreg [0, 1, 2, 3, 4] kr kr ?_
  refine s_val (some 2) (.pointer (some ⟨p, 0, none⟩)) (fun w => by kernel_rfl) kr ?_
  refine s_val (some 3) (.pointer (some ⟨p, 0, none⟩)) (fun w => by kernel_rfl) kr ?_
  refine s_val (some 4) (.pointer (some ⟨p, 0, none⟩)) (fun w => by kernel_rfl) kr ?_
  refine s_load1 H0 (some 5) 45 (.tmp 4) 0 p 0 #[.pointer none, .slice none 0 0] 48 (0, 0) (.pointer none) kr kr kr kr kr kr ?_
  refine s_val (some 6) (.bool true) (fun w => by kernel_rfl) kr ?_
  refine s_nil ?_
  refine g_cond_t kr kr ?_
  refine g_reg0 [0, 1, 2, 3, 4, 5, 6, 7] kr ?_
  refine s_val (some 7) (.pointer (some ⟨p, 0, none⟩)) (fun w => by kernel_rfl) kr ?_
  refine s_val (some 8) (.pointer (some ⟨p, 0, none⟩)) (fun w => by kernel_rfl) kr ?_
  refine s_toU H0 (some 9) 45 84 48 (.tmp 8) 0 p #[.pointer none, .slice none 0 0] 48 kr kr kr kr kr kr kr (by show 0 < 2; omega) ?_
  refine s_val (some 10) (.pointer (some ⟨p, 0, none⟩)) (fun w => by kernel_rfl) kr ?_
  refine s_fromU H0 (some 11) 84 45 48 (.tmp 10) 0 p #[.pointer none, .slice none 0 0] 48 kr kr kr kr kr kr kr kr ?_
  refine s_val (some 12) (.pointer (some ⟨p, 0, none⟩)) (fun w => by kernel_rfl) kr ?_
  refine s_val (some 13) (.pointer (some ⟨p, 0, none⟩)) (fun w => by kernel_rfl) kr ?_
  refine s_store H0 0 ([(p, Obj.cells #[.pointer (some ⟨p, 0, none⟩), .slice none 0 0] 48 (0, 0))] ++ L) 45 (.tmp 13) (.tmp 11) p (0) #[.pointer none, .slice none 0 0] #[.pointer (some ⟨p, 0, none⟩), .slice none 0 0] 48 (.pointer (some ⟨p, 0, none⟩)) kr kr kr kr kr kr (of_decide_eq_true kr) kr kr ?_
  intro w1 H1; clear H0
  refine s_nil ?_
  show ∃ vs, Res _ _ _ _ vs ∧ _
  exact ⟨[], .nil, rfl, _, (BE.nil (some ⟨p, 0, none⟩) (Or.inr rfl)), H1⟩
set_option maxRecDepth 100000 in
set_option maxHeartbeats 2000000 in
theorem copyCheck_nil_self  (p : Nat) (w0 w : World) (L : List (Nat × Obj)) (H0 : St w0.heap.size w0 w ([(p, Obj.cells #[.pointer (some ⟨p, 0, none⟩), .slice none 0 0] 48 (0, 0))] ++ L)) : WP Tryd.prog 20 (codeOf Tryd.f48) (ends Tryd.prog [] fun v' w' => v' = .tuple #[] ∧ ∃ E', BE p 48 5 ([]) E' ∧ St w0.heap.size w0 w' (E' ++ L)) (ini #[.pointer (some ⟨p, 0, none⟩)]) w := by
  refine g_sreg [0, 1, 2, 3, 4] kr kr ?_
  refine s_val (some 2) (.pointer (some ⟨p, 0, none⟩)) (fun w => by kernel_rfl) kr ?_
  refine s_val (some 3) (.pointer (some ⟨p, 0, none⟩)) (fun w => by kernel_rfl) kr ?_
  refine s_val (some 4) (.pointer (some ⟨p, 0, none⟩)) (fun w => by kernel_rfl) kr ?_
  refine s_load1 H0 (some 5) 45 (.tmp 4) 0 p 0 #[.pointer (some ⟨p, 0, none⟩), .slice none 0 0] 48 (0, 0) (.pointer (some ⟨p, 0, none⟩)) kr kr kr kr kr kr ?_
  refine s_val (some 6) (.bool false) (fun w => by kernel_rfl) kr ?_
  refine s_nil ?_
  refine g_cond_f kr kr ?_
  refine g_sreg [0, 1, 2, 3, 4, 5] kr kr ?_
  refine s_val (some 14) (.pointer (some ⟨p, 0, none⟩)) (fun w => by kernel_rfl) kr ?_
  refine s_val (some 15) (.pointer (some ⟨p, 0, none⟩)) (fun w => by kernel_rfl) kr ?_
  refine s_val (some 16) (.pointer (some ⟨p, 0, none⟩)) (fun w => by kernel_rfl) kr ?_
  refine s_load1 H0 (some 17) 45 (.tmp 16) 0 p 0 #[.pointer (some ⟨p, 0, none⟩), .slice none 0 0] 48 (0, 0) (.pointer (some ⟨p, 0, none⟩)) kr kr kr kr kr kr ?_
  refine s_val (some 18) (.pointer (some ⟨p, 0, none⟩)) (fun w => by kernel_rfl) kr ?_
  refine s_op (some 19) _ (.bool false) kr kr (fun o w ho => neqP_run (t := 45) (tp := 48) (t' := 45) kr kr (x := (.tmp 17)) (y := (.tmp 18)) ⟨p, 0, none⟩ ho kr kr w) ?_
  refine s_nil ?_
  refine g_cond_f kr kr ?_
  refine g_skip kr ?_
  show ∃ vs, Res _ _ _ _ vs ∧ _
  exact ⟨[], .nil, rfl, _, (BE.nil (some ⟨p, 0, none⟩) (Or.inr rfl)), H0⟩
set_option maxRecDepth 100000 in
set_option maxHeartbeats 2000000 in
theorem copyCheck_row_none  (p : Nat) (b n cap : Nat) (cur : Array Value) (out : List UInt8) (hn : n = out.length) (hr : Rw 1 cur cap n (cellsB out)) (w0 w : World) (L : List (Nat × Obj)) (H0 : St w0.heap.size w0 w ([(b, Obj.cells cur 5 (0, 0)), (p, Obj.cells #[.pointer none, .slice (some ⟨b, 0, none⟩) n cap] 48 (0, 0))] ++ L)) : WP Tryd.prog 20 (codeOf Tryd.f48) (ends Tryd.prog [] fun v' w' => v' = .tuple #[] ∧ ∃ E', BE p 48 5 out E' ∧ St w0.heap.size w0 w' (E' ++ L)) (ini #[.pointer (some ⟨p, 0, none⟩)]) w := by
  refine g_sreg [0, 1, 2, 3, 4] kr kr ?_
  refine s_val (some 2) (.pointer (some ⟨p, 0, none⟩)) (fun w => by kernel_rfl) kr ?_
  refine s_val (some 3) (.pointer (some ⟨p, 0, none⟩)) (fun w => by kernel_rfl) kr ?_
  refine s_val (some 4) (.pointer (some ⟨p, 0, none⟩)) (fun w => by kernel_rfl) kr ?_
  refine s_load1 H0 (some 5) 45 (.tmp 4) 1 p 0 #[.pointer none, .slice (some ⟨b, 0, none⟩) n cap] 48 (0, 0) (.pointer none) kr kr kr kr kr kr ?_
  refine s_val (some 6) (.bool true) (fun w => by kernel_rfl) kr ?_
  refine s_nil ?_
  refine g_cond_t kr kr ?_
  refine g_reg0 [0, 1, 2, 3, 4, 5, 6, 7] kr ?_
  refine s_val (some 7) (.pointer (some ⟨p, 0, none⟩)) (fun w => by kernel_rfl) kr ?_
  refine s_val (some 8) (.pointer (some ⟨p, 0, none⟩)) (fun w => by kernel_rfl) kr ?_
  refine s_toU H0 (some 9) 45 84 48 (.tmp 8) 1 p #[.pointer none, .slice (some ⟨b, 0, none⟩) n cap] 48 kr kr kr kr kr kr kr (by show 0 < 2; omega) ?_
  refine s_val (some 10) (.pointer (some ⟨p, 0, none⟩)) (fun w => by kernel_rfl) kr ?_
  refine s_fromU H0 (some 11) 84 45 48 (.tmp 10) 1 p #[.pointer none, .slice (some ⟨b, 0, none⟩) n cap] 48 kr kr kr kr kr kr kr kr ?_
  refine s_val (some 12) (.pointer (some ⟨p, 0, none⟩)) (fun w => by kernel_rfl) kr ?_
  refine s_val (some 13) (.pointer (some ⟨p, 0, none⟩)) (fun w => by kernel_rfl) kr ?_
  refine s_store H0 1 ([(b, Obj.cells cur 5 (0, 0)), (p, Obj.cells #[.pointer (some ⟨p, 0, none⟩), .slice (some ⟨b, 0, none⟩) n cap] 48 (0, 0))] ++ L) 45 (.tmp 13) (.tmp 11) p (0) #[.pointer none, .slice (some ⟨b, 0, none⟩) n cap] #[.pointer (some ⟨p, 0, none⟩), .slice (some ⟨b, 0, none⟩) n cap] 48 (.pointer (some ⟨p, 0, none⟩)) kr kr kr kr kr kr (of_decide_eq_true kr) kr kr ?_
  intro w1 H1; clear H0
  refine s_nil ?_
  show ∃ vs, Res _ _ _ _ vs ∧ _
  exact ⟨[], .nil, rfl, _, (BE.row (some ⟨p, 0, none⟩) b n cap cur out (Or.inr rfl) hn hr), H1⟩
set_option maxRecDepth 100000 in
set_option maxHeartbeats 2000000 in
theorem copyCheck_row_self  (p : Nat) (b n cap : Nat) (cur : Array Value) (out : List UInt8) (hn : n = out.length) (hr : Rw 1 cur cap n (cellsB out)) (w0 w : World) (L : List (Nat × Obj)) (H0 : St w0.heap.size w0 w ([(b, Obj.cells cur 5 (0, 0)), (p, Obj.cells #[.pointer (some ⟨p, 0, none⟩), .slice (some ⟨b, 0, none⟩) n cap] 48 (0, 0))] ++ L)) : WP Tryd.prog 20 (codeOf Tryd.f48) (ends Tryd.prog [] fun v' w' => v' = .tuple #[] ∧ ∃ E', BE p 48 5 out E' ∧ St w0.heap.size w0 w' (E' ++ L)) (ini #[.pointer (some ⟨p, 0, none⟩)]) w := by
  refine g_sreg [0, 1, 2, 3, 4] kr kr ?_
  refine s_val (some 2) (.pointer (some ⟨p, 0, none⟩)) (fun w => by kernel_rfl) kr ?_
  refine s_val (some 3) (.pointer (some ⟨p, 0, none⟩)) (fun w => by kernel_rfl) kr ?_
  refine s_val (some 4) (.pointer (some ⟨p, 0, none⟩)) (fun w => by kernel_rfl) kr ?_
  refine s_load1 H0 (some 5) 45 (.tmp 4) 1 p 0 #[.pointer (some ⟨p, 0, none⟩), .slice (some ⟨b, 0, none⟩) n cap] 48 (0, 0) (.pointer (some ⟨p, 0, none⟩)) kr kr kr kr kr kr ?_
  refine s_val (some 6) (.bool false) (fun w => by kernel_rfl) kr ?_
  refine s_nil ?_
  refine g_cond_f kr kr ?_
  refine g_sreg [0, 1, 2, 3, 4, 5] kr kr ?_
  refine s_val (some 14) (.pointer (some ⟨p, 0, none⟩)) (fun w => by kernel_rfl) kr ?_
  refine s_val (some 15) (.pointer (some ⟨p, 0, none⟩)) (fun w => by kernel_rfl) kr ?_
  refine s_val (some 16) (.pointer (some ⟨p, 0, none⟩)) (fun w => by kernel_rfl) kr ?_
  refine s_load1 H0 (some 17) 45 (.tmp 16) 1 p 0 #[.pointer (some ⟨p, 0, none⟩), .slice (some ⟨b, 0, none⟩) n cap] 48 (0, 0) (.pointer (some ⟨p, 0, none⟩)) kr kr kr kr kr kr ?_
  refine s_val (some 18) (.pointer (some ⟨p, 0, none⟩)) (fun w => by kernel_rfl) kr ?_
  refine s_op (some 19) _ (.bool false) kr kr (fun o w ho => neqP_run (t := 45) (tp := 48) (t' := 45) kr kr (x := (.tmp 17)) (y := (.tmp 18)) ⟨p, 0, none⟩ ho kr kr w) ?_
  refine s_nil ?_
  refine g_cond_f kr kr ?_
  refine g_skip kr ?_
  show ∃ vs, Res _ _ _ _ vs ∧ _
  exact ⟨[], .nil, rfl, _, (BE.row (some ⟨p, 0, none⟩) b n cap cur out (Or.inr rfl) hn hr), H0⟩
theorem copyCheck_fn (p : Nat) (out : List UInt8) : FnB Tryd.prog 48 #[.pointer (some ⟨p, 0, none⟩)] (.tuple #[]) p 48 5 out out (fun _ => True) :=
  FnB.intro (c := codeOf Tryd.f48) [] 20 Tryd.func48 kr kr kr fun w0 w L E hE _ HS => by
    rcases hE with ⟨a, rfl | rfl⟩ | ⟨a, b, n, cap, cur, _, rfl | rfl, hn, hr⟩
    · exact copyCheck_nil_none p w0 w L HS
    · exact copyCheck_nil_self p w0 w L HS
    · exact copyCheck_row_none p b n cap cur out hn hr w0 w L HS
    · exact copyCheck_row_self p b n cap cur out hn hr w0 w L HS
set_option maxRecDepth 100000 in
set_option maxHeartbeats 2000000 in
theorem writeString_fn (p : Nat) (out : List UInt8) (s : ByteArray) (h0 : 0 < s.size ∨ out ≠ []) (hm : out.length + s.size ≤ 140737488355328) : FnB Tryd.prog 41 #[.pointer (some ⟨p, 0, none⟩), .string s] (.tuple #[.int .i64 ((ByteArray.size s : Nat) : Int), .nilIface]) p 48 5 out (out ++ tl s) (fun _ => True) := by
  refine FnB.intro (c := codeOf Tryd.f41) [.tmp 4, .tmp 5] 19 Tryd.func41 kr kr kr fun w0 w L E hE _ HS => ?_
  have H0 : St w0.heap.size w0 w (L ++ E) := HS.perm List.perm_append_comm
  refine g_sreg [0, 1] kr kr ?_
  refine s_val (some 4) (.int .i64 0) (fun w => by kernel_rfl) kr ?_
  refine s_val (some 5) (.nilIface) (fun w => by kernel_rfl) kr ?_
  refine s_nil ?_
  refine g_sreg [0, 1] kr kr ?_
  refine s_val (some 6) (.pointer (some ⟨p, 0, none⟩)) (fun w => by kernel_rfl) kr ?_
  refine s_callB (l := L) H0 hE (some 7) 48 #[.pointer (some ⟨p, 0, none⟩)] (.tuple #[]) out (fun _ => True) (copyCheck_fn p out) trivial kr kr ?_
  intro E1 w1 hE1 H1; clear H0
  rcases hE1 with ⟨a, ha⟩ | ⟨a, b, n, cap, cur, _, ha, hn, hr⟩
  · skip
    have h0' : 0 < ByteArray.size s := h0.resolve_right (fun h => h rfl)
    simp only [List.length_nil] at hm
    have HP : St w0.heap.size w0 w1 ([(p, Obj.cells #[.pointer a, .slice none 0 0] 48 (0, 0))] ++ L) := H1.perm List.perm_append_comm
    refine s_nil ?_
    refine g_sreg [0, 1, 2, 3, 4, 5, 6, 7, 8, 9] kr kr ?_
    refine s_val (some 8) (.pointer (some ⟨p, 0, none⟩)) (fun w => by kernel_rfl) kr ?_
    refine s_val (some 9) (.pointer (some ⟨p, 0, none⟩)) (fun w => by kernel_rfl) kr ?_
    refine s_val (some 10) (.pointer (some ⟨p, 0, none⟩)) (fun w => by kernel_rfl) kr ?_
    refine s_val (some 11) (.pointer (some ⟨p, 1, none⟩)) (fun w => by kernel_rfl) kr ?_
    refine s_load1 HP (some 12) 46 (.tmp 11) 0 p 1 #[.pointer a, .slice none 0 0] 48 (0, 0) (.slice none 0 0) kr kr kr kr kr kr ?_
    refine s_val (some 13) (.string s) (fun w => by kernel_rfl) kr ?_
    refine s_appendStrNil HP (some 14) 46 9 5 (.tmp 12) (.tmp 13) s kr kr kr kr kr kr (by omega) (by omega) ?_
    intro b_1 cap_2 cur_3 w2 H2 hr_4; clear HP
    refine s_val (some 15) (.pointer (some ⟨p, 0, none⟩)) (fun w => by kernel_rfl) kr ?_
    refine s_val (some 16) (.pointer (some ⟨p, 1, none⟩)) (fun w => by kernel_rfl) kr ?_
    refine s_store H2 1 ([(b_1, Obj.cells cur_3 5 (0, 0)), (p, Obj.cells #[.pointer a, .slice (some ⟨b_1, 0, none⟩) (ByteArray.size s) cap_2] 48 (0, 0))] ++ L) 46 (.tmp 16) (.tmp 14) p (1) #[.pointer a, .slice none 0 0] #[.pointer a, .slice (some ⟨b_1, 0, none⟩) (ByteArray.size s) cap_2] 48 (.slice (some ⟨b_1, 0, none⟩) (ByteArray.size s) cap_2) kr kr kr kr kr kr (of_decide_eq_true kr) kr kr ?_
    intro w3 H3; clear H2
    refine s_nil ?_
    refine g_sreg [0, 1, 2, 3] kr kr ?_
    refine s_val (some 17) (.string s) (fun w => by kernel_rfl) kr ?_
    refine s_val (some 18) (.int .i64 ((ByteArray.size s : Nat) : Int)) (fun w => by kernel_rfl) kr ?_
    refine s_val (some 4) (.int .i64 ((ByteArray.size s : Nat) : Int)) (fun w => by kernel_rfl) kr ?_
    refine s_val (some 5) (.nilIface) (fun w => by kernel_rfl) kr ?_
    refine s_nil ?_
    refine g_ret kr ?_
    show ∃ vs, Res _ _ _ _ vs ∧ _
    exact ⟨[.int .i64 ((ByteArray.size s : Nat) : Int), .nilIface], (.tmp (.int .i64 ((ByteArray.size s : Nat) : Int)) kr (.tmp (.nilIface) kr .nil)), rfl, _, (BE.row a b_1 (ByteArray.size s) cap_2 cur_3 (tl s) ha rfl hr_4), H3⟩
  · skip
    have HP : St w0.heap.size w0 w1 ([(b, Obj.cells cur 5 (0, 0)), (p, Obj.cells #[.pointer a, .slice (some ⟨b, 0, none⟩) n cap] 48 (0, 0))] ++ L) := H1.perm List.perm_append_comm
    refine s_nil ?_
    refine g_sreg [0, 1, 2, 3, 4, 5, 6, 7, 8, 9] kr kr ?_
    refine s_val (some 8) (.pointer (some ⟨p, 0, none⟩)) (fun w => by kernel_rfl) kr ?_
    refine s_val (some 9) (.pointer (some ⟨p, 0, none⟩)) (fun w => by kernel_rfl) kr ?_
    refine s_val (some 10) (.pointer (some ⟨p, 0, none⟩)) (fun w => by kernel_rfl) kr ?_
    refine s_val (some 11) (.pointer (some ⟨p, 1, none⟩)) (fun w => by kernel_rfl) kr ?_
    refine s_load1 HP (some 12) 46 (.tmp 11) 1 p 1 #[.pointer a, .slice (some ⟨b, 0, none⟩) n cap] 48 (0, 0) (.slice (some ⟨b, 0, none⟩) n cap) kr kr kr kr kr kr ?_
    refine s_val (some 13) (.string s) (fun w => by kernel_rfl) kr ?_
    refine s_appendStr HP (some 14) 46 9 5 (.tmp 12) (.tmp 13) 0 b n cap cur out s (fun b_5 cur_7 => ([(b_5, Obj.cells cur_7 5 (0, 0)), (p, Obj.cells #[.pointer a, .slice (some ⟨b, 0, none⟩) n cap] 48 (0, 0))] ++ L)) kr kr kr kr kr kr hr kr (by omega) (fun _ _ => by kernel_rfl) ?_
    intro b_5 cap_6 cur_7 w4 H4 hr_8; clear HP
    refine s_val (some 15) (.pointer (some ⟨p, 0, none⟩)) (fun w => by kernel_rfl) kr ?_
    refine s_val (some 16) (.pointer (some ⟨p, 1, none⟩)) (fun w => by kernel_rfl) kr ?_
    refine s_store H4 1 ([(b_5, Obj.cells cur_7 5 (0, 0)), (p, Obj.cells #[.pointer a, .slice (some ⟨b_5, 0, none⟩) (n + ByteArray.size s) cap_6] 48 (0, 0))] ++ L) 46 (.tmp 16) (.tmp 14) p (1) #[.pointer a, .slice (some ⟨b, 0, none⟩) n cap] #[.pointer a, .slice (some ⟨b_5, 0, none⟩) (n + ByteArray.size s) cap_6] 48 (.slice (some ⟨b_5, 0, none⟩) (n + ByteArray.size s) cap_6) kr kr kr kr kr kr (of_decide_eq_true kr) kr kr ?_
    intro w5 H5; clear H4
    refine s_nil ?_
    refine g_sreg [0, 1, 2, 3] kr kr ?_
    refine s_val (some 17) (.string s) (fun w => by kernel_rfl) kr ?_
    refine s_val (some 18) (.int .i64 ((ByteArray.size s : Nat) : Int)) (fun w => by kernel_rfl) kr ?_
    refine s_val (some 4) (.int .i64 ((ByteArray.size s : Nat) : Int)) (fun w => by kernel_rfl) kr ?_
    refine s_val (some 5) (.nilIface) (fun w => by kernel_rfl) kr ?_
    refine s_nil ?_
    refine g_ret kr ?_
    show ∃ vs, Res _ _ _ _ vs ∧ _
    exact ⟨[.int .i64 ((ByteArray.size s : Nat) : Int), .nilIface], (.tmp (.int .i64 ((ByteArray.size s : Nat) : Int)) kr (.tmp (.nilIface) kr .nil)), rfl, _, (BE.row a b_5 (n + ByteArray.size s) cap_6 cur_7 (out ++ tl s) ha (by rw [List.length_append, tl_len, hn]) hr_8), H5⟩
end Go.Proofs.YtdgoaaaagpeaaaaDoor

namespace Go.Proofs.YtdgoaaaagpeaaaaDoor
open Go Go.RowKit
set_option linter.unusedVariables false
set_option maxRecDepth 100000 in
set_option maxHeartbeats 2000000 in
theorem write_step (pb m : Nat) (ih : ∀ (out : List UInt8) (l : Bool) (s : ByteArray) (p : Option Addr) (n c : Nat) (k : Fo), s.size ≤ 140737488355328 → List.length out + 9 + ByteArray.size s + wtF k ≤ 140737488355328 → k.cnt < m → FnB0 Tryd.prog 26 #[.pointer (some ⟨pb, 0, none⟩), .agg #[.bool l, .string s, .slice p n c]] (.tuple #[]) pb 48 5 out (out ++ wr1 l s (szF k) (wrF k)) (fun w => SlAt w.heap.size w p n k)) (out : List UInt8) (l : Bool) (s : ByteArray) (p : Option Addr) (n c : Nat) (k : Fo) (hs : s.size ≤ 140737488355328) (hw : List.length out + 9 + ByteArray.size s + wtF k ≤ 140737488355328) (hkm : k.cnt < m + 1) : FnB0 Tryd.prog 26 #[.pointer (some ⟨pb, 0, none⟩), .agg #[.bool l, .string s, .slice p n c]] (.tuple #[]) pb 48 5 out (out ++ wr1 l s (szF k) (wrF k)) (fun w => SlAt w.heap.size w p n k) := by
  refine FnB0.intro (c := codeOf Tryd.f26) [] 31 Tryd.func26 kr kr kr fun w0 w E0 hE0 hpre H0 => ?_
  have hn := hpre.1
  have hnm := hpre.2.1
  refine g_sreg [0] kr kr ?_
  refine s_box H0 (some 3) 24 (.tmp 1) (.agg #[.bool l, .string s, .slice p n c]) kr kr kr ?_
  intro b1 w1 H1; clear H0
  refine s_nil ?_
  refine g_seq kr ?_
  refine g_sreg [0, 1, 2, 3] kr kr ?_
  refine s_val (some 6) (.pointer (some ⟨b1, 1, none⟩)) (fun w => by kernel_rfl) kr ?_
  refine s_load1 H1 (some 7) 9 (.tmp 6) 0 b1 1 #[.bool l, .string s, .slice p n c] 24 (0, 0) (.string s) kr kr kr kr kr kr ?_
  refine s_call H1 (some 8) 38 #[.string s] (.bool (single s)) (single_fn s) (fun w => by kernel_rfl) kr ?_
  intro w2 H2; clear H1
  cases hq1 : single s
  · skip
    refine s_val (some 9) (.bool true) (fun w => by kernel_rfl) kr ?_
    refine s_nil ?_
    refine g_cond_t kr kr ?_
    have hsl := szF_le k
    have hhl := hd_len (frm l) (ByteArray.size s + szF k)
    refine D2.g_draw0 [0, 1, 2, 3, 4, 5] [(some 10, fun _ => .pointer (some ⟨pb, 0, none⟩)), (some 11, fun _ => .agg #[.bool l, .string s, .slice p n c]), (some 12, fun _ => .agg #[.bool l, .string s, .slice p n c]), (some 13, fun _ => .int .u64 ((ByteArray.size s + szF k : Nat) : Int)), (some 14, fun _ => .string (strB (hd (frm l) (ByteArray.size s + szF k)))), (some 15, fun _ => .tuple #[.int .i64 ((ByteArray.size (strB (hd (frm l) (ByteArray.size s + szF k))) : Nat) : Int), .nilIface])] (PreB w0 pb 48 5 (out ++ tl (strB (hd (frm l) (ByteArray.size s + szF k)))) (b1, Obj.cells #[.bool l, .string s, .slice p n c] 24 (0, 0)) E0 5) kr kr kr H2.drew ⟨?_, ?_, ?_, ?_, ?_, ?_, trivial⟩ ?_
    · exact gvB_val rfl (fun g w => by kernel_rfl)
    · exact gvB_load (C := #[.bool l, .string s, .slice p n c]) (T' := 24) (t := 24) (x := (.tmp 3)) rfl (fun g => by kernel_rfl) (fun g => by kernel_rfl) rfl kr
    · exact gvB_load (C := #[.bool l, .string s, .slice p n c]) (T' := 24) (t := 24) (x := (.tmp 3)) rfl (fun g => by kernel_rfl) (fun g => by kernel_rfl) rfl kr
    · exact gvB_callP (f := 39) (args := #[.agg #[.bool l, .string s, .slice p n c]]) rfl (inside_fn l s p n c k hs (by omega)) (fun w hb => SlAt.call hpre hb) (fun g w => by kernel_rfl)
    · exact gvB_call (f := 40) (args := #[.agg #[.bool l, .string s, .slice p n c], .int .u64 ((ByteArray.size s + szF k : Nat) : Int)]) rfl (head_fn l s p n c (ByteArray.size s + szF k) (by omega)) (fun g w => by kernel_rfl)
    · exact gvB_eff (f := 41) (args := #[.pointer (some ⟨pb, 0, none⟩), .string (strB (hd (frm l) (ByteArray.size s + szF k)))]) rfl hE0 (writeString_fn pb out (strB (hd (frm l) (ByteArray.size s + szF k))) (Or.inl (by rw [strB_size]; exact hhl.1)) (by rw [strB_size]; omega)) (fun g w => by kernel_rfl)
    intro L0 G0 w3 hall HL; clear H2
    obtain ⟨E1, hE1, H3⟩ := HL.done (hall 5 (Nat.le_of_ble_eq_true kr))
    show WP _ _ _ _ _ _
    refine g_sreg [0, 1, 2, 3] kr kr ?_
    have hl0 : (out ++ tl (strB (hd (frm l) (ByteArray.size s + szF k)))).length = out.length + (hd (frm l) (ByteArray.size s + szF k)).length := by rw [List.length_append, tl_strB]
    have hw1 : out ++ wr1 l s (szF k) (wrF k) = (out ++ tl (strB (hd (frm l) (ByteArray.size s + szF k))) ++ tl s) ++ wrF k := by unfold wr1; rw [if_neg (by rw [hq1]; decide), tl_strB]; simp only [List.append_assoc]
    have hl1 : (out ++ tl (strB (hd (frm l) (ByteArray.size s + szF k))) ++ tl s).length = out.length + (hd (frm l) (ByteArray.size s + szF k)).length + ByteArray.size s := by rw [List.length_append, hl0, tl_len]
    refine s_val (some 16) (.pointer (some ⟨pb, 0, none⟩)) (fun w => by kernel_rfl) kr ?_
    refine s_val (some 17) (.pointer (some ⟨b1, 1, none⟩)) (fun w => by kernel_rfl) kr ?_
    refine s_load1 H3 (some 18) 9 (.tmp 17) 0 b1 1 #[.bool l, .string s, .slice p n c] 24 (0, 0) (.string s) kr kr kr kr kr kr ?_
    refine s_callB (l := [(b1, Obj.cells #[.bool l, .string s, .slice p n c] 24 (0, 0))]) H3 hE1 (some 19) 41 #[.pointer (some ⟨pb, 0, none⟩), .string s] (.tuple #[.int .i64 ((ByteArray.size s : Nat) : Int), .nilIface]) ((out ++ tl (strB (hd (frm l) (ByteArray.size s + szF k)))) ++ tl s) (fun _ => True) (writeString_fn pb (out ++ tl (strB (hd (frm l) (ByteArray.size s + szF k)))) s (Or.inr (by intro q; have h9 := congrArg List.length q; rw [hl0] at h9; simp only [List.length_nil] at h9; omega)) (by rw [hl0]; omega)) trivial kr kr ?_
    intro E2 w4 hE2 H4; clear H3
    refine s_nil ?_
    refine g_sreg [0, 1, 2, 3] kr kr ?_
    refine s_val (some 20) (.pointer (some ⟨b1, 2, none⟩)) (fun w => by kernel_rfl) kr ?_
    refine s_load1 H4 (some 21) 22 (.tmp 20) 0 b1 2 #[.bool l, .string s, .slice p n c] 24 (0, 0) (.slice p n c) kr kr kr kr kr kr ?_
    refine s_val (some 22) (.int .i64 ((n : Nat) : Int)) (fun w => by kernel_rfl) kr ?_
    refine s_val (some 23) (.int .i64 0) (fun w => by kernel_rfl) kr ?_
    refine s_nil ?_
    refine g_block 0 kr ?_
    have HD1 : St w0.heap.size w0 w4 ([] ++ E2) := H4.sub (List.Sublist.cons _ (List.Sublist.refl E2))
    refine g_loop kr (fun mz ρ ww => ∃ (i : Nat) (r : Fo) (o : List UInt8) (Ez : List (Nat × Obj)), n - i = mz ∧ (FoR w0.heap.size w0 p i r) ∧ (i + Fo.len r = n) ∧ (Fo.cnt r ≤ Fo.cnt k) ∧ (List.length o + wtF r ≤ 140737488355328) ∧ (out ++ wr1 l s (szF k) (wrF k) = o ++ wrF r) ∧ (BE pb 48 5 o Ez) ∧ St w0.heap.size w0 ww ([] ++ Ez) ∧ Is [(0, .pointer (some ⟨pb, 0, none⟩)), (1, .agg #[.bool l, .string s, .slice p n c]), (3, .pointer (some ⟨b1, 0, none⟩)), (9, .bool true), (21, .slice p n c), (22, .int .i64 ((n : Nat) : Int)), (23, .int .i64 ((i : Nat) : Int))] ρ) (n - 0) ⟨0, k, ((out ++ tl (strB (hd (frm l) (ByteArray.size s + szF k)))) ++ tl s), E2, rfl, (SlAt.start hpre), (by have hn0 := (hpre).1; omega), (Nat.le_refl _), (by rw [hl1]; omega), hw1, hE2, HD1, (Is.of ⟨kr, kr, kr, kr, kr, kr, kr, trivial⟩)⟩ ?_
    clear HD1
    rintro _ _ w5 ⟨i, r, o, Ez, rfl, hR, hN, hcn, hwt, hout, hEz, H5, _, rfl⟩
    refine g_sreg [0] kr kr ?_
    by_cases hc2 : (i : Nat) < n
    · skip
      refine s_valE (some 24) (.bool (decide (((i : Nat) : Int) < ((n : Nat) : Int)))) (.bool true) (fun w => by kernel_rfl) (bool_eq (decide_eq_true (by omega))) kr ?_
      refine s_nil ?_
      refine g_seq kr ?_
      refine g_cond_t kr kr ?_
      refine g_skip kr ?_
      show WP _ _ _ _ _ _
      refine g_seq kr ?_
      refine g_block 1 kr ?_
      refine g_sreg [0, 1, 2, 3] kr kr ?_
      obtain ⟨l1, s1, k1, r1, b1, off1, C1, T1, fz1, p1, n1, c1, hr1, hp1, hb1, hh1, hs1, hx1, hz1, hk1, hR1, hN1⟩ := FoR.open hR hN (by omega)
      refine s_op (some 25) _ (.pointer (some ⟨b1, off1 + i * 3, none⟩)) kr kr (fun o w ho => idxO_run (kd := .i64) (t := 22) (e := 24) (bytes := 48) kr (x := (.tmp 21)) (y := (.tmp 23)) b1 off1 n c i hp1 ho kr kr (by omega) w) ?_
      refine s_loadpF H5 (some 26) 24 (.tmp 25) b1 (off1 + i * 3) 3 C1 #[.bool l1, .string s1, .slice p1 n1 c1] T1 fz1 kr kr kr hh1 hb1 kr hs1 hx1 ?_
      refine s_alloc H5 (some 5) 24 (.agg #[.bool false, .string (⟨#[]⟩), .slice none 0 0]) kr kr kr ?_
      intro b2 w6 H6; clear H5
      refine s_store H6 0 ([(b2, Obj.cells #[.bool l1, .string s1, .slice p1 n1 c1] 24 (0, 0))] ++ Ez) 24 (.tmp 5) (.tmp 26) b2 (0) (#[.bool false, .string (⟨#[]⟩), .slice none 0 0]) #[.bool l1, .string s1, .slice p1 n1 c1] 24 (.agg #[.bool l1, .string s1, .slice p1 n1 c1]) kr kr kr kr kr kr (of_decide_eq_true kr) kr kr ?_
      intro w7 H7; clear H6
      refine s_nil ?_
      refine g_reg0 [0, 1, 2] kr ?_
      have hcn1 := hcn
      rw [hr1] at hcn1
      simp only [Fo.cnt] at hcn1
      have hwt1 := hwt
      rw [hr1] at hwt1
      simp only [wtF] at hwt1
      have hwl1 : (wr1 l1 s1 (szF k1) (wrF k1)).length ≤ 9 + ByteArray.size s1 + wtF k1 := by have h9 := wrF_len (.cons l1 s1 k1 .nil); simp only [wrF, wtF, List.append_nil, Nat.add_zero] at h9; exact h9
      refine s_val (some 27) (.pointer (some ⟨pb, 0, none⟩)) (fun w => by kernel_rfl) kr ?_
      refine s_load H7 (some 28) 24 (.tmp 5) 0 b2 #[.bool l1, .string s1, .slice p1 n1 c1] 24 (0, 0) kr kr kr kr kr ?_
      have HD3 : St w0.heap.size w0 w7 ([] ++ Ez) := H7.sub (List.Sublist.cons _ (List.Sublist.refl Ez))
      refine s_callB0 HD3 hEz (some 29) 26 #[.pointer (some ⟨pb, 0, none⟩), .agg #[.bool l1, .string s1, .slice p1 n1 c1]] (.tuple #[]) (o ++ wr1 l1 s1 (szF k1) (wrF k1)) (fun w => SlAt w.heap.size w p1 n1 k1) (ih o l1 s1 p1 n1 c1 k1 hz1 (by omega) (by omega)) hk1 kr kr ?_
      intro E3 w8 hE3 H8; clear HD3
      refine s_nil ?_
      show WP _ _ _ _ _ _
      refine g_reg0 [0, 1] kr ?_
      refine s_valE (some 30) (.int .i64 (IntKind.i64.wrap (((i : Nat) : Int) + 1))) (.int .i64 ((i + 1 : Nat) : Int)) (fun w => by kernel_rfl) (int_eq (wrapAdd_i64 (a := i) (b := 1) (by omega))) kr ?_
      refine s_val (some 23) (.int .i64 ((i + 1 : Nat) : Int)) (fun w => by kernel_rfl) kr ?_
      refine s_nil ?_
      show ∃ m, _ ∧ _
      exact ⟨_, (by omega), (i + 1), r1, (o ++ wr1 l1 s1 (szF k1) (wrF k1)), E3, rfl, hR1, hN1, (by omega), (by rw [List.length_append]; omega), (by rw [hout, hr1]; simp only [wrF, List.append_assoc]), hE3, H8, (Is.of ⟨kr, kr, kr, kr, kr, kr, kr, trivial⟩)⟩
    · skip
      refine s_valE (some 24) (.bool (decide (((i : Nat) : Int) < ((n : Nat) : Int)))) (.bool false) (fun w => by kernel_rfl) (bool_eq (decide_eq_false (by omega))) kr ?_
      refine s_nil ?_
      refine g_seq kr ?_
      refine g_cond_f kr kr ?_
      refine g_exit 0 kr ?_
      show ∃ vs, Res _ _ _ _ vs ∧ _
      have hdn := FoR.done hN (by omega)
      rw [hdn] at hout
      exact ⟨[], .nil, rfl, _, (by rw [hout, show wrF Fo.nil = [] from rfl, List.append_nil]; exact hEz), H5⟩
  · skip
    refine s_val (some 9) (.bool false) (fun w => by kernel_rfl) kr ?_
    refine s_nil ?_
    refine g_cond_f kr kr ?_
    refine g_skip kr ?_
    show WP _ _ _ _ _ _
    refine g_sreg [0, 1, 2, 3] kr kr ?_
    have hsz1 := single_size hq1
    have hw1 : out ++ wr1 l s (szF k) (wrF k) = (out ++ tl s) ++ wrF k := by unfold wr1; rw [if_pos hq1, List.nil_append, List.append_assoc]
    have hl1 : (out ++ tl s).length = out.length + ByteArray.size s := by rw [List.length_append, tl_len]
    refine s_val (some 16) (.pointer (some ⟨pb, 0, none⟩)) (fun w => by kernel_rfl) kr ?_
    refine s_val (some 17) (.pointer (some ⟨b1, 1, none⟩)) (fun w => by kernel_rfl) kr ?_
    refine s_load1 H2 (some 18) 9 (.tmp 17) 0 b1 1 #[.bool l, .string s, .slice p n c] 24 (0, 0) (.string s) kr kr kr kr kr kr ?_
    refine s_callB (l := [(b1, Obj.cells #[.bool l, .string s, .slice p n c] 24 (0, 0))]) H2 hE0 (some 19) 41 #[.pointer (some ⟨pb, 0, none⟩), .string s] (.tuple #[.int .i64 ((ByteArray.size s : Nat) : Int), .nilIface]) (out ++ tl s) (fun _ => True) (writeString_fn pb out s (Or.inl (by omega)) (by omega)) trivial kr kr ?_
    intro E4 w9 hE4 H9; clear H2
    refine s_nil ?_
    refine g_sreg [0, 1, 2, 3] kr kr ?_
    refine s_val (some 20) (.pointer (some ⟨b1, 2, none⟩)) (fun w => by kernel_rfl) kr ?_
    refine s_load1 H9 (some 21) 22 (.tmp 20) 0 b1 2 #[.bool l, .string s, .slice p n c] 24 (0, 0) (.slice p n c) kr kr kr kr kr kr ?_
    refine s_val (some 22) (.int .i64 ((n : Nat) : Int)) (fun w => by kernel_rfl) kr ?_
    refine s_val (some 23) (.int .i64 0) (fun w => by kernel_rfl) kr ?_
    refine s_nil ?_
    refine g_block 0 kr ?_
    have HD4 : St w0.heap.size w0 w9 ([] ++ E4) := H9.sub (List.Sublist.cons _ (List.Sublist.refl E4))
    refine g_loop kr (fun mz ρ ww => ∃ (i : Nat) (r : Fo) (o : List UInt8) (Ez : List (Nat × Obj)), n - i = mz ∧ (FoR w0.heap.size w0 p i r) ∧ (i + Fo.len r = n) ∧ (Fo.cnt r ≤ Fo.cnt k) ∧ (List.length o + wtF r ≤ 140737488355328) ∧ (out ++ wr1 l s (szF k) (wrF k) = o ++ wrF r) ∧ (BE pb 48 5 o Ez) ∧ St w0.heap.size w0 ww ([] ++ Ez) ∧ Is [(0, .pointer (some ⟨pb, 0, none⟩)), (1, .agg #[.bool l, .string s, .slice p n c]), (3, .pointer (some ⟨b1, 0, none⟩)), (9, .bool false), (21, .slice p n c), (22, .int .i64 ((n : Nat) : Int)), (23, .int .i64 ((i : Nat) : Int))] ρ) (n - 0) ⟨0, k, (out ++ tl s), E4, rfl, (SlAt.start hpre), (by have hn0 := (hpre).1; omega), (Nat.le_refl _), (by rw [hl1]; omega), hw1, hE4, HD4, (Is.of ⟨kr, kr, kr, kr, kr, kr, kr, trivial⟩)⟩ ?_
    clear HD4
    rintro _ _ w10 ⟨i, r, o, Ez, rfl, hR, hN, hcn, hwt, hout, hEz, H10, _, rfl⟩
    refine g_sreg [0] kr kr ?_
    by_cases hc5 : (i : Nat) < n
    · skip
      refine s_valE (some 24) (.bool (decide (((i : Nat) : Int) < ((n : Nat) : Int)))) (.bool true) (fun w => by kernel_rfl) (bool_eq (decide_eq_true (by omega))) kr ?_
      refine s_nil ?_
      refine g_seq kr ?_
      refine g_cond_t kr kr ?_
      refine g_skip kr ?_
      show WP _ _ _ _ _ _
      refine g_seq kr ?_
      refine g_block 1 kr ?_
      refine g_sreg [0, 1, 2, 3] kr kr ?_
      obtain ⟨l2, s2, k2, r2, b2, off2, C2, T2, fz2, p2, n2, c2, hr2, hp2, hb2, hh2, hs2, hx2, hz2, hk2, hR2, hN2⟩ := FoR.open hR hN (by omega)
      refine s_op (some 25) _ (.pointer (some ⟨b2, off2 + i * 3, none⟩)) kr kr (fun o w ho => idxO_run (kd := .i64) (t := 22) (e := 24) (bytes := 48) kr (x := (.tmp 21)) (y := (.tmp 23)) b2 off2 n c i hp2 ho kr kr (by omega) w) ?_
      refine s_loadpF H10 (some 26) 24 (.tmp 25) b2 (off2 + i * 3) 3 C2 #[.bool l2, .string s2, .slice p2 n2 c2] T2 fz2 kr kr kr hh2 hb2 kr hs2 hx2 ?_
      refine s_alloc H10 (some 5) 24 (.agg #[.bool false, .string (⟨#[]⟩), .slice none 0 0]) kr kr kr ?_
      intro b3 w11 H11; clear H10
      refine s_store H11 0 ([(b3, Obj.cells #[.bool l2, .string s2, .slice p2 n2 c2] 24 (0, 0))] ++ Ez) 24 (.tmp 5) (.tmp 26) b3 (0) (#[.bool false, .string (⟨#[]⟩), .slice none 0 0]) #[.bool l2, .string s2, .slice p2 n2 c2] 24 (.agg #[.bool l2, .string s2, .slice p2 n2 c2]) kr kr kr kr kr kr (of_decide_eq_true kr) kr kr ?_
      intro w12 H12; clear H11
      refine s_nil ?_
      refine g_reg0 [0, 1, 2] kr ?_
      have hcn2 := hcn
      rw [hr2] at hcn2
      simp only [Fo.cnt] at hcn2
      have hwt2 := hwt
      rw [hr2] at hwt2
      simp only [wtF] at hwt2
      have hwl2 : (wr1 l2 s2 (szF k2) (wrF k2)).length ≤ 9 + ByteArray.size s2 + wtF k2 := by have h9 := wrF_len (.cons l2 s2 k2 .nil); simp only [wrF, wtF, List.append_nil, Nat.add_zero] at h9; exact h9
      refine s_val (some 27) (.pointer (some ⟨pb, 0, none⟩)) (fun w => by kernel_rfl) kr ?_
      refine s_load H12 (some 28) 24 (.tmp 5) 0 b3 #[.bool l2, .string s2, .slice p2 n2 c2] 24 (0, 0) kr kr kr kr kr ?_
      have HD6 : St w0.heap.size w0 w12 ([] ++ Ez) := H12.sub (List.Sublist.cons _ (List.Sublist.refl Ez))
      refine s_callB0 HD6 hEz (some 29) 26 #[.pointer (some ⟨pb, 0, none⟩), .agg #[.bool l2, .string s2, .slice p2 n2 c2]] (.tuple #[]) (o ++ wr1 l2 s2 (szF k2) (wrF k2)) (fun w => SlAt w.heap.size w p2 n2 k2) (ih o l2 s2 p2 n2 c2 k2 hz2 (by omega) (by omega)) hk2 kr kr ?_
      intro E5 w13 hE5 H13; clear HD6
      refine s_nil ?_
      show WP _ _ _ _ _ _
      refine g_reg0 [0, 1] kr ?_
      refine s_valE (some 30) (.int .i64 (IntKind.i64.wrap (((i : Nat) : Int) + 1))) (.int .i64 ((i + 1 : Nat) : Int)) (fun w => by kernel_rfl) (int_eq (wrapAdd_i64 (a := i) (b := 1) (by omega))) kr ?_
      refine s_val (some 23) (.int .i64 ((i + 1 : Nat) : Int)) (fun w => by kernel_rfl) kr ?_
      refine s_nil ?_
      show ∃ m, _ ∧ _
      exact ⟨_, (by omega), (i + 1), r2, (o ++ wr1 l2 s2 (szF k2) (wrF k2)), E5, rfl, hR2, hN2, (by omega), (by rw [List.length_append]; omega), (by rw [hout, hr2]; simp only [wrF, List.append_assoc]), hE5, H13, (Is.of ⟨kr, kr, kr, kr, kr, kr, kr, trivial⟩)⟩
    · skip
      refine s_valE (some 24) (.bool (decide (((i : Nat) : Int) < ((n : Nat) : Int)))) (.bool false) (fun w => by kernel_rfl) (bool_eq (decide_eq_false (by omega))) kr ?_
      refine s_nil ?_
      refine g_seq kr ?_
      refine g_cond_f kr kr ?_
      refine g_exit 0 kr ?_
      show ∃ vs, Res _ _ _ _ vs ∧ _
      have hdn := FoR.done hN (by omega)
      rw [hdn] at hout
      exact ⟨[], .nil, rfl, _, (by rw [hout, show wrF Fo.nil = [] from rfl, List.append_nil]; exact hEz), H10⟩
theorem write_fn (pb : Nat) (out : List UInt8) (l : Bool) (s : ByteArray) (p : Option Addr) (n c : Nat) (k : Fo) (hs : s.size ≤ 140737488355328) (hw : List.length out + 9 + ByteArray.size s + wtF k ≤ 140737488355328) : FnB0 Tryd.prog 26 #[.pointer (some ⟨pb, 0, none⟩), .agg #[.bool l, .string s, .slice p n c]] (.tuple #[]) pb 48 5 out (out ++ wr1 l s (szF k) (wrF k)) (fun w => SlAt w.heap.size w p n k) := by
  have key : ∀ (m : Nat) (out : List UInt8) (l : Bool) (s : ByteArray) (p : Option Addr) (n c : Nat) (k : Fo), s.size ≤ 140737488355328 → List.length out + 9 + ByteArray.size s + wtF k ≤ 140737488355328 → k.cnt < m → FnB0 Tryd.prog 26 #[.pointer (some ⟨pb, 0, none⟩), .agg #[.bool l, .string s, .slice p n c]] (.tuple #[]) pb 48 5 out (out ++ wr1 l s (szF k) (wrF k)) (fun w => SlAt w.heap.size w p n k) := by
    intro m
    induction m with
    | zero => intros; omega
    | succ m ih => intro out l s p n c k hs hw hkm; exact write_step pb m ih out l s p n c k hs hw hkm
  exact key (k.cnt + 1) out l s p n c k hs hw (by omega)
end Go.Proofs.YtdgoaaaagpeaaaaDoor

namespace Go.Proofs.YtdgoaaaagpeaaaaDoor
open Go Go.RowKit
set_option linter.unusedVariables false
/-- A call that reads the builder out. -/
def FnO (P : Program) (f : Nat) (args : Array Value) (v : Value) (p : Nat) (T e : TypeId) (out : List UInt8) : Prop :=
  ∀ (w0 w : World) (E : List (Nat × Obj)), BE p T e out E → St w0.heap.size w0 w E → Calls P f args w fun r w' => r = .returned v ∧ St w0.heap.size w0 w' []
theorem s_callO {P : Program} {N : Nat} {ops : Array Oper} {i : Nat} {r : List Nat} {K : Env → World → Prop} {ρ : Env} {w : World} {w0 : World} {E : List (Nat × Obj)} (HS : St w0.heap.size w0 w E) {p : Nat} {T e : TypeId} {out : List UInt8} (hE : BE p T e out E) (d : Option Nat) (f : Nat) (args : Array Value) (v : Value) (hc : FnO P f args v p T e out)
    (h : opv P ops i ρ w = some (d, true, .ok (.enter f args) w)) (hd : dOK d N = true) (kk : ∀ w', St w0.heap.size w0 w' [] → WPs P N ops K r (updO ρ d v) w') : WPs P N ops K (i :: r) ρ w := by
  obtain ⟨o, ho, rfl, hw, hr⟩ := opv_some h
  refine WPo.run ho hw fun a ha => ?_
  rw [hr, Oper.upon_enter]
  refine (hc w0 w E hE HS).mono ?_
  rintro _ w' ⟨rfl, hS⟩
  exact ⟨_, ha.put _ (dOK_lt hd) v, kk w' hS⟩
set_option maxRecDepth 100000 in
set_option maxHeartbeats 2000000 in
theorem string_st (pb b n cap : Nat) (cur : Array Value) (out : List UInt8) (a : Option Addr) (hn : n = out.length) (hr : Rw 1 cur cap n (cellsB out)) (h0 : 0 < n) (hm : n ≤ 140737488355328) (hcap : cap ≠ 0) (w0 w : World) (H0 : St w0.heap.size w0 w [(b, Obj.cells cur 5 (0, 0)), (pb, Obj.cells #[.pointer a, .slice (some ⟨b, 0, none⟩) n cap] 48 (0, 0))]) : WP Tryd.prog 14 (codeOf Tryd.f27) (ends Tryd.prog [.tmp 2] fun v' w' => v' = .string (strB out) ∧ St w0.heap.size w0 w' []) (ini #[.pointer (some ⟨pb, 0, none⟩)]) w := by
  refine g_sreg [0] kr kr ?_
  refine s_val (some 2) (.string (⟨#[]⟩)) (fun w => by kernel_rfl) kr ?_
  refine s_nil ?_
  refine D2.g_sdraw [0, 1, 2, 3, 4, 5, 6, 7, 8, 9, 10, 11] [(some 3, fun _ => .pointer (some ⟨pb, 0, none⟩)), (some 4, fun _ => .pointer (some ⟨pb, 0, none⟩)), (some 5, fun _ => .pointer (some ⟨pb, 1, none⟩)), (some 6, fun _ => .slice (some ⟨b, 0, none⟩) n cap), (some 7, fun _ => .pointer (some ⟨b, 0, none⟩)), (some 8, fun _ => .pointer (some ⟨pb, 0, none⟩)), (some 9, fun _ => .pointer (some ⟨pb, 0, none⟩)), (some 10, fun _ => .pointer (some ⟨pb, 1, none⟩)), (some 11, fun _ => .slice (some ⟨b, 0, none⟩) n cap), (some 12, fun _ => .int .i64 ((n : Nat) : Int)), (some 13, fun _ => .string (strB out)), (some 2, fun _ => .string (strB out))] (PreS w0 [(b, Obj.cells cur 5 (0, 0)), (pb, Obj.cells #[.pointer a, .slice (some ⟨b, 0, none⟩) n cap] 48 (0, 0))] 10) kr kr kr kr H0.drew ⟨?_, ?_, ?_, ?_, ?_, ?_, ?_, ?_, ?_, ?_, ?_, ?_, trivial⟩ ?_
  · exact gvS_val rfl (fun g w => by kernel_rfl)
  · exact gvS_val rfl (fun g w => by kernel_rfl)
  · exact gvS_val rfl (fun g w => by kernel_rfl)
  · exact gvS_op rfl (fun L hN => (hN.2.2.no 4 10 kr (hN.post 4 kr))) (.load 46 (.tmp 5)) (fun g => by kernel_rfl) (fun g w o hS ho => hS.load1_run (j := 1) (b := pb) (off := 1) (C := #[.pointer a, .slice (some ⟨b, 0, none⟩) n cap]) (T := 48) kr kr kr kr o ho)
  · exact gvS_op rfl (fun L hN => (hN.post 10 kr)) (sliceDataOp 46 (.tmp 6)) (fun g => by kernel_rfl) (fun g w o hS ho => sliceData_run (a := ⟨b, 0, none⟩) (n := n) (c := cap) kr (by omega) o ho)
  · exact gvS_val rfl (fun g w => by kernel_rfl)
  · exact gvS_val rfl (fun g w => by kernel_rfl)
  · exact gvS_val rfl (fun g w => by kernel_rfl)
  · exact gvS_op rfl (fun L hN => (hN.2.2.no 9 10 kr (hN.post 9 kr))) (.load 46 (.tmp 10)) (fun g => by kernel_rfl) (fun g w o hS ho => hS.load1_run (j := 1) (b := pb) (off := 1) (C := #[.pointer a, .slice (some ⟨b, 0, none⟩) n cap]) (T := 48) kr kr kr kr o ho)
  · exact gvS_val rfl (fun g w => by kernel_rfl)
  · exact gvS_eff rfl (unsafeOp 63 3 (.tmp 7) (.tmp 12)) (fun g => by kernel_rfl) (fun g w o hS ho => unsafeStr_run (j := 0) (b := b) (n := n) (cap := cap) (C := cur) (e := 5) hS kr kr kr kr kr hr (by omega) (by omega) o ho)
  · exact gvS_val rfl (fun g w => by kernel_rfl)
  intro L0 G0 w1 hall HL; clear H0
  have H1 : St w0.heap.size w0 w1 [] := by unfold PreS at HL; rw [hall 10 (Nat.le_of_ble_eq_true kr)] at HL; exact HL
  refine g_ret kr ?_
  show ∃ vs, Res _ _ _ _ vs ∧ _
  exact ⟨[.string (strB out)], .tmp _ kr .nil, rfl, H1⟩
theorem string_fn (pb : Nat) (out : List UInt8) (h0 : 0 < out.length) (hm : out.length ≤ 140737488355328) : FnO Tryd.prog 27 #[.pointer (some ⟨pb, 0, none⟩)] (.string (strB out)) pb 48 5 out := fun w0 w E hE HS => by
  rcases hE with ⟨a, ha⟩ | ⟨a, b, n, cap, cur, _, ha, hn, hr⟩
  · simp at h0
  · have h9 : Calls Tryd.prog 27 #[.pointer (some ⟨pb, 0, none⟩)] w fun r w' => ∃ v', r = .returned v' ∧ (v' = .string (strB out) ∧ St w0.heap.size w0 w' []) :=
      calls_intro (c := codeOf Tryd.f27) (rs := [.tmp 2]) (N := 14) Tryd.func27 kr kr kr (string_st pb b n cap cur out a hn hr (by omega) (by omega) (by have := hr.le; omega) w0 w HS)
    refine h9.mono ?_
    rintro _ w' ⟨v', he, hv, hS⟩
    exact ⟨by rw [he, hv], hS⟩
set_option maxRecDepth 100000 in
set_option maxHeartbeats 2000000 in
theorem encode_fn (l : Bool) (s : ByteArray) (p : Option Addr) (n c : Nat) (k : Fo) (hs : s.size ≤ 140737488355328) : FnP Tryd.prog 11 #[.agg #[.bool l, .string s, .slice p n c]] (fun w => SlAt w.heap.size w p n k) (encV (encS l s n k)) := by
  refine FnP.intro (c := codeOf Tryd.f11) [.tmp 2, .tmp 3] 20 Tryd.func11 kr kr kr fun w hpre => ?_
  have H0 := St.start w
  have hn := hpre.1
  have hnm := hpre.2.1
  have hdl := dpF_le k
  refine g_sreg [0, 1, 2] kr kr ?_
  refine s_box H0 (some 1) 24 (.tmp 0) (.agg #[.bool l, .string s, .slice p n c]) kr kr kr ?_
  intro b1 w1 H1; clear H0
  refine s_val (some 2) (.string (⟨#[]⟩)) (fun w => by kernel_rfl) kr ?_
  refine s_val (some 3) (.int .i64 0) (fun w => by kernel_rfl) kr ?_
  refine s_nil ?_
  refine g_seq kr ?_
  refine g_block 0 kr ?_
  refine g_sreg [0, 1, 2, 3] kr kr ?_
  refine s_load H1 (some 6) 24 (.tmp 1) 0 b1 #[.bool l, .string s, .slice p n c] 24 (0, 0) kr kr kr kr kr ?_
  refine s_callP H1 (some 7) 23 #[.agg #[.bool l, .string s, .slice p n c], .int .i64 4000] (fun w => SlAt w.heap.size w p n k) (.int .i64 (lfV (lf1 l s n (lfF k) 4000))) (left_fn l s p n c k (by omega) 4000 (by omega)) (SlAt.call hpre H1.below) (fun w => by kernel_rfl) kr ?_
  intro w2 H2; clear H1
  rcases opt_cases (lf1 l s n (lfF k) 4000) with hv1 | ⟨y, hv1⟩
  · skip
    refine s_now 7 (v := .int .i64 (lfV (lf1 l s n (lfF k) 4000))) (v' := .int .i64 (-1)) (int_eq (by rw [hv1]; rfl)) kr ?_
    refine s_val (some 8) (.bool true) (fun w => by kernel_rfl) kr ?_
    refine s_val (some 5) (.bool true) (fun w => by kernel_rfl) kr ?_
    refine s_nil ?_
    refine g_cond_t kr kr ?_
    refine g_sreg [0, 1] kr kr ?_
    refine s_val (some 2) (.string (⟨#[]⟩)) (fun w => by kernel_rfl) kr ?_
    refine s_val (some 3) (.int .i64 1) (fun w => by kernel_rfl) kr ?_
    refine s_nil ?_
    refine g_ret kr ?_
    show ∃ vs, Res _ _ _ _ vs ∧ _
    exact ⟨[.string (⟨#[]⟩), .int .i64 1], (.tmp (.string (⟨#[]⟩)) kr (.tmp (.int .i64 1) kr .nil)), (encS_1 hv1).symm, H2.below⟩
  · skip
    refine s_now 7 (v := .int .i64 (lfV (lf1 l s n (lfF k) 4000))) (v' := .int .i64 ((y : Nat) : Int)) (int_eq (by rw [hv1]; rfl)) kr ?_
    have hok := lf1_some hv1
    have hcn : k.cnt < 4000 := hok.2.2
    have hwt := hpre.wt
    refine s_valE (some 8) (.bool (decide (((y : Nat) : Int) < 0))) (.bool false) (fun w => by kernel_rfl) (bool_eq (decide_eq_false (by omega))) kr ?_
    refine s_val (some 5) (.bool false) (fun w => by kernel_rfl) kr ?_
    refine s_nil ?_
    refine g_cond_f kr kr ?_
    refine g_sreg [0, 1, 2, 3] kr kr ?_
    refine s_load H2 (some 10) 24 (.tmp 1) 0 b1 #[.bool l, .string s, .slice p n c] 24 (0, 0) kr kr kr kr kr ?_
    refine s_callP H2 (some 11) 24 #[.agg #[.bool l, .string s, .slice p n c]] (fun w => SlAt w.heap.size w p n k) (.int .i64 ((dp1 l (dpF k) : Nat) : Int)) (depth_fn l s p n c k (by omega) (by omega)) (SlAt.call hpre H2.below) (fun w => by kernel_rfl) kr ?_
    intro w3 H3; clear H2
    by_cases hc1 : (dp1 l (dpF k) : Nat) > 8
    · skip
      refine s_valE (some 12) (.bool (decide (8 < ((dp1 l (dpF k) : Nat) : Int)))) (.bool true) (fun w => by kernel_rfl) (bool_eq (decide_eq_true (by omega))) kr ?_
      refine s_val (some 9) (.bool true) (fun w => by kernel_rfl) kr ?_
      refine s_nil ?_
      refine g_cond_t kr kr ?_
      refine g_sreg [0, 1] kr kr ?_
      refine s_val (some 2) (.string (⟨#[]⟩)) (fun w => by kernel_rfl) kr ?_
      refine s_val (some 3) (.int .i64 5) (fun w => by kernel_rfl) kr ?_
      refine s_nil ?_
      refine g_ret kr ?_
      show ∃ vs, Res _ _ _ _ vs ∧ _
      exact ⟨[.string (⟨#[]⟩), .int .i64 5], (.tmp (.string (⟨#[]⟩)) kr (.tmp (.int .i64 5) kr .nil)), (encS_5 hv1 (by omega)).symm, H3.below⟩
    · skip
      refine s_valE (some 12) (.bool (decide (8 < ((dp1 l (dpF k) : Nat) : Int)))) (.bool false) (fun w => by kernel_rfl) (bool_eq (decide_eq_false (by omega))) kr ?_
      refine s_val (some 9) (.bool false) (fun w => by kernel_rfl) kr ?_
      refine s_nil ?_
      refine g_cond_f kr kr ?_
      refine g_sreg [0, 1, 2, 3] kr kr ?_
      refine s_load H3 (some 14) 24 (.tmp 1) 0 b1 #[.bool l, .string s, .slice p n c] 24 (0, 0) kr kr kr kr kr ?_
      refine s_callP H3 (some 15) 25 #[.agg #[.bool l, .string s, .slice p n c]] (fun w => SlAt w.heap.size w p n k) (.int .u64 ((sz1 l s (szF k) : Nat) : Int)) (size_fn l s p n c k (by omega) (by omega)) (SlAt.call hpre H3.below) (fun w => by kernel_rfl) kr ?_
      intro w4 H4; clear H3
      by_cases hc2 : (sz1 l s (szF k) : Nat) > 4000
      · skip
        refine s_valE (some 16) (.bool (decide (4000 < ((sz1 l s (szF k) : Nat) : Int)))) (.bool true) (fun w => by kernel_rfl) (bool_eq (decide_eq_true (by omega))) kr ?_
        refine s_val (some 13) (.bool true) (fun w => by kernel_rfl) kr ?_
        refine s_nil ?_
        refine g_cond_t kr kr ?_
        refine g_sreg [0, 1] kr kr ?_
        refine s_val (some 2) (.string (⟨#[]⟩)) (fun w => by kernel_rfl) kr ?_
        refine s_val (some 3) (.int .i64 2) (fun w => by kernel_rfl) kr ?_
        refine s_nil ?_
        refine g_ret kr ?_
        show ∃ vs, Res _ _ _ _ vs ∧ _
        exact ⟨[.string (⟨#[]⟩), .int .i64 2], (.tmp (.string (⟨#[]⟩)) kr (.tmp (.int .i64 2) kr .nil)), (encS_2 hv1 (by omega) (by omega)).symm, H4.below⟩
      · skip
        refine s_valE (some 16) (.bool (decide (4000 < ((sz1 l s (szF k) : Nat) : Int)))) (.bool false) (fun w => by kernel_rfl) (bool_eq (decide_eq_false (by omega))) kr ?_
        refine s_val (some 13) (.bool false) (fun w => by kernel_rfl) kr ?_
        refine s_nil ?_
        refine g_cond_f kr kr ?_
        refine g_skip kr ?_
        show WP _ _ _ _ _ _
        refine g_sreg [0] kr kr ?_
        have hpw := pure_wt1 hok.1 hok.2.1 (show sz1 l s (szF k) ≤ 4000 by omega) (by omega)
        refine s_alloc H4 (some 4) 48 (.agg #[.pointer none, .slice none 0 0]) kr kr kr ?_
        intro b2 w5 H5; clear H4
        refine s_nil ?_
        refine g_sreg [0, 1] kr kr ?_
        refine s_load H5 (some 17) 24 (.tmp 1) 1 b1 #[.bool l, .string s, .slice p n c] 24 (0, 0) kr kr kr kr kr ?_
        have HD3 : St w.heap.size w w5 [(b2, Obj.cells #[.pointer none, .slice none 0 0] 48 (0, 0))] := H5.sub (List.Sublist.cons_cons _ (List.Sublist.cons _ List.Sublist.slnil))
        have hE0 : BE b2 48 5 [] [(b2, Obj.cells #[.pointer none, .slice none 0 0] 48 (0, 0))] := BE.nil none (Or.inl rfl)
        refine s_callB0 HD3 hE0 (some 18) 26 #[.pointer (some ⟨b2, 0, none⟩), .agg #[.bool l, .string s, .slice p n c]] (.tuple #[]) ([] ++ wr1 l s (szF k) (wrF k)) (fun w => SlAt w.heap.size w p n k) (write_fn b2 [] l s p n c k hs (by simp only [List.length_nil]; omega)) hpre kr kr ?_
        intro E1 w6 hE1 H6; clear HD3
        refine s_nil ?_
        refine g_sreg [0, 1, 2] kr kr ?_
        rw [List.nil_append] at hE1
        refine s_callO H6 hE1 (some 19) 27 #[.pointer (some ⟨b2, 0, none⟩)] (.string (strB (wr1 l s (szF k) (wrF k)))) (string_fn b2 (wr1 l s (szF k) (wrF k)) (wr1_len hok.1 hok.2.1 (by omega)).1 (by have h9 := (wr1_len hok.1 hok.2.1 (by omega)).2; omega)) kr kr ?_
        intro w7 H7; clear H6
        refine s_val (some 2) (.string (strB (wr1 l s (szF k) (wrF k)))) (fun w => by kernel_rfl) kr ?_
        refine s_val (some 3) (.int .i64 0) (fun w => by kernel_rfl) kr ?_
        refine s_nil ?_
        refine g_ret kr ?_
        show ∃ vs, Res _ _ _ _ vs ∧ _
        exact ⟨[.string (strB (wr1 l s (szF k) (wrF k))), .int .i64 0], (.tmp (.string (strB (wr1 l s (szF k) (wrF k)))) kr (.tmp (.int .i64 0) kr .nil)), (encS_0 hv1 (by omega) (by omega)).symm, H7.below⟩
end Go.Proofs.YtdgoaaaagpeaaaaDoor

namespace Go.Proofs.YtdgoaaaagpeaaaaDoor
open Go Go.RowKit
set_option linter.unusedVariables false
theorem enc_dog : FnP Tryd.prog 11 #[.agg #[.bool false, .string ⟨#[100, 111, 103]⟩, .slice none 0 0]] (fun w => SlAt w.heap.size w none 0 .nil) (.tuple #[.string ⟨#[131, 100, 111, 103]⟩, .int .i64 0]) := by
  have h := encode_fn false ⟨#[100, 111, 103]⟩ none 0 0 .nil (by decide)
  rw [show encV (encS false ⟨#[100, 111, 103]⟩ 0 .nil) = .tuple #[.string ⟨#[131, 100, 111, 103]⟩, .int .i64 0] by kernel_rfl] at h
  exact h
theorem enc_leaf_fn (t : ByteArray) (h : t.size ≤ 1500) : FnP Tryd.prog 11 #[.agg #[.bool false, .string t, .slice none 0 0]] (fun w => SlAt w.heap.size w none 0 .nil) (.tuple #[.string (strB (wr1 false t 0 [])), .int .i64 0]) := by
  have h9 := encode_fn false t none 0 0 .nil (by omega)
  rw [enc_leaf h] at h9
  exact h9
set_option maxRecDepth 100000 in
set_option maxHeartbeats 2000000 in
theorem alive_fn  : Fn Tryd.prog 12 #[] (.bool true) := by
  refine Fn.intro (c := codeOf Tryd.f12) [.tmp 0] 14 Tryd.func12 kr kr kr fun w => ?_
  have H0 := St.start w
  refine rS [.v] H0 kr fun gs1 w1 H1 => ?_
  clear H0
  refine rS [.v, .cp (pre := fun w => SlAt w.heap.size w none 0 .nil) enc_dog [] (fun w hb hd => SlAt.nil _ _ _), .v, .v, .v, .v, .v] H1 kr fun gs2 w2 H2 => ?_
  clear H1
  refine rS [.v, .v, .v, .v, .e (v := .bool (ByteArray.toList (⟨#[131, 100, 111, 103]⟩) == ByteArray.toList (⟨#[131, 100, 111, 103]⟩))) (v' := .bool true) (bool_eq (str_self (⟨#[131, 100, 111, 103]⟩))), .v, .v] H2 kr fun gs3 w3 H3 => ?_
  clear H2
  refine g_ret kr ?_
  show ∃ vs, Res _ _ _ _ vs ∧ _
  refine ⟨[.bool true], (.tmp (.bool true) kr .nil), ?_, H3.below⟩
  rfl
set_option maxRecDepth 100000 in
set_option maxHeartbeats 2000000 in
theorem rlpHeads_fn (s : ByteArray) (hs : ByteArray.size s ≤ 9223372036854775807) : Fn Tryd.prog 9 #[.string s] (.bool true) := by
  refine Fn.intro (c := codeOf Tryd.f9) [.tmp 2] 52 Tryd.func9 kr kr kr fun w => ?_
  have H0 := St.start w
  refine rS [.v] H0 kr fun gs1 w1 H1 => ?_
  clear H0
  refine rS [.v, .v, .v, .e (v := .int .i64 (if (1500 : Int) < (((ByteArray.size s : Nat) : Int) : Int) then (1500 : Int) else (((ByteArray.size s : Nat) : Int) : Int))) (v' := .int .i64 ((min (ByteArray.size s) 1500 : Nat) : Int)) (int_eq (minN (ByteArray.size s) 1500)), .o (ins := [((.tmp 6), .string s), ((.tmp 9), .int .i64 ((min (ByteArray.size s) 1500 : Nat) : Int))]) (v := .string (ByteArray.extract s 0 (min (ByteArray.size s) 1500))) (fun ρ o w ho hi => scut_run (t := 9) (kd := .i64) kr (x := (.tmp 6)) (y := (.tmp 9)) s (min (ByteArray.size s) 1500) ho hi.1 hi.2.1 (by omega) w), .v] H1 kr fun gs2 w2 H2 => ?_
  clear H1
  obtain ⟨t, ht⟩ : ∃ t, (ByteArray.extract s 0 (min (ByteArray.size s) 1500)) = t := ⟨_, rfl⟩
  have htz : ByteArray.size t ≤ 1500 := by rw [← ht]; simp only [ByteArray.size_extract]; omega
  have hbt := by_lt t 0
  refine g_now 0 (v := .string (ByteArray.extract s 0 (min (ByteArray.size s) 1500))) (v' := .string t) (by rw [ht]) kr ?_
  refine rS [.v, .v, .cp (pre := fun w => SlAt w.heap.size w none 0 .nil) (enc_leaf_fn t (by omega)) [] (fun w hb hd => SlAt.nil _ _ _), .v, .v, .v, .v, .v] H2 kr fun gs3 w3 H3 => ?_
  clear H2
  refine rS [.v] H3 kr fun gs4 w4 H4 => ?_
  clear H3
  refine g_seq kr ?_
  refine g_sreg [0, 1, 2, 3, 4, 5, 6, 7] kr kr ?_
  refine rp [.v, .v] H4 kr fun gs5 w5 H5 => ?_
  show WPs _ _ _ _ [2, 3, 4, 5, 6, 7] _ _
  clear H4
  by_cases hc1 : (ByteArray.size t : Nat) = 1
  · skip
    refine rp [.e (v := .bool (((ByteArray.size t : Nat) : Int) == 1)) (v' := .bool true) (bool_eq (beq_iff_eq.2 (by omega))), .v, .v, .o (ins := [((.tmp 21), .string t), ((.const (.int .i64 0)), .int .i64 0)]) (v := .int .u8 ((by_ t 0 : Nat) : Int)) (fun ρ o w ho hi => sindex_run (t := 9) (kd := .i64) kr (x := (.tmp 21)) (y := (.const (.int .i64 0))) t 0 ho hi.1 hi.2.1 (by omega) w)] H5 kr fun gs6 w6 H6 => ?_
    show WPs _ _ _ _ [6, 7] _ _
    clear H5
    by_cases hc2 : (by_ t 0 : Nat) < 128
    · skip
      refine rp [.e (v := .bool (decide (((by_ t 0 : Nat) : Int) < 128))) (v' := .bool true) (bool_eq (decide_eq_true (by omega))), .v] H6 kr fun gs7 w7 H7 => ?_
      show WPs _ _ _ _ [] _ _
      clear H6
      refine s_nil ?_
      refine g_keep [0, 2, 3, 4, 5, 24] fun ρ1 => ?_
      have HK3 := H7.keep
      clear H7
      refine g_cond_t kr kr ?_
      refine rL [.v] HK3 kr fun gs8 w8 H8 => ?_
      clear HK3
      show WP _ _ _ _ _ _
      have hwr : wr1 false t 0 [] = [] ++ tl t := leaf_one (by omega) (by omega)
      have hpl : ([] : List UInt8).length = 0 := rfl
      have hlen : ByteArray.size (strB (wr1 false t 0 [])) = ByteArray.size t + 0 := by rw [hwr, strB_size, List.length_append, hpl, tl_len, Nat.add_comm]
      refine rS [.c alive_fn, .v, .v, .v, .v, .v, .v, .v, .v, .v, .v, .e (v := .int .i64 (IntKind.i64.wrap (((ByteArray.size t : Nat) : Int) + 0))) (v' := .int .i64 (((ByteArray.size t) + 0 : Nat) : Int)) (int_eq (wrapAdd_i64 (a := ByteArray.size t) (b := 0) (by omega))), .e (v := .bool (((ByteArray.size (strB (wr1 false t 0 [])) : Nat) : Int) == (((ByteArray.size t) + 0 : Nat) : Int))) (v' := .bool true) (bool_eq (beq_iff_eq.2 (by omega))), .v, .v, .v, .v, .o (ins := [((.tmp 46), .string (strB (wr1 false t 0 []))), ((.tmp 47), .int .i64 0)]) (v := .string (ByteArray.extract (strB (wr1 false t 0 [])) 0 (ByteArray.size (strB (wr1 false t 0 []))))) (fun ρ o w ho hi => scut3_run (t := 9) (kz := .i64) kr (x := (.tmp 46)) (z := (.tmp 47)) (strB (wr1 false t 0 [])) 0 ho hi.1 hi.2.1 (by omega) w), .v, .e (v := .bool (ByteArray.toList (ByteArray.extract (strB (wr1 false t 0 [])) 0 (ByteArray.size (strB (wr1 false t 0 [])))) == ByteArray.toList t)) (v' := .bool true) (bool_eq (str_same (ByteArray.extract (strB (wr1 false t 0 [])) 0 (ByteArray.size (strB (wr1 false t 0 [])))) t (by rw [hwr]; exact cut_pre rfl hpl rfl))), .v, .v] H8 kr fun gs9 w9 H9 => ?_
      clear H8
      refine g_ret kr ?_
      show ∃ vs, Res _ _ _ _ vs ∧ _
      refine ⟨[.bool true], (.tmp (.bool true) kr .nil), ?_, H9.below⟩
      rfl
    · skip
      refine rp [.e (v := .bool (decide (((by_ t 0 : Nat) : Int) < 128))) (v' := .bool false) (bool_eq (decide_eq_false (by omega))), .v] H6 kr fun gs10 w10 H10 => ?_
      show WPs _ _ _ _ [] _ _
      clear H6
      refine s_nil ?_
      refine g_keep [0, 2, 3, 4, 5, 24] fun ρ2 => ?_
      have HK4 := H10.keep
      clear H10
      refine g_cond_f kr kr ?_
      refine g_sreg [0, 1, 2] kr kr ?_
      refine rp [.v, .v] HK4 kr fun gs11 w11 H11 => ?_
      show WPs _ _ _ _ [2] _ _
      clear HK4
      by_cases hc5 : (ByteArray.size t : Nat) > 255
      · skip
        refine rp [.e (v := .bool (decide (255 < ((ByteArray.size t : Nat) : Int)))) (v' := .bool true) (bool_eq (decide_eq_true (by omega)))] H11 kr fun gs12 w12 H12 => ?_
        show WPs _ _ _ _ [] _ _
        clear H11
        refine s_nil ?_
        refine g_cond_t kr kr ?_
        refine rL [.v] H12 kr fun gs13 w13 H13 => ?_
        clear H12
        show WP _ _ _ _ _ _
        have hwr : wr1 false t 0 [] = hd 128 t.size ++ tl t := leaf_hd (by omega)
        have hpl : (hd 128 t.size : List UInt8).length = 3 := hd_len3 (by omega) (by omega)
        have hlen : ByteArray.size (strB (wr1 false t 0 [])) = ByteArray.size t + 3 := by rw [hwr, strB_size, List.length_append, hpl, tl_len, Nat.add_comm]
        refine rS [.c alive_fn, .v, .v, .v, .v, .v, .v, .v, .v, .v, .v, .e (v := .int .i64 (IntKind.i64.wrap (((ByteArray.size t : Nat) : Int) + 3))) (v' := .int .i64 (((ByteArray.size t) + 3 : Nat) : Int)) (int_eq (wrapAdd_i64 (a := ByteArray.size t) (b := 3) (by omega))), .e (v := .bool (((ByteArray.size (strB (wr1 false t 0 [])) : Nat) : Int) == (((ByteArray.size t) + 3 : Nat) : Int))) (v' := .bool true) (bool_eq (beq_iff_eq.2 (by omega))), .v, .v, .v, .v, .o (ins := [((.tmp 46), .string (strB (wr1 false t 0 []))), ((.tmp 47), .int .i64 3)]) (v := .string (ByteArray.extract (strB (wr1 false t 0 [])) 3 (ByteArray.size (strB (wr1 false t 0 []))))) (fun ρ o w ho hi => scut3_run (t := 9) (kz := .i64) kr (x := (.tmp 46)) (z := (.tmp 47)) (strB (wr1 false t 0 [])) 3 ho hi.1 hi.2.1 (by omega) w), .v, .e (v := .bool (ByteArray.toList (ByteArray.extract (strB (wr1 false t 0 [])) 3 (ByteArray.size (strB (wr1 false t 0 [])))) == ByteArray.toList t)) (v' := .bool true) (bool_eq (str_same (ByteArray.extract (strB (wr1 false t 0 [])) 3 (ByteArray.size (strB (wr1 false t 0 [])))) t (by rw [hwr]; exact cut_pre rfl hpl rfl))), .v, .v] H13 kr fun gs14 w14 H14 => ?_
        clear H13
        refine g_ret kr ?_
        show ∃ vs, Res _ _ _ _ vs ∧ _
        refine ⟨[.bool true], (.tmp (.bool true) kr .nil), ?_, H14.below⟩
        rfl
      · skip
        refine rp [.e (v := .bool (decide (255 < ((ByteArray.size t : Nat) : Int)))) (v' := .bool false) (bool_eq (decide_eq_false (by omega)))] H11 kr fun gs15 w15 H15 => ?_
        show WPs _ _ _ _ [] _ _
        clear H11
        refine s_nil ?_
        refine g_cond_f kr kr ?_
        refine g_sreg [0, 1, 2] kr kr ?_
        refine rp [.v, .v] H15 kr fun gs16 w16 H16 => ?_
        show WPs _ _ _ _ [2] _ _
        clear H15
        by_cases hc6 : (ByteArray.size t : Nat) > 55
        · skip
          refine rp [.e (v := .bool (decide (55 < ((ByteArray.size t : Nat) : Int)))) (v' := .bool true) (bool_eq (decide_eq_true (by omega)))] H16 kr fun gs17 w17 H17 => ?_
          show WPs _ _ _ _ [] _ _
          clear H16
          refine s_nil ?_
          refine g_cond_t kr kr ?_
          refine rL [.v] H17 kr fun gs18 w18 H18 => ?_
          clear H17
          show WP _ _ _ _ _ _
          have hwr : wr1 false t 0 [] = hd 128 t.size ++ tl t := leaf_hd (by omega)
          have hpl : (hd 128 t.size : List UInt8).length = 2 := hd_len2 (by omega) (by omega)
          have hlen : ByteArray.size (strB (wr1 false t 0 [])) = ByteArray.size t + 2 := by rw [hwr, strB_size, List.length_append, hpl, tl_len, Nat.add_comm]
          refine rS [.c alive_fn, .v, .v, .v, .v, .v, .v, .v, .v, .v, .v, .e (v := .int .i64 (IntKind.i64.wrap (((ByteArray.size t : Nat) : Int) + 2))) (v' := .int .i64 (((ByteArray.size t) + 2 : Nat) : Int)) (int_eq (wrapAdd_i64 (a := ByteArray.size t) (b := 2) (by omega))), .e (v := .bool (((ByteArray.size (strB (wr1 false t 0 [])) : Nat) : Int) == (((ByteArray.size t) + 2 : Nat) : Int))) (v' := .bool true) (bool_eq (beq_iff_eq.2 (by omega))), .v, .v, .v, .v, .o (ins := [((.tmp 46), .string (strB (wr1 false t 0 []))), ((.tmp 47), .int .i64 2)]) (v := .string (ByteArray.extract (strB (wr1 false t 0 [])) 2 (ByteArray.size (strB (wr1 false t 0 []))))) (fun ρ o w ho hi => scut3_run (t := 9) (kz := .i64) kr (x := (.tmp 46)) (z := (.tmp 47)) (strB (wr1 false t 0 [])) 2 ho hi.1 hi.2.1 (by omega) w), .v, .e (v := .bool (ByteArray.toList (ByteArray.extract (strB (wr1 false t 0 [])) 2 (ByteArray.size (strB (wr1 false t 0 [])))) == ByteArray.toList t)) (v' := .bool true) (bool_eq (str_same (ByteArray.extract (strB (wr1 false t 0 [])) 2 (ByteArray.size (strB (wr1 false t 0 [])))) t (by rw [hwr]; exact cut_pre rfl hpl rfl))), .v, .v] H18 kr fun gs19 w19 H19 => ?_
          clear H18
          refine g_ret kr ?_
          show ∃ vs, Res _ _ _ _ vs ∧ _
          refine ⟨[.bool true], (.tmp (.bool true) kr .nil), ?_, H19.below⟩
          rfl
        · skip
          refine rp [.e (v := .bool (decide (55 < ((ByteArray.size t : Nat) : Int)))) (v' := .bool false) (bool_eq (decide_eq_false (by omega)))] H16 kr fun gs20 w20 H20 => ?_
          show WPs _ _ _ _ [] _ _
          clear H16
          refine s_nil ?_
          refine g_cond_f kr kr ?_
          refine g_skip kr ?_
          show WP _ _ _ _ _ _
          have hwr : wr1 false t 0 [] = hd 128 t.size ++ tl t := leaf_hd (by omega)
          have hpl : (hd 128 t.size : List UInt8).length = 1 := hd_len1 (by omega)
          have hlen : ByteArray.size (strB (wr1 false t 0 [])) = ByteArray.size t + 1 := by rw [hwr, strB_size, List.length_append, hpl, tl_len, Nat.add_comm]
          refine rS [.c alive_fn, .v, .v, .v, .v, .v, .v, .v, .v, .v, .v, .e (v := .int .i64 (IntKind.i64.wrap (((ByteArray.size t : Nat) : Int) + 1))) (v' := .int .i64 (((ByteArray.size t) + 1 : Nat) : Int)) (int_eq (wrapAdd_i64 (a := ByteArray.size t) (b := 1) (by omega))), .e (v := .bool (((ByteArray.size (strB (wr1 false t 0 [])) : Nat) : Int) == (((ByteArray.size t) + 1 : Nat) : Int))) (v' := .bool true) (bool_eq (beq_iff_eq.2 (by omega))), .v, .v, .v, .v, .o (ins := [((.tmp 46), .string (strB (wr1 false t 0 []))), ((.tmp 47), .int .i64 1)]) (v := .string (ByteArray.extract (strB (wr1 false t 0 [])) 1 (ByteArray.size (strB (wr1 false t 0 []))))) (fun ρ o w ho hi => scut3_run (t := 9) (kz := .i64) kr (x := (.tmp 46)) (z := (.tmp 47)) (strB (wr1 false t 0 [])) 1 ho hi.1 hi.2.1 (by omega) w), .v, .e (v := .bool (ByteArray.toList (ByteArray.extract (strB (wr1 false t 0 [])) 1 (ByteArray.size (strB (wr1 false t 0 [])))) == ByteArray.toList t)) (v' := .bool true) (bool_eq (str_same (ByteArray.extract (strB (wr1 false t 0 [])) 1 (ByteArray.size (strB (wr1 false t 0 [])))) t (by rw [hwr]; exact cut_pre rfl hpl rfl))), .v, .v] H20 kr fun gs21 w21 H21 => ?_
          clear H20
          refine g_ret kr ?_
          show ∃ vs, Res _ _ _ _ vs ∧ _
          refine ⟨[.bool true], (.tmp (.bool true) kr .nil), ?_, H21.below⟩
          rfl
  · skip
    refine rp [.e (v := .bool (((ByteArray.size t : Nat) : Int) == 1)) (v' := .bool false) (bool_eq (beq_eq_false_iff_ne.2 (by omega))), .v, .n, .n, .n, .v] H5 kr fun gs22 w22 H22 => ?_
    show WPs _ _ _ _ [] _ _
    clear H5
    refine s_nil ?_
    refine g_keep [0, 2, 3, 4, 5, 24] fun ρ3 => ?_
    have HK7 := H22.keep
    clear H22
    refine g_cond_f kr kr ?_
    refine g_sreg [0, 1, 2] kr kr ?_
    refine rp [.v, .v] HK7 kr fun gs23 w23 H23 => ?_
    show WPs _ _ _ _ [2] _ _
    clear HK7
    by_cases hc8 : (ByteArray.size t : Nat) > 255
    · skip
      refine rp [.e (v := .bool (decide (255 < ((ByteArray.size t : Nat) : Int)))) (v' := .bool true) (bool_eq (decide_eq_true (by omega)))] H23 kr fun gs24 w24 H24 => ?_
      show WPs _ _ _ _ [] _ _
      clear H23
      refine s_nil ?_
      refine g_cond_t kr kr ?_
      refine rL [.v] H24 kr fun gs25 w25 H25 => ?_
      clear H24
      show WP _ _ _ _ _ _
      have hwr : wr1 false t 0 [] = hd 128 t.size ++ tl t := leaf_hd (by omega)
      have hpl : (hd 128 t.size : List UInt8).length = 3 := hd_len3 (by omega) (by omega)
      have hlen : ByteArray.size (strB (wr1 false t 0 [])) = ByteArray.size t + 3 := by rw [hwr, strB_size, List.length_append, hpl, tl_len, Nat.add_comm]
      refine rS [.c alive_fn, .v, .v, .v, .v, .v, .v, .v, .v, .v, .v, .e (v := .int .i64 (IntKind.i64.wrap (((ByteArray.size t : Nat) : Int) + 3))) (v' := .int .i64 (((ByteArray.size t) + 3 : Nat) : Int)) (int_eq (wrapAdd_i64 (a := ByteArray.size t) (b := 3) (by omega))), .e (v := .bool (((ByteArray.size (strB (wr1 false t 0 [])) : Nat) : Int) == (((ByteArray.size t) + 3 : Nat) : Int))) (v' := .bool true) (bool_eq (beq_iff_eq.2 (by omega))), .v, .v, .v, .v, .o (ins := [((.tmp 46), .string (strB (wr1 false t 0 []))), ((.tmp 47), .int .i64 3)]) (v := .string (ByteArray.extract (strB (wr1 false t 0 [])) 3 (ByteArray.size (strB (wr1 false t 0 []))))) (fun ρ o w ho hi => scut3_run (t := 9) (kz := .i64) kr (x := (.tmp 46)) (z := (.tmp 47)) (strB (wr1 false t 0 [])) 3 ho hi.1 hi.2.1 (by omega) w), .v, .e (v := .bool (ByteArray.toList (ByteArray.extract (strB (wr1 false t 0 [])) 3 (ByteArray.size (strB (wr1 false t 0 [])))) == ByteArray.toList t)) (v' := .bool true) (bool_eq (str_same (ByteArray.extract (strB (wr1 false t 0 [])) 3 (ByteArray.size (strB (wr1 false t 0 [])))) t (by rw [hwr]; exact cut_pre rfl hpl rfl))), .v, .v] H25 kr fun gs26 w26 H26 => ?_
      clear H25
      refine g_ret kr ?_
      show ∃ vs, Res _ _ _ _ vs ∧ _
      refine ⟨[.bool true], (.tmp (.bool true) kr .nil), ?_, H26.below⟩
      rfl
    · skip
      refine rp [.e (v := .bool (decide (255 < ((ByteArray.size t : Nat) : Int)))) (v' := .bool false) (bool_eq (decide_eq_false (by omega)))] H23 kr fun gs27 w27 H27 => ?_
      show WPs _ _ _ _ [] _ _
      clear H23
      refine s_nil ?_
      refine g_cond_f kr kr ?_
      refine g_sreg [0, 1, 2] kr kr ?_
      refine rp [.v, .v] H27 kr fun gs28 w28 H28 => ?_
      show WPs _ _ _ _ [2] _ _
      clear H27
      by_cases hc9 : (ByteArray.size t : Nat) > 55
      · skip
        refine rp [.e (v := .bool (decide (55 < ((ByteArray.size t : Nat) : Int)))) (v' := .bool true) (bool_eq (decide_eq_true (by omega)))] H28 kr fun gs29 w29 H29 => ?_
        show WPs _ _ _ _ [] _ _
        clear H28
        refine s_nil ?_
        refine g_cond_t kr kr ?_
        refine rL [.v] H29 kr fun gs30 w30 H30 => ?_
        clear H29
        show WP _ _ _ _ _ _
        have hwr : wr1 false t 0 [] = hd 128 t.size ++ tl t := leaf_hd (by omega)
        have hpl : (hd 128 t.size : List UInt8).length = 2 := hd_len2 (by omega) (by omega)
        have hlen : ByteArray.size (strB (wr1 false t 0 [])) = ByteArray.size t + 2 := by rw [hwr, strB_size, List.length_append, hpl, tl_len, Nat.add_comm]
        refine rS [.c alive_fn, .v, .v, .v, .v, .v, .v, .v, .v, .v, .v, .e (v := .int .i64 (IntKind.i64.wrap (((ByteArray.size t : Nat) : Int) + 2))) (v' := .int .i64 (((ByteArray.size t) + 2 : Nat) : Int)) (int_eq (wrapAdd_i64 (a := ByteArray.size t) (b := 2) (by omega))), .e (v := .bool (((ByteArray.size (strB (wr1 false t 0 [])) : Nat) : Int) == (((ByteArray.size t) + 2 : Nat) : Int))) (v' := .bool true) (bool_eq (beq_iff_eq.2 (by omega))), .v, .v, .v, .v, .o (ins := [((.tmp 46), .string (strB (wr1 false t 0 []))), ((.tmp 47), .int .i64 2)]) (v := .string (ByteArray.extract (strB (wr1 false t 0 [])) 2 (ByteArray.size (strB (wr1 false t 0 []))))) (fun ρ o w ho hi => scut3_run (t := 9) (kz := .i64) kr (x := (.tmp 46)) (z := (.tmp 47)) (strB (wr1 false t 0 [])) 2 ho hi.1 hi.2.1 (by omega) w), .v, .e (v := .bool (ByteArray.toList (ByteArray.extract (strB (wr1 false t 0 [])) 2 (ByteArray.size (strB (wr1 false t 0 [])))) == ByteArray.toList t)) (v' := .bool true) (bool_eq (str_same (ByteArray.extract (strB (wr1 false t 0 [])) 2 (ByteArray.size (strB (wr1 false t 0 [])))) t (by rw [hwr]; exact cut_pre rfl hpl rfl))), .v, .v] H30 kr fun gs31 w31 H31 => ?_
        clear H30
        refine g_ret kr ?_
        show ∃ vs, Res _ _ _ _ vs ∧ _
        refine ⟨[.bool true], (.tmp (.bool true) kr .nil), ?_, H31.below⟩
        rfl
      · skip
        refine rp [.e (v := .bool (decide (55 < ((ByteArray.size t : Nat) : Int)))) (v' := .bool false) (bool_eq (decide_eq_false (by omega)))] H28 kr fun gs32 w32 H32 => ?_
        show WPs _ _ _ _ [] _ _
        clear H28
        refine s_nil ?_
        refine g_cond_f kr kr ?_
        refine g_skip kr ?_
        show WP _ _ _ _ _ _
        have hwr : wr1 false t 0 [] = hd 128 t.size ++ tl t := leaf_hd (by omega)
        have hpl : (hd 128 t.size : List UInt8).length = 1 := hd_len1 (by omega)
        have hlen : ByteArray.size (strB (wr1 false t 0 [])) = ByteArray.size t + 1 := by rw [hwr, strB_size, List.length_append, hpl, tl_len, Nat.add_comm]
        refine rS [.c alive_fn, .v, .v, .v, .v, .v, .v, .v, .v, .v, .v, .e (v := .int .i64 (IntKind.i64.wrap (((ByteArray.size t : Nat) : Int) + 1))) (v' := .int .i64 (((ByteArray.size t) + 1 : Nat) : Int)) (int_eq (wrapAdd_i64 (a := ByteArray.size t) (b := 1) (by omega))), .e (v := .bool (((ByteArray.size (strB (wr1 false t 0 [])) : Nat) : Int) == (((ByteArray.size t) + 1 : Nat) : Int))) (v' := .bool true) (bool_eq (beq_iff_eq.2 (by omega))), .v, .v, .v, .v, .o (ins := [((.tmp 46), .string (strB (wr1 false t 0 []))), ((.tmp 47), .int .i64 1)]) (v := .string (ByteArray.extract (strB (wr1 false t 0 [])) 1 (ByteArray.size (strB (wr1 false t 0 []))))) (fun ρ o w ho hi => scut3_run (t := 9) (kz := .i64) kr (x := (.tmp 46)) (z := (.tmp 47)) (strB (wr1 false t 0 [])) 1 ho hi.1 hi.2.1 (by omega) w), .v, .e (v := .bool (ByteArray.toList (ByteArray.extract (strB (wr1 false t 0 [])) 1 (ByteArray.size (strB (wr1 false t 0 [])))) == ByteArray.toList t)) (v' := .bool true) (bool_eq (str_same (ByteArray.extract (strB (wr1 false t 0 [])) 1 (ByteArray.size (strB (wr1 false t 0 [])))) t (by rw [hwr]; exact cut_pre rfl hpl rfl))), .v, .v] H32 kr fun gs33 w33 H33 => ?_
        clear H32
        refine g_ret kr ?_
        show ∃ vs, Res _ _ _ _ vs ∧ _
        refine ⟨[.bool true], (.tmp (.bool true) kr .nil), ?_, H33.below⟩
        rfl
end Go.Proofs.YtdgoaaaagpeaaaaDoor

namespace Go.Proofs.YtdgoaaaagpeaaaaDoor
open Go Go.RowKit
set_option linter.unusedVariables false
def firstC : Array Value := (Go.Pinned.utf8FirstZ.map fun n => Value.int .u8 ((n : Nat) : Int)).toArray
def rangesC : Array Value := #[.int .u8 128, .int .u8 191, .int .u8 160, .int .u8 191, .int .u8 128, .int .u8 159, .int .u8 144, .int .u8 191, .int .u8 128, .int .u8 143, .int .u8 0, .int .u8 0, .int .u8 0, .int .u8 0, .int .u8 0, .int .u8 0, .int .u8 0, .int .u8 0, .int .u8 0, .int .u8 0, .int .u8 0, .int .u8 0, .int .u8 0, .int .u8 0, .int .u8 0, .int .u8 0, .int .u8 0, .int .u8 0, .int .u8 0, .int .u8 0, .int .u8 0, .int .u8 0]
/-- The settled world, the tables laid. -/
noncomputable def laidWorld (os : Os) : World :=
  let w0 := World.holding Tryd.prog os ⟨#[], #[], []⟩
  { w0 with heap := (w0.heap.modify 0 fun
      | .cells _ t frozen => .cells firstC t frozen
      | o => o).modify 1 fun
      | .cells _ t frozen => .cells rangesC t frozen
      | o => o }
abbrev laidL : List (String × DataW Unit) := [("unicode/utf8.acceptRanges", Rows.laid_unicode_utf8_acceptRanges), ("unicode/utf8.first", Rows.laid_unicode_utf8_first)]
theorem laidWorld_met (os : Os) (args : Array Value) : laidMetH Tryd.prog [("unicode/utf8.acceptRanges", Rows.laid_unicode_utf8_acceptRanges), ("unicode/utf8.first", Rows.laid_unicode_utf8_first)] ((laidWorld os).forCall (fun _ _ => 0) ⟨#[], args, []⟩).memory := by
  rw [MakeChecks.laidMetH_plain _ _ _ kr]
  exact laidMet_of_run' 8 kr kr
end Go.Proofs.YtdgoaaaagpeaaaaDoor
