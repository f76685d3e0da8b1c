/-
  Texts of the proof, part 4.
-/
import Derived.Test.YtlhfgbjhngkicaaGreatDoorProg
import Derived.Lib.AppendStr
import Derived.Lib.Builder
import Derived.Test.YtlhfgbjhngkicaaGreatDoorRows
import Derived.ChangeArms
import Derived.ChangeSlices
import Derived.OpenShut
import Derived.Deep.Strs
import Derived.DataReads
import Derived.Lib.LaidTab
import Derived.MakeChecks
import Derived.LaidLaws
import Derived.LaidHandle
import Derived.ProofKit
import Derived.WalkKit
import Derived.Lib.AppendZeros
import Derived.Lib.Overlaps
import Derived.Laws.Externs
import Derived.Test.YtlhfgbjhngkicaaGreatDoorTM2
import Derived.Test.YtlhfgbjhngkicaaGreatDoorTM3

namespace Go.Proofs.YtlhfgbjhngkicaaGreatDoor
open Go Go.RowKit
set_option linter.unusedVariables false
set_option maxRecDepth 100000 in
set_option maxHeartbeats 2000000 in
theorem mixed_fn (l : Bool) (s : ByteArray) (p : Option Addr) (n c : Nat) (k : Fo) (hs : s.size ≤ 140737488355328) : FnP Tryz.prog 71 #[.agg #[.bool l, .string s, .slice p n c]] (fun w => SlAt w.heap.size w p n k) (.bool (mixed l s n)) := by
  refine FnP.intro (c := codeOf Tryz.f71) [.tmp 2] 12 Tryz.func71 kr kr kr fun w hpre => ?_
  have H0 := St.start w
  have hn := hpre.1
  have hnm := hpre.2.1
  refine rS [.b, .v] H0 kr fun gs1 w1 H1 => ?_
  clear H0
  refine g_seq kr ?_
  refine rS [.v, .l 0] H1 kr fun gs2 w2 H2 => ?_
  clear H1
  refine Or.elim (Bool.eq_false_or_eq_true (l)).symm (fun hq1 => ?_) (fun hq1 => ?_)
  · skip
    refine g_now 4 (v := .bool l) (v' := .bool false) (bool_eq hq1) kr ?_
    refine g_cond_f kr kr ?_
    refine g_skip kr ?_
    show WP _ _ _ _ _ _
    refine g_sreg [0, 1, 2, 3, 4] kr kr ?_
    refine rp [.v, .l 0, .v] H2 kr fun gs3 w3 H3 => ?_
    show WPs _ _ _ _ [3, 4] _ _
    clear H2
    by_cases hc1 : (n : Nat) > 0
    · skip
      refine rp [.e (v := .bool (decide (0 < ((n : Nat) : Int)))) (v' := .bool true) (bool_eq (decide_eq_true (by omega))), .v] H3 kr fun gs4 w4 H4 => ?_
      show WPs _ _ _ _ [] _ _
      clear H3
      refine s_nil ?_
      refine g_ret kr ?_
      show ∃ vs, Res _ _ _ _ vs ∧ _
      refine ⟨[.bool true], (.tmp (.bool true) kr .nil), ?_, H4.below⟩
      rw [hq1]; exact bool_eq (mixed_f (decide_eq_true (by omega)))
    · skip
      refine rp [.e (v := .bool (decide (0 < ((n : Nat) : Int)))) (v' := .bool false) (bool_eq (decide_eq_false (by omega))), .v] H3 kr fun gs5 w5 H5 => ?_
      show WPs _ _ _ _ [] _ _
      clear H3
      refine s_nil ?_
      refine g_ret kr ?_
      show ∃ vs, Res _ _ _ _ vs ∧ _
      refine ⟨[.bool false], (.tmp (.bool false) kr .nil), ?_, H5.below⟩
      rw [hq1]; exact bool_eq (mixed_f (decide_eq_false (by omega)))
  · skip
    refine g_now 4 (v := .bool l) (v' := .bool true) (bool_eq hq1) kr ?_
    refine g_cond_t kr kr ?_
    refine g_sreg [0, 1, 2, 3] kr kr ?_
    refine rp [.v, .l 0] H2 kr fun gs6 w6 H6 => ?_
    show WPs _ _ _ _ [2, 3] _ _
    clear H2
    by_cases hx2 : s = ⟨#[]⟩
    · skip
      refine rp [.e (v := .bool (!(ByteArray.toList s == ByteArray.toList (⟨#[]⟩)))) (v' := .bool false) (bool_eq (by rw [str_same s (⟨#[]⟩) hx2]; rfl)), .v] H6 kr fun gs7 w7 H7 => ?_
      show WPs _ _ _ _ [] _ _
      clear H6
      refine s_nil ?_
      refine g_ret kr ?_
      show ∃ vs, Res _ _ _ _ vs ∧ _
      refine ⟨[.bool false], (.tmp (.bool false) kr .nil), ?_, H7.below⟩
      rw [hq1]; exact bool_eq (mixed_t (decide_eq_false (by rw [hx2]; decide)))
    · skip
      refine rp [.e (v := .bool (!(ByteArray.toList s == ByteArray.toList (⟨#[]⟩)))) (v' := .bool true) (bool_eq (by rw [str_other s (⟨#[]⟩) hx2]; rfl)), .v] H6 kr fun gs8 w8 H8 => ?_
      show WPs _ _ _ _ [] _ _
      clear H6
      refine s_nil ?_
      refine g_ret kr ?_
      show ∃ vs, Res _ _ _ _ vs ∧ _
      refine ⟨[.bool true], (.tmp (.bool true) kr .nil), ?_, H8.below⟩
      rw [hq1]; exact bool_eq (mixed_t (decide_eq_true (size_ne hx2)))
set_option maxRecDepth 100000 in
set_option maxHeartbeats 2000000 in
theorem left_step (m : Nat) (ih : ∀ (l : Bool) (s : ByteArray) (p : Option Addr) (n c : Nat) (k : Fo) (room : Nat), s.size ≤ 140737488355328 → room ≤ 4000 → k.cnt < m → FnP Tryz.prog 46 #[.agg #[.bool l, .string s, .slice p n c], .int .i64 ((room : Nat) : Int)] (fun w => SlAt w.heap.size w p n k) (.int .i64 (lfV (lf1 l s n (lfF k) room)))) (l : Bool) (s : ByteArray) (p : Option Addr) (n c : Nat) (k : Fo) (hs : s.size ≤ 140737488355328) (room : Nat) (hro : room ≤ 4000) (hkm : k.cnt < m + 1) : FnP Tryz.prog 46 #[.agg #[.bool l, .string s, .slice p n c], .int .i64 ((room : Nat) : Int)] (fun w => SlAt w.heap.size w p n k) (.int .i64 (lfV (lf1 l s n (lfF k) room))) := by
  refine FnP.intro (c := codeOf Tryz.f46) [.tmp 4] 30 Tryz.func46 kr kr kr fun w hpre => ?_
  have H0 := St.start w
  have hn := hpre.1
  have hnm := hpre.2.1
  refine rS [.b, .v] H0 kr fun gs1 w1 H1 => ?_
  clear H0
  refine g_seq kr ?_
  refine g_sreg [0, 1, 2, 3, 4, 5] kr kr ?_
  refine rp [.v] H1 kr fun gs2 w2 H2 => ?_
  show WPs _ _ _ _ [1, 2, 3, 4, 5] _ _
  clear H1
  by_cases hc1 : (room : Nat) = 0
  · skip
    refine rp [.e (v := .bool (((room : Nat) : Int) == 0)) (v' := .bool true) (bool_eq (beq_iff_eq.2 (by omega))), .v, .n, .n, .v] H2 kr fun gs3 w3 H3 => ?_
    show WPs _ _ _ _ [] _ _
    clear H2
    refine s_nil ?_
    refine g_cond_t kr kr ?_
    refine rS [.v] H3 kr fun gs4 w4 H4 => ?_
    clear H3
    refine g_ret kr ?_
    show ∃ vs, Res _ _ _ _ vs ∧ _
    refine ⟨[.int .i64 (-1)], (.tmp (.int .i64 (-1)) kr .nil), ?_, H4.below⟩
    exact int_eq (lf1_zero (by omega)).symm
  · skip
    refine rp [.e (v := .bool (((room : Nat) : Int) == 0)) (v' := .bool false) (bool_eq (beq_eq_false_iff_ne.2 (by omega))), .v, .l 0, .cp (pre := fun w => SlAt w.heap.size w p n k) (mixed_fn l s p n c k (by omega) ) [] (fun w hb hd => (SlAt.call hpre hb)), .v] H2 kr fun gs5 w5 H5 => ?_
    show WPs _ _ _ _ [] _ _
    clear H2
    refine s_nil ?_
    refine Or.elim (Bool.eq_false_or_eq_true (mixed l s n)).symm (fun hq1 => ?_) (fun hq1 => ?_)
    · skip
      refine g_now 11 (v := .bool (mixed l s n)) (v' := .bool false) (bool_eq hq1) kr ?_
      refine g_now 12 (v := .bool (mixed l s n)) (v' := .bool false) (bool_eq hq1) kr ?_
      refine g_cond_f kr kr ?_
      refine g_skip kr ?_
      show WP _ _ _ _ _ _
      refine rS [.v, .e (v := .int .i64 (IntKind.i64.wrap (((room : Nat) : Int) - 1))) (v' := .int .i64 ((room - 1 : Nat) : Int)) (int_eq (wrapSub_i64 (a := room) (b := 1) (by omega))), .v] H5 kr fun gs6 w6 H6 => ?_
      clear H5
      refine g_seq kr ?_
      refine rS [.v, .l 0, .v, .v] H6 kr fun gs7 w7 H7 => ?_
      clear H6
      refine g_block 0 kr ?_
      have HL2 : St w.heap.size w w7 [((gs1 0).b, Obj.cells #[.bool l, .string s, .slice p n c] 68 (0, 0))] := H7.as kr
      clear H7
      have HD3 : St w.heap.size w w7 [] := HL2.sub (List.Sublist.cons _ List.Sublist.slnil)
      refine g_loop kr (fun mz ρ ww => ∃ (i : Nat) (r : Fo) (q : Nat), n - i = mz ∧ (FoR w.heap.size w p i r) ∧ (i + Fo.len r = n) ∧ (q ≤ 4000) ∧ (Fo.cnt r ≤ Fo.cnt k) ∧ (lfF k (room - 1) = lfF r q) ∧ St w.heap.size w ww [] ∧ Is [(0, .agg #[.bool l, .string s, .slice p n c]), (1, .int .i64 ((q : Nat) : Int)), (2, .pointer (some ⟨(gs1 0).b, 0, none⟩)), (12, .bool false), (16, .slice p n c), (17, .int .i64 ((n : Nat) : Int)), (18, .int .i64 ((i : Nat) : Int))] ρ) (n - 0) ⟨0, k, (room - 1), rfl, (SlAt.start hpre), (by have hn0 := (hpre).1; omega), (by omega), (Nat.le_refl _), rfl, HD3, (Is.of ⟨kr, kr, kr, kr, kr, kr, kr, trivial⟩)⟩ ?_
      clear HD3
      rintro _ _ w8 ⟨i, r, q, rfl, hR, hN, hq0, hcn, hlf, H8, _, rfl⟩
      by_cases hc4 : (i : Nat) < n
      · skip
        refine rS [.e (v := .bool (decide (((i : Nat) : Int) < ((n : Nat) : Int)))) (v' := .bool true) (bool_eq (decide_eq_true (by omega)))] H8 kr fun gs9 w9 H9 => ?_
        clear H8
        refine g_seq kr ?_
        refine g_cond_t kr kr ?_
        refine g_skip kr ?_
        show WP _ _ _ _ _ _
        refine g_seq kr ?_
        refine g_block 1 kr ?_
        obtain ⟨l1, s1, k1, r1, b1, off1, C1, T1, fz1, p1, n1, c1, hr1, hp1, hb1, hh1, hs1, hx1, hz1, hk1, hR1, hN1⟩ := FoR.open hR hN (by omega)
        refine rS [.o (ins := [((.tmp 16), .slice p n c), ((.tmp 18), .int .i64 ((i : Nat) : Int))]) (v := .pointer (some ⟨b1, off1 + i * 3, none⟩)) (fun ρ o w ho hi => idxO_run (kd := .i64) (t := 66) (e := 68) (bytes := 48) kr (x := (.tmp 16)) (y := (.tmp 18)) b1 off1 n c i hp1 ho hi.1 hi.2.1 (by omega) w), .fp (off := off1 + i * 3) (n := 3) (W := #[.bool l1, .string s1, .slice p1 n1 c1]) hh1 hb1 hs1 hx1, .a, .s 0] H9 kr fun gs10 w10 H10 => ?_
        clear H9
        refine g_keep [0, 1, 2, 6, 12, 16, 17, 18, 19] fun ρ1 => ?_
        have HK5 := H10.keep
        clear H10
        have hcn1 := hcn
        rw [hr1] at hcn1
        simp only [Fo.cnt] at hcn1
        refine g_sreg [0, 1, 2, 3] kr kr ?_
        refine rp [.l 0, .v, .cp (pre := fun w => SlAt w.heap.size w p1 n1 k1) (ih l1 s1 p1 n1 c1 k1 q hz1 (by omega) (by omega)) [] (fun w hb hd => (SlAt.call hk1 hb))] HK5 kr fun gs11 w11 H11 => ?_
        show WPs _ _ _ _ [3] _ _
        clear HK5
        rcases opt_cases (lf1 l1 s1 n1 (lfF k1) q) with hv1 | ⟨y, hv1⟩
        · skip
          refine s_now 24 (v := .int .i64 (lfV (lf1 l1 s1 n1 (lfF k1) q))) (v' := .int .i64 (-1)) (int_eq (show (lfV (lf1 l1 s1 n1 (lfF k1) q)) = -1 from by rw [hv1]; rfl)) kr ?_
          refine rp [.v] H11 kr fun gs12 w12 H12 => ?_
          show WPs _ _ _ _ [] _ _
          clear H11
          refine s_nil ?_
          refine rS [.v, .v] H12 kr fun gs13 w13 H13 => ?_
          clear H12
          refine g_cond_t kr kr ?_
          refine rS [.v, .v] H13 kr fun gs14 w14 H14 => ?_
          clear H13
          refine g_ret kr ?_
          show ∃ vs, Res _ _ _ _ vs ∧ _
          refine ⟨[.int .i64 (-1)], (.tmp (.int .i64 (-1)) kr .nil), ?_, H14.below⟩
          refine int_eq ?_
          rw [lf1_go (by omega) hq1, hlf, hr1]; exact (lfF_stop hk1.1 hv1).symm
        · skip
          refine s_now 24 (v := .int .i64 (lfV (lf1 l1 s1 n1 (lfF k1) q))) (v' := .int .i64 ((y : Nat) : Int)) (int_eq (show (lfV (lf1 l1 s1 n1 (lfF k1) q)) = ((y : Nat) : Int) from by rw [hv1]; rfl)) kr ?_
          have hy4 := lf1_le hv1
          refine rp [.v] H11 kr fun gs15 w15 H15 => ?_
          show WPs _ _ _ _ [] _ _
          clear H11
          refine s_nil ?_
          refine rS [.v, .e (v := .bool (decide (((y : Nat) : Int) < 0))) (v' := .bool false) (bool_eq (decide_eq_false (by omega)))] H15 kr fun gs16 w16 H16 => ?_
          clear H15
          refine g_cond_f kr kr ?_
          refine g_skip kr ?_
          show WP _ _ _ _ _ _
          refine rL [.e (v := .int .i64 (IntKind.i64.wrap (((i : Nat) : Int) + 1))) (v' := .int .i64 ((i + 1 : Nat) : Int)) (int_eq (wrapAdd_i64 (a := i) (b := 1) (by omega))), .v] H16 kr fun gs17 w17 H17 => ?_
          clear H16
          have HL6 : St w.heap.size w w17 [((gs10 2).b, Obj.cells #[.bool l1, .string s1, .slice p1 n1 c1] 68 (0, 0))] := H17.as kr
          clear H17
          have HD7 : St w.heap.size w w17 [] := HL6.sub (List.Sublist.cons _ List.Sublist.slnil)
          show ∃ m, _ ∧ _
          exact ⟨_, (by omega), (i + 1), r1, y, rfl, hR1, hN1, (by omega), (by omega), (by rw [hlf, hr1]; exact lfF_next hk1.1 hv1), HD7, (Is.of ⟨kr, kr, kr, kr, kr, kr, kr, trivial⟩)⟩
      · skip
        refine rS [.e (v := .bool (decide (((i : Nat) : Int) < ((n : Nat) : Int)))) (v' := .bool false) (bool_eq (decide_eq_false (by omega)))] H8 kr fun gs18 w18 H18 => ?_
        clear H8
        refine g_seq kr ?_
        refine g_cond_f kr kr ?_
        refine g_exit 0 kr ?_
        show WP _ _ _ _ _ _
        refine rS [.v, .v] H18 kr fun gs19 w19 H19 => ?_
        clear H18
        refine g_ret kr ?_
        show ∃ vs, Res _ _ _ _ vs ∧ _
        refine ⟨[.int .i64 ((q : Nat) : Int)], (.tmp (.int .i64 ((q : Nat) : Int)) kr .nil), ?_, H19.below⟩
        refine int_eq ?_
        rw [lf1_go (by omega) hq1, hlf, FoR.done hN (by omega)]; rfl
    · skip
      refine g_now 11 (v := .bool (mixed l s n)) (v' := .bool true) (bool_eq hq1) kr ?_
      refine g_now 12 (v := .bool (mixed l s n)) (v' := .bool true) (bool_eq hq1) kr ?_
      refine g_cond_t kr kr ?_
      refine rS [.v] H5 kr fun gs20 w20 H20 => ?_
      clear H5
      refine g_ret kr ?_
      show ∃ vs, Res _ _ _ _ vs ∧ _
      refine ⟨[.int .i64 (-1)], (.tmp (.int .i64 (-1)) kr .nil), ?_, H20.below⟩
      exact int_eq (lf1_mixed hq1).symm
theorem left_fn (l : Bool) (s : ByteArray) (p : Option Addr) (n c : Nat) (k : Fo) (hs : s.size ≤ 140737488355328) (room : Nat) (hro : room ≤ 4000) : FnP Tryz.prog 46 #[.agg #[.bool l, .string s, .slice p n c], .int .i64 ((room : Nat) : Int)] (fun w => SlAt w.heap.size w p n k) (.int .i64 (lfV (lf1 l s n (lfF k) room))) := by
  have key : ∀ (m : Nat) (l : Bool) (s : ByteArray) (p : Option Addr) (n c : Nat) (k : Fo) (room : Nat), s.size ≤ 140737488355328 → room ≤ 4000 → k.cnt < m → FnP Tryz.prog 46 #[.agg #[.bool l, .string s, .slice p n c], .int .i64 ((room : Nat) : Int)] (fun w => SlAt w.heap.size w p n k) (.int .i64 (lfV (lf1 l s n (lfF k) room))) := by
    intro m
    induction m with
    | zero => intros; omega
    | succ m ih => intro l s p n c k room hs hro hkm; exact left_step m ih l s p n c k hs room hro hkm
  exact key (k.cnt + 1) l s p n c k room hs hro (by omega)
set_option maxRecDepth 100000 in
set_option maxHeartbeats 2000000 in
theorem depth_step (m : Nat) (ih : ∀ (l : Bool) (s : ByteArray) (p : Option Addr) (n c : Nat) (k : Fo), s.size ≤ 140737488355328 → k.cnt ≤ 1000000 → k.cnt < m → FnP Tryz.prog 47 #[.agg #[.bool l, .string s, .slice p n c]] (fun w => SlAt w.heap.size w p n k) (.int .i64 ((dp1 l (dpF k) : Nat) : Int))) (l : Bool) (s : ByteArray) (p : Option Addr) (n c : Nat) (k : Fo) (hs : s.size ≤ 140737488355328) (hk6 : k.cnt ≤ 1000000) (hkm : k.cnt < m + 1) : FnP Tryz.prog 47 #[.agg #[.bool l, .string s, .slice p n c]] (fun w => SlAt w.heap.size w p n k) (.int .i64 ((dp1 l (dpF k) : Nat) : Int)) := by
  refine FnP.intro (c := codeOf Tryz.f47) [.tmp 2] 23 Tryz.func47 kr kr kr fun w hpre => ?_
  have H0 := St.start w
  have hn := hpre.1
  have hnm := hpre.2.1
  have hdk := dpF_le k
  refine rS [.b, .v] H0 kr fun gs1 w1 H1 => ?_
  clear H0
  refine g_seq kr ?_
  refine g_sreg [0, 1, 2] kr kr ?_
  refine rp [.v, .l 0] H1 kr fun gs2 w2 H2 => ?_
  show WPs _ _ _ _ [2] _ _
  clear H1
  refine Or.elim (Bool.eq_false_or_eq_true (l)).symm (fun hq1 => ?_) (fun hq1 => ?_)
  · skip
    refine s_now 7 (v := .bool l) (v' := .bool false) (bool_eq hq1) kr ?_
    refine rp [.v] H2 kr fun gs3 w3 H3 => ?_
    show WPs _ _ _ _ [] _ _
    clear H2
    refine s_nil ?_
    refine g_cond_t kr kr ?_
    refine rS [.v] H3 kr fun gs4 w4 H4 => ?_
    clear H3
    refine g_ret kr ?_
    show ∃ vs, Res _ _ _ _ vs ∧ _
    refine ⟨[.int .i64 0], (.tmp (.int .i64 0) kr .nil), ?_, H4.below⟩
    rw [hq1]; rfl
  · skip
    refine s_now 7 (v := .bool l) (v' := .bool true) (bool_eq hq1) kr ?_
    refine rp [.v] H2 kr fun gs5 w5 H5 => ?_
    show WPs _ _ _ _ [] _ _
    clear H2
    refine s_nil ?_
    refine g_cond_f kr kr ?_
    refine g_skip kr ?_
    show WP _ _ _ _ _ _
    refine rS [.v] H5 kr fun gs6 w6 H6 => ?_
    clear H5
    refine g_seq kr ?_
    refine rS [.v, .l 0, .v, .v] H6 kr fun gs7 w7 H7 => ?_
    clear H6
    refine g_block 0 kr ?_
    have HL1 : St w.heap.size w w7 [((gs1 0).b, Obj.cells #[.bool l, .string s, .slice p n c] 68 (0, 0))] := H7.as kr
    clear H7
    have HD2 : St w.heap.size w w7 [] := HL1.sub (List.Sublist.cons _ List.Sublist.slnil)
    refine g_loop kr (fun mz ρ ww => ∃ (i : Nat) (r : Fo) (d : Nat), n - i = mz ∧ (FoR w.heap.size w p i r) ∧ (i + Fo.len r = n) ∧ (Fo.cnt r ≤ Fo.cnt k) ∧ (dpF k = max d (dpF r)) ∧ St w.heap.size w ww [] ∧ Is [(0, .agg #[.bool l, .string s, .slice p n c]), (1, .pointer (some ⟨(gs1 0).b, 0, none⟩)), (2, .int .i64 0), (3, .int .i64 ((d : Nat) : Int)), (8, .bool false), (10, .slice p n c), (11, .int .i64 ((n : Nat) : Int)), (12, .int .i64 ((i : Nat) : Int))] ρ) (n - 0) ⟨0, k, 0, rfl, (SlAt.start hpre), (by have hn0 := (hpre).1; omega), (Nat.le_refl _), (by omega), HD2, (Is.of ⟨kr, kr, kr, kr, kr, kr, kr, kr, trivial⟩)⟩ ?_
    clear HD2
    rintro _ _ w8 ⟨i, r, d, rfl, hR, hN, hcn, hd, H8, _, rfl⟩
    by_cases hc3 : (i : Nat) < n
    · skip
      refine rS [.e (v := .bool (decide (((i : Nat) : Int) < ((n : Nat) : Int)))) (v' := .bool true) (bool_eq (decide_eq_true (by omega)))] H8 kr fun gs9 w9 H9 => ?_
      clear H8
      refine g_seq kr ?_
      refine g_cond_t kr kr ?_
      refine g_skip kr ?_
      show WP _ _ _ _ _ _
      refine g_seq kr ?_
      refine g_block 1 kr ?_
      obtain ⟨l1, s1, k1, r1, b1, off1, C1, T1, fz1, p1, n1, c1, hr1, hp1, hb1, hh1, hs1, hx1, hz1, hk1, hR1, hN1⟩ := FoR.open hR hN (by omega)
      refine rS [.o (ins := [((.tmp 10), .slice p n c), ((.tmp 12), .int .i64 ((i : Nat) : Int))]) (v := .pointer (some ⟨b1, off1 + i * 3, none⟩)) (fun ρ o w ho hi => idxO_run (kd := .i64) (t := 66) (e := 68) (bytes := 48) kr (x := (.tmp 10)) (y := (.tmp 12)) b1 off1 n c i hp1 ho hi.1 hi.2.1 (by omega) w), .fp (off := off1 + i * 3) (n := 3) (W := #[.bool l1, .string s1, .slice p1 n1 c1]) hh1 hb1 hs1 hx1, .a, .s 0] H9 kr fun gs10 w10 H10 => ?_
      clear H9
      have hcn1 := hcn
      rw [hr1] at hcn1
      simp only [Fo.cnt] at hcn1
      refine rL [.v, .l 0, .cp (pre := fun w => SlAt w.heap.size w p1 n1 k1) (ih l1 s1 p1 n1 c1 k1 hz1 (by omega) (by omega)) [] (fun w hb hd => (SlAt.call hk1 hb)), .e (v := .int .i64 (if (((dp1 l1 (dpF k1) : Nat) : Int) : Int) > (((d : Nat) : Int) : Int) then (((dp1 l1 (dpF k1) : Nat) : Int) : Int) else (((d : Nat) : Int) : Int))) (v' := .int .i64 ((max d (dp1 l1 (dpF k1)) : Nat) : Int)) (int_eq (maxN d (dp1 l1 (dpF k1)))), .v] H10 kr fun gs11 w11 H11 => ?_
      clear H10
      show WP _ _ _ _ _ _
      refine g_keep [0, 1, 2, 3, 5, 8, 10, 11, 12, 13] fun ρ1 => ?_
      have HK4 := H11.keep
      clear H11
      refine rL [.e (v := .int .i64 (IntKind.i64.wrap (((i : Nat) : Int) + 1))) (v' := .int .i64 ((i + 1 : Nat) : Int)) (int_eq (wrapAdd_i64 (a := i) (b := 1) (by omega))), .v] HK4 kr fun gs12 w12 H12 => ?_
      clear HK4
      have HL5 : St w.heap.size w w12 [((gs10 2).b, Obj.cells #[.bool l1, .string s1, .slice p1 n1 c1] 68 (0, 0))] := H12.as kr
      clear H12
      have HD6 : St w.heap.size w w12 [] := HL5.sub (List.Sublist.cons _ List.Sublist.slnil)
      show ∃ m, _ ∧ _
      exact ⟨_, (by omega), (i + 1), r1, (max d (dp1 l1 (dpF k1))), rfl, hR1, hN1, (by omega), (by rw [hd, hr1]; simp only [dpF]; omega), HD6, (Is.of ⟨kr, kr, kr, kr, kr, kr, kr, kr, trivial⟩)⟩
    · skip
      refine rS [.e (v := .bool (decide (((i : Nat) : Int) < ((n : Nat) : Int)))) (v' := .bool false) (bool_eq (decide_eq_false (by omega)))] H8 kr fun gs13 w13 H13 => ?_
      clear H8
      refine g_seq kr ?_
      refine g_cond_f kr kr ?_
      refine g_exit 0 kr ?_
      show WP _ _ _ _ _ _
      refine rS [.v, .e (v := .int .i64 (IntKind.i64.wrap (1 + ((d : Nat) : Int)))) (v' := .int .i64 ((1 + d : Nat) : Int)) (int_eq (wrapAdd_i64 (a := 1) (b := d) (by omega))), .v] H13 kr fun gs14 w14 H14 => ?_
      clear H13
      refine g_ret kr ?_
      show ∃ vs, Res _ _ _ _ vs ∧ _
      refine ⟨[.int .i64 ((1 + d : Nat) : Int)], (.tmp (.int .i64 ((1 + d : Nat) : Int)) kr .nil), ?_, H14.below⟩
      refine int_eq ?_
      rw [hq1, hd, FoR.done hN (by omega)]; show ((1 + d : Nat) : Int) = ((1 + max d 0 : Nat) : Int); omega
theorem depth_fn (l : Bool) (s : ByteArray) (p : Option Addr) (n c : Nat) (k : Fo) (hs : s.size ≤ 140737488355328) (hk6 : k.cnt ≤ 1000000) : FnP Tryz.prog 47 #[.agg #[.bool l, .string s, .slice p n c]] (fun w => SlAt w.heap.size w p n k) (.int .i64 ((dp1 l (dpF k) : Nat) : Int)) := by
  have key : ∀ (m : Nat) (l : Bool) (s : ByteArray) (p : Option Addr) (n c : Nat) (k : Fo), s.size ≤ 140737488355328 → k.cnt ≤ 1000000 → k.cnt < m → FnP Tryz.prog 47 #[.agg #[.bool l, .string s, .slice p n c]] (fun w => SlAt w.heap.size w p n k) (.int .i64 ((dp1 l (dpF k) : Nat) : Int)) := by
    intro m
    induction m with
    | zero => intros; omega
    | succ m ih => intro l s p n c k hs hk6 hkm; exact depth_step m ih l s p n c k hs hk6 hkm
  exact key (k.cnt + 1) l s p n c k hs hk6 (by omega)
set_option maxRecDepth 100000 in
set_option maxHeartbeats 2000000 in
theorem single_fn (s : ByteArray) : Fn Tryz.prog 72 #[.string s] (.bool (single s)) := by
  refine Fn.intro (c := codeOf Tryz.f72) [.tmp 2] 11 Tryz.func72 kr kr kr fun w => ?_
  have H0 := St.start w
  refine rS [.v] H0 kr fun gs1 w1 H1 => ?_
  clear H0
  refine g_sreg [0, 1, 2, 3, 4, 5, 6, 7, 8] kr kr ?_
  refine rp [.v, .v] H1 kr fun gs2 w2 H2 => ?_
  show WPs _ _ _ _ [2, 3, 4, 5, 6, 7, 8] _ _
  clear H1
  by_cases hc1 : (ByteArray.size s : Nat) = 1
  · skip
    refine rp [.e (v := .bool (((ByteArray.size s : Nat) : Int) == 1)) (v' := .bool true) (bool_eq (beq_iff_eq.2 (by omega))), .v, .v, .o (ins := [((.tmp 7), .string s), ((.const (.int .i64 0)), .int .i64 0)]) (v := .int .u8 ((by_ s 0 : Nat) : Int)) (fun ρ o w ho hi => sindex_run (t := 9) (kd := .i64) kr (x := (.tmp 7)) (y := (.const (.int .i64 0))) s 0 ho hi.1 hi.2.1 (by omega) w)] H2 kr fun gs3 w3 H3 => ?_
    show WPs _ _ _ _ [6, 7, 8] _ _
    clear H2
    by_cases hc2 : (by_ s 0 : Nat) < 128
    · skip
      refine rp [.e (v := .bool (decide (((by_ s 0 : Nat) : Int) < 128))) (v' := .bool true) (bool_eq (decide_eq_true (by omega))), .v, .v] H3 kr fun gs4 w4 H4 => ?_
      show WPs _ _ _ _ [] _ _
      clear H3
      refine s_nil ?_
      refine g_ret kr ?_
      show ∃ vs, Res _ _ _ _ vs ∧ _
      refine ⟨[.bool true], (.tmp (.bool true) kr .nil), ?_, H4.below⟩
      exact bool_eq (by unfold single; simp [*])
    · skip
      refine rp [.e (v := .bool (decide (((by_ s 0 : Nat) : Int) < 128))) (v' := .bool false) (bool_eq (decide_eq_false (by omega))), .v, .v] H3 kr fun gs5 w5 H5 => ?_
      show WPs _ _ _ _ [] _ _
      clear H3
      refine s_nil ?_
      refine g_ret kr ?_
      show ∃ vs, Res _ _ _ _ vs ∧ _
      refine ⟨[.bool false], (.tmp (.bool false) kr .nil), ?_, H5.below⟩
      exact bool_eq (by unfold single; simp [*])
  · skip
    refine rp [.e (v := .bool (((ByteArray.size s : Nat) : Int) == 1)) (v' := .bool false) (bool_eq (beq_eq_false_iff_ne.2 (by omega))), .v, .n, .n, .n, .v, .v] H2 kr fun gs6 w6 H6 => ?_
    show WPs _ _ _ _ [] _ _
    clear H2
    refine s_nil ?_
    refine g_ret kr ?_
    show ∃ vs, Res _ _ _ _ vs ∧ _
    refine ⟨[.bool false], (.tmp (.bool false) kr .nil), ?_, H6.below⟩
    exact bool_eq (by unfold single; simp [*])
end Go.Proofs.YtlhfgbjhngkicaaGreatDoor

namespace Go.Proofs.YtlhfgbjhngkicaaGreatDoor
open Go Go.RowKit
set_option linter.unusedVariables false
set_option maxRecDepth 100000 in
set_option maxHeartbeats 2000000 in
theorem trimByte_fn (s : ByteArray) (hs : ByteArray.size s ≤ 140737488355328) : Fn Tryz.prog 118 #[.string s, .int .u8 0] (.string (strB ((tl s).dropWhile (· == 0)))) := by
  refine Fn.intro (c := codeOf Tryz.f118) [.tmp 4] 17 Tryz.func118 kr kr kr fun w => ?_
  have H0 := St.start w
  refine rS [.v] H0 kr fun gs1 w1 H1 => ?_
  clear H0
  refine g_seq kr ?_
  refine g_block 0 kr ?_
  have HL1 : St w.heap.size w w1 [] := H1.as kr
  clear H1
  refine g_loop kr (fun mz ρ ww => ∃ (t : ByteArray), ByteArray.size t = mz ∧ ((tl t).dropWhile (· == 0) = (tl s).dropWhile (· == 0)) ∧ (ByteArray.size t ≤ ByteArray.size s) ∧ St w.heap.size w ww [] ∧ Is [(0, .string t), (1, .int .u8 0), (4, .string (⟨#[]⟩))] ρ) (ByteArray.size s) ⟨s, rfl, rfl, (Nat.le_refl _), HL1, (Is.of ⟨kr, kr, kr, trivial⟩)⟩ ?_
  clear HL1
  rintro _ _ w2 ⟨t, rfl, ht, htz, H2, _, rfl⟩
  refine g_seq kr ?_
  refine g_sreg [0, 1, 2, 3, 4, 5, 6, 7, 8] kr kr ?_
  refine rp [.v, .v] H2 kr fun gs3 w3 H3 => ?_
  show WPs _ _ _ _ [2, 3, 4, 5, 6, 7, 8] _ _
  clear H2
  by_cases hc2 : (ByteArray.size t : Nat) > 0
  · skip
    refine rp [.e (v := .bool (decide (0 < ((ByteArray.size t : Nat) : Int)))) (v' := .bool true) (bool_eq (decide_eq_true (by omega))), .v, .v, .o (ins := [((.tmp 9), .string t), ((.const (.int .i64 0)), .int .i64 0)]) (v := .int .u8 ((by_ t 0 : Nat) : Int)) (fun ρ o w ho hi => sindex_run (t := 9) (kd := .i64) kr (x := (.tmp 9)) (y := (.const (.int .i64 0))) t 0 ho hi.1 hi.2.1 (by omega) w), .v] H3 kr fun gs4 w4 H4 => ?_
    show WPs _ _ _ _ [7, 8] _ _
    clear H3
    by_cases hc3 : (by_ t 0 : Nat) = 0
    · skip
      refine rp [.e (v := .bool (((by_ t 0 : Nat) : Int) == 0)) (v' := .bool true) (bool_eq (beq_iff_eq.2 (by omega))), .v] H4 kr fun gs5 w5 H5 => ?_
      show WPs _ _ _ _ [] _ _
      clear H4
      refine s_nil ?_
      refine g_cond_t kr kr ?_
      refine g_skip kr ?_
      show WP _ _ _ _ _ _
      refine g_block 1 kr ?_
      refine rL [.v, .o (ins := [((.tmp 14), .string t), ((.const (.int .i64 1)), .int .i64 1)]) (v := .string (ByteArray.extract t 1 (ByteArray.size t))) (fun ρ o w ho hi => scut3_run (t := 9) (kz := .i64) kr (x := (.tmp 14)) (z := (.const (.int .i64 1))) t 1 ho hi.1 hi.2.1 (by omega) w), .v] H5 kr fun gs6 w6 H6 => ?_
      clear H5
      have HL4 : St w.heap.size w w6 [] := H6.as kr
      clear H6
      show ∃ m, _ ∧ _
      exact ⟨_, (by rw [cut1_size t (by omega)]; omega), (ByteArray.extract t 1 (ByteArray.size t)), rfl, (by rw [trim_next t (by omega) (by omega)]; exact ht), (by rw [cut1_size t (by omega)]; omega), HL4, (Is.of ⟨kr, kr, kr, trivial⟩)⟩
    · skip
      refine rp [.e (v := .bool (((by_ t 0 : Nat) : Int) == 0)) (v' := .bool false) (bool_eq (beq_eq_false_iff_ne.2 (by omega))), .v] H4 kr fun gs7 w7 H7 => ?_
      show WPs _ _ _ _ [] _ _
      clear H4
      refine s_nil ?_
      refine g_cond_f kr kr ?_
      refine g_exit 0 kr ?_
      show WP _ _ _ _ _ _
      refine rS [.v, .v] H7 kr fun gs8 w8 H8 => ?_
      clear H7
      refine g_ret kr ?_
      show ∃ vs, Res _ _ _ _ vs ∧ _
      refine ⟨[.string t], (.tmp (.string t) kr .nil), ?_, H8.below⟩
      have hdone : strB ((tl s).dropWhile (· == 0)) = t := by rw [← ht]; exact trim_done t (by omega)
      exact congrArg Value.string hdone.symm
  · skip
    refine rp [.e (v := .bool (decide (0 < ((ByteArray.size t : Nat) : Int)))) (v' := .bool false) (bool_eq (decide_eq_false (by omega))), .v, .n, .n, .n, .n, .v] H3 kr fun gs9 w9 H9 => ?_
    show WPs _ _ _ _ [] _ _
    clear H3
    refine s_nil ?_
    refine g_cond_f kr kr ?_
    refine g_exit 0 kr ?_
    show WP _ _ _ _ _ _
    refine rS [.v, .v] H9 kr fun gs10 w10 H10 => ?_
    clear H9
    refine g_ret kr ?_
    show ∃ vs, Res _ _ _ _ vs ∧ _
    refine ⟨[.string t], (.tmp (.string t) kr .nil), ?_, H10.below⟩
    have hdone : strB ((tl s).dropWhile (· == 0)) = t := by rw [← ht]; exact trim_done t (by omega)
    exact congrArg Value.string hdone.symm
set_option maxRecDepth 100000 in
set_option maxHeartbeats 2000000 in
theorem trim_fn (s : ByteArray) (hs : ByteArray.size s ≤ 140737488355328) : Fn Tryz.prog 112 #[.string s, .string (⟨#[0]⟩)] (.string (strB ((tl s).dropWhile (· == 0)))) := by
  refine Fn.intro (c := codeOf Tryz.f112) [.tmp 4] 37 Tryz.func112 kr kr kr fun w => ?_
  have H0 := St.start w
  refine rS [.v] H0 kr fun gs1 w1 H1 => ?_
  clear H0
  refine g_seq kr ?_
  refine g_sreg [0, 1, 2, 3, 4, 5] kr kr ?_
  refine rp [.v] H1 kr fun gs2 w2 H2 => ?_
  show WPs _ _ _ _ [1, 2, 3, 4, 5] _ _
  clear H1
  by_cases hx1 : s = ⟨#[]⟩
  · skip
    refine rp [.e (v := .bool (ByteArray.toList s == ByteArray.toList (⟨#[]⟩))) (v' := .bool true) (bool_eq (str_same s (⟨#[]⟩) hx1)), .v, .n, .n, .v] H2 kr fun gs3 w3 H3 => ?_
    show WPs _ _ _ _ [] _ _
    clear H2
    refine s_nil ?_
    refine g_cond_t kr kr ?_
    refine rS [.v, .v] H3 kr fun gs4 w4 H4 => ?_
    clear H3
    refine g_ret kr ?_
    show ∃ vs, Res _ _ _ _ vs ∧ _
    refine ⟨[.string s], (.tmp (.string s) kr .nil), ?_, H4.below⟩
    exact congrArg Value.string (trim_empty (by assumption)).symm
  · skip
    refine rp [.e (v := .bool (ByteArray.toList s == ByteArray.toList (⟨#[]⟩))) (v' := .bool false) (bool_eq (str_other s (⟨#[]⟩) hx1)), .v, .v, .e (v := .bool (ByteArray.toList (⟨#[0]⟩) == ByteArray.toList (⟨#[]⟩))) (v' := .bool false) (bool_eq (str_other (⟨#[0]⟩) (⟨#[]⟩) (fun h => absurd (congrArg ByteArray.size h) (by decide)))), .v] H2 kr fun gs5 w5 H5 => ?_
    show WPs _ _ _ _ [] _ _
    clear H2
    refine s_nil ?_
    refine g_cond_f kr kr ?_
    refine g_skip kr ?_
    show WP _ _ _ _ _ _
    refine g_seq kr ?_
    refine rS [.v, .v, .v, .v, .v, .oe (ins := [((.tmp 18), .string (⟨#[0]⟩)), ((.const (.int .i64 0)), .int .i64 0)]) (v := .int .u8 ((by_ (⟨#[0]⟩) 0 : Nat) : Int)) (v' := .int .u8 0) (fun ρ o w ho hi => sindex_run (t := 9) (kd := .i64) kr (x := (.tmp 18)) (y := (.const (.int .i64 0))) (⟨#[0]⟩) 0 ho hi.1 hi.2.1 (by decide) w) (int_eq (by decide)), .v, .v] H5 kr fun gs6 w6 H6 => ?_
    clear H5
    refine g_cond_t kr kr ?_
    refine rS [.v, .v, .oe (ins := [((.tmp 23), .string (⟨#[0]⟩)), ((.const (.int .i64 0)), .int .i64 0)]) (v := .int .u8 ((by_ (⟨#[0]⟩) 0 : Nat) : Int)) (v' := .int .u8 0) (fun ρ o w ho hi => sindex_run (t := 9) (kd := .i64) kr (x := (.tmp 23)) (y := (.const (.int .i64 0))) (⟨#[0]⟩) 0 ho hi.1 hi.2.1 (by decide) w) (int_eq (by decide)), .c (trimByte_fn s (by omega)), .v] H6 kr fun gs7 w7 H7 => ?_
    clear H6
    refine g_ret kr ?_
    show ∃ vs, Res _ _ _ _ vs ∧ _
    refine ⟨[.string (strB ((tl s).dropWhile (· == 0)))], (.tmp (.string (strB ((tl s).dropWhile (· == 0)))) kr .nil), ?_, H7.below⟩
    rfl
set_option maxRecDepth 100000 in
set_option maxHeartbeats 2000000 in
theorem digits_fn (n : Nat) (hn : n < 18446744073709551616) : Fn Tryz.prog 93 #[.int .u64 ((n : Nat) : Int)] (.string (strB (dg n))) := by
  refine Fn.intro (c := codeOf Tryz.f93) [.tmp 2] 20 Tryz.func93 kr kr kr fun w => ?_
  have H0 := St.start w
  refine rS [.v] H0 kr fun gs1 w1 H1 => ?_
  clear H0
  refine rS [.a] H1 kr fun gs2 w2 H2 => ?_
  clear H1
  refine g_seq kr ?_
  refine rS [.v] H2 kr fun gs3 w3 H3 => ?_
  clear H2
  refine g_block 0 kr ?_
  have HL1 : St w.heap.size w w3 [((gs2 0).b, Obj.cells #[.int .u8 0, .int .u8 0, .int .u8 0, .int .u8 0, .int .u8 0, .int .u8 0, .int .u8 0, .int .u8 0] 150 (0, 0))] := H3.as kr
  clear H3
  refine g_first kr ?_
  refine rS [.v] HL1 kr fun gs4 w4 H4 => ?_
  clear HL1
  refine g_seq kr ?_
  refine g_cond_t kr kr ?_
  refine g_skip kr ?_
  show WP _ _ _ _ _ _
  refine g_seq kr ?_
  refine g_block 1 kr ?_
  refine rS [.v, .v] H4 kr fun gs5 w5 H5 => ?_
  clear H4
  refine rL [.v, .v, .v, .v, .v, .e (v := .int .u64 (Int.fdiv (((n : Nat) : Int)) (2 ^ 0))) (v' := .int .u64 ((n : Nat) : Int)) (int_eq (shr0 (a := n) (by omega))), .e (v := .int .u8 (IntKind.u8.wrap (((n : Nat) : Int)))) (v' := .int .u8 ((BitVec.toNat (dgB n 1) : Nat) : Int)) (dgB_conv1 n), .v, .s 0] H5 kr fun gs6 w6 H6 => ?_
  clear H5
  show WP _ _ _ _ _ _
  have HL2 : St w.heap.size w w6 [((gs2 0).b, Obj.cells #[.int .u8 0, .int .u8 0, .int .u8 0, .int .u8 0, .int .u8 0, .int .u8 0, .int .u8 0, .int .u8 ((BitVec.toNat (dgB n 1) : Nat) : Int)] 150 (0, 0))] := H6.as kr
  clear H6
  refine rL [.v, .v] HL2 kr fun gs7 w7 H7 => ?_
  clear HL2
  show WPL _ _ _ _ _ _
  refine g_next ?_
  refine g_keep [0, 2, 3, 4, 5, 6] fun ρ1 => ?_
  have HK3 := H7.keep
  clear H7
  refine rS [.v] HK3 kr fun gs8 w8 H8 => ?_
  clear HK3
  refine g_seq kr ?_
  refine g_cond_t kr kr ?_
  refine g_skip kr ?_
  show WP _ _ _ _ _ _
  refine g_seq kr ?_
  refine g_block 1 kr ?_
  refine rS [.v, .v] H8 kr fun gs9 w9 H9 => ?_
  clear H8
  refine rL [.v, .v, .v, .v, .v, .e (v := .int .u64 (Int.fdiv ((n : Nat) : Int) (2 ^ 8))) (v' := .int .u64 ((n / 256 : Nat) : Int)) (int_eq (shrN (k := 8) n 256 rfl)), .e (v := .int .u8 (IntKind.u8.wrap (((n / 256 : Nat) : Int)))) (v' := .int .u8 ((BitVec.toNat (dgB n 256) : Nat) : Int)) (dgB_conv n 256), .v, .s 0] H9 kr fun gs10 w10 H10 => ?_
  clear H9
  show WP _ _ _ _ _ _
  have HL4 : St w.heap.size w w10 [((gs2 0).b, Obj.cells #[.int .u8 0, .int .u8 0, .int .u8 0, .int .u8 0, .int .u8 0, .int .u8 0, .int .u8 ((BitVec.toNat (dgB n 256) : Nat) : Int), .int .u8 ((BitVec.toNat (dgB n 1) : Nat) : Int)] 150 (0, 0))] := H10.as kr
  clear H10
  refine rL [.v, .v] HL4 kr fun gs11 w11 H11 => ?_
  clear HL4
  show WPL _ _ _ _ _ _
  refine g_next ?_
  refine rS [.v] H11 kr fun gs12 w12 H12 => ?_
  clear H11
  refine g_seq kr ?_
  refine g_cond_t kr kr ?_
  refine g_skip kr ?_
  show WP _ _ _ _ _ _
  refine g_seq kr ?_
  refine g_block 1 kr ?_
  refine rS [.v, .v] H12 kr fun gs13 w13 H13 => ?_
  clear H12
  refine g_keep [0, 2, 3, 4, 5, 6] fun ρ2 => ?_
  have HK5 := H13.keep
  clear H13
  refine rL [.v, .v, .v, .v, .v, .e (v := .int .u64 (Int.fdiv ((n : Nat) : Int) (2 ^ 16))) (v' := .int .u64 ((n / 65536 : Nat) : Int)) (int_eq (shrN (k := 16) n 65536 rfl)), .e (v := .int .u8 (IntKind.u8.wrap (((n / 65536 : Nat) : Int)))) (v' := .int .u8 ((BitVec.toNat (dgB n 65536) : Nat) : Int)) (dgB_conv n 65536), .v, .s 0] HK5 kr fun gs14 w14 H14 => ?_
  clear HK5
  show WP _ _ _ _ _ _
  have HL6 : St w.heap.size w w14 [((gs2 0).b, Obj.cells #[.int .u8 0, .int .u8 0, .int .u8 0, .int .u8 0, .int .u8 0, .int .u8 ((BitVec.toNat (dgB n 65536) : Nat) : Int), .int .u8 ((BitVec.toNat (dgB n 256) : Nat) : Int), .int .u8 ((BitVec.toNat (dgB n 1) : Nat) : Int)] 150 (0, 0))] := H14.as kr
  clear H14
  refine rL [.v, .v] HL6 kr fun gs15 w15 H15 => ?_
  clear HL6
  show WPL _ _ _ _ _ _
  refine g_next ?_
  refine rS [.v] H15 kr fun gs16 w16 H16 => ?_
  clear H15
  refine g_seq kr ?_
  refine g_cond_t kr kr ?_
  refine g_skip kr ?_
  show WP _ _ _ _ _ _
  refine g_seq kr ?_
  refine g_block 1 kr ?_
  refine rS [.v, .v] H16 kr fun gs17 w17 H17 => ?_
  clear H16
  refine rL [.v, .v, .v, .v, .v, .e (v := .int .u64 (Int.fdiv ((n : Nat) : Int) (2 ^ 24))) (v' := .int .u64 ((n / 16777216 : Nat) : Int)) (int_eq (shrN (k := 24) n 16777216 rfl)), .e (v := .int .u8 (IntKind.u8.wrap (((n / 16777216 : Nat) : Int)))) (v' := .int .u8 ((BitVec.toNat (dgB n 16777216) : Nat) : Int)) (dgB_conv n 16777216), .v, .s 0] H17 kr fun gs18 w18 H18 => ?_
  clear H17
  show WP _ _ _ _ _ _
  refine g_keep [0, 2, 3, 4, 5, 6] fun ρ3 => ?_
  have HK7 := H18.keep
  clear H18
  have HL8 : St w.heap.size w w18 [((gs2 0).b, Obj.cells #[.int .u8 0, .int .u8 0, .int .u8 0, .int .u8 0, .int .u8 ((BitVec.toNat (dgB n 16777216) : Nat) : Int), .int .u8 ((BitVec.toNat (dgB n 65536) : Nat) : Int), .int .u8 ((BitVec.toNat (dgB n 256) : Nat) : Int), .int .u8 ((BitVec.toNat (dgB n 1) : Nat) : Int)] 150 (0, 0))] := HK7.as kr
  clear HK7
  refine rL [.v, .v] HL8 kr fun gs19 w19 H19 => ?_
  clear HL8
  show WPL _ _ _ _ _ _
  refine g_next ?_
  refine rS [.v] H19 kr fun gs20 w20 H20 => ?_
  clear H19
  refine g_seq kr ?_
  refine g_cond_t kr kr ?_
  refine g_skip kr ?_
  show WP _ _ _ _ _ _
  refine g_seq kr ?_
  refine g_block 1 kr ?_
  refine rS [.v, .v] H20 kr fun gs21 w21 H21 => ?_
  clear H20
  refine rL [.v, .v, .v, .v, .v, .e (v := .int .u64 (Int.fdiv ((n : Nat) : Int) (2 ^ 32))) (v' := .int .u64 ((n / 4294967296 : Nat) : Int)) (int_eq (shrN (k := 32) n 4294967296 rfl)), .e (v := .int .u8 (IntKind.u8.wrap (((n / 4294967296 : Nat) : Int)))) (v' := .int .u8 ((BitVec.toNat (dgB n 4294967296) : Nat) : Int)) (dgB_conv n 4294967296), .v, .s 0] H21 kr fun gs22 w22 H22 => ?_
  clear H21
  show WP _ _ _ _ _ _
  have HL9 : St w.heap.size w w22 [((gs2 0).b, Obj.cells #[.int .u8 0, .int .u8 0, .int .u8 0, .int .u8 ((BitVec.toNat (dgB n 4294967296) : Nat) : Int), .int .u8 ((BitVec.toNat (dgB n 16777216) : Nat) : Int), .int .u8 ((BitVec.toNat (dgB n 65536) : Nat) : Int), .int .u8 ((BitVec.toNat (dgB n 256) : Nat) : Int), .int .u8 ((BitVec.toNat (dgB n 1) : Nat) : Int)] 150 (0, 0))] := H22.as kr
  clear H22
  refine rL [.v, .v] HL9 kr fun gs23 w23 H23 => ?_
  clear HL9
  show WPL _ _ _ _ _ _
  refine g_next ?_
  refine rS [.v] H23 kr fun gs24 w24 H24 => ?_
  clear H23
  refine g_keep [0, 2, 3, 4, 5, 6] fun ρ4 => ?_
  have HK10 := H24.keep
  clear H24
  refine g_seq kr ?_
  refine g_cond_t kr kr ?_
  refine g_skip kr ?_
  show WP _ _ _ _ _ _
  refine g_seq kr ?_
  refine g_block 1 kr ?_
  refine rS [.v, .v] HK10 kr fun gs25 w25 H25 => ?_
  clear HK10
  refine rL [.v, .v, .v, .v, .v, .e (v := .int .u64 (Int.fdiv ((n : Nat) : Int) (2 ^ 40))) (v' := .int .u64 ((n / 1099511627776 : Nat) : Int)) (int_eq (shrN (k := 40) n 1099511627776 rfl)), .e (v := .int .u8 (IntKind.u8.wrap (((n / 1099511627776 : Nat) : Int)))) (v' := .int .u8 ((BitVec.toNat (dgB n 1099511627776) : Nat) : Int)) (dgB_conv n 1099511627776), .v, .s 0] H25 kr fun gs26 w26 H26 => ?_
  clear H25
  show WP _ _ _ _ _ _
  have HL11 : St w.heap.size w w26 [((gs2 0).b, Obj.cells #[.int .u8 0, .int .u8 0, .int .u8 ((BitVec.toNat (dgB n 1099511627776) : Nat) : Int), .int .u8 ((BitVec.toNat (dgB n 4294967296) : Nat) : Int), .int .u8 ((BitVec.toNat (dgB n 16777216) : Nat) : Int), .int .u8 ((BitVec.toNat (dgB n 65536) : Nat) : Int), .int .u8 ((BitVec.toNat (dgB n 256) : Nat) : Int), .int .u8 ((BitVec.toNat (dgB n 1) : Nat) : Int)] 150 (0, 0))] := H26.as kr
  clear H26
  refine rL [.v, .v] HL11 kr fun gs27 w27 H27 => ?_
  clear HL11
  show WPL _ _ _ _ _ _
  refine g_next ?_
  refine rS [.v] H27 kr fun gs28 w28 H28 => ?_
  clear H27
  refine g_seq kr ?_
  refine g_cond_t kr kr ?_
  refine g_skip kr ?_
  show WP _ _ _ _ _ _
  refine g_seq kr ?_
  refine g_block 1 kr ?_
  refine rS [.v, .v] H28 kr fun gs29 w29 H29 => ?_
  clear H28
  refine rL [.v, .v, .v, .v, .v, .e (v := .int .u64 (Int.fdiv ((n : Nat) : Int) (2 ^ 48))) (v' := .int .u64 ((n / 281474976710656 : Nat) : Int)) (int_eq (shrN (k := 48) n 281474976710656 rfl)), .e (v := .int .u8 (IntKind.u8.wrap (((n / 281474976710656 : Nat) : Int)))) (v' := .int .u8 ((BitVec.toNat (dgB n 281474976710656) : Nat) : Int)) (dgB_conv n 281474976710656), .v, .s 0] H29 kr fun gs30 w30 H30 => ?_
  clear H29
  show WP _ _ _ _ _ _
  refine g_keep [0, 2, 3, 4, 5, 6] fun ρ5 => ?_
  have HK12 := H30.keep
  clear H30
  have HL13 : St w.heap.size w w30 [((gs2 0).b, Obj.cells #[.int .u8 0, .int .u8 ((BitVec.toNat (dgB n 281474976710656) : Nat) : Int), .int .u8 ((BitVec.toNat (dgB n 1099511627776) : Nat) : Int), .int .u8 ((BitVec.toNat (dgB n 4294967296) : Nat) : Int), .int .u8 ((BitVec.toNat (dgB n 16777216) : Nat) : Int), .int .u8 ((BitVec.toNat (dgB n 65536) : Nat) : Int), .int .u8 ((BitVec.toNat (dgB n 256) : Nat) : Int), .int .u8 ((BitVec.toNat (dgB n 1) : Nat) : Int)] 150 (0, 0))] := HK12.as kr
  clear HK12
  refine rL [.v, .v] HL13 kr fun gs31 w31 H31 => ?_
  clear HL13
  show WPL _ _ _ _ _ _
  refine g_next ?_
  refine rS [.v] H31 kr fun gs32 w32 H32 => ?_
  clear H31
  refine g_seq kr ?_
  refine g_cond_t kr kr ?_
  refine g_skip kr ?_
  show WP _ _ _ _ _ _
  refine g_seq kr ?_
  refine g_block 1 kr ?_
  refine rS [.v, .v] H32 kr fun gs33 w33 H33 => ?_
  clear H32
  refine rL [.v, .v, .v, .v, .v, .e (v := .int .u64 (Int.fdiv ((n : Nat) : Int) (2 ^ 56))) (v' := .int .u64 ((n / 72057594037927936 : Nat) : Int)) (int_eq (shrN (k := 56) n 72057594037927936 rfl)), .e (v := .int .u8 (IntKind.u8.wrap (((n / 72057594037927936 : Nat) : Int)))) (v' := .int .u8 ((BitVec.toNat (dgB n 72057594037927936) : Nat) : Int)) (dgB_conv n 72057594037927936), .v, .s 0] H33 kr fun gs34 w34 H34 => ?_
  clear H33
  show WP _ _ _ _ _ _
  have HL14 : St w.heap.size w w34 [((gs2 0).b, Obj.cells #[.int .u8 ((BitVec.toNat (dgB n 72057594037927936) : Nat) : Int), .int .u8 ((BitVec.toNat (dgB n 281474976710656) : Nat) : Int), .int .u8 ((BitVec.toNat (dgB n 1099511627776) : Nat) : Int), .int .u8 ((BitVec.toNat (dgB n 4294967296) : Nat) : Int), .int .u8 ((BitVec.toNat (dgB n 16777216) : Nat) : Int), .int .u8 ((BitVec.toNat (dgB n 65536) : Nat) : Int), .int .u8 ((BitVec.toNat (dgB n 256) : Nat) : Int), .int .u8 ((BitVec.toNat (dgB n 1) : Nat) : Int)] 150 (0, 0))] := H34.as kr
  clear H34
  refine rL [.v, .v] HL14 kr fun gs35 w35 H35 => ?_
  clear HL14
  show WPL _ _ _ _ _ _
  refine g_next ?_
  refine rS [.v] H35 kr fun gs36 w36 H36 => ?_
  clear H35
  refine g_keep [0, 2, 3, 4, 5, 6] fun ρ6 => ?_
  have HK15 := H36.keep
  clear H36
  refine g_seq kr ?_
  refine g_cond_f kr kr ?_
  refine g_exit 0 kr ?_
  show WP _ _ _ _ _ _
  have HL16 : St w.heap.size w w36 [((gs2 0).b, Obj.cells #[.int .u8 ((BitVec.toNat (dgB n 72057594037927936) : Nat) : Int), .int .u8 ((BitVec.toNat (dgB n 281474976710656) : Nat) : Int), .int .u8 ((BitVec.toNat (dgB n 1099511627776) : Nat) : Int), .int .u8 ((BitVec.toNat (dgB n 4294967296) : Nat) : Int), .int .u8 ((BitVec.toNat (dgB n 16777216) : Nat) : Int), .int .u8 ((BitVec.toNat (dgB n 65536) : Nat) : Int), .int .u8 ((BitVec.toNat (dgB n 256) : Nat) : Int), .int .u8 ((BitVec.toNat (dgB n 1) : Nat) : Int)] 150 (0, 0))] := HK15.as kr
  clear HK15
  have hz_1 : ∀ (ρ : Env) (o : Oper) (w : World), o.op = .slice 150 (.tmp 3) none none none → Ins (ev ρ) [((.tmp 3), .pointer (some ⟨(gs2 0).b, 0, none⟩))] → (execOp (ev ρ) o).run Tryz.prog w = .ok (.value (.slice (some ⟨(gs2 0).b, 0, none⟩) 8 8)) w := (fun ρ o w ho hi => slArr_run (t := 150) (n := 8) (e := 5) (z := 1) kr kr (x := (.tmp 3)) ((gs2 0).b) ho hi.1 w)
  refine rS [.o hz_1, .x (op := .convert 88 9 (.tmp 17)) (ins := [((.tmp 17), .slice (some ⟨(gs2 0).b, 0, none⟩) 8 8)]) [(0, ((gs2 0).b, Obj.cells #[.int .u8 ((BitVec.toNat (dgB n 72057594037927936) : Nat) : Int), .int .u8 ((BitVec.toNat (dgB n 281474976710656) : Nat) : Int), .int .u8 ((BitVec.toNat (dgB n 1099511627776) : Nat) : Int), .int .u8 ((BitVec.toNat (dgB n 4294967296) : Nat) : Int), .int .u8 ((BitVec.toNat (dgB n 16777216) : Nat) : Int), .int .u8 ((BitVec.toNat (dgB n 65536) : Nat) : Int), .int .u8 ((BitVec.toNat (dgB n 256) : Nat) : Int), .int .u8 ((BitVec.toNat (dgB n 1) : Nat) : Int)] 150 (0, 0)))] (bytesX (t := 88) (t' := 9) (e := 5) [((BitVec.toNat (dgB n 72057594037927936) : Nat) : Int), ((BitVec.toNat (dgB n 281474976710656) : Nat) : Int), ((BitVec.toNat (dgB n 1099511627776) : Nat) : Int), ((BitVec.toNat (dgB n 4294967296) : Nat) : Int), ((BitVec.toNat (dgB n 16777216) : Nat) : Int), ((BitVec.toNat (dgB n 65536) : Nat) : Int), ((BitVec.toNat (dgB n 256) : Nat) : Int), ((BitVec.toNat (dgB n 1) : Nat) : Int)] kr kr kr (Rw.lit #[.int .u8 ((BitVec.toNat (dgB n 72057594037927936) : Nat) : Int), .int .u8 ((BitVec.toNat (dgB n 281474976710656) : Nat) : Int), .int .u8 ((BitVec.toNat (dgB n 1099511627776) : Nat) : Int), .int .u8 ((BitVec.toNat (dgB n 4294967296) : Nat) : Int), .int .u8 ((BitVec.toNat (dgB n 16777216) : Nat) : Int), .int .u8 ((BitVec.toNat (dgB n 65536) : Nat) : Int), .int .u8 ((BitVec.toNat (dgB n 256) : Nat) : Int), .int .u8 ((BitVec.toNat (dgB n 1) : Nat) : Int)] 8 (by rfl) (by unfold maxLen; omega))), .c (trim_fn (strOfNums ([((BitVec.toNat (dgB n 72057594037927936) : Nat) : Int), ((BitVec.toNat (dgB n 281474976710656) : Nat) : Int), ((BitVec.toNat (dgB n 1099511627776) : Nat) : Int), ((BitVec.toNat (dgB n 4294967296) : Nat) : Int), ((BitVec.toNat (dgB n 16777216) : Nat) : Int), ((BitVec.toNat (dgB n 65536) : Nat) : Int), ((BitVec.toNat (dgB n 256) : Nat) : Int), ((BitVec.toNat (dgB n 1) : Nat) : Int)])) (by rw [strOfNums_size]; show 8 ≤ 140737488355328; omega)), .v] HL16 kr fun gs37 w37 H37 => ?_
  clear HL16
  refine g_ret kr ?_
  show ∃ vs, Res _ _ _ _ vs ∧ _
  refine ⟨[.string (strB ((tl (strOfNums ([((BitVec.toNat (dgB n 72057594037927936) : Nat) : Int), ((BitVec.toNat (dgB n 281474976710656) : Nat) : Int), ((BitVec.toNat (dgB n 1099511627776) : Nat) : Int), ((BitVec.toNat (dgB n 4294967296) : Nat) : Int), ((BitVec.toNat (dgB n 16777216) : Nat) : Int), ((BitVec.toNat (dgB n 65536) : Nat) : Int), ((BitVec.toNat (dgB n 256) : Nat) : Int), ((BitVec.toNat (dgB n 1) : Nat) : Int)]))).dropWhile (· == 0)))], (.tmp (.string (strB ((tl (strOfNums ([((BitVec.toNat (dgB n 72057594037927936) : Nat) : Int), ((BitVec.toNat (dgB n 281474976710656) : Nat) : Int), ((BitVec.toNat (dgB n 1099511627776) : Nat) : Int), ((BitVec.toNat (dgB n 4294967296) : Nat) : Int), ((BitVec.toNat (dgB n 16777216) : Nat) : Int), ((BitVec.toNat (dgB n 65536) : Nat) : Int), ((BitVec.toNat (dgB n 256) : Nat) : Int), ((BitVec.toNat (dgB n 1) : Nat) : Int)]))).dropWhile (· == 0)))) kr .nil), ?_, H37.below⟩
  exact congrArg Value.string (congrArg strB (be_drop n hn))
set_option maxRecDepth 100000 in
set_option maxHeartbeats 2000000 in
theorem head_fn (l : Bool) (s : ByteArray) (p : Option Addr) (n c m : Nat) (hm : m < 18446744073709551616) : Fn Tryz.prog 74 #[.agg #[.bool l, .string s, .slice p n c], .int .u64 ((m : Nat) : Int)] (.string (strB (hd (frm l) m))) := by
  refine Fn.intro (c := codeOf Tryz.f74) [.tmp 4] 29 Tryz.func74 kr kr kr fun w => ?_
  have H0 := St.start w
  refine rS [.b, .v] H0 kr fun gs1 w1 H1 => ?_
  clear H0
  refine rS [.v] H1 kr fun gs2 w2 H2 => ?_
  clear H1
  refine g_seq kr ?_
  refine rS [.v, .l 0] H2 kr fun gs3 w3 H3 => ?_
  clear H2
  refine Or.elim (Bool.eq_false_or_eq_true (l)).symm (fun hq1 => ?_) (fun hq1 => ?_)
  · skip
    refine g_now 8 (v := .bool l) (v' := .bool false) (bool_eq hq1) kr ?_
    refine g_cond_f kr kr ?_
    refine g_skip kr ?_
    show WP _ _ _ _ _ _
    refine g_seq kr ?_
    refine g_sreg [0, 1] kr kr ?_
    refine rp [.v] H3 kr fun gs4 w4 H4 => ?_
    show WPs _ _ _ _ [1] _ _
    clear H3
    by_cases hc1 : (m : Nat) ≤ 55
    · skip
      refine rp [.e (v := .bool (decide (((m : Nat) : Int) ≤ 55))) (v' := .bool true) (bool_eq (decide_eq_true (by omega)))] H4 kr fun gs5 w5 H5 => ?_
      show WPs _ _ _ _ [] _ _
      clear H4
      refine s_nil ?_
      refine g_cond_t kr kr ?_
      refine rS [.v, .v, .e (v := .int .u8 (IntKind.u8.wrap (((m : Nat) : Int)))) (v' := .int .u8 ((BitVec.toNat (BitVec.ofNat 8 m) : Nat) : Int)) (bv_ofNat_u8 m), .e (v := .int .u8 (IntKind.u8.wrap ((128) + (((BitVec.toNat (BitVec.ofNat 8 m) : Nat) : Int))))) (v' := .int .u8 ((BitVec.toNat ((128 : BitVec 8) + (BitVec.ofNat 8 m)) : Nat) : Int)) (bv_add_u8 (128 : BitVec 8) (BitVec.ofNat 8 m)), .nw (fun b => .slice (some ⟨b, 0, none⟩) 1 1) #[.int .u8 ((BitVec.toNat ((128 : BitVec 8) + (BitVec.ofNat 8 m)) : Nat) : Int)] 5, .w fun nn => .x (op := .convert 88 9 (.tmp 15)) (ins := [((.tmp 15), .slice (some ⟨(nn 1), 0, none⟩) 1 1)]) [(1, ((nn 1), Obj.cells #[.int .u8 ((BitVec.toNat ((128 : BitVec 8) + (BitVec.ofNat 8 m)) : Nat) : Int)] 5 (0, 0)))] (bytesX (t := 88) (t' := 9) (e := 5) [((BitVec.toNat ((128 : BitVec 8) + (BitVec.ofNat 8 m)) : Nat) : Int)] kr kr kr (Rw.lit #[.int .u8 ((BitVec.toNat ((128 : BitVec 8) + (BitVec.ofNat 8 m)) : Nat) : Int)] 1 (by rfl) (by unfold maxLen; omega))), .v] H5 kr fun gs6 w6 H6 => ?_
      clear H5
      refine g_ret kr ?_
      show ∃ vs, Res _ _ _ _ vs ∧ _
      refine ⟨[.string (strOfNums ([((BitVec.toNat ((128 : BitVec 8) + (BitVec.ofNat 8 m)) : Nat) : Int)]))], (.tmp (.string (strOfNums ([((BitVec.toNat ((128 : BitVec 8) + (BitVec.ofNat 8 m)) : Nat) : Int)]))) kr .nil), ?_, H6.below⟩
      exact congrArg Value.string (hd_small (f := frm l) _ (by rw [hq1]; rfl) m (by omega) (by rw [hq1]; decide))
    · skip
      refine rp [.e (v := .bool (decide (((m : Nat) : Int) ≤ 55))) (v' := .bool false) (bool_eq (decide_eq_false (by omega)))] H4 kr fun gs7 w7 H7 => ?_
      show WPs _ _ _ _ [] _ _
      clear H4
      refine s_nil ?_
      refine g_cond_f kr kr ?_
      refine g_skip kr ?_
      show WP _ _ _ _ _ _
      refine rS [.v, .c (digits_fn m (by omega)), .v] H7 kr fun gs8 w8 H8 => ?_
      clear H7
      refine rS [.v, .v, .v, .v, .e (v := .int .u8 (IntKind.u8.wrap (((ByteArray.size (strB (dg m)) : Nat) : Int)))) (v' := .int .u8 ((BitVec.toNat (BitVec.ofNat 8 (ByteArray.size (strB (dg m)))) : Nat) : Int)) (bv_ofNat_u8 (ByteArray.size (strB (dg m)))), .e (v := .int .u8 (IntKind.u8.wrap ((183) + (((BitVec.toNat (BitVec.ofNat 8 (ByteArray.size (strB (dg m)))) : Nat) : Int))))) (v' := .int .u8 ((BitVec.toNat ((183 : BitVec 8) + (BitVec.ofNat 8 (ByteArray.size (strB (dg m))))) : Nat) : Int)) (bv_add_u8 (183 : BitVec 8) (BitVec.ofNat 8 (ByteArray.size (strB (dg m))))), .nw (fun b => .slice (some ⟨b, 0, none⟩) 1 1) #[.int .u8 ((BitVec.toNat ((183 : BitVec 8) + (BitVec.ofNat 8 (ByteArray.size (strB (dg m))))) : Nat) : Int)] 5, .w fun nn => .x (op := .convert 88 9 (.tmp 25)) (ins := [((.tmp 25), .slice (some ⟨(nn 1), 0, none⟩) 1 1)]) [(1, ((nn 1), Obj.cells #[.int .u8 ((BitVec.toNat ((183 : BitVec 8) + (BitVec.ofNat 8 (ByteArray.size (strB (dg m))))) : Nat) : Int)] 5 (0, 0)))] (bytesX (t := 88) (t' := 9) (e := 5) [((BitVec.toNat ((183 : BitVec 8) + (BitVec.ofNat 8 (ByteArray.size (strB (dg m))))) : Nat) : Int)] kr kr kr (Rw.lit #[.int .u8 ((BitVec.toNat ((183 : BitVec 8) + (BitVec.ofNat 8 (ByteArray.size (strB (dg m))))) : Nat) : Int)] 1 (by rfl) (by unfold maxLen; omega))), .v, .o (ins := [((.tmp 26), .string (strOfNums ([((BitVec.toNat ((183 : BitVec 8) + (BitVec.ofNat 8 (ByteArray.size (strB (dg m))))) : Nat) : Int)]))), ((.tmp 27), .string (strB (dg m)))]) (v := .string ((strOfNums ([((BitVec.toNat ((183 : BitVec 8) + (BitVec.ofNat 8 (ByteArray.size (strB (dg m))))) : Nat) : Int)])) ++ (strB (dg m)))) (fun ρ o w ho hi => sadd_run (t := 9) (t' := 9) (x := (.tmp 26)) (y := (.tmp 27)) (strOfNums ([((BitVec.toNat ((183 : BitVec 8) + (BitVec.ofNat 8 (ByteArray.size (strB (dg m))))) : Nat) : Int)])) (strB (dg m)) w ho hi.1 hi.2.1 (by rw [strOfNums_size, strB_size]; have := dg_len m; show 1 + _ ≤ _; omega)), .v] H8 kr fun gs9 w9 H9 => ?_
      clear H8
      refine g_ret kr ?_
      show ∃ vs, Res _ _ _ _ vs ∧ _
      refine ⟨[.string ((strOfNums ([((BitVec.toNat ((183 : BitVec 8) + (BitVec.ofNat 8 (ByteArray.size (strB (dg m))))) : Nat) : Int)])) ++ (strB (dg m)))], (.tmp (.string ((strOfNums ([((BitVec.toNat ((183 : BitVec 8) + (BitVec.ofNat 8 (ByteArray.size (strB (dg m))))) : Nat) : Int)])) ++ (strB (dg m)))) kr .nil), ?_, H9.below⟩
      exact congrArg Value.string (hd_big (f := frm l) _ (by rw [hq1]; rfl) m (by omega) (by rw [hq1]; decide))
  · skip
    refine g_now 8 (v := .bool l) (v' := .bool true) (bool_eq hq1) kr ?_
    refine g_cond_t kr kr ?_
    refine rL [.v] H3 kr fun gs10 w10 H10 => ?_
    clear H3
    show WP _ _ _ _ _ _
    refine g_seq kr ?_
    refine g_sreg [0, 1] kr kr ?_
    refine rp [.v] H10 kr fun gs11 w11 H11 => ?_
    show WPs _ _ _ _ [1] _ _
    clear H10
    by_cases hc2 : (m : Nat) ≤ 55
    · skip
      refine rp [.e (v := .bool (decide (((m : Nat) : Int) ≤ 55))) (v' := .bool true) (bool_eq (decide_eq_true (by omega)))] H11 kr fun gs12 w12 H12 => ?_
      show WPs _ _ _ _ [] _ _
      clear H11
      refine s_nil ?_
      refine g_cond_t kr kr ?_
      refine rS [.v, .v, .e (v := .int .u8 (IntKind.u8.wrap (((m : Nat) : Int)))) (v' := .int .u8 ((BitVec.toNat (BitVec.ofNat 8 m) : Nat) : Int)) (bv_ofNat_u8 m), .e (v := .int .u8 (IntKind.u8.wrap ((192) + (((BitVec.toNat (BitVec.ofNat 8 m) : Nat) : Int))))) (v' := .int .u8 ((BitVec.toNat ((192 : BitVec 8) + (BitVec.ofNat 8 m)) : Nat) : Int)) (bv_add_u8 (192 : BitVec 8) (BitVec.ofNat 8 m)), .nw (fun b => .slice (some ⟨b, 0, none⟩) 1 1) #[.int .u8 ((BitVec.toNat ((192 : BitVec 8) + (BitVec.ofNat 8 m)) : Nat) : Int)] 5, .w fun nn => .x (op := .convert 88 9 (.tmp 15)) (ins := [((.tmp 15), .slice (some ⟨(nn 1), 0, none⟩) 1 1)]) [(1, ((nn 1), Obj.cells #[.int .u8 ((BitVec.toNat ((192 : BitVec 8) + (BitVec.ofNat 8 m)) : Nat) : Int)] 5 (0, 0)))] (bytesX (t := 88) (t' := 9) (e := 5) [((BitVec.toNat ((192 : BitVec 8) + (BitVec.ofNat 8 m)) : Nat) : Int)] kr kr kr (Rw.lit #[.int .u8 ((BitVec.toNat ((192 : BitVec 8) + (BitVec.ofNat 8 m)) : Nat) : Int)] 1 (by rfl) (by unfold maxLen; omega))), .v] H12 kr fun gs13 w13 H13 => ?_
      clear H12
      refine g_ret kr ?_
      show ∃ vs, Res _ _ _ _ vs ∧ _
      refine ⟨[.string (strOfNums ([((BitVec.toNat ((192 : BitVec 8) + (BitVec.ofNat 8 m)) : Nat) : Int)]))], (.tmp (.string (strOfNums ([((BitVec.toNat ((192 : BitVec 8) + (BitVec.ofNat 8 m)) : Nat) : Int)]))) kr .nil), ?_, H13.below⟩
      exact congrArg Value.string (hd_small (f := frm l) _ (by rw [hq1]; rfl) m (by omega) (by rw [hq1]; decide))
    · skip
      refine rp [.e (v := .bool (decide (((m : Nat) : Int) ≤ 55))) (v' := .bool false) (bool_eq (decide_eq_false (by omega)))] H11 kr fun gs14 w14 H14 => ?_
      show WPs _ _ _ _ [] _ _
      clear H11
      refine s_nil ?_
      refine g_cond_f kr kr ?_
      refine g_skip kr ?_
      show WP _ _ _ _ _ _
      refine rS [.v, .c (digits_fn m (by omega)), .v] H14 kr fun gs15 w15 H15 => ?_
      clear H14
      refine rS [.v, .v, .v, .v, .e (v := .int .u8 (IntKind.u8.wrap (((ByteArray.size (strB (dg m)) : Nat) : Int)))) (v' := .int .u8 ((BitVec.toNat (BitVec.ofNat 8 (ByteArray.size (strB (dg m)))) : Nat) : Int)) (bv_ofNat_u8 (ByteArray.size (strB (dg m)))), .e (v := .int .u8 (IntKind.u8.wrap ((247) + (((BitVec.toNat (BitVec.ofNat 8 (ByteArray.size (strB (dg m)))) : Nat) : Int))))) (v' := .int .u8 ((BitVec.toNat ((247 : BitVec 8) + (BitVec.ofNat 8 (ByteArray.size (strB (dg m))))) : Nat) : Int)) (bv_add_u8 (247 : BitVec 8) (BitVec.ofNat 8 (ByteArray.size (strB (dg m))))), .nw (fun b => .slice (some ⟨b, 0, none⟩) 1 1) #[.int .u8 ((BitVec.toNat ((247 : BitVec 8) + (BitVec.ofNat 8 (ByteArray.size (strB (dg m))))) : Nat) : Int)] 5, .w fun nn => .x (op := .convert 88 9 (.tmp 25)) (ins := [((.tmp 25), .slice (some ⟨(nn 1), 0, none⟩) 1 1)]) [(1, ((nn 1), Obj.cells #[.int .u8 ((BitVec.toNat ((247 : BitVec 8) + (BitVec.ofNat 8 (ByteArray.size (strB (dg m))))) : Nat) : Int)] 5 (0, 0)))] (bytesX (t := 88) (t' := 9) (e := 5) [((BitVec.toNat ((247 : BitVec 8) + (BitVec.ofNat 8 (ByteArray.size (strB (dg m))))) : Nat) : Int)] kr kr kr (Rw.lit #[.int .u8 ((BitVec.toNat ((247 : BitVec 8) + (BitVec.ofNat 8 (ByteArray.size (strB (dg m))))) : Nat) : Int)] 1 (by rfl) (by unfold maxLen; omega))), .v, .o (ins := [((.tmp 26), .string (strOfNums ([((BitVec.toNat ((247 : BitVec 8) + (BitVec.ofNat 8 (ByteArray.size (strB (dg m))))) : Nat) : Int)]))), ((.tmp 27), .string (strB (dg m)))]) (v := .string ((strOfNums ([((BitVec.toNat ((247 : BitVec 8) + (BitVec.ofNat 8 (ByteArray.size (strB (dg m))))) : Nat) : Int)])) ++ (strB (dg m)))) (fun ρ o w ho hi => sadd_run (t := 9) (t' := 9) (x := (.tmp 26)) (y := (.tmp 27)) (strOfNums ([((BitVec.toNat ((247 : BitVec 8) + (BitVec.ofNat 8 (ByteArray.size (strB (dg m))))) : Nat) : Int)])) (strB (dg m)) w ho hi.1 hi.2.1 (by rw [strOfNums_size, strB_size]; have := dg_len m; show 1 + _ ≤ _; omega)), .v] H15 kr fun gs16 w16 H16 => ?_
      clear H15
      refine g_ret kr ?_
      show ∃ vs, Res _ _ _ _ vs ∧ _
      refine ⟨[.string ((strOfNums ([((BitVec.toNat ((247 : BitVec 8) + (BitVec.ofNat 8 (ByteArray.size (strB (dg m))))) : Nat) : Int)])) ++ (strB (dg m)))], (.tmp (.string ((strOfNums ([((BitVec.toNat ((247 : BitVec 8) + (BitVec.ofNat 8 (ByteArray.size (strB (dg m))))) : Nat) : Int)])) ++ (strB (dg m)))) kr .nil), ?_, H16.below⟩
      exact congrArg Value.string (hd_big (f := frm l) _ (by rw [hq1]; rfl) m (by omega) (by rw [hq1]; decide))
set_option maxRecDepth 100000 in
set_option maxHeartbeats 2000000 in
theorem inside_step (m : Nat) (ih : ∀ (l : Bool) (s : ByteArray) (p : Option Addr) (n c : Nat) (k : Fo), s.size ≤ 140737488355328 → s.size + wtF k ≤ 4611686018427387904 → k.cnt < m → FnP Tryz.prog 48 #[.agg #[.bool l, .string s, .slice p n c]] (fun w => SlAt w.heap.size w p n k) (.int .u64 ((sz1 l s (szF k) : Nat) : Int))) (l : Bool) (s : ByteArray) (p : Option Addr) (n c : Nat) (k : Fo) (hs : s.size ≤ 140737488355328) (hw : s.size + wtF k ≤ 4611686018427387904) (hkm : k.cnt < m + 1) : FnP Tryz.prog 73 #[.agg #[.bool l, .string s, .slice p n c]] (fun w => SlAt w.heap.size w p n k) (.int .u64 ((ByteArray.size s + szF k : Nat) : Int)) := by
  refine FnP.intro (c := codeOf Tryz.f73) [.tmp 2] 23 Tryz.func73 kr kr kr fun w hpre => ?_
  have H0 := St.start w
  have hn := hpre.1
  have hnm := hpre.2.1
  refine rS [.b, .v] H0 kr fun gs1 w1 H1 => ?_
  clear H0
  refine rS [.v, .l 0, .v, .e (v := .int .u64 (IntKind.u64.wrap (((ByteArray.size s : Nat) : Int)))) (v' := .int .u64 ((ByteArray.size s : Nat) : Int)) (int_eq (wrapN_u64 (a := ByteArray.size s) (by omega))), .v] H1 kr fun gs2 w2 H2 => ?_
  clear H1
  refine g_seq kr ?_
  refine rS [.v, .l 0, .v, .v] H2 kr fun gs3 w3 H3 => ?_
  clear H2
  refine g_block 0 kr ?_
  have HL1 : St w.heap.size w w3 [((gs1 0).b, Obj.cells #[.bool l, .string s, .slice p n c] 68 (0, 0))] := H3.as kr
  clear H3
  have HD2 : St w.heap.size w w3 [] := HL1.sub (List.Sublist.cons _ List.Sublist.slnil)
  refine g_loop kr (fun mz ρ ww => ∃ (i : Nat) (r : Fo) (a : Nat), n - i = mz ∧ (FoR w.heap.size w p i r) ∧ (i + Fo.len r = n) ∧ (Fo.cnt r ≤ Fo.cnt k) ∧ (a + wtF r ≤ 4611686018427387904) ∧ (s.size + szF k = a + szF r) ∧ St w.heap.size w ww [] ∧ Is [(0, .agg #[.bool l, .string s, .slice p n c]), (1, .pointer (some ⟨(gs1 0).b, 0, none⟩)), (2, .int .u64 0), (3, .int .u64 ((a : Nat) : Int)), (11, .slice p n c), (12, .int .i64 ((n : Nat) : Int)), (13, .int .i64 ((i : Nat) : Int))] ρ) (n - 0) ⟨0, k, (ByteArray.size s), rfl, (SlAt.start hpre), (by have hn0 := (hpre).1; omega), (Nat.le_refl _), hw, rfl, HD2, (Is.of ⟨kr, kr, kr, kr, kr, kr, kr, trivial⟩)⟩ ?_
  clear HD2
  rintro _ _ w4 ⟨i, r, a, rfl, hR, hN, hcn, hwt, hd, H4, _, rfl⟩
  by_cases hc3 : (i : Nat) < n
  · skip
    refine rS [.e (v := .bool (decide (((i : Nat) : Int) < ((n : Nat) : Int)))) (v' := .bool true) (bool_eq (decide_eq_true (by omega)))] H4 kr fun gs5 w5 H5 => ?_
    clear H4
    refine g_seq kr ?_
    refine g_cond_t kr kr ?_
    refine g_skip kr ?_
    show WP _ _ _ _ _ _
    refine g_seq kr ?_
    refine g_block 1 kr ?_
    obtain ⟨l1, s1, k1, r1, b1, off1, C1, T1, fz1, p1, n1, c1, hr1, hp1, hb1, hh1, hs1, hx1, hz1, hk1, hR1, hN1⟩ := FoR.open hR hN (by omega)
    refine rS [.o (ins := [((.tmp 11), .slice p n c), ((.tmp 13), .int .i64 ((i : Nat) : Int))]) (v := .pointer (some ⟨b1, off1 + i * 3, none⟩)) (fun ρ o w ho hi => idxO_run (kd := .i64) (t := 66) (e := 68) (bytes := 48) kr (x := (.tmp 11)) (y := (.tmp 13)) b1 off1 n c i hp1 ho hi.1 hi.2.1 (by omega) w), .fp (off := off1 + i * 3) (n := 3) (W := #[.bool l1, .string s1, .slice p1 n1 c1]) hh1 hb1 hs1 hx1, .a, .s 0] H5 kr fun gs6 w6 H6 => ?_
    clear H5
    have hcn1 := hcn
    rw [hr1] at hcn1
    simp only [Fo.cnt] at hcn1
    have hwt1 := hwt
    rw [hr1] at hwt1
    simp only [wtF] at hwt1
    have hsl1 := szF_le k1
    have hsm1 := sz1_le l1 s1 (szF k1)
    refine rL [.v, .l 0, .cp (pre := fun w => SlAt w.heap.size w p1 n1 k1) (ih l1 s1 p1 n1 c1 k1 hz1 (by omega) (by omega)) [] (fun w hb hd => (SlAt.call hk1 hb)), .e (v := .int .u64 (IntKind.u64.wrap (((a : Nat) : Int) + ((sz1 l1 s1 (szF k1) : Nat) : Int)))) (v' := .int .u64 ((a + (sz1 l1 s1 (szF k1)) : Nat) : Int)) (int_eq (wrapAdd_u64 (a := a) (b := sz1 l1 s1 (szF k1)) (by omega))), .v] H6 kr fun gs7 w7 H7 => ?_
    clear H6
    show WP _ _ _ _ _ _
    refine g_keep [0, 1, 2, 3, 5, 11, 12, 13, 14] fun ρ1 => ?_
    have HK4 := H7.keep
    clear H7
    refine rL [.e (v := .int .i64 (IntKind.i64.wrap (((i : Nat) : Int) + 1))) (v' := .int .i64 ((i + 1 : Nat) : Int)) (int_eq (wrapAdd_i64 (a := i) (b := 1) (by omega))), .v] HK4 kr fun gs8 w8 H8 => ?_
    clear HK4
    have HL5 : St w.heap.size w w8 [((gs6 2).b, Obj.cells #[.bool l1, .string s1, .slice p1 n1 c1] 68 (0, 0))] := H8.as kr
    clear H8
    have HD6 : St w.heap.size w w8 [] := HL5.sub (List.Sublist.cons _ List.Sublist.slnil)
    show ∃ m, _ ∧ _
    exact ⟨_, (by omega), (i + 1), r1, (a + sz1 l1 s1 (szF k1)), rfl, hR1, hN1, (by omega), (by omega), (by rw [hd, hr1]; simp only [szF]; omega), HD6, (Is.of ⟨kr, kr, kr, kr, kr, kr, kr, trivial⟩)⟩
  · skip
    refine rS [.e (v := .bool (decide (((i : Nat) : Int) < ((n : Nat) : Int)))) (v' := .bool false) (bool_eq (decide_eq_false (by omega)))] H4 kr fun gs9 w9 H9 => ?_
    clear H4
    refine g_seq kr ?_
    refine g_cond_f kr kr ?_
    refine g_exit 0 kr ?_
    show WP _ _ _ _ _ _
    refine rS [.v, .v] H9 kr fun gs10 w10 H10 => ?_
    clear H9
    refine g_ret kr ?_
    show ∃ vs, Res _ _ _ _ vs ∧ _
    refine ⟨[.int .u64 ((a : Nat) : Int)], (.tmp (.int .u64 ((a : Nat) : Int)) kr .nil), ?_, H10.below⟩
    refine int_eq ?_
    rw [hd, FoR.done hN (by omega)]; rfl
set_option maxRecDepth 100000 in
set_option maxHeartbeats 2000000 in
theorem size_step (m : Nat) (ih : ∀ (l : Bool) (s : ByteArray) (p : Option Addr) (n c : Nat) (k : Fo), s.size ≤ 140737488355328 → s.size + wtF k ≤ 4611686018427387904 → k.cnt < m → FnP Tryz.prog 48 #[.agg #[.bool l, .string s, .slice p n c]] (fun w => SlAt w.heap.size w p n k) (.int .u64 ((sz1 l s (szF k) : Nat) : Int))) (l : Bool) (s : ByteArray) (p : Option Addr) (n c : Nat) (k : Fo) (hs : s.size ≤ 140737488355328) (hw : s.size + wtF k ≤ 4611686018427387904) (hkm : k.cnt < m + 1) : FnP Tryz.prog 48 #[.agg #[.bool l, .string s, .slice p n c]] (fun w => SlAt w.heap.size w p n k) (.int .u64 ((sz1 l s (szF k) : Nat) : Int)) := by
  refine FnP.intro (c := codeOf Tryz.f48) [.tmp 2] 16 Tryz.func48 kr kr kr fun w hpre => ?_
  have H0 := St.start w
  have hn := hpre.1
  have hnm := hpre.2.1
  refine rS [.b, .v] H0 kr fun gs1 w1 H1 => ?_
  clear H0
  refine g_seq kr ?_
  refine rS [.v, .l 0, .c (single_fn s)] H1 kr fun gs2 w2 H2 => ?_
  clear H1
  refine Or.elim (Bool.eq_false_or_eq_true (single s)).symm (fun hq1 => ?_) (fun hq1 => ?_)
  · skip
    refine g_now 6 (v := .bool (single s)) (v' := .bool false) (bool_eq hq1) kr ?_
    refine g_cond_f kr kr ?_
    refine g_skip kr ?_
    show WP _ _ _ _ _ _
    refine rS [.l 0, .cp (pre := fun w => SlAt w.heap.size w p n k) (inside_step m ih l s p n c k (by omega) (by omega) (by omega)) [] (fun w hb hd => (SlAt.call hpre hb)), .v] H2 kr fun gs3 w3 H3 => ?_
    clear H2
    have hhl := hd_len (frm l) (ByteArray.size s + szF k)
    have hsz := szF_le k
    have hhs : ByteArray.size (strB (hd (frm l) (ByteArray.size s + szF k))) ≤ 9 := hhl.2
    refine rS [.l 0, .v, .c (head_fn l s p n c (ByteArray.size s + szF k) (by omega)), .v, .e (v := .int .u64 (IntKind.u64.wrap (((ByteArray.size (strB (hd (frm l) (ByteArray.size s + szF k))) : Nat) : Int)))) (v' := .int .u64 ((ByteArray.size (strB (hd (frm l) (ByteArray.size s + szF k))) : Nat) : Int)) (int_eq (wrapN_u64 (a := ByteArray.size (strB (hd (frm l) (ByteArray.size s + szF k)))) (by omega))), .v, .e (v := .int .u64 (IntKind.u64.wrap (((ByteArray.size (strB (hd (frm l) (ByteArray.size s + szF k))) : Nat) : Int) + ((ByteArray.size s + szF k : Nat) : Int)))) (v' := .int .u64 (((ByteArray.size (strB (hd (frm l) (ByteArray.size s + szF k)))) + (ByteArray.size s + szF k) : Nat) : Int)) (int_eq (wrapAdd_u64 (a := ByteArray.size (strB (hd (frm l) (ByteArray.size s + szF k)))) (b := ByteArray.size s + szF k) (by omega))), .v] H3 kr fun gs4 w4 H4 => ?_
    clear H3
    refine g_ret kr ?_
    show ∃ vs, Res _ _ _ _ vs ∧ _
    refine ⟨[.int .u64 (((ByteArray.size (strB (hd (frm l) (ByteArray.size s + szF k)))) + (ByteArray.size s + szF k) : Nat) : Int)], (.tmp (.int .u64 (((ByteArray.size (strB (hd (frm l) (ByteArray.size s + szF k)))) + (ByteArray.size s + szF k) : Nat) : Int)) kr .nil), ?_, H4.below⟩
    refine int_eq ?_
    unfold sz1; rw [if_neg (by rw [hq1]; decide)]; rfl
  · skip
    refine g_now 6 (v := .bool (single s)) (v' := .bool true) (bool_eq hq1) kr ?_
    refine g_cond_t kr kr ?_
    refine rS [.v] H2 kr fun gs5 w5 H5 => ?_
    clear H2
    refine g_ret kr ?_
    show ∃ vs, Res _ _ _ _ vs ∧ _
    refine ⟨[.int .u64 1], (.tmp (.int .u64 1) kr .nil), ?_, H5.below⟩
    refine int_eq ?_
    unfold sz1; rw [if_pos hq1]; rfl
theorem size_fn (l : Bool) (s : ByteArray) (p : Option Addr) (n c : Nat) (k : Fo) (hs : s.size ≤ 140737488355328) (hw : s.size + wtF k ≤ 4611686018427387904) : FnP Tryz.prog 48 #[.agg #[.bool l, .string s, .slice p n c]] (fun w => SlAt w.heap.size w p n k) (.int .u64 ((sz1 l s (szF k) : Nat) : Int)) := by
  have key : ∀ (m : Nat) (l : Bool) (s : ByteArray) (p : Option Addr) (n c : Nat) (k : Fo), s.size ≤ 140737488355328 → s.size + wtF k ≤ 4611686018427387904 → k.cnt < m → FnP Tryz.prog 48 #[.agg #[.bool l, .string s, .slice p n c]] (fun w => SlAt w.heap.size w p n k) (.int .u64 ((sz1 l s (szF k) : Nat) : Int)) := by
    intro m
    induction m with
    | zero => intros; omega
    | succ m ih => intro l s p n c k hs hw hkm; exact size_step m ih l s p n c k hs hw hkm
  exact key (k.cnt + 1) l s p n c k hs hw (by omega)
theorem inside_fn (l : Bool) (s : ByteArray) (p : Option Addr) (n c : Nat) (k : Fo) (hs : s.size ≤ 140737488355328) (hw : s.size + wtF k ≤ 4611686018427387904) : FnP Tryz.prog 73 #[.agg #[.bool l, .string s, .slice p n c]] (fun w => SlAt w.heap.size w p n k) (.int .u64 ((ByteArray.size s + szF k : Nat) : Int)) := inside_step k.cnt (fun l s p n c k hs hw _ => size_fn l s p n c k hs hw) l s p n c k hs hw (by omega)
end Go.Proofs.YtlhfgbjhngkicaaGreatDoor

namespace Go.Proofs.YtlhfgbjhngkicaaGreatDoor
open Go Go.RowKit
set_option linter.unusedVariables false
/-- The builder in block p (of type T, its bytes of type e) holds out. -/
inductive BE (p : Nat) (T e : TypeId) : List UInt8 → List (Nat × Obj) → Prop
  | nil (a : Option Addr) : a = none ∨ a = some ⟨p, 0, none⟩ → BE p T e [] [(p, .cells #[.pointer a, .slice none 0 0] T (0, 0))]
  | row (a : Option Addr) (b n cap : Nat) (cur : Array Value) (out : List UInt8) : a = none ∨ a = some ⟨p, 0, none⟩ → n = out.length → Rw 1 cur cap n (cellsB out) →
      BE p T e out [(b, .cells cur e (0, 0)), (p, .cells #[.pointer a, .slice (some ⟨b, 0, none⟩) n cap] T (0, 0))]
/-- A call that writes from out to out' into a builder. -/
def FnB (P : Program) (f : Nat) (args : Array Value) (v : Value) (p : Nat) (T e : TypeId) (out out' : List UInt8) (pre : World → Prop) : Prop :=
  ∀ (w0 w : World) (L E : List (Nat × Obj)), BE p T e out E → pre w0 → St w0.heap.size w0 w (E ++ L) → Calls P f args w fun r w' => ∃ E', r = .returned v ∧ BE p T e out' E' ∧ St w0.heap.size w0 w' (E' ++ L)
/-- The same, where nothing lies beside it. -/
def FnB0 (P : Program) (f : Nat) (args : Array Value) (v : Value) (p : Nat) (T e : TypeId) (out out' : List UInt8) (pre : World → Prop) : Prop :=
  ∀ (w0 w : World) (E : List (Nat × Obj)), BE p T e out E → pre w0 → St w0.heap.size w0 w E → Calls P f args w fun r w' => ∃ E', r = .returned v ∧ BE p T e out' E' ∧ St w0.heap.size w0 w' E'
section
variable {P : Program} {N : Nat} {ops : Array Oper} {i : Nat} {r : List Nat} {K : Env → World → Prop} {ρ : Env} {w : World} {w0 : World} {l E : List (Nat × Obj)}
theorem s_callB (HS : St w0.heap.size w0 w (l ++ E)) {p : Nat} {T e : TypeId} {out : List UInt8} (hE : BE p T e out E) (d : Option Nat) (f : Nat) (args : Array Value) (v : Value) (out' : List UInt8) (pre : World → Prop) (hc : FnB P f args v p T e out out' pre) (hp : pre w0)
    (h : opv P ops i ρ w = some (d, true, .ok (.enter f args) w)) (hd : dOK d N = true)
    (kk : ∀ E' w', BE p T e out' E' → St w0.heap.size w0 w' (l ++ E') → WPs P N ops K r (updO ρ d v) w') : WPs P N ops K (i :: r) ρ w := by
  obtain ⟨o, ho, rfl, hw, hr⟩ := opv_some h
  refine WPo.run ho hw fun a ha => ?_
  rw [hr, Oper.upon_enter]
  refine (hc w0 w l E hE hp (HS.perm List.perm_append_comm)).mono ?_
  rintro _ w' ⟨E', rfl, hE', HS'⟩
  exact ⟨_, ha.put _ (dOK_lt hd) v, kk E' w' hE' (HS'.perm List.perm_append_comm)⟩
theorem s_callB0 (HS : St w0.heap.size w0 w E) {p : Nat} {T e : TypeId} {out : List UInt8} (hE : BE p T e out E) (d : Option Nat) (f : Nat) (args : Array Value) (v : Value) (out' : List UInt8) (pre : World → Prop) (hc : FnB0 P f args v p T e out out' pre) (hp : pre w0)
    (h : opv P ops i ρ w = some (d, true, .ok (.enter f args) w)) (hd : dOK d N = true)
    (kk : ∀ E' w', BE p T e out' E' → St w0.heap.size w0 w' E' → WPs P N ops K r (updO ρ d v) w') : WPs P N ops K (i :: r) ρ w := by
  obtain ⟨o, ho, rfl, hw, hr⟩ := opv_some h
  refine WPo.run ho hw fun a ha => ?_
  rw [hr, Oper.upon_enter]
  refine (hc w0 w E hE hp HS).mono ?_
  rintro _ w' ⟨E', rfl, hE', HS'⟩
  exact ⟨_, ha.put _ (dOK_lt hd) v, kk E' w' hE' HS'⟩
theorem FnB.intro {f : Nat} {fn : Func} {c : Code} (rs : List ResultVar) (N : Nat) {args : Array Value} {v : Value} {p : Nat} {T e : TypeId} {out out' : List UInt8} {pre : World → Prop} (hf : P.funcs[f]? = some fn) (hb : fn.body = some c) (hr : fn.results.toList = rs) (hn : args.size + (fn.ntmps - args.size) = N)
    (h : ∀ w0 w L E, BE p T e out E → pre w0 → St w0.heap.size w0 w (E ++ L) → WP P N c (ends P rs fun v' w' => v' = v ∧ ∃ E', BE p T e out' E' ∧ St w0.heap.size w0 w' (E' ++ L)) (ini args) w) : FnB P f args v p T e out out' pre := fun w0 w L E hE hp HS =>
  (calls_intro hf hb hr hn (h w0 w L E hE hp HS)).mono fun _ w' ⟨v', he, hv, E', h1, h2⟩ => ⟨E', by rw [he, hv], h1, h2⟩
theorem FnB0.intro {f : Nat} {fn : Func} {c : Code} (rs : List ResultVar) (N : Nat) {args : Array Value} {v : Value} {p : Nat} {T e : TypeId} {out out' : List UInt8} {pre : World → Prop} (hf : P.funcs[f]? = some fn) (hb : fn.body = some c) (hr : fn.results.toList = rs) (hn : args.size + (fn.ntmps - args.size) = N)
    (h : ∀ w0 w E, BE p T e out E → pre w0 → St w0.heap.size w0 w E → WP P N c (ends P rs fun v' w' => v' = v ∧ ∃ E', BE p T e out' E' ∧ St w0.heap.size w0 w' E') (ini args) w) : FnB0 P f args v p T e out out' pre := fun w0 w E hE hp HS =>
  (calls_intro hf hb hr hn (h w0 w E hE hp HS)).mono fun _ w' ⟨v', he, hv, E', h1, h2⟩ => ⟨E', by rw [he, hv], h1, h2⟩
def appendOp2 (t u : TypeId) (s x : Operand) : Op := .call { callee := .builtin .append, args := #[s, x], argTypes := #[t, u] }
theorem append2_ex {P : Program} {ρ : Env} {w w' : World} {o : Oper} {t u : TypeId} {s x : Operand} {vs v' : Value} {tx : ByteArray} (hop : o.op = appendOp2 t u s x) (hs : ev ρ s = vs) (hx : ev ρ x = .string tx)
    (hrun : (Builtin.append_ #[t, u] o.type #[vs, .string tx]).run P w = .ok v' w') : (execOp (ev ρ) o).run P w = .ok (.value v') w' := by
  unfold execOp
  simp only [hop, appendOp2, resolve, invoke, builtin, Sem.run_bind, Sem.run_pure, Result.andThen_ok, List.map_toArray, List.map_cons, List.map_nil, hs, hx, hrun]
/-- 'append(b, s...)', of a text, to a row. -/
theorem s_appendStr (HS : St w0.heap.size w0 w l) (d : Option Nat) (t u e : TypeId) (s x : Operand) (j b n cap : Nat) (cur : Array Value) (xs : List UInt8) (tx : ByteArray) (l' : Nat → Array Value → List (Nat × Obj))
    (h : opk ops i ρ = some (d, true, appendOp2 t u s x)) (hd : dOK d N = true) (ht : sliceOf P t = some (e, 1, 1)) (hu' : P.underlying u = some .string)
    (hs : ev ρ s = .slice (some ⟨b, 0, none⟩) n cap) (hj : l[j]? = some (b, .cells cur e (0, 0))) (hr : Rw 1 cur cap n (cellsB xs)) (hx : ev ρ x = .string tx) (hm : n + tx.size ≤ 140737488355328)
    (hl' : ∀ b' cur', l.set j (b', .cells cur' e (0, 0)) = l' b' cur')
    (kk : ∀ b' cap' cur' w', St w0.heap.size w0 w' (l' b' cur') → Rw 1 cur' cap' (n + tx.size) (cellsB (xs ++ tl tx)) → WPs P N ops K r (updO ρ d (.slice (some ⟨b', 0, none⟩) (n + tx.size) cap')) w') : WPs P N ops K (i :: r) ρ w := by
  obtain ⟨o, ho, rfl, hw, hop⟩ := opk_some h
  obtain ⟨it, z, hu, hi, hz, hsz, hby, hzs, h0⟩ := sliceOf_spec ht
  have hg := HS.get j hj
  have hcx : Lib.strCells tx = cellsB (tl tx) := rfl
  have hxn : xs.length = n := by have := hr.len; rw [cellsB_len] at this; omega
  have hlen : (cellsB (xs ++ tl tx)).length = (n + tx.size) * 1 := by rw [cellsB_len, List.length_append, tl_len]; omega
  have hcsz := hr.sz
  by_cases hroom : n + tx.size ≤ cap
  · have hrun := Lib.run_append_room_string (P := P) w t u o.type e it hu hu' hi hsz b n cap cur hg tx hroom (by omega)
    refine WPo.run ho hw fun a ha => ?_
    have hex : (execOp (ev ρ) o).run P w = .ok (.value (.slice (some ⟨b, 0, none⟩) (n + tx.size) cap)) (w.setRow b (cur.toList.take n ++ Lib.strCells tx ++ cur.toList.drop (n + tx.size)).toArray) := by
      unfold execOp
      simp only [hop, appendOp2, resolve, invoke, builtin, Sem.run_bind, Sem.run_pure, Result.andThen_ok, List.map_toArray, List.map_cons, List.map_nil, hs, hx, hrun]
    rw [hex, Oper.upon_value]
    have HS' := HS.store j (C' := (cur.toList.take n ++ Lib.strCells tx ++ cur.toList.drop (n + tx.size)).toArray) hj
    rw [hl'] at HS'
    refine ⟨_, ha.put _ (dOK_lt hd) _, kk b cap _ _ HS' ⟨hlen, hroom, hr.max, ?_, ?_⟩⟩
    · have h1 : cur.toList.take n = cellsB xs := by have := hr.take; rwa [Nat.mul_one] at this
      rw [h1, hcx, ← cellsB_append, ← hlen]
      exact List.take_left
    · simp only [List.size_toArray, List.length_append, List.length_take, List.length_drop, Array.length_toList, Lib.strCells_length]
      omega
  · have holds : ∀ q v, (cellsB xs)[q]? = some v → w.cell? ((⟨b, 0, none⟩ : Addr).add q) = some v := fun q v hq => by
      have hql : q < n := by rw [← hxn, ← cellsB_len]; exact (List.getElem?_eq_some_iff.1 hq).1
      rw [addr_add, Nat.zero_add]
      simp [World.cell?, hg, hr.get q (by omega), hq]
    have hrun := Lib.run_append_grow_string (P := P) w t u o.type e it z hu hu' hi hz ⟨b, 0, none⟩ n cap (cellsB xs) (by rw [cellsB_len, hsz]; omega) holds tx (by omega) (by omega) (by rw [hby]; exact growslice_fits (by omega) (by omega))
    refine WPo.run ho hw fun a ha => ?_
    rw [append2_ex hop hs hx hrun, Oper.upon_value]
    have hgr : w.grownBy (w.drew.alloc (.cells ((cellsB xs).toArray ++ (Lib.strCells tx).toArray ++ Builtin.zeroCells z.cells (grownCap w (n + tx.size) cap e - (n + tx.size))) e)) (some b) :=
      ⟨rfl, rfl, rfl, by simp, fun k hk _ => Go.heap_alloc_old w.drew _ hk⟩
    have HS' := HS.grown j hj hgr (.inr rfl) (heap_alloc_new w.drew _)
    rw [hl'] at HS'
    have hge := grownCap_ge w (n + tx.size) cap e
    refine ⟨_, ha.put _ (dOK_lt hd) _, kk _ (grownCap w (n + tx.size) cap e) _ _ HS' ⟨hlen, hge, grownCap_le_maxLen w (n + tx.size) cap e (by unfold maxLen; omega), ?_, ?_⟩⟩
    · simp only [Array.toList_append]
      rw [hcx]
      show List.take _ (cellsB xs ++ cellsB (tl tx) ++ _) = _
      rw [← cellsB_append, ← hlen]
      exact List.take_left
    · simp only [Array.size_append, List.size_toArray, size_zeroCells, hzs, cellsB_len, Lib.strCells_length]
      omega
/-- To none. -/
theorem s_appendStrNil (HS : St w0.heap.size w0 w l) (d : Option Nat) (t u e : TypeId) (s x : Operand) (tx : ByteArray)
    (h : opk ops i ρ = some (d, true, appendOp2 t u s x)) (hd : dOK d N = true) (ht : sliceOf P t = some (e, 1, 1)) (hu' : P.underlying u = some .string)
    (hs : ev ρ s = .slice none 0 0) (hx : ev ρ x = .string tx) (h0 : 0 < tx.size) (hm : tx.size ≤ 140737488355328)
    (kk : ∀ b' cap' cur' w', St w0.heap.size w0 w' ((b', .cells cur' e (0, 0)) :: l) → Rw 1 cur' cap' tx.size (cellsB (tl tx)) → WPs P N ops K r (updO ρ d (.slice (some ⟨b', 0, none⟩) tx.size cap')) w') : WPs P N ops K (i :: r) ρ w := by
  obtain ⟨o, ho, rfl, hw, hop⟩ := opk_some h
  obtain ⟨it, z, hu, hi, hz, hsz, hby, hzs, h0'⟩ := sliceOf_spec ht
  have hcx : Lib.strCells tx = cellsB (tl tx) := rfl
  have hrun := Go.run_append_nil_string (P := P) w t u o.type e it z hu hu' hi hz tx h0 (by omega) (by rw [hby]; omega)
  refine WPo.run ho hw fun a ha => ?_
  rw [append2_ex hop hs hx hrun, Oper.upon_value]
  have hge := grownCap_ge w tx.size 0 e
  have e1 : (tx.data.map (fun b => Value.int .u8 b.toNat) ++ Builtin.zeroCells z.cells (grownCap w tx.size 0 e - tx.size)).toList = cellsB (tl tx) ++ (Builtin.zeroCells z.cells (grownCap w tx.size 0 e - tx.size)).toList := by
    unfold cellsB tl; simp
  refine ⟨_, ha.put _ (dOK_lt hd) _, kk _ (grownCap w tx.size 0 e) _ _ (HS.drew.alloc _) ⟨by rw [cellsB_len, tl_len, Nat.mul_one], hge, grownCap_le_maxLen w tx.size 0 e (by unfold maxLen; omega), ?_, ?_⟩⟩
  · rw [e1, Nat.mul_one, List.take_append_of_le_length (by rw [cellsB_len, tl_len]; exact Nat.le_refl _), List.take_of_length_le (by rw [cellsB_len, tl_len]; exact Nat.le_refl _)]
  · rw [← Array.length_toList, e1, List.length_append, cellsB_len, tl_len, Array.length_toList, size_zeroCells, hzs]; omega
/-- A pointer to a block of the list as an unsafe one, and back. -/
theorem s_toU {B : Nat} (HS : St B w0 w l) (d : Option Nat) (t t' tp : TypeId) (x : Operand) (j b : Nat) (C : Array Value) (T : TypeId) (h : opk ops i ρ = some (d, true, .convert t t' x)) (hd : dOK d N = true) (hx : ev ρ x = .pointer (some ⟨b, 0, none⟩)) (hj : l[j]? = some (b, .cells C T (0, 0)))
    (ht : P.underlying t = some (.pointer tp)) (ht' : P.underlying t' = some .unsafePointer) (hz : ((P.info? tp).map fun i => Nat.blt 0 i.size) = some true) (hC : 0 < C.size) (kk : WPs P N ops K r (updO ρ d (.pointer (some ⟨b, 0, none⟩))) w) : WPs P N ops K (i :: r) ρ w :=
  s_genw d _ _ w h hd (fun o ho => by
    obtain ⟨it, hi, hs⟩ := Option.map_eq_some_iff.1 hz
    have hsh : w.shape? b = some (T, C.size) := by unfold World.shape?; rw [HS.get j hj]
    have := Lib.run_to_unsafe (P := P) w (src := t) (dst := t') ⟨b, 0, none⟩ ht ht' hi (by have := Nat.le_of_ble_eq_true hs; omega) hsh hC
    unfold execOp
    simp only [ho, hx, Sem.run_bind, this, Result.andThen_ok]; rfl) kk
theorem s_fromU {B : Nat} (HS : St B w0 w l) (d : Option Nat) (t t' tp : TypeId) (x : Operand) (j b : Nat) (C : Array Value) (T : TypeId) (h : opk ops i ρ = some (d, true, .convert t t' x)) (hd : dOK d N = true) (hx : ev ρ x = .pointer (some ⟨b, 0, none⟩)) (hj : l[j]? = some (b, .cells C T (0, 0)))
    (ht : P.underlying t = some .unsafePointer) (ht' : P.underlying t' = some (.pointer tp)) (hz : (P.info? tp).isSome = true) (hl : liesAt P P.depth T (C.size / P.cellsOf T) 0 tp 1 = true) (kk : WPs P N ops K r (updO ρ d (.pointer (some ⟨b, 0, none⟩))) w) : WPs P N ops K (i :: r) ρ w :=
  s_genw d _ _ w h hd (fun o ho => by
    obtain ⟨it, hi⟩ := Option.isSome_iff_exists.1 hz
    have hsh : w.shape? b = some (T, C.size) := by unfold World.shape?; rw [HS.get j hj]
    have := Lib.run_from_unsafe (P := P) w (src := t) (dst := t') ⟨b, 0, none⟩ ht ht' hi hsh hl
    unfold execOp
    simp only [ho, hx, Sem.run_bind, this, Result.andThen_ok]; rfl) kk
theorem neqP_run {t tp t' : TypeId} (ht : P.underlying t = some (.pointer tp)) (hz : (P.info? tp).isSome = true) {x y : Operand} {o : Oper} (a : Addr) (ho : o.op = .binOp .neq t x y t') (hx : ev ρ x = .pointer (some a)) (hy : ev ρ y = .pointer (some a)) :
    ∀ w, (execOp (ev ρ) o).run P w = .ok (.value (.bool false)) w := fun w => by
  obtain ⟨it, hi⟩ := Option.isSome_iff_exists.1 hz
  have := Lib.run_neq_ptr_same (P := P) w a ht hi
  unfold execOp
  simp [ho, hx, hy, eqGuard, this]
end
/-- A region that draws its order, whose operation q writes into the builder, behind all others; bx lies beside it. -/
def PreB (w0 : World) (p : Nat) (T e : TypeId) (out' : List UInt8) (bx : Nat × Obj) (E : List (Nat × Obj)) (q : Nat) : (Nat → Bool) → (Nat → D2.Gh) → World → Prop := fun L _ w =>
  bif L q then (∃ E', BE p T e out' E' ∧ St w0.heap.size w0 w ([bx] ++ E')) else St w0.heap.size w0 w ([bx] ++ E)
section
variable {P : Program} {ops : Array Oper} {R : (Nat → D2.Gh) → Env} {i : Nat} {d : Option Nat} {w0 : World} {p : Nat} {T e : TypeId} {out' : List UInt8} {bx : Nat × Obj} {E : List (Nat × Obj)} {q : Nat}
theorem putB_ne {L : Nat → Bool} (h : Nat.beq q i = false) : D2.put1 L i q = L q := by unfold D2.put1; rw [h]; rfl
theorem PreB.keep (h : Nat.beq q i = false) {L : Nat → Bool} {g g' : Nat → D2.Gh} {w : World} (hp : PreB w0 p T e out' bx E q L g w) : PreB w0 p T e out' bx E q (D2.put1 L i) g' w := by
  unfold PreB at hp ⊢; rw [putB_ne h]; exact hp
theorem PreB.cases {L : Nat → Bool} {g : Nat → D2.Gh} {w : World} (hp : PreB w0 p T e out' bx E q L g w) : ∃ E', St w0.heap.size w0 w ([bx] ++ E') ∧ ((∀ w', St w0.heap.size w0 w' ([bx] ++ E') → PreB w0 p T e out' bx E q L g w')) := by
  unfold PreB at hp ⊢
  cases hl : L q with
  | false => rw [hl] at hp; exact ⟨E, hp, fun w' h => h⟩
  | true => rw [hl] at hp; obtain ⟨E', h1, h2⟩ := hp; exact ⟨E', h2, fun w' h => ⟨E', h1, h⟩⟩
theorem gvB_val {V : Value} (hq : Nat.beq q i = false) (h : ∀ g w, opv P ops i (R g) w = some (d, true, .ok (.value V) w)) : D2.Gives P ops R (PreB w0 p T e out' bx E q) i d (fun _ => V) := D2.gv_val (fun _ _ _ hp => hp.keep hq) h
theorem gvB_load {C : Array Value} {T' : TypeId} {t : TypeId} {x : Operand} (hq : Nat.beq q i = false) (h : ∀ g, opk ops i (R g) = some (d, true, .load t x)) (hx : ∀ g, ev (R g) x = .pointer (some ⟨bx.1, 0, none⟩)) (hb : bx.2 = .cells C T' (0, 0)) (ht : aggSize P t = some C.size) : D2.Gives P ops R (PreB w0 p T e out' bx E q) i d (fun _ => .agg C) := D2.gives_of fun L g w hp hN => by
  obtain ⟨o, ho, hd, hw, hop⟩ := opk_some (h g)
  obtain ⟨E', hS, _⟩ := hp.cases
  have hh : w.heap[bx.1]? = some (.cells C T' (0, 0)) := by rw [← hb]; exact hS.get 0 rfl
  have := load_agg (P := P) (w := w) (off := 0) ht hh (by omega)
  have e1 : C.extract 0 (0 + C.size) = C := by simp
  rw [e1] at this
  have e2 : (execOp (ev (R g)) o).run P w = .ok (.value (.agg C)) w := by simp [execOp, hop, Instr.loadAt, Instr.sureAddr, hx g, this]
  exact ⟨o, ho, hd, .inr ⟨hw, by rw [e2]; exact ⟨g i, rfl, by rw [D2.setN_self]; exact hp.keep hq⟩⟩⟩
theorem gvB_callP {V : Value} {f : Nat} {args : Array Value} {pr : World → Prop} (hq : Nat.beq q i = false) (hc : FnP P f args pr V) (hpr : ∀ w, Below w0.heap.size w0 w → pr w) (h : ∀ g w, opv P ops i (R g) w = some (d, true, .ok (.enter f args) w)) : D2.Gives P ops R (PreB w0 p T e out' bx E q) i d (fun _ => V) := D2.gives_of fun L g w hp hN => by
  obtain ⟨o, ho, hd, hw, hr⟩ := opv_some (h g w)
  obtain ⟨E', hS, hk⟩ := hp.cases
  exact ⟨o, ho, hd, .inr ⟨hw, by rw [hr]; exact (hc w (hpr w hS.below)).mono fun e w' ⟨he, hb⟩ => ⟨V, he, g i, rfl, by rw [D2.setN_self]; exact (hk w' (hS.call hb)).keep hq⟩⟩⟩
theorem gvB_call {V : Value} {f : Nat} {args : Array Value} (hq : Nat.beq q i = false) (hc : Fn P f args V) (h : ∀ g w, opv P ops i (R g) w = some (d, true, .ok (.enter f args) w)) : D2.Gives P ops R (PreB w0 p T e out' bx E q) i d (fun _ => V) :=
  gvB_callP (pr := fun _ => True) hq (fun w _ => hc w) (fun _ _ => trivial) h
theorem gvB_eff {V : Value} {f : Nat} {args : Array Value} {out : List UInt8} (hq : q = i) (hE : BE p T e out E) (hc : FnB P f args V p T e out out' (fun _ => True)) (h : ∀ g w, opv P ops i (R g) w = some (d, true, .ok (.enter f args) w)) : D2.Gives P ops R (PreB w0 p T e out' bx E q) i d (fun _ => V) := D2.gives_of fun L g w hp hN => by
  subst hq
  obtain ⟨o, ho, hd, hw, hr⟩ := opv_some (h g w)
  have hS : St w0.heap.size w0 w ([bx] ++ E) := by unfold PreB at hp; rw [hN.1] at hp; exact hp
  refine ⟨o, ho, hd, .inr ⟨hw, ?_⟩⟩
  rw [hr]
  refine (hc w0 w [bx] E hE trivial (hS.perm List.perm_append_comm)).mono ?_
  rintro _ w' ⟨E', rfl, hE', hS'⟩
  refine ⟨V, rfl, g q, rfl, ?_⟩
  unfold PreB
  rw [show D2.put1 L q q = true from D2.put1_self L q]
  exact ⟨E', hE', hS'.perm List.perm_append_comm⟩
theorem PreB.done {L : Nat → Bool} {g : Nat → D2.Gh} {w : World} (hp : PreB w0 p T e out' bx E q L g w) (h : L q = true) : ∃ E', BE p T e out' E' ∧ St w0.heap.size w0 w ([bx] ++ E') := by
  unfold PreB at hp; rw [h] at hp; exact hp
end
/-- A region whose operation q takes all that was known of the blocks. -/
def PreS (w0 : World) (l : List (Nat × Obj)) (q : Nat) : (Nat → Bool) → (Nat → D2.Gh) → World → Prop := fun L _ w => bif L q then St w0.heap.size w0 w [] else St w0.heap.size w0 w l
section
variable {P : Program} {ops : Array Oper} {R : (Nat → D2.Gh) → Env} {i : Nat} {d : Option Nat} {w0 : World} {l : List (Nat × Obj)} {q : Nat}
theorem PreS.keep (h : Nat.beq q i = false) {L : Nat → Bool} {g g' : Nat → D2.Gh} {w : World} (hp : PreS w0 l q L g w) : PreS w0 l q (D2.put1 L i) g' w := by
  unfold PreS at hp ⊢; rw [putB_ne h]; exact hp
theorem gvS_val {V : Value} (hq : Nat.beq q i = false) (h : ∀ g w, opv P ops i (R g) w = some (d, true, .ok (.value V) w)) : D2.Gives P ops R (PreS w0 l q) i d (fun _ => V) := D2.gv_val (fun _ _ _ hp => hp.keep hq) h
/-- An operation ahead of q, of a known run where the blocks lie so. -/
theorem gvS_op {V : Value} (hq : Nat.beq q i = false) (hb : ∀ L, D2.Now ops i L → L q = false) (op : Op) (h : ∀ g, opk ops i (R g) = some (d, true, op)) (hr : ∀ g w (o : Oper), St w0.heap.size w0 w l → o.op = op → (execOp (ev (R g)) o).run P w = .ok (.value V) w) : D2.Gives P ops R (PreS w0 l q) i d (fun _ => V) := D2.gives_of fun L g w hp hN => by
  obtain ⟨o, ho, hd, hw, hop⟩ := opk_some (h g)
  have hS : St w0.heap.size w0 w l := by have h9 := hp; unfold PreS at h9; rw [hb L hN] at h9; exact h9
  exact ⟨o, ho, hd, .inr ⟨hw, by rw [hr g w o hS hop]; exact ⟨g i, rfl, by rw [D2.setN_self]; exact hp.keep hq⟩⟩⟩
theorem gvS_eff {V : Value} (hq : q = i) (op : Op) (h : ∀ g, opk ops i (R g) = some (d, true, op)) (hr : ∀ g w (o : Oper), St w0.heap.size w0 w l → o.op = op → ∃ w', (execOp (ev (R g)) o).run P w = .ok (.value V) w' ∧ St w0.heap.size w0 w' []) : D2.Gives P ops R (PreS w0 l q) i d (fun _ => V) := D2.gives_of fun L g w hp hN => by
  subst hq
  obtain ⟨o, ho, hd, hw, hop⟩ := opk_some (h g)
  have hS : St w0.heap.size w0 w l := by have h9 := hp; unfold PreS at h9; rw [hN.1] at h9; exact h9
  obtain ⟨w', h1, h2⟩ := hr g w o hS hop
  exact ⟨o, ho, hd, .inr ⟨hw, by rw [h1]; exact ⟨g q, rfl, by unfold PreS; rw [show D2.put1 L q q = true from D2.put1_self L q]; exact h2⟩⟩⟩
end
def sliceDataOp (t : TypeId) (x : Operand) : Op := .call { callee := .builtin .unsafeSliceData, args := #[x], argTypes := #[t] }
theorem sliceData_run {P : Program} {ρ : Env} {w : World} {t : TypeId} {x : Operand} {a : Addr} {n c : Nat} (hx : ev ρ x = .slice (some a) n c) (hc : c ≠ 0) (o : Oper) (ho : o.op = sliceDataOp t x) : (execOp (ev ρ) o).run P w = .ok (.value (.pointer (some a))) w := by
  have := Lib.run_unsafeSliceData_row (P := P) (w := w) #[t] o.type a n c hc
  unfold execOp
  simp only [ho, sliceDataOp, resolve, invoke, builtin, Sem.run_bind, Sem.run_pure, Result.andThen_ok, List.map_toArray, List.map_cons, List.map_nil, hx, this]
theorem unsafeStr_run {P : Program} {ρ : Env} {w w0 : World} {l : List (Nat × Obj)} {j b n cap : Nat} {C : Array Value} {t t' e : TypeId} {x y : Operand} {xs : List UInt8} (HS : St w0.heap.size w0 w l) (hj : l[j]? = some (b, .cells C e (0, 0))) (ht : P.underlying t = some (.pointer e)) (hc : P.cellsOf e = 1)
    (hx : ev ρ x = .pointer (some ⟨b, 0, none⟩)) (hy : ev ρ y = .int .i64 (n : Int)) (hr : Rw 1 C cap n (cellsB xs)) (h0 : 0 < n) (hm : n ≤ 9223372036854775807) (o : Oper) (hop : o.op = unsafeOp t t' x y) :
    ∃ w', (execOp (ev ρ) o).run P w = .ok (.value (.string (strB xs))) w' ∧ St w0.heap.size w0 w' [] := by
  have hb := HS.get j hj
  have hB := HS.ge j hj
  have hlen : xs.length = n := by have := hr.len; rw [cellsB_len] at this; omega
  have hsz := hr.sz
  have hle := hr.le
  have hrun := Lib.run_unsafeString_row (P := P) w t t' o.type e ht hc b C.size (by unfold World.shape?; rw [hb]) xs (by intro e; subst e; simp at hlen; omega) (by omega) (by omega) (fun j u hj => by
    have hjl : j < xs.length := (List.getElem?_eq_some_iff.1 hj).1
    have h2 := hr.get j (by omega)
    rw [addr_add, Nat.zero_add]
    have h3 : (cellsB xs)[j]? = some (.int .u8 ((u.toNat : Nat) : Int)) := by unfold cellsB; rw [List.getElem?_map, hj]; rfl
    simp [World.cell?, hb, h2, h3])
  rw [hlen] at hrun
  refine ⟨w.freeze ⟨b, 0, none⟩ n, ?_, ?_⟩
  · unfold execOp
    simp only [hop, unsafeOp, resolve, invoke, builtin, Sem.run_bind, Sem.run_pure, Result.andThen_ok, List.map_toArray, List.map_cons, List.map_nil, hx, hy, hrun]
    rfl
  · have hbel := Lib.below_freeze HS.below (p := ⟨b, 0, none⟩) hB n
    refine ⟨hbel, Nat.le_trans HS.le ?_, (fun e he => nomatch he), List.nodup_nil⟩
    unfold World.freeze
    split <;> simp
theorem St.load1_run {P : Program} {ρ : Env} {w w0 : World} {l : List (Nat × Obj)} {j b off : Nat} {C : Array Value} {T t : TypeId} {x : Operand} {v : Value} (HS : St w0.heap.size w0 w l) (hj : l[j]? = some (b, .cells C T (0, 0))) (ht : oneCell P t = true) (hx : ev ρ x = .pointer (some ⟨b, off, none⟩)) (hv : C[off]? = some v) (o : Oper) (ho : o.op = .load t x) :
    (execOp (ev ρ) o).run P w = .ok (.value v) w := by
  have := load_one (P := P) (w := w) ht (HS.get j hj) hv
  simp [execOp, ho, Instr.loadAt, Instr.sureAddr, hx, this]
end Go.Proofs.YtlhfgbjhngkicaaGreatDoor

namespace Go.Proofs.YtlhfgbjhngkicaaGreatDoor
open Go Go.RowKit
set_option linter.unusedVariables false
set_option maxRecDepth 100000 in
set_option maxHeartbeats 2000000 in
theorem copyCheck_nil_none  (p : Nat) (w0 w : World) (L : List (Nat × Obj)) (H0 : St w0.heap.size w0 w ([(p, Obj.cells #[.pointer none, .slice none 0 0] 90 (0, 0))] ++ L)) : WP Tryz.prog 20 (codeOf Tryz.f94) (ends Tryz.prog [] fun v' w' => v' = .tuple #[] ∧ ∃ E', BE p 90 5 ([]) E' ∧ St w0.heap.size w0 w' (E' ++ L)) (ini #[.pointer (some ⟨p, 0, none⟩)]) w := by
  refine g_sreg [0, 1, 2, 3, 4] kr kr ?_
  refine s_val (some 2) (.pointer (some ⟨p, 0, none⟩)) (fun w => by kernel_rfl) kr ?_
  refine s_val (some 3) (.pointer (some ⟨p, 0, none⟩)) (fun w => by kernel_rfl) kr ?_
  refine s_val (some 4) (.pointer (some ⟨p, 0, none⟩)) (fun w => by kernel_rfl) kr ?_
  refine s_load1 H0 (some 5) 87 (.tmp 4) 0 p 0 #[.pointer none, .slice none 0 0] 90 (0, 0) (.pointer none) kr kr kr kr kr kr ?_
  refine s_val (some 6) (.bool true) (fun w => by kernel_rfl) kr ?_
  refine s_nil ?_
  refine g_cond_t kr kr ?_
  refine g_reg0 [0, 1, 2, 3, 4, 5, 6, 7] kr ?_
  refine s_val (some 7) (.pointer (some ⟨p, 0, none⟩)) (fun w => by kernel_rfl) kr ?_
  refine s_val (some 8) (.pointer (some ⟨p, 0, none⟩)) (fun w => by kernel_rfl) kr ?_
  refine s_toU H0 (some 9) 87 152 90 (.tmp 8) 0 p #[.pointer none, .slice none 0 0] 90 kr kr kr kr kr kr kr (by show 0 < 2; omega) ?_
  refine s_val (some 10) (.pointer (some ⟨p, 0, none⟩)) (fun w => by kernel_rfl) kr ?_
  refine s_fromU H0 (some 11) 152 87 90 (.tmp 10) 0 p #[.pointer none, .slice none 0 0] 90 kr kr kr kr kr kr kr kr ?_
  refine s_val (some 12) (.pointer (some ⟨p, 0, none⟩)) (fun w => by kernel_rfl) kr ?_
  refine s_val (some 13) (.pointer (some ⟨p, 0, none⟩)) (fun w => by kernel_rfl) kr ?_
  refine s_store H0 0 ([(p, Obj.cells #[.pointer (some ⟨p, 0, none⟩), .slice none 0 0] 90 (0, 0))] ++ L) 87 (.tmp 13) (.tmp 11) p (0) #[.pointer none, .slice none 0 0] #[.pointer (some ⟨p, 0, none⟩), .slice none 0 0] 90 (.pointer (some ⟨p, 0, none⟩)) kr kr kr kr kr kr (of_decide_eq_true kr) kr kr ?_
  intro w1 H1; clear H0
  refine s_nil ?_
  show ∃ vs, Res _ _ _ _ vs ∧ _
  exact ⟨[], .nil, rfl, _, (BE.nil (some ⟨p, 0, none⟩) (Or.inr rfl)), H1⟩
set_option maxRecDepth 100000 in
set_option maxHeartbeats 2000000 in
theorem copyCheck_nil_self  (p : Nat) (w0 w : World) (L : List (Nat × Obj)) (H0 : St w0.heap.size w0 w ([(p, Obj.cells #[.pointer (some ⟨p, 0, none⟩), .slice none 0 0] 90 (0, 0))] ++ L)) : WP Tryz.prog 20 (codeOf Tryz.f94) (ends Tryz.prog [] fun v' w' => v' = .tuple #[] ∧ ∃ E', BE p 90 5 ([]) E' ∧ St w0.heap.size w0 w' (E' ++ L)) (ini #[.pointer (some ⟨p, 0, none⟩)]) w := by
  refine g_sreg [0, 1, 2, 3, 4] kr kr ?_
  refine s_val (some 2) (.pointer (some ⟨p, 0, none⟩)) (fun w => by kernel_rfl) kr ?_
  refine s_val (some 3) (.pointer (some ⟨p, 0, none⟩)) (fun w => by kernel_rfl) kr ?_
  refine s_val (some 4) (.pointer (some ⟨p, 0, none⟩)) (fun w => by kernel_rfl) kr ?_
  refine s_load1 H0 (some 5) 87 (.tmp 4) 0 p 0 #[.pointer (some ⟨p, 0, none⟩), .slice none 0 0] 90 (0, 0) (.pointer (some ⟨p, 0, none⟩)) kr kr kr kr kr kr ?_
  refine s_val (some 6) (.bool false) (fun w => by kernel_rfl) kr ?_
  refine s_nil ?_
  refine g_cond_f kr kr ?_
  refine g_sreg [0, 1, 2, 3, 4, 5] kr kr ?_
  refine s_val (some 14) (.pointer (some ⟨p, 0, none⟩)) (fun w => by kernel_rfl) kr ?_
  refine s_val (some 15) (.pointer (some ⟨p, 0, none⟩)) (fun w => by kernel_rfl) kr ?_
  refine s_val (some 16) (.pointer (some ⟨p, 0, none⟩)) (fun w => by kernel_rfl) kr ?_
  refine s_load1 H0 (some 17) 87 (.tmp 16) 0 p 0 #[.pointer (some ⟨p, 0, none⟩), .slice none 0 0] 90 (0, 0) (.pointer (some ⟨p, 0, none⟩)) kr kr kr kr kr kr ?_
  refine s_val (some 18) (.pointer (some ⟨p, 0, none⟩)) (fun w => by kernel_rfl) kr ?_
  refine s_op (some 19) _ (.bool false) kr kr (fun o w ho => neqP_run (t := 87) (tp := 90) (t' := 87) kr kr (x := (.tmp 17)) (y := (.tmp 18)) ⟨p, 0, none⟩ ho kr kr w) ?_
  refine s_nil ?_
  refine g_cond_f kr kr ?_
  refine g_skip kr ?_
  show ∃ vs, Res _ _ _ _ vs ∧ _
  exact ⟨[], .nil, rfl, _, (BE.nil (some ⟨p, 0, none⟩) (Or.inr rfl)), H0⟩
set_option maxRecDepth 100000 in
set_option maxHeartbeats 2000000 in
theorem copyCheck_row_none  (p : Nat) (b n cap : Nat) (cur : Array Value) (out : List UInt8) (hn : n = out.length) (hr : Rw 1 cur cap n (cellsB out)) (w0 w : World) (L : List (Nat × Obj)) (H0 : St w0.heap.size w0 w ([(b, Obj.cells cur 5 (0, 0)), (p, Obj.cells #[.pointer none, .slice (some ⟨b, 0, none⟩) n cap] 90 (0, 0))] ++ L)) : WP Tryz.prog 20 (codeOf Tryz.f94) (ends Tryz.prog [] fun v' w' => v' = .tuple #[] ∧ ∃ E', BE p 90 5 out E' ∧ St w0.heap.size w0 w' (E' ++ L)) (ini #[.pointer (some ⟨p, 0, none⟩)]) w := by
  refine g_sreg [0, 1, 2, 3, 4] kr kr ?_
  refine s_val (some 2) (.pointer (some ⟨p, 0, none⟩)) (fun w => by kernel_rfl) kr ?_
  refine s_val (some 3) (.pointer (some ⟨p, 0, none⟩)) (fun w => by kernel_rfl) kr ?_
  refine s_val (some 4) (.pointer (some ⟨p, 0, none⟩)) (fun w => by kernel_rfl) kr ?_
  refine s_load1 H0 (some 5) 87 (.tmp 4) 1 p 0 #[.pointer none, .slice (some ⟨b, 0, none⟩) n cap] 90 (0, 0) (.pointer none) kr kr kr kr kr kr ?_
  refine s_val (some 6) (.bool true) (fun w => by kernel_rfl) kr ?_
  refine s_nil ?_
  refine g_cond_t kr kr ?_
  refine g_reg0 [0, 1, 2, 3, 4, 5, 6, 7] kr ?_
  refine s_val (some 7) (.pointer (some ⟨p, 0, none⟩)) (fun w => by kernel_rfl) kr ?_
  refine s_val (some 8) (.pointer (some ⟨p, 0, none⟩)) (fun w => by kernel_rfl) kr ?_
  refine s_toU H0 (some 9) 87 152 90 (.tmp 8) 1 p #[.pointer none, .slice (some ⟨b, 0, none⟩) n cap] 90 kr kr kr kr kr kr kr (by show 0 < 2; omega) ?_
  refine s_val (some 10) (.pointer (some ⟨p, 0, none⟩)) (fun w => by kernel_rfl) kr ?_
  refine s_fromU H0 (some 11) 152 87 90 (.tmp 10) 1 p #[.pointer none, .slice (some ⟨b, 0, none⟩) n cap] 90 kr kr kr kr kr kr kr kr ?_
  refine s_val (some 12) (.pointer (some ⟨p, 0, none⟩)) (fun w => by kernel_rfl) kr ?_
  refine s_val (some 13) (.pointer (some ⟨p, 0, none⟩)) (fun w => by kernel_rfl) kr ?_
  refine s_store H0 1 ([(b, Obj.cells cur 5 (0, 0)), (p, Obj.cells #[.pointer (some ⟨p, 0, none⟩), .slice (some ⟨b, 0, none⟩) n cap] 90 (0, 0))] ++ L) 87 (.tmp 13) (.tmp 11) p (0) #[.pointer none, .slice (some ⟨b, 0, none⟩) n cap] #[.pointer (some ⟨p, 0, none⟩), .slice (some ⟨b, 0, none⟩) n cap] 90 (.pointer (some ⟨p, 0, none⟩)) kr kr kr kr kr kr (of_decide_eq_true kr) kr kr ?_
  intro w1 H1; clear H0
  refine s_nil ?_
  show ∃ vs, Res _ _ _ _ vs ∧ _
  exact ⟨[], .nil, rfl, _, (BE.row (some ⟨p, 0, none⟩) b n cap cur out (Or.inr rfl) hn hr), H1⟩
set_option maxRecDepth 100000 in
set_option maxHeartbeats 2000000 in
theorem copyCheck_row_self  (p : Nat) (b n cap : Nat) (cur : Array Value) (out : List UInt8) (hn : n = out.length) (hr : Rw 1 cur cap n (cellsB out)) (w0 w : World) (L : List (Nat × Obj)) (H0 : St w0.heap.size w0 w ([(b, Obj.cells cur 5 (0, 0)), (p, Obj.cells #[.pointer (some ⟨p, 0, none⟩), .slice (some ⟨b, 0, none⟩) n cap] 90 (0, 0))] ++ L)) : WP Tryz.prog 20 (codeOf Tryz.f94) (ends Tryz.prog [] fun v' w' => v' = .tuple #[] ∧ ∃ E', BE p 90 5 out E' ∧ St w0.heap.size w0 w' (E' ++ L)) (ini #[.pointer (some ⟨p, 0, none⟩)]) w := by
  refine g_sreg [0, 1, 2, 3, 4] kr kr ?_
  refine s_val (some 2) (.pointer (some ⟨p, 0, none⟩)) (fun w => by kernel_rfl) kr ?_
  refine s_val (some 3) (.pointer (some ⟨p, 0, none⟩)) (fun w => by kernel_rfl) kr ?_
  refine s_val (some 4) (.pointer (some ⟨p, 0, none⟩)) (fun w => by kernel_rfl) kr ?_
  refine s_load1 H0 (some 5) 87 (.tmp 4) 1 p 0 #[.pointer (some ⟨p, 0, none⟩), .slice (some ⟨b, 0, none⟩) n cap] 90 (0, 0) (.pointer (some ⟨p, 0, none⟩)) kr kr kr kr kr kr ?_
  refine s_val (some 6) (.bool false) (fun w => by kernel_rfl) kr ?_
  refine s_nil ?_
  refine g_cond_f kr kr ?_
  refine g_sreg [0, 1, 2, 3, 4, 5] kr kr ?_
  refine s_val (some 14) (.pointer (some ⟨p, 0, none⟩)) (fun w => by kernel_rfl) kr ?_
  refine s_val (some 15) (.pointer (some ⟨p, 0, none⟩)) (fun w => by kernel_rfl) kr ?_
  refine s_val (some 16) (.pointer (some ⟨p, 0, none⟩)) (fun w => by kernel_rfl) kr ?_
  refine s_load1 H0 (some 17) 87 (.tmp 16) 1 p 0 #[.pointer (some ⟨p, 0, none⟩), .slice (some ⟨b, 0, none⟩) n cap] 90 (0, 0) (.pointer (some ⟨p, 0, none⟩)) kr kr kr kr kr kr ?_
  refine s_val (some 18) (.pointer (some ⟨p, 0, none⟩)) (fun w => by kernel_rfl) kr ?_
  refine s_op (some 19) _ (.bool false) kr kr (fun o w ho => neqP_run (t := 87) (tp := 90) (t' := 87) kr kr (x := (.tmp 17)) (y := (.tmp 18)) ⟨p, 0, none⟩ ho kr kr w) ?_
  refine s_nil ?_
  refine g_cond_f kr kr ?_
  refine g_skip kr ?_
  show ∃ vs, Res _ _ _ _ vs ∧ _
  exact ⟨[], .nil, rfl, _, (BE.row (some ⟨p, 0, none⟩) b n cap cur out (Or.inr rfl) hn hr), H0⟩
theorem copyCheck_fn (p : Nat) (out : List UInt8) : FnB Tryz.prog 94 #[.pointer (some ⟨p, 0, none⟩)] (.tuple #[]) p 90 5 out out (fun _ => True) :=
  FnB.intro (c := codeOf Tryz.f94) [] 20 Tryz.func94 kr kr kr fun w0 w L E hE _ HS => by
    rcases hE with ⟨a, rfl | rfl⟩ | ⟨a, b, n, cap, cur, _, rfl | rfl, hn, hr⟩
    · exact copyCheck_nil_none p w0 w L HS
    · exact copyCheck_nil_self p w0 w L HS
    · exact copyCheck_row_none p b n cap cur out hn hr w0 w L HS
    · exact copyCheck_row_self p b n cap cur out hn hr w0 w L HS
set_option maxRecDepth 100000 in
set_option maxHeartbeats 2000000 in
theorem writeString_fn (p : Nat) (out : List UInt8) (s : ByteArray) (h0 : 0 < s.size ∨ out ≠ []) (hm : out.length + s.size ≤ 140737488355328) : FnB Tryz.prog 75 #[.pointer (some ⟨p, 0, none⟩), .string s] (.tuple #[.int .i64 ((ByteArray.size s : Nat) : Int), .nilIface]) p 90 5 out (out ++ tl s) (fun _ => True) := by
  refine FnB.intro (c := codeOf Tryz.f75) [.tmp 4, .tmp 5] 19 Tryz.func75 kr kr kr fun w0 w L E hE _ HS => ?_
  have H0 : St w0.heap.size w0 w (L ++ E) := HS.perm List.perm_append_comm
  refine g_sreg [0, 1] kr kr ?_
  refine s_val (some 4) (.int .i64 0) (fun w => by kernel_rfl) kr ?_
  refine s_val (some 5) (.nilIface) (fun w => by kernel_rfl) kr ?_
  refine s_nil ?_
  refine g_sreg [0, 1] kr kr ?_
  refine s_val (some 6) (.pointer (some ⟨p, 0, none⟩)) (fun w => by kernel_rfl) kr ?_
  refine s_callB (l := L) H0 hE (some 7) 94 #[.pointer (some ⟨p, 0, none⟩)] (.tuple #[]) out (fun _ => True) (copyCheck_fn p out) trivial kr kr ?_
  intro E1 w1 hE1 H1; clear H0
  rcases hE1 with ⟨a, ha⟩ | ⟨a, b, n, cap, cur, _, ha, hn, hr⟩
  · skip
    have h0' : 0 < ByteArray.size s := h0.resolve_right (fun h => h rfl)
    simp only [List.length_nil] at hm
    have HP : St w0.heap.size w0 w1 ([(p, Obj.cells #[.pointer a, .slice none 0 0] 90 (0, 0))] ++ L) := H1.perm List.perm_append_comm
    refine s_nil ?_
    refine g_sreg [0, 1, 2, 3, 4, 5, 6, 7, 8, 9] kr kr ?_
    refine s_val (some 8) (.pointer (some ⟨p, 0, none⟩)) (fun w => by kernel_rfl) kr ?_
    refine s_val (some 9) (.pointer (some ⟨p, 0, none⟩)) (fun w => by kernel_rfl) kr ?_
    refine s_val (some 10) (.pointer (some ⟨p, 0, none⟩)) (fun w => by kernel_rfl) kr ?_
    refine s_val (some 11) (.pointer (some ⟨p, 1, none⟩)) (fun w => by kernel_rfl) kr ?_
    refine s_load1 HP (some 12) 88 (.tmp 11) 0 p 1 #[.pointer a, .slice none 0 0] 90 (0, 0) (.slice none 0 0) kr kr kr kr kr kr ?_
    refine s_val (some 13) (.string s) (fun w => by kernel_rfl) kr ?_
    refine s_appendStrNil HP (some 14) 88 9 5 (.tmp 12) (.tmp 13) s kr kr kr kr kr kr (by omega) (by omega) ?_
    intro b_1 cap_2 cur_3 w2 H2 hr_4; clear HP
    refine s_val (some 15) (.pointer (some ⟨p, 0, none⟩)) (fun w => by kernel_rfl) kr ?_
    refine s_val (some 16) (.pointer (some ⟨p, 1, none⟩)) (fun w => by kernel_rfl) kr ?_
    refine s_store H2 1 ([(b_1, Obj.cells cur_3 5 (0, 0)), (p, Obj.cells #[.pointer a, .slice (some ⟨b_1, 0, none⟩) (ByteArray.size s) cap_2] 90 (0, 0))] ++ L) 88 (.tmp 16) (.tmp 14) p (1) #[.pointer a, .slice none 0 0] #[.pointer a, .slice (some ⟨b_1, 0, none⟩) (ByteArray.size s) cap_2] 90 (.slice (some ⟨b_1, 0, none⟩) (ByteArray.size s) cap_2) kr kr kr kr kr kr (of_decide_eq_true kr) kr kr ?_
    intro w3 H3; clear H2
    refine s_nil ?_
    refine g_sreg [0, 1, 2, 3] kr kr ?_
    refine s_val (some 17) (.string s) (fun w => by kernel_rfl) kr ?_
    refine s_val (some 18) (.int .i64 ((ByteArray.size s : Nat) : Int)) (fun w => by kernel_rfl) kr ?_
    refine s_val (some 4) (.int .i64 ((ByteArray.size s : Nat) : Int)) (fun w => by kernel_rfl) kr ?_
    refine s_val (some 5) (.nilIface) (fun w => by kernel_rfl) kr ?_
    refine s_nil ?_
    refine g_ret kr ?_
    show ∃ vs, Res _ _ _ _ vs ∧ _
    exact ⟨[.int .i64 ((ByteArray.size s : Nat) : Int), .nilIface], (.tmp (.int .i64 ((ByteArray.size s : Nat) : Int)) kr (.tmp (.nilIface) kr .nil)), rfl, _, (BE.row a b_1 (ByteArray.size s) cap_2 cur_3 (tl s) ha rfl hr_4), H3⟩
  · skip
    have HP : St w0.heap.size w0 w1 ([(b, Obj.cells cur 5 (0, 0)), (p, Obj.cells #[.pointer a, .slice (some ⟨b, 0, none⟩) n cap] 90 (0, 0))] ++ L) := H1.perm List.perm_append_comm
    refine s_nil ?_
    refine g_sreg [0, 1, 2, 3, 4, 5, 6, 7, 8, 9] kr kr ?_
    refine s_val (some 8) (.pointer (some ⟨p, 0, none⟩)) (fun w => by kernel_rfl) kr ?_
    refine s_val (some 9) (.pointer (some ⟨p, 0, none⟩)) (fun w => by kernel_rfl) kr ?_
    refine s_val (some 10) (.pointer (some ⟨p, 0, none⟩)) (fun w => by kernel_rfl) kr ?_
    refine s_val (some 11) (.pointer (some ⟨p, 1, none⟩)) (fun w => by kernel_rfl) kr ?_
    refine s_load1 HP (some 12) 88 (.tmp 11) 1 p 1 #[.pointer a, .slice (some ⟨b, 0, none⟩) n cap] 90 (0, 0) (.slice (some ⟨b, 0, none⟩) n cap) kr kr kr kr kr kr ?_
    refine s_val (some 13) (.string s) (fun w => by kernel_rfl) kr ?_
    refine s_appendStr HP (some 14) 88 9 5 (.tmp 12) (.tmp 13) 0 b n cap cur out s (fun b_5 cur_7 => ([(b_5, Obj.cells cur_7 5 (0, 0)), (p, Obj.cells #[.pointer a, .slice (some ⟨b, 0, none⟩) n cap] 90 (0, 0))] ++ L)) kr kr kr kr kr kr hr kr (by omega) (fun _ _ => by kernel_rfl) ?_
    intro b_5 cap_6 cur_7 w4 H4 hr_8; clear HP
    refine s_val (some 15) (.pointer (some ⟨p, 0, none⟩)) (fun w => by kernel_rfl) kr ?_
    refine s_val (some 16) (.pointer (some ⟨p, 1, none⟩)) (fun w => by kernel_rfl) kr ?_
    refine s_store H4 1 ([(b_5, Obj.cells cur_7 5 (0, 0)), (p, Obj.cells #[.pointer a, .slice (some ⟨b_5, 0, none⟩) (n + ByteArray.size s) cap_6] 90 (0, 0))] ++ L) 88 (.tmp 16) (.tmp 14) p (1) #[.pointer a, .slice (some ⟨b, 0, none⟩) n cap] #[.pointer a, .slice (some ⟨b_5, 0, none⟩) (n + ByteArray.size s) cap_6] 90 (.slice (some ⟨b_5, 0, none⟩) (n + ByteArray.size s) cap_6) kr kr kr kr kr kr (of_decide_eq_true kr) kr kr ?_
    intro w5 H5; clear H4
    refine s_nil ?_
    refine g_sreg [0, 1, 2, 3] kr kr ?_
    refine s_val (some 17) (.string s) (fun w => by kernel_rfl) kr ?_
    refine s_val (some 18) (.int .i64 ((ByteArray.size s : Nat) : Int)) (fun w => by kernel_rfl) kr ?_
    refine s_val (some 4) (.int .i64 ((ByteArray.size s : Nat) : Int)) (fun w => by kernel_rfl) kr ?_
    refine s_val (some 5) (.nilIface) (fun w => by kernel_rfl) kr ?_
    refine s_nil ?_
    refine g_ret kr ?_
    show ∃ vs, Res _ _ _ _ vs ∧ _
    exact ⟨[.int .i64 ((ByteArray.size s : Nat) : Int), .nilIface], (.tmp (.int .i64 ((ByteArray.size s : Nat) : Int)) kr (.tmp (.nilIface) kr .nil)), rfl, _, (BE.row a b_5 (n + ByteArray.size s) cap_6 cur_7 (out ++ tl s) ha (by rw [List.length_append, tl_len, hn]) hr_8), H5⟩
end Go.Proofs.YtlhfgbjhngkicaaGreatDoor

namespace Go.Proofs.YtlhfgbjhngkicaaGreatDoor
open Go Go.RowKit
set_option linter.unusedVariables false
set_option maxRecDepth 100000 in
set_option maxHeartbeats 2000000 in
theorem write_step (pb m : Nat) (ih : ∀ (out : List UInt8) (l : Bool) (s : ByteArray) (p : Option Addr) (n c : Nat) (k : Fo), s.size ≤ 140737488355328 → List.length out + 9 + ByteArray.size s + wtF k ≤ 140737488355328 → k.cnt < m → FnB0 Tryz.prog 49 #[.pointer (some ⟨pb, 0, none⟩), .agg #[.bool l, .string s, .slice p n c]] (.tuple #[]) pb 90 5 out (out ++ wr1 l s (szF k) (wrF k)) (fun w => SlAt w.heap.size w p n k)) (out : List UInt8) (l : Bool) (s : ByteArray) (p : Option Addr) (n c : Nat) (k : Fo) (hs : s.size ≤ 140737488355328) (hw : List.length out + 9 + ByteArray.size s + wtF k ≤ 140737488355328) (hkm : k.cnt < m + 1) : FnB0 Tryz.prog 49 #[.pointer (some ⟨pb, 0, none⟩), .agg #[.bool l, .string s, .slice p n c]] (.tuple #[]) pb 90 5 out (out ++ wr1 l s (szF k) (wrF k)) (fun w => SlAt w.heap.size w p n k) := by
  refine FnB0.intro (c := codeOf Tryz.f49) [] 31 Tryz.func49 kr kr kr fun w0 w E0 hE0 hpre H0 => ?_
  have hn := hpre.1
  have hnm := hpre.2.1
  refine g_sreg [0] kr kr ?_
  refine s_box H0 (some 3) 68 (.tmp 1) (.agg #[.bool l, .string s, .slice p n c]) kr kr kr ?_
  intro b1 w1 H1; clear H0
  refine s_nil ?_
  refine g_seq kr ?_
  refine g_sreg [0, 1, 2, 3] kr kr ?_
  refine s_val (some 6) (.pointer (some ⟨b1, 1, none⟩)) (fun w => by kernel_rfl) kr ?_
  refine s_load1 H1 (some 7) 9 (.tmp 6) 0 b1 1 #[.bool l, .string s, .slice p n c] 68 (0, 0) (.string s) kr kr kr kr kr kr ?_
  refine s_call H1 (some 8) 72 #[.string s] (.bool (single s)) (single_fn s) (fun w => by kernel_rfl) kr ?_
  intro w2 H2; clear H1
  cases hq1 : single s
  · skip
    refine s_val (some 9) (.bool true) (fun w => by kernel_rfl) kr ?_
    refine s_nil ?_
    refine g_cond_t kr kr ?_
    have hsl := szF_le k
    have hhl := hd_len (frm l) (ByteArray.size s + szF k)
    refine D2.g_draw0 [0, 1, 2, 3, 4, 5] [(some 10, fun _ => .pointer (some ⟨pb, 0, none⟩)), (some 11, fun _ => .agg #[.bool l, .string s, .slice p n c]), (some 12, fun _ => .agg #[.bool l, .string s, .slice p n c]), (some 13, fun _ => .int .u64 ((ByteArray.size s + szF k : Nat) : Int)), (some 14, fun _ => .string (strB (hd (frm l) (ByteArray.size s + szF k)))), (some 15, fun _ => .tuple #[.int .i64 ((ByteArray.size (strB (hd (frm l) (ByteArray.size s + szF k))) : Nat) : Int), .nilIface])] (PreB w0 pb 90 5 (out ++ tl (strB (hd (frm l) (ByteArray.size s + szF k)))) (b1, Obj.cells #[.bool l, .string s, .slice p n c] 68 (0, 0)) E0 5) kr kr kr H2.drew ⟨?_, ?_, ?_, ?_, ?_, ?_, trivial⟩ ?_
    · exact gvB_val rfl (fun g w => by kernel_rfl)
    · exact gvB_load (C := #[.bool l, .string s, .slice p n c]) (T' := 68) (t := 68) (x := (.tmp 3)) rfl (fun g => by kernel_rfl) (fun g => by kernel_rfl) rfl kr
    · exact gvB_load (C := #[.bool l, .string s, .slice p n c]) (T' := 68) (t := 68) (x := (.tmp 3)) rfl (fun g => by kernel_rfl) (fun g => by kernel_rfl) rfl kr
    · exact gvB_callP (f := 73) (args := #[.agg #[.bool l, .string s, .slice p n c]]) rfl (inside_fn l s p n c k hs (by omega)) (fun w hb => SlAt.call hpre hb) (fun g w => by kernel_rfl)
    · exact gvB_call (f := 74) (args := #[.agg #[.bool l, .string s, .slice p n c], .int .u64 ((ByteArray.size s + szF k : Nat) : Int)]) rfl (head_fn l s p n c (ByteArray.size s + szF k) (by omega)) (fun g w => by kernel_rfl)
    · exact gvB_eff (f := 75) (args := #[.pointer (some ⟨pb, 0, none⟩), .string (strB (hd (frm l) (ByteArray.size s + szF k)))]) rfl hE0 (writeString_fn pb out (strB (hd (frm l) (ByteArray.size s + szF k))) (Or.inl (by rw [strB_size]; exact hhl.1)) (by rw [strB_size]; omega)) (fun g w => by kernel_rfl)
    intro L0 G0 w3 hall HL; clear H2
    obtain ⟨E1, hE1, H3⟩ := HL.done (hall 5 (Nat.le_of_ble_eq_true kr))
    show WP _ _ _ _ _ _
    refine g_sreg [0, 1, 2, 3] kr kr ?_
    have hl0 : (out ++ tl (strB (hd (frm l) (ByteArray.size s + szF k)))).length = out.length + (hd (frm l) (ByteArray.size s + szF k)).length := by rw [List.length_append, tl_strB]
    have hw1 : out ++ wr1 l s (szF k) (wrF k) = (out ++ tl (strB (hd (frm l) (ByteArray.size s + szF k))) ++ tl s) ++ wrF k := by unfold wr1; rw [if_neg (by rw [hq1]; decide), tl_strB]; simp only [List.append_assoc]
    have hl1 : (out ++ tl (strB (hd (frm l) (ByteArray.size s + szF k))) ++ tl s).length = out.length + (hd (frm l) (ByteArray.size s + szF k)).length + ByteArray.size s := by rw [List.length_append, hl0, tl_len]
    refine s_val (some 16) (.pointer (some ⟨pb, 0, none⟩)) (fun w => by kernel_rfl) kr ?_
    refine s_val (some 17) (.pointer (some ⟨b1, 1, none⟩)) (fun w => by kernel_rfl) kr ?_
    refine s_load1 H3 (some 18) 9 (.tmp 17) 0 b1 1 #[.bool l, .string s, .slice p n c] 68 (0, 0) (.string s) kr kr kr kr kr kr ?_
    refine s_callB (l := [(b1, Obj.cells #[.bool l, .string s, .slice p n c] 68 (0, 0))]) H3 hE1 (some 19) 75 #[.pointer (some ⟨pb, 0, none⟩), .string s] (.tuple #[.int .i64 ((ByteArray.size s : Nat) : Int), .nilIface]) ((out ++ tl (strB (hd (frm l) (ByteArray.size s + szF k)))) ++ tl s) (fun _ => True) (writeString_fn pb (out ++ tl (strB (hd (frm l) (ByteArray.size s + szF k)))) s (Or.inr (by intro q; have h9 := congrArg List.length q; rw [hl0] at h9; simp only [List.length_nil] at h9; omega)) (by rw [hl0]; omega)) trivial kr kr ?_
    intro E2 w4 hE2 H4; clear H3
    refine s_nil ?_
    refine g_sreg [0, 1, 2, 3] kr kr ?_
    refine s_val (some 20) (.pointer (some ⟨b1, 2, none⟩)) (fun w => by kernel_rfl) kr ?_
    refine s_load1 H4 (some 21) 66 (.tmp 20) 0 b1 2 #[.bool l, .string s, .slice p n c] 68 (0, 0) (.slice p n c) kr kr kr kr kr kr ?_
    refine s_val (some 22) (.int .i64 ((n : Nat) : Int)) (fun w => by kernel_rfl) kr ?_
    refine s_val (some 23) (.int .i64 0) (fun w => by kernel_rfl) kr ?_
    refine s_nil ?_
    refine g_block 0 kr ?_
    have HD1 : St w0.heap.size w0 w4 ([] ++ E2) := H4.sub (List.Sublist.cons _ (List.Sublist.refl E2))
    refine g_loop kr (fun mz ρ ww => ∃ (i : Nat) (r : Fo) (o : List UInt8) (Ez : List (Nat × Obj)), n - i = mz ∧ (FoR w0.heap.size w0 p i r) ∧ (i + Fo.len r = n) ∧ (Fo.cnt r ≤ Fo.cnt k) ∧ (List.length o + wtF r ≤ 140737488355328) ∧ (out ++ wr1 l s (szF k) (wrF k) = o ++ wrF r) ∧ (BE pb 90 5 o Ez) ∧ St w0.heap.size w0 ww ([] ++ Ez) ∧ Is [(0, .pointer (some ⟨pb, 0, none⟩)), (1, .agg #[.bool l, .string s, .slice p n c]), (3, .pointer (some ⟨b1, 0, none⟩)), (9, .bool true), (21, .slice p n c), (22, .int .i64 ((n : Nat) : Int)), (23, .int .i64 ((i : Nat) : Int))] ρ) (n - 0) ⟨0, k, ((out ++ tl (strB (hd (frm l) (ByteArray.size s + szF k)))) ++ tl s), E2, rfl, (SlAt.start hpre), (by have hn0 := (hpre).1; omega), (Nat.le_refl _), (by rw [hl1]; omega), hw1, hE2, HD1, (Is.of ⟨kr, kr, kr, kr, kr, kr, kr, trivial⟩)⟩ ?_
    clear HD1
    rintro _ _ w5 ⟨i, r, o, Ez, rfl, hR, hN, hcn, hwt, hout, hEz, H5, _, rfl⟩
    refine g_sreg [0] kr kr ?_
    by_cases hc2 : (i : Nat) < n
    · skip
      refine s_valE (some 24) (.bool (decide (((i : Nat) : Int) < ((n : Nat) : Int)))) (.bool true) (fun w => by kernel_rfl) (bool_eq (decide_eq_true (by omega))) kr ?_
      refine s_nil ?_
      refine g_seq kr ?_
      refine g_cond_t kr kr ?_
      refine g_skip kr ?_
      show WP _ _ _ _ _ _
      refine g_seq kr ?_
      refine g_block 1 kr ?_
      refine g_sreg [0, 1, 2, 3] kr kr ?_
      obtain ⟨l1, s1, k1, r1, b1, off1, C1, T1, fz1, p1, n1, c1, hr1, hp1, hb1, hh1, hs1, hx1, hz1, hk1, hR1, hN1⟩ := FoR.open hR hN (by omega)
      refine s_op (some 25) _ (.pointer (some ⟨b1, off1 + i * 3, none⟩)) kr kr (fun o w ho => idxO_run (kd := .i64) (t := 66) (e := 68) (bytes := 48) kr (x := (.tmp 21)) (y := (.tmp 23)) b1 off1 n c i hp1 ho kr kr (by omega) w) ?_
      refine s_loadpF H5 (some 26) 68 (.tmp 25) b1 (off1 + i * 3) 3 C1 #[.bool l1, .string s1, .slice p1 n1 c1] T1 fz1 kr kr kr hh1 hb1 kr hs1 hx1 ?_
      refine s_alloc H5 (some 5) 68 (.agg #[.bool false, .string (⟨#[]⟩), .slice none 0 0]) kr kr kr ?_
      intro b2 w6 H6; clear H5
      refine s_store H6 0 ([(b2, Obj.cells #[.bool l1, .string s1, .slice p1 n1 c1] 68 (0, 0))] ++ Ez) 68 (.tmp 5) (.tmp 26) b2 (0) (#[.bool false, .string (⟨#[]⟩), .slice none 0 0]) #[.bool l1, .string s1, .slice p1 n1 c1] 68 (.agg #[.bool l1, .string s1, .slice p1 n1 c1]) kr kr kr kr kr kr (of_decide_eq_true kr) kr kr ?_
      intro w7 H7; clear H6
      refine s_nil ?_
      refine g_reg0 [0, 1, 2] kr ?_
      have hcn1 := hcn
      rw [hr1] at hcn1
      simp only [Fo.cnt] at hcn1
      have hwt1 := hwt
      rw [hr1] at hwt1
      simp only [wtF] at hwt1
      have hwl1 : (wr1 l1 s1 (szF k1) (wrF k1)).length ≤ 9 + ByteArray.size s1 + wtF k1 := by have h9 := wrF_len (.cons l1 s1 k1 .nil); simp only [wrF, wtF, List.append_nil, Nat.add_zero] at h9; exact h9
      refine s_val (some 27) (.pointer (some ⟨pb, 0, none⟩)) (fun w => by kernel_rfl) kr ?_
      refine s_load H7 (some 28) 68 (.tmp 5) 0 b2 #[.bool l1, .string s1, .slice p1 n1 c1] 68 (0, 0) kr kr kr kr kr ?_
      have HD3 : St w0.heap.size w0 w7 ([] ++ Ez) := H7.sub (List.Sublist.cons _ (List.Sublist.refl Ez))
      refine s_callB0 HD3 hEz (some 29) 49 #[.pointer (some ⟨pb, 0, none⟩), .agg #[.bool l1, .string s1, .slice p1 n1 c1]] (.tuple #[]) (o ++ wr1 l1 s1 (szF k1) (wrF k1)) (fun w => SlAt w.heap.size w p1 n1 k1) (ih o l1 s1 p1 n1 c1 k1 hz1 (by omega) (by omega)) hk1 kr kr ?_
      intro E3 w8 hE3 H8; clear HD3
      refine s_nil ?_
      show WP _ _ _ _ _ _
      refine g_reg0 [0, 1] kr ?_
      refine s_valE (some 30) (.int .i64 (IntKind.i64.wrap (((i : Nat) : Int) + 1))) (.int .i64 ((i + 1 : Nat) : Int)) (fun w => by kernel_rfl) (int_eq (wrapAdd_i64 (a := i) (b := 1) (by omega))) kr ?_
      refine s_val (some 23) (.int .i64 ((i + 1 : Nat) : Int)) (fun w => by kernel_rfl) kr ?_
      refine s_nil ?_
      show ∃ m, _ ∧ _
      exact ⟨_, (by omega), (i + 1), r1, (o ++ wr1 l1 s1 (szF k1) (wrF k1)), E3, rfl, hR1, hN1, (by omega), (by rw [List.length_append]; omega), (by rw [hout, hr1]; simp only [wrF, List.append_assoc]), hE3, H8, (Is.of ⟨kr, kr, kr, kr, kr, kr, kr, trivial⟩)⟩
    · skip
      refine s_valE (some 24) (.bool (decide (((i : Nat) : Int) < ((n : Nat) : Int)))) (.bool false) (fun w => by kernel_rfl) (bool_eq (decide_eq_false (by omega))) kr ?_
      refine s_nil ?_
      refine g_seq kr ?_
      refine g_cond_f kr kr ?_
      refine g_exit 0 kr ?_
      show ∃ vs, Res _ _ _ _ vs ∧ _
      have hdn := FoR.done hN (by omega)
      rw [hdn] at hout
      exact ⟨[], .nil, rfl, _, (by rw [hout, show wrF Fo.nil = [] from rfl, List.append_nil]; exact hEz), H5⟩
  · skip
    refine s_val (some 9) (.bool false) (fun w => by kernel_rfl) kr ?_
    refine s_nil ?_
    refine g_cond_f kr kr ?_
    refine g_skip kr ?_
    show WP _ _ _ _ _ _
    refine g_sreg [0, 1, 2, 3] kr kr ?_
    have hsz1 := single_size hq1
    have hw1 : out ++ wr1 l s (szF k) (wrF k) = (out ++ tl s) ++ wrF k := by unfold wr1; rw [if_pos hq1, List.nil_append, List.append_assoc]
    have hl1 : (out ++ tl s).length = out.length + ByteArray.size s := by rw [List.length_append, tl_len]
    refine s_val (some 16) (.pointer (some ⟨pb, 0, none⟩)) (fun w => by kernel_rfl) kr ?_
    refine s_val (some 17) (.pointer (some ⟨b1, 1, none⟩)) (fun w => by kernel_rfl) kr ?_
    refine s_load1 H2 (some 18) 9 (.tmp 17) 0 b1 1 #[.bool l, .string s, .slice p n c] 68 (0, 0) (.string s) kr kr kr kr kr kr ?_
    refine s_callB (l := [(b1, Obj.cells #[.bool l, .string s, .slice p n c] 68 (0, 0))]) H2 hE0 (some 19) 75 #[.pointer (some ⟨pb, 0, none⟩), .string s] (.tuple #[.int .i64 ((ByteArray.size s : Nat) : Int), .nilIface]) (out ++ tl s) (fun _ => True) (writeString_fn pb out s (Or.inl (by omega)) (by omega)) trivial kr kr ?_
    intro E4 w9 hE4 H9; clear H2
    refine s_nil ?_
    refine g_sreg [0, 1, 2, 3] kr kr ?_
    refine s_val (some 20) (.pointer (some ⟨b1, 2, none⟩)) (fun w => by kernel_rfl) kr ?_
    refine s_load1 H9 (some 21) 66 (.tmp 20) 0 b1 2 #[.bool l, .string s, .slice p n c] 68 (0, 0) (.slice p n c) kr kr kr kr kr kr ?_
    refine s_val (some 22) (.int .i64 ((n : Nat) : Int)) (fun w => by kernel_rfl) kr ?_
    refine s_val (some 23) (.int .i64 0) (fun w => by kernel_rfl) kr ?_
    refine s_nil ?_
    refine g_block 0 kr ?_
    have HD4 : St w0.heap.size w0 w9 ([] ++ E4) := H9.sub (List.Sublist.cons _ (List.Sublist.refl E4))
    refine g_loop kr (fun mz ρ ww => ∃ (i : Nat) (r : Fo) (o : List UInt8) (Ez : List (Nat × Obj)), n - i = mz ∧ (FoR w0.heap.size w0 p i r) ∧ (i + Fo.len r = n) ∧ (Fo.cnt r ≤ Fo.cnt k) ∧ (List.length o + wtF r ≤ 140737488355328) ∧ (out ++ wr1 l s (szF k) (wrF k) = o ++ wrF r) ∧ (BE pb 90 5 o Ez) ∧ St w0.heap.size w0 ww ([] ++ Ez) ∧ Is [(0, .pointer (some ⟨pb, 0, none⟩)), (1, .agg #[.bool l, .string s, .slice p n c]), (3, .pointer (some ⟨b1, 0, none⟩)), (9, .bool false), (21, .slice p n c), (22, .int .i64 ((n : Nat) : Int)), (23, .int .i64 ((i : Nat) : Int))] ρ) (n - 0) ⟨0, k, (out ++ tl s), E4, rfl, (SlAt.start hpre), (by have hn0 := (hpre).1; omega), (Nat.le_refl _), (by rw [hl1]; omega), hw1, hE4, HD4, (Is.of ⟨kr, kr, kr, kr, kr, kr, kr, trivial⟩)⟩ ?_
    clear HD4
    rintro _ _ w10 ⟨i, r, o, Ez, rfl, hR, hN, hcn, hwt, hout, hEz, H10, _, rfl⟩
    refine g_sreg [0] kr kr ?_
    by_cases hc5 : (i : Nat) < n
    · skip
      refine s_valE (some 24) (.bool (decide (((i : Nat) : Int) < ((n : Nat) : Int)))) (.bool true) (fun w => by kernel_rfl) (bool_eq (decide_eq_true (by omega))) kr ?_
      refine s_nil ?_
      refine g_seq kr ?_
      refine g_cond_t kr kr ?_
      refine g_skip kr ?_
      show WP _ _ _ _ _ _
      refine g_seq kr ?_
      refine g_block 1 kr ?_
      refine g_sreg [0, 1, 2, 3] kr kr ?_
      obtain ⟨l2, s2, k2, r2, b2, off2, C2, T2, fz2, p2, n2, c2, hr2, hp2, hb2, hh2, hs2, hx2, hz2, hk2, hR2, hN2⟩ := FoR.open hR hN (by omega)
      refine s_op (some 25) _ (.pointer (some ⟨b2, off2 + i * 3, none⟩)) kr kr (fun o w ho => idxO_run (kd := .i64) (t := 66) (e := 68) (bytes := 48) kr (x := (.tmp 21)) (y := (.tmp 23)) b2 off2 n c i hp2 ho kr kr (by omega) w) ?_
      refine s_loadpF H10 (some 26) 68 (.tmp 25) b2 (off2 + i * 3) 3 C2 #[.bool l2, .string s2, .slice p2 n2 c2] T2 fz2 kr kr kr hh2 hb2 kr hs2 hx2 ?_
      refine s_alloc H10 (some 5) 68 (.agg #[.bool false, .string (⟨#[]⟩), .slice none 0 0]) kr kr kr ?_
      intro b3 w11 H11; clear H10
      refine s_store H11 0 ([(b3, Obj.cells #[.bool l2, .string s2, .slice p2 n2 c2] 68 (0, 0))] ++ Ez) 68 (.tmp 5) (.tmp 26) b3 (0) (#[.bool false, .string (⟨#[]⟩), .slice none 0 0]) #[.bool l2, .string s2, .slice p2 n2 c2] 68 (.agg #[.bool l2, .string s2, .slice p2 n2 c2]) kr kr kr kr kr kr (of_decide_eq_true kr) kr kr ?_
      intro w12 H12; clear H11
      refine s_nil ?_
      refine g_reg0 [0, 1, 2] kr ?_
      have hcn2 := hcn
      rw [hr2] at hcn2
      simp only [Fo.cnt] at hcn2
      have hwt2 := hwt
      rw [hr2] at hwt2
      simp only [wtF] at hwt2
      have hwl2 : (wr1 l2 s2 (szF k2) (wrF k2)).length ≤ 9 + ByteArray.size s2 + wtF k2 := by have h9 := wrF_len (.cons l2 s2 k2 .nil); simp only [wrF, wtF, List.append_nil, Nat.add_zero] at h9; exact h9
      refine s_val (some 27) (.pointer (some ⟨pb, 0, none⟩)) (fun w => by kernel_rfl) kr ?_
      refine s_load H12 (some 28) 68 (.tmp 5) 0 b3 #[.bool l2, .string s2, .slice p2 n2 c2] 68 (0, 0) kr kr kr kr kr ?_
      have HD6 : St w0.heap.size w0 w12 ([] ++ Ez) := H12.sub (List.Sublist.cons _ (List.Sublist.refl Ez))
      refine s_callB0 HD6 hEz (some 29) 49 #[.pointer (some ⟨pb, 0, none⟩), .agg #[.bool l2, .string s2, .slice p2 n2 c2]] (.tuple #[]) (o ++ wr1 l2 s2 (szF k2) (wrF k2)) (fun w => SlAt w.heap.size w p2 n2 k2) (ih o l2 s2 p2 n2 c2 k2 hz2 (by omega) (by omega)) hk2 kr kr ?_
      intro E5 w13 hE5 H13; clear HD6
      refine s_nil ?_
      show WP _ _ _ _ _ _
      refine g_reg0 [0, 1] kr ?_
      refine s_valE (some 30) (.int .i64 (IntKind.i64.wrap (((i : Nat) : Int) + 1))) (.int .i64 ((i + 1 : Nat) : Int)) (fun w => by kernel_rfl) (int_eq (wrapAdd_i64 (a := i) (b := 1) (by omega))) kr ?_
      refine s_val (some 23) (.int .i64 ((i + 1 : Nat) : Int)) (fun w => by kernel_rfl) kr ?_
      refine s_nil ?_
      show ∃ m, _ ∧ _
      exact ⟨_, (by omega), (i + 1), r2, (o ++ wr1 l2 s2 (szF k2) (wrF k2)), E5, rfl, hR2, hN2, (by omega), (by rw [List.length_append]; omega), (by rw [hout, hr2]; simp only [wrF, List.append_assoc]), hE5, H13, (Is.of ⟨kr, kr, kr, kr, kr, kr, kr, trivial⟩)⟩
    · skip
      refine s_valE (some 24) (.bool (decide (((i : Nat) : Int) < ((n : Nat) : Int)))) (.bool false) (fun w => by kernel_rfl) (bool_eq (decide_eq_false (by omega))) kr ?_
      refine s_nil ?_
      refine g_seq kr ?_
      refine g_cond_f kr kr ?_
      refine g_exit 0 kr ?_
      show ∃ vs, Res _ _ _ _ vs ∧ _
      have hdn := FoR.done hN (by omega)
      rw [hdn] at hout
      exact ⟨[], .nil, rfl, _, (by rw [hout, show wrF Fo.nil = [] from rfl, List.append_nil]; exact hEz), H10⟩
theorem write_fn (pb : Nat) (out : List UInt8) (l : Bool) (s : ByteArray) (p : Option Addr) (n c : Nat) (k : Fo) (hs : s.size ≤ 140737488355328) (hw : List.length out + 9 + ByteArray.size s + wtF k ≤ 140737488355328) : FnB0 Tryz.prog 49 #[.pointer (some ⟨pb, 0, none⟩), .agg #[.bool l, .string s, .slice p n c]] (.tuple #[]) pb 90 5 out (out ++ wr1 l s (szF k) (wrF k)) (fun w => SlAt w.heap.size w p n k) := by
  have key : ∀ (m : Nat) (out : List UInt8) (l : Bool) (s : ByteArray) (p : Option Addr) (n c : Nat) (k : Fo), s.size ≤ 140737488355328 → List.length out + 9 + ByteArray.size s + wtF k ≤ 140737488355328 → k.cnt < m → FnB0 Tryz.prog 49 #[.pointer (some ⟨pb, 0, none⟩), .agg #[.bool l, .string s, .slice p n c]] (.tuple #[]) pb 90 5 out (out ++ wr1 l s (szF k) (wrF k)) (fun w => SlAt w.heap.size w p n k) := by
    intro m
    induction m with
    | zero => intros; omega
    | succ m ih => intro out l s p n c k hs hw hkm; exact write_step pb m ih out l s p n c k hs hw hkm
  exact key (k.cnt + 1) out l s p n c k hs hw (by omega)
end Go.Proofs.YtlhfgbjhngkicaaGreatDoor

namespace Go.Proofs.YtlhfgbjhngkicaaGreatDoor
open Go Go.RowKit
set_option linter.unusedVariables false
/-- A call that reads the builder out. -/
def FnO (P : Program) (f : Nat) (args : Array Value) (v : Value) (p : Nat) (T e : TypeId) (out : List UInt8) : Prop :=
  ∀ (w0 w : World) (E : List (Nat × Obj)), BE p T e out E → St w0.heap.size w0 w E → Calls P f args w fun r w' => r = .returned v ∧ St w0.heap.size w0 w' []
theorem s_callO {P : Program} {N : Nat} {ops : Array Oper} {i : Nat} {r : List Nat} {K : Env → World → Prop} {ρ : Env} {w : World} {w0 : World} {E : List (Nat × Obj)} (HS : St w0.heap.size w0 w E) {p : Nat} {T e : TypeId} {out : List UInt8} (hE : BE p T e out E) (d : Option Nat) (f : Nat) (args : Array Value) (v : Value) (hc : FnO P f args v p T e out)
    (h : opv P ops i ρ w = some (d, true, .ok (.enter f args) w)) (hd : dOK d N = true) (kk : ∀ w', St w0.heap.size w0 w' [] → WPs P N ops K r (updO ρ d v) w') : WPs P N ops K (i :: r) ρ w := by
  obtain ⟨o, ho, rfl, hw, hr⟩ := opv_some h
  refine WPo.run ho hw fun a ha => ?_
  rw [hr, Oper.upon_enter]
  refine (hc w0 w E hE HS).mono ?_
  rintro _ w' ⟨rfl, hS⟩
  exact ⟨_, ha.put _ (dOK_lt hd) v, kk w' hS⟩
set_option maxRecDepth 100000 in
set_option maxHeartbeats 2000000 in
theorem string_st (pb b n cap : Nat) (cur : Array Value) (out : List UInt8) (a : Option Addr) (hn : n = out.length) (hr : Rw 1 cur cap n (cellsB out)) (h0 : 0 < n) (hm : n ≤ 140737488355328) (hcap : cap ≠ 0) (w0 w : World) (H0 : St w0.heap.size w0 w [(b, Obj.cells cur 5 (0, 0)), (pb, Obj.cells #[.pointer a, .slice (some ⟨b, 0, none⟩) n cap] 90 (0, 0))]) : WP Tryz.prog 14 (codeOf Tryz.f50) (ends Tryz.prog [.tmp 2] fun v' w' => v' = .string (strB out) ∧ St w0.heap.size w0 w' []) (ini #[.pointer (some ⟨pb, 0, none⟩)]) w := by
  refine g_sreg [0] kr kr ?_
  refine s_val (some 2) (.string (⟨#[]⟩)) (fun w => by kernel_rfl) kr ?_
  refine s_nil ?_
  refine D2.g_sdraw [0, 1, 2, 3, 4, 5, 6, 7, 8, 9, 10, 11] [(some 3, fun _ => .pointer (some ⟨pb, 0, none⟩)), (some 4, fun _ => .pointer (some ⟨pb, 0, none⟩)), (some 5, fun _ => .pointer (some ⟨pb, 1, none⟩)), (some 6, fun _ => .slice (some ⟨b, 0, none⟩) n cap), (some 7, fun _ => .pointer (some ⟨b, 0, none⟩)), (some 8, fun _ => .pointer (some ⟨pb, 0, none⟩)), (some 9, fun _ => .pointer (some ⟨pb, 0, none⟩)), (some 10, fun _ => .pointer (some ⟨pb, 1, none⟩)), (some 11, fun _ => .slice (some ⟨b, 0, none⟩) n cap), (some 12, fun _ => .int .i64 ((n : Nat) : Int)), (some 13, fun _ => .string (strB out)), (some 2, fun _ => .string (strB out))] (PreS w0 [(b, Obj.cells cur 5 (0, 0)), (pb, Obj.cells #[.pointer a, .slice (some ⟨b, 0, none⟩) n cap] 90 (0, 0))] 10) kr kr kr kr H0.drew ⟨?_, ?_, ?_, ?_, ?_, ?_, ?_, ?_, ?_, ?_, ?_, ?_, trivial⟩ ?_
  · exact gvS_val rfl (fun g w => by kernel_rfl)
  · exact gvS_val rfl (fun g w => by kernel_rfl)
  · exact gvS_val rfl (fun g w => by kernel_rfl)
  · exact gvS_op rfl (fun L hN => (hN.2.2.no 4 10 kr (hN.post 4 kr))) (.load 88 (.tmp 5)) (fun g => by kernel_rfl) (fun g w o hS ho => hS.load1_run (j := 1) (b := pb) (off := 1) (C := #[.pointer a, .slice (some ⟨b, 0, none⟩) n cap]) (T := 90) kr kr kr kr o ho)
  · exact gvS_op rfl (fun L hN => (hN.post 10 kr)) (sliceDataOp 88 (.tmp 6)) (fun g => by kernel_rfl) (fun g w o hS ho => sliceData_run (a := ⟨b, 0, none⟩) (n := n) (c := cap) kr (by omega) o ho)
  · exact gvS_val rfl (fun g w => by kernel_rfl)
  · exact gvS_val rfl (fun g w => by kernel_rfl)
  · exact gvS_val rfl (fun g w => by kernel_rfl)
  · exact gvS_op rfl (fun L hN => (hN.2.2.no 9 10 kr (hN.post 9 kr))) (.load 88 (.tmp 10)) (fun g => by kernel_rfl) (fun g w o hS ho => hS.load1_run (j := 1) (b := pb) (off := 1) (C := #[.pointer a, .slice (some ⟨b, 0, none⟩) n cap]) (T := 90) kr kr kr kr o ho)
  · exact gvS_val rfl (fun g w => by kernel_rfl)
  · exact gvS_eff rfl (unsafeOp 116 3 (.tmp 7) (.tmp 12)) (fun g => by kernel_rfl) (fun g w o hS ho => unsafeStr_run (j := 0) (b := b) (n := n) (cap := cap) (C := cur) (e := 5) hS kr kr kr kr kr hr (by omega) (by omega) o ho)
  · exact gvS_val rfl (fun g w => by kernel_rfl)
  intro L0 G0 w1 hall HL; clear H0
  have H1 : St w0.heap.size w0 w1 [] := by unfold PreS at HL; rw [hall 10 (Nat.le_of_ble_eq_true kr)] at HL; exact HL
  refine g_ret kr ?_
  show ∃ vs, Res _ _ _ _ vs ∧ _
  exact ⟨[.string (strB out)], .tmp _ kr .nil, rfl, H1⟩
theorem string_fn (pb : Nat) (out : List UInt8) (h0 : 0 < out.length) (hm : out.length ≤ 140737488355328) : FnO Tryz.prog 50 #[.pointer (some ⟨pb, 0, none⟩)] (.string (strB out)) pb 90 5 out := fun w0 w E hE HS => by
  rcases hE with ⟨a, ha⟩ | ⟨a, b, n, cap, cur, _, ha, hn, hr⟩
  · simp at h0
  · have h9 : Calls Tryz.prog 50 #[.pointer (some ⟨pb, 0, none⟩)] w fun r w' => ∃ v', r = .returned v' ∧ (v' = .string (strB out) ∧ St w0.heap.size w0 w' []) :=
      calls_intro (c := codeOf Tryz.f50) (rs := [.tmp 2]) (N := 14) Tryz.func50 kr kr kr (string_st pb b n cap cur out a hn hr (by omega) (by omega) (by have := hr.le; omega) w0 w HS)
    refine h9.mono ?_
    rintro _ w' ⟨v', he, hv, hS⟩
    exact ⟨by rw [he, hv], hS⟩
set_option maxRecDepth 100000 in
set_option maxHeartbeats 2000000 in
theorem encode_fn (l : Bool) (s : ByteArray) (p : Option Addr) (n c : Nat) (k : Fo) (hs : s.size ≤ 140737488355328) : FnP Tryz.prog 27 #[.agg #[.bool l, .string s, .slice p n c]] (fun w => SlAt w.heap.size w p n k) (encV (encS l s n k)) := by
  refine FnP.intro (c := codeOf Tryz.f27) [.tmp 2, .tmp 3] 20 Tryz.func27 kr kr kr fun w hpre => ?_
  have H0 := St.start w
  have hn := hpre.1
  have hnm := hpre.2.1
  have hdl := dpF_le k
  refine g_sreg [0, 1, 2] kr kr ?_
  refine s_box H0 (some 1) 68 (.tmp 0) (.agg #[.bool l, .string s, .slice p n c]) kr kr kr ?_
  intro b1 w1 H1; clear H0
  refine s_val (some 2) (.string (⟨#[]⟩)) (fun w => by kernel_rfl) kr ?_
  refine s_val (some 3) (.int .i64 0) (fun w => by kernel_rfl) kr ?_
  refine s_nil ?_
  refine g_seq kr ?_
  refine g_block 0 kr ?_
  refine g_sreg [0, 1, 2, 3] kr kr ?_
  refine s_load H1 (some 6) 68 (.tmp 1) 0 b1 #[.bool l, .string s, .slice p n c] 68 (0, 0) kr kr kr kr kr ?_
  refine s_callP H1 (some 7) 46 #[.agg #[.bool l, .string s, .slice p n c], .int .i64 4000] (fun w => SlAt w.heap.size w p n k) (.int .i64 (lfV (lf1 l s n (lfF k) 4000))) (left_fn l s p n c k (by omega) 4000 (by omega)) (SlAt.call hpre H1.below) (fun w => by kernel_rfl) kr ?_
  intro w2 H2; clear H1
  rcases opt_cases (lf1 l s n (lfF k) 4000) with hv1 | ⟨y, hv1⟩
  · skip
    refine s_now 7 (v := .int .i64 (lfV (lf1 l s n (lfF k) 4000))) (v' := .int .i64 (-1)) (int_eq (by rw [hv1]; rfl)) kr ?_
    refine s_val (some 8) (.bool true) (fun w => by kernel_rfl) kr ?_
    refine s_val (some 5) (.bool true) (fun w => by kernel_rfl) kr ?_
    refine s_nil ?_
    refine g_cond_t kr kr ?_
    refine g_sreg [0, 1] kr kr ?_
    refine s_val (some 2) (.string (⟨#[]⟩)) (fun w => by kernel_rfl) kr ?_
    refine s_val (some 3) (.int .i64 1) (fun w => by kernel_rfl) kr ?_
    refine s_nil ?_
    refine g_ret kr ?_
    show ∃ vs, Res _ _ _ _ vs ∧ _
    exact ⟨[.string (⟨#[]⟩), .int .i64 1], (.tmp (.string (⟨#[]⟩)) kr (.tmp (.int .i64 1) kr .nil)), (encS_1 hv1).symm, H2.below⟩
  · skip
    refine s_now 7 (v := .int .i64 (lfV (lf1 l s n (lfF k) 4000))) (v' := .int .i64 ((y : Nat) : Int)) (int_eq (by rw [hv1]; rfl)) kr ?_
    have hok := lf1_some hv1
    have hcn : k.cnt < 4000 := hok.2.2
    have hwt := hpre.wt
    refine s_valE (some 8) (.bool (decide (((y : Nat) : Int) < 0))) (.bool false) (fun w => by kernel_rfl) (bool_eq (decide_eq_false (by omega))) kr ?_
    refine s_val (some 5) (.bool false) (fun w => by kernel_rfl) kr ?_
    refine s_nil ?_
    refine g_cond_f kr kr ?_
    refine g_sreg [0, 1, 2, 3] kr kr ?_
    refine s_load H2 (some 10) 68 (.tmp 1) 0 b1 #[.bool l, .string s, .slice p n c] 68 (0, 0) kr kr kr kr kr ?_
    refine s_callP H2 (some 11) 47 #[.agg #[.bool l, .string s, .slice p n c]] (fun w => SlAt w.heap.size w p n k) (.int .i64 ((dp1 l (dpF k) : Nat) : Int)) (depth_fn l s p n c k (by omega) (by omega)) (SlAt.call hpre H2.below) (fun w => by kernel_rfl) kr ?_
    intro w3 H3; clear H2
    by_cases hc1 : (dp1 l (dpF k) : Nat) > 8
    · skip
      refine s_valE (some 12) (.bool (decide (8 < ((dp1 l (dpF k) : Nat) : Int)))) (.bool true) (fun w => by kernel_rfl) (bool_eq (decide_eq_true (by omega))) kr ?_
      refine s_val (some 9) (.bool true) (fun w => by kernel_rfl) kr ?_
      refine s_nil ?_
      refine g_cond_t kr kr ?_
      refine g_sreg [0, 1] kr kr ?_
      refine s_val (some 2) (.string (⟨#[]⟩)) (fun w => by kernel_rfl) kr ?_
      refine s_val (some 3) (.int .i64 5) (fun w => by kernel_rfl) kr ?_
      refine s_nil ?_
      refine g_ret kr ?_
      show ∃ vs, Res _ _ _ _ vs ∧ _
      exact ⟨[.string (⟨#[]⟩), .int .i64 5], (.tmp (.string (⟨#[]⟩)) kr (.tmp (.int .i64 5) kr .nil)), (encS_5 hv1 (by omega)).symm, H3.below⟩
    · skip
      refine s_valE (some 12) (.bool (decide (8 < ((dp1 l (dpF k) : Nat) : Int)))) (.bool false) (fun w => by kernel_rfl) (bool_eq (decide_eq_false (by omega))) kr ?_
      refine s_val (some 9) (.bool false) (fun w => by kernel_rfl) kr ?_
      refine s_nil ?_
      refine g_cond_f kr kr ?_
      refine g_sreg [0, 1, 2, 3] kr kr ?_
      refine s_load H3 (some 14) 68 (.tmp 1) 0 b1 #[.bool l, .string s, .slice p n c] 68 (0, 0) kr kr kr kr kr ?_
      refine s_callP H3 (some 15) 48 #[.agg #[.bool l, .string s, .slice p n c]] (fun w => SlAt w.heap.size w p n k) (.int .u64 ((sz1 l s (szF k) : Nat) : Int)) (size_fn l s p n c k (by omega) (by omega)) (SlAt.call hpre H3.below) (fun w => by kernel_rfl) kr ?_
      intro w4 H4; clear H3
      by_cases hc2 : (sz1 l s (szF k) : Nat) > 4000
      · skip
        refine s_valE (some 16) (.bool (decide (4000 < ((sz1 l s (szF k) : Nat) : Int)))) (.bool true) (fun w => by kernel_rfl) (bool_eq (decide_eq_true (by omega))) kr ?_
        refine s_val (some 13) (.bool true) (fun w => by kernel_rfl) kr ?_
        refine s_nil ?_
        refine g_cond_t kr kr ?_
        refine g_sreg [0, 1] kr kr ?_
        refine s_val (some 2) (.string (⟨#[]⟩)) (fun w => by kernel_rfl) kr ?_
        refine s_val (some 3) (.int .i64 2) (fun w => by kernel_rfl) kr ?_
        refine s_nil ?_
        refine g_ret kr ?_
        show ∃ vs, Res _ _ _ _ vs ∧ _
        exact ⟨[.string (⟨#[]⟩), .int .i64 2], (.tmp (.string (⟨#[]⟩)) kr (.tmp (.int .i64 2) kr .nil)), (encS_2 hv1 (by omega) (by omega)).symm, H4.below⟩
      · skip
        refine s_valE (some 16) (.bool (decide (4000 < ((sz1 l s (szF k) : Nat) : Int)))) (.bool false) (fun w => by kernel_rfl) (bool_eq (decide_eq_false (by omega))) kr ?_
        refine s_val (some 13) (.bool false) (fun w => by kernel_rfl) kr ?_
        refine s_nil ?_
        refine g_cond_f kr kr ?_
        refine g_skip kr ?_
        show WP _ _ _ _ _ _
        refine g_sreg [0] kr kr ?_
        have hpw := pure_wt1 hok.1 hok.2.1 (show sz1 l s (szF k) ≤ 4000 by omega) (by omega)
        refine s_alloc H4 (some 4) 90 (.agg #[.pointer none, .slice none 0 0]) kr kr kr ?_
        intro b2 w5 H5; clear H4
        refine s_nil ?_
        refine g_sreg [0, 1] kr kr ?_
        refine s_load H5 (some 17) 68 (.tmp 1) 1 b1 #[.bool l, .string s, .slice p n c] 68 (0, 0) kr kr kr kr kr ?_
        have HD3 : St w.heap.size w w5 [(b2, Obj.cells #[.pointer none, .slice none 0 0] 90 (0, 0))] := H5.sub (List.Sublist.cons_cons _ (List.Sublist.cons _ List.Sublist.slnil))
        have hE0 : BE b2 90 5 [] [(b2, Obj.cells #[.pointer none, .slice none 0 0] 90 (0, 0))] := BE.nil none (Or.inl rfl)
        refine s_callB0 HD3 hE0 (some 18) 49 #[.pointer (some ⟨b2, 0, none⟩), .agg #[.bool l, .string s, .slice p n c]] (.tuple #[]) ([] ++ wr1 l s (szF k) (wrF k)) (fun w => SlAt w.heap.size w p n k) (write_fn b2 [] l s p n c k hs (by simp only [List.length_nil]; omega)) hpre kr kr ?_
        intro E1 w6 hE1 H6; clear HD3
        refine s_nil ?_
        refine g_sreg [0, 1, 2] kr kr ?_
        rw [List.nil_append] at hE1
        refine s_callO H6 hE1 (some 19) 50 #[.pointer (some ⟨b2, 0, none⟩)] (.string (strB (wr1 l s (szF k) (wrF k)))) (string_fn b2 (wr1 l s (szF k) (wrF k)) (wr1_len hok.1 hok.2.1 (by omega)).1 (by have h9 := (wr1_len hok.1 hok.2.1 (by omega)).2; omega)) kr kr ?_
        intro w7 H7; clear H6
        refine s_val (some 2) (.string (strB (wr1 l s (szF k) (wrF k)))) (fun w => by kernel_rfl) kr ?_
        refine s_val (some 3) (.int .i64 0) (fun w => by kernel_rfl) kr ?_
        refine s_nil ?_
        refine g_ret kr ?_
        show ∃ vs, Res _ _ _ _ vs ∧ _
        exact ⟨[.string (strB (wr1 l s (szF k) (wrF k))), .int .i64 0], (.tmp (.string (strB (wr1 l s (szF k) (wrF k)))) kr (.tmp (.int .i64 0) kr .nil)), (encS_0 hv1 (by omega) (by omega)).symm, H7.below⟩
end Go.Proofs.YtlhfgbjhngkicaaGreatDoor

namespace Go.Proofs.YtlhfgbjhngkicaaGreatDoor
open Go Go.RowKit
set_option linter.unusedVariables false
theorem marks_call {w w' : World} (h : Ke.Marks w) (hb : Below w.heap.size w w') : Ke.Marks w' := by
  obtain ⟨T, fz, h⟩ := h
  exact ⟨T, fz, by rw [hb.block 0 (lt_of_heap h)]; exact h⟩
theorem sumT_fn (s : ByteArray) (hs : s.size < 4611686018427387904) : FnP Tryz.prog 29 #[.string s] Ke.Marks (.string (strB (Kec.sumB (tl s)))) := by
  refine FnP.intro (c := codeOf Tryz.f29) [.tmp 2] 6 Tryz.func29 kr kr kr fun w hM => ?_
  have H0 := St.start w
  refine rS [.v] H0 kr fun gs1 w1 H1 => ?_
  refine g_sreg [0, 1, 2, 3] kr kr ?_
  refine rp [.v, .nw (fun b => .slice (some ⟨b, 0, none⟩) 1 1) #[.string s] 9] H1 kr fun gs2 w2 H2 => ?_
  show WPs _ _ _ _ [2, 3] _ _
  have H3 : St w.heap.size w w2 [((gs2 1).b, .cells #[.string s] 9 (0, 0))] := H2.as kr
  refine s_callP H3 (some 5) 53 #[.slice (some ⟨(gs2 1).b, 0, none⟩) 1 1] _ _ (Ke.of_fn1 (gs2 1).b s hs) ⟨marks_call hM H3.below, H3.get 0 rfl⟩ (fun w => by kernel_rfl) kr ?_
  intro w3 H4
  refine rp [.v] H4 kr fun gs3 w4 H5 => ?_
  show WPs _ _ _ _ [] _ _
  refine s_nil ?_
  exact rR [.tmp 2] [] (.string (strB (Kec.sumB (tl s)))) H5 kr
theorem topmost_fn (p : Option Addr) (c : Nat) : Fn Tryz.prog 28 #[.slice p 0 c] (.agg #[.bool false, .string ⟨#[]⟩, .slice none 0 0]) := by
  refine Fn.intro (c := codeOf Tryz.f28) [.cell 2 68] 23 Tryz.func28 kr kr kr fun w => ?_
  have H0 := St.start w
  refine rS [.a] H0 kr fun gs1 w1 H1 => ?_
  refine rS [.a] H1 kr fun gs2 w2 H2 => ?_
  refine rS [.v] H2 kr fun gs3 w3 H3 => ?_
  refine g_seq kr ?_
  refine rS [.v, .v, .v] H3 kr fun gs4 w4 H4 => ?_
  refine g_block 0 kr ?_
  refine g_first kr ?_
  refine rS [.v] H4 kr fun gs5 w5 H5 => ?_
  refine g_seq kr ?_
  refine g_cond_f kr kr ?_
  refine g_exit 0 kr ?_
  show WP _ _ _ _ _ _
  refine rS [.l 1, .s 0] H5 kr fun gs6 w6 H6 => ?_
  exact rR [.cell 2 68] [0] (.agg #[.bool false, .string ⟨#[]⟩, .slice none 0 0]) H6 kr
set_option maxRecDepth 100000 in
set_option maxHeartbeats 4000000 in
theorem root_none (p : Option Addr) (c : Nat) : FnP Tryz.prog 11 #[.agg #[.slice p 0 c, .int .i64 (-1)]] (fun w => NdAt w p 0 [] ∧ Ke.Marks w) (.tuple #[.string (strB (Kec.sumB [128])), .int .i64 0]) := by
  refine FnP.intro (c := codeOf Tryz.f11) [.tmp 2, .tmp 3] 18 Tryz.func11 kr kr kr fun w hN => ?_
  obtain ⟨hN, hM⟩ := hN
  have H0 := St.start w
  have hri := right_fn p 0 c (-1) [] (fun _ h => by simp at h) (by decide)
  rw [show (readM [] (-1)).isSome = true by decide +kernel] at hri
  have henc := encode_fn false ⟨#[]⟩ none 0 0 .nil (by decide)
  rw [show encV (encS false ⟨#[]⟩ 0 .nil) = .tuple #[.string (strB [128]), .int .i64 0] by kernel_rfl] at henc
  have hsum := sumT_fn (strB [128]) (by decide)
  rw [tl_strB] at hsum
  refine rS [.b, .v, .v] H0 kr fun gs1 w1 H1 => ?_
  refine g_seq kr ?_
  refine rS [.l 0, .cp (pre := fun w => NdAt w p 0 []) hri [] (fun w hb hd => hN.call hb), .v] H1 kr fun gs2 w2 H2 => ?_
  refine g_cond_f kr kr ?_
  refine g_skip kr ?_
  show WP _ _ _ _ _ _
  refine rS [.v, .l 0, .c (topmost_fn p c), .cp henc [] (fun w hb hd => ⟨rfl, Nat.zero_le _, .inl rfl⟩), .v, .v, .v, .v, .v] H2 kr fun gs3 w3 H3 => ?_
  refine rS [.v, .cp hsum [] (fun w hb hd => marks_call hM hb), .v, .v] H3 kr fun gs4 w4 H4 => ?_
  exact rR [.tmp 2, .tmp 3] [] (.tuple #[.string (strB (Kec.sumB [128])), .int .i64 0]) H4 kr
end Go.Proofs.YtlhfgbjhngkicaaGreatDoor

namespace Go.Proofs.YtlhfgbjhngkicaaGreatDoor
open Go Go.RowKit
set_option linter.unusedVariables false
def sum80 : List UInt8 := [0x56, 0xe8, 0x1f, 0x17, 0x1b, 0xcc, 0x55, 0xa6, 0xff, 0x83, 0x45, 0xe6, 0x92, 0xc0, 0xf8, 0x6e, 0x5b, 0x48, 0xe0, 0x1b, 0x99, 0x6c, 0xad, 0xc0, 0x01, 0x62, 0x2f, 0xb5, 0xe3, 0x63, 0xb4, 0x21]
theorem sum80_is : Kec.sumB [128] = sum80 := by decide +kernel
def kA : ByteArray := strB [97]
def vB : ByteArray := strB [98]
def leafA : List Nd := [⟨1, strB [6, 1], vB, aloneL⟩]
theorem put_ab : layM 65 (entsOf ([] ++ [(kA, vB)])) [] = (leafA, 0) := kr
theorem new_none : layM 65 (entsOf []) [] = ([], -1) := rfl
theorem read_none : readM [] (-1) = some [] := by decide +kernel
theorem read_leaf : readM leafA 0 = some [(kA, vB)] := by decide +kernel
theorem RowF.ndAt {ty : TypeId} {p : Option Addr} {n c : Nat} {row : List (Nat × Obj)} {A : List Nd} (h : RowF nS ty p n c row A) {B : Nat} {w0 w : World} {l : List (Nat × Obj)} (hS : St B w0 w l) (hl : ∀ e ∈ row, e ∈ l) : NdAt w p n A := NdS.own h w l hS hl
set_option maxRecDepth 100000 in
set_option maxHeartbeats 8000000 in
theorem alive_fn : FnP Tryz.prog 12 #[] Ke.Marks (.bool true) := by
  refine FnP.intro (c := codeOf Tryz.f12) [.tmp 0] 45 Tryz.func12 kr kr kr fun w hM => ?_
  have H0 := St.start w
  refine rS [.v] H0 kr fun gs1 w1 H1 => ?_
  have H1 : St w.heap.size w w1 [] := H1.as kr
  refine g_sreg [0, 1, 2, 3, 4, 5, 6, 7] kr kr ?_
  refine s_callFT H1 (some 8) 19 #[] new_fn trivial kr kr ?_
  rintro _ T1 w2 ⟨p1, n1, c1, hrow1, rfl⟩ H2
  rw [new_none] at hrow1
  have hn1 := hrow1.len
  have hN1 := hrow1.ndAt H2 fun e he => List.mem_append_left _ he
  have hput := put_end p1 n1 c1 (-1) [] (fun _ h => by simp at h) (by decide) kA vB (L := []) read_none (by decide +kernel) rfl (by decide)
  refine s_callFT H2 (some 9) 16 #[.agg #[.slice p1 n1 c1, .int .i64 (-1)], .string kA, .string vB] hput hN1 kr kr ?_
  rintro _ T2 w3 ⟨p2, n2, c2, hrow2, rfl⟩ H3
  rw [put_ab] at hrow2
  rw [put_ab]
  have H4 : St w.heap.size w w3 T2 := H3.sub (List.sublist_append_left ..)
  refine rp [.v, .v, .v] H4 kr fun gs2 w4 H5 => ?_
  show WPs _ _ _ _ [5, 6, 7] _ _
  have H6 : St w.heap.size w w4 T2 := H5.as kr
  refine s_alloc H6 (some 1) 26 (.agg #[.slice none 0 0, .int .i64 0]) kr kr kr ?_
  intro b1 w5 H7
  refine rp [.s 0, .v] H7 kr fun gs3 w6 H8 => ?_
  show WPs _ _ _ _ [] _ _
  refine s_nil ?_
  have H9 : St w.heap.size w w6 ((b1, boT p2 n2 c2 0) :: T2) := H8.as kr
  have hget := get_fn p2 n2 c2 0 leafA (by decide +kernel) (by decide) kA
  rw [read_leaf, show getM (some [(kA, vB)]) kA = (vB, true) by decide +kernel] at hget
  refine g_sreg [0, 1, 2, 3, 4, 5, 6] kr kr ?_
  refine rp [.l 0] H9 kr fun gs4 w7 H10 => ?_
  show WPs _ _ _ _ [1, 2, 3, 4, 5, 6] _ _
  have H11 : St w.heap.size w w7 ((b1, boT p2 n2 c2 0) :: T2) := H10.as kr
  refine s_callP H11 (some 14) 15 #[.agg #[.slice p2 n2 c2, .int .i64 0], .string kA] _ _ hget (hrow2.ndAt H11 fun e he => List.mem_cons_of_mem _ he) (fun w => by kernel_rfl) kr ?_
  intro w8 H12
  refine rp [.v, .v, .v, .v, .v] (H12.sub (List.nil_sublist _)) kr fun gs5 w9 H13 => ?_
  show WPs _ _ _ _ [] _ _
  refine s_nil ?_
  have H14 : St w.heap.size w w9 [] := H13.as kr
  refine g_sreg [0, 1, 2, 3, 4, 5, 6] kr kr ?_
  refine s_callFT H14 (some 18) 19 #[] new_fn trivial kr kr ?_
  rintro _ T3 w10 ⟨p3, n3, c3, hrow3, rfl⟩ H15
  rw [new_none] at hrow3
  have hn3 := hrow3.len
  simp only [List.length_nil] at hn3
  subst hn3
  have hN3 := hrow3.ndAt H15 fun e he => List.mem_append_left _ he
  have hroot := root_none p3 c3
  rw [sum80_is] at hroot
  refine s_callP H15 (some 19) 11 #[.agg #[.slice p3 0 c3, .int .i64 (-1)]] _ _ hroot ⟨hN3, marks_call hM H15.below⟩ (fun w => by kernel_rfl) kr ?_
  intro w11 H16
  refine rp [.v, .v, .v, .v, .v] (H16.sub (List.nil_sublist _)) kr fun gs6 w12 H17 => ?_
  show WPs _ _ _ _ [] _ _
  refine s_nil ?_
  refine rS [.v, .v, .v, .v, .v, .v, .v, .v, .v, .v, .v, .e (v := .bool (vB.toList == (strB [98]).toList)) (v' := .bool true) (bool_eq (str_same _ _ rfl)), .v, .v, .v, .v, .v, .v, .v, .v, .v, .e (v := .bool (((strB sum80).extract 0 4).toList == (strB [86, 232, 31, 23]).toList)) (v' := .bool true) (bool_eq (str_same _ _ (by decide +kernel))), .v, .v] H17 kr fun gs7 w13 H18 => ?_
  exact rRe [.tmp 0] [] (v := .bool true) (v' := .bool true) H18 rfl kr
end Go.Proofs.YtlhfgbjhngkicaaGreatDoor

namespace Go.Proofs.YtlhfgbjhngkicaaGreatDoor
open Go Go.RowKit
set_option linter.unusedVariables false
end Go.Proofs.YtlhfgbjhngkicaaGreatDoor

namespace Go.Proofs.YtlhfgbjhngkicaaGreatDoor
open Go Go.ChangeShapes Go.WideShapes Go.ChangeAt Go.RowKit
set_option linter.unusedVariables false
set_option maxRecDepth 100000
theorem cellsSt : Tryz.prog.cellsOf 9 = 1 := kr
theorem extract_of {C : Array Value} {o m : Nat} {l : List Value} (hl : l.length = m) (hm : 0 < m) (h : ∀ j, j < m → C[o + j]? = l[j]?) : o + m ≤ C.size ∧ C.extract o (o + m) = l.toArray := by
  have hs : o + m ≤ C.size := by
    have h1 := h (m - 1) (by omega)
    rw [List.getElem?_eq_getElem (by omega)] at h1
    have := (Array.getElem?_eq_some_iff.1 h1).1
    omega
  refine ⟨hs, ?_⟩
  apply Array.toList_inj.1
  apply List.ext_getElem?
  intro i
  rw [Array.getElem?_toList, Array.getElem?_extract, List.toList_toArray]
  by_cases hi : i < m
  · rw [if_pos (by omega), h i hi]
  · rw [if_neg (by omega), List.getElem?_eq_none (by omega)]
section
variable {H : Type} {enc : TypeId × Value → H} {W : World} {sp : Nat → Bool} {held : Bool}
theorem spot_none {a : Addr} {v : Value} (h : W.cell? a = some v) : a = ⟨a.block, a.off, none⟩ ∧ ∃ C T fz, W.heap[a.block]? = some (.cells C T fz) ∧ C[a.off]? = some v := by
  obtain ⟨b, o, sp⟩ := a
  unfold World.cell? at h
  split at h
  · rename_i C T fz hh
    cases sp with
    | none => simp at h; exact ⟨rfl, C, T, fz, hh, h⟩
    | some x => simp at h
  · cases h
theorem cell_at {b o : Nat} {C : Array Value} {T : TypeId} {fz : Nat × Nat} {v : Option Value} (hh : W.heap[b]? = some (.cells C T fz)) (h : W.cell? ⟨b, o, none⟩ = v) : C[o]? = v := by
  unfold World.cell? at h; simp only [hh] at h; simpa using h
end
def marksL : List Int := [1, 32898, 9223372036854808714, 9223372039002292224, 32907, 2147483649, 9223372039002292353, 9223372036854808585, 138, 136, 2147516425, 2147483658, 2147516555, 9223372036854775947, 9223372036854808713, 9223372036854808579, 9223372036854808578, 9223372036854775936, 32778, 9223372039002259466, 9223372039002292353, 9223372036854808704, 2147483649, 9223372039002292232]
theorem marksC_eq : Ke.marksC = (marksL.map (Value.int .u64)).toArray := kr
theorem gMarks : Tryz.prog.globalNamed "ecclesia/keccak.marks" = some 0 := kr
theorem marks_of_laid {W : World} (h : laidMetH Tryz.prog [("ecclesia/keccak.marks", Rows.laid_ecclesia_keccak_marks), ("unicode/utf8.acceptRanges", Rows.laid_unicode_utf8_acceptRanges), ("unicode/utf8.first", Rows.laid_unicode_utf8_first)] W) : Ke.Marks W := by
  rw [MakeChecks.laidMetH_plain _ _ _ kr] at h
  have t := Lib.tabIs_of_head (k := .u64) (zs := marksL) gMarks (show (Tryz.prog.globals[0]?).map (·.type) = some 140 by kernel_rfl) Tryz.underlying140 Tryz.underlying85 kr kr h
  unfold Lib.TabIs World.var? at t
  rw [gMarks] at t
  simp only [Option.bind_some] at t
  split at t
  · rename_i cs T fz hh
    exact ⟨T, fz, by rw [hh, marksC_eq]; exact congrArg (fun c => some (Obj.cells c T fz)) (Option.some.inj t)⟩
  · cases t
def firstC : Array Value := (Go.Pinned.utf8FirstZ.map fun n => Value.int .u8 ((n : Nat) : Int)).toArray
def rangesC : Array Value := #[.int .u8 128, .int .u8 191, .int .u8 160, .int .u8 191, .int .u8 128, .int .u8 159, .int .u8 144, .int .u8 191, .int .u8 128, .int .u8 143, .int .u8 0, .int .u8 0, .int .u8 0, .int .u8 0, .int .u8 0, .int .u8 0, .int .u8 0, .int .u8 0, .int .u8 0, .int .u8 0, .int .u8 0, .int .u8 0, .int .u8 0, .int .u8 0, .int .u8 0, .int .u8 0, .int .u8 0, .int .u8 0, .int .u8 0, .int .u8 0, .int .u8 0, .int .u8 0]
/-- The settled world, the tables laid. -/
noncomputable def laidWorld (os : Os) : World :=
  let w0 := World.holding Tryz.prog os ⟨#[], #[], []⟩
  { w0 with heap := ((w0.heap.modify 0 fun
      | .cells _ t frozen => .cells (marksL.map (Value.int .u64)).toArray t frozen
      | o => o).modify 2 fun
      | .cells _ t frozen => .cells firstC t frozen
      | o => o).modify 3 fun
      | .cells _ t frozen => .cells rangesC t frozen
      | o => o }
theorem laidWorld_met (os : Os) (args : Array Value) : laidMetH Tryz.prog [("ecclesia/keccak.marks", Rows.laid_ecclesia_keccak_marks), ("unicode/utf8.acceptRanges", Rows.laid_unicode_utf8_acceptRanges), ("unicode/utf8.first", Rows.laid_unicode_utf8_first)] ((laidWorld os).forCall (fun _ _ => 0) ⟨#[], args, []⟩).memory := by
  rw [MakeChecks.laidMetH_plain _ _ _ kr]
  exact laidMet_of_run' 8 kr kr
end Go.Proofs.YtlhfgbjhngkicaaGreatDoor

namespace Go.Proofs.YtlhfgbjhngkicaaGreatDoor
open Go Go.RowKit
set_option linter.unusedVariables false
def putL (C : Array Value) (o : Nat) (vs : List Value) : Array Value := (C.toList.take o ++ vs ++ C.toList.drop (o + vs.length)).toArray
theorem putL_size {C : Array Value} {o : Nat} {vs : List Value} (h : o + vs.length ≤ C.size) : (putL C o vs).size = C.size := by
  unfold putL
  rw [List.size_toArray, List.length_append, List.length_append, List.length_take, List.length_drop, Array.length_toList]; omega
theorem putL_list {C : Array Value} {o : Nat} {vs : List Value} : (putL C o vs).toList = C.toList.take o ++ vs ++ C.toList.drop (o + vs.length) := rfl
/-- The cells ahead of the place, those put, what is behind. -/
theorem putL_take {C : Array Value} {o : Nat} {vs : List Value} {m : Nat} (h : o + vs.length ≤ C.size) (hm : o + vs.length ≤ m) : (putL C o vs).toList.take m = C.toList.take o ++ vs ++ (C.toList.take m).drop (o + vs.length) := by
  rw [putL_list]
  have e1 : (C.toList.take o).length = o := by rw [List.length_take, Array.length_toList]; omega
  have e2 : (C.toList.take o ++ vs).length = o + vs.length := by rw [List.length_append, e1]
  rw [List.take_append, e2, List.take_of_length_le (by rw [e2]; exact hm), List.drop_take]
theorem putL_take_lt {C : Array Value} {o : Nat} {vs : List Value} {m : Nat} (h : o ≤ C.size) (hm : m ≤ o) : (putL C o vs).toList.take m = C.toList.take m := by
  rw [putL_list, List.append_assoc, List.take_append_of_le_length (by rw [List.length_take, Array.length_toList]; omega), List.take_take, Nat.min_eq_left hm]
section
variable {P : Program} {w w0 : World}
theorem run_copyK (dT sT ty e size : Nat) (hu : P.underlying dT = some (.slice e)) (hs : (P.info? e).map (·.size) = some size) (g o dLen dCap : Nat) (a : Addr) (sLen sCap : Nat) (cur : Array Value) (t : TypeId) (cs : List Value)
    (hg : w.heap[g]? = some (.cells cur t (0, 0))) (hn : cs.length = Nat.min sLen dLen * size)
    (hsrc : ∀ j v, cs[j]? = some v → w.cell? (a.add j) = some v) (hfit : o + cs.length ≤ cur.size) (h1 : ∀ v ∈ cs, v.oneCell' = true) :
    (Builtin.copy_ #[dT, sT] ty #[.slice (some ⟨g, o, none⟩) dLen dCap, .slice (some a) sLen sCap]).run P w = .ok (.int .i64 ((Nat.min sLen dLen : Nat) : Int)) (w.setRow g (putL cur o cs)) := by
  have hl := run_loadCells_list (P := P) w a cs hsrc
  have hst := run_storeCells_at P g o t cs 0 cur w hg (by simpa using hfit) h1
  cases hq : P.info? e with
  | none => simp [hq] at hs
  | some i =>
    have hi : i.size = size := by simpa [hq] using hs
    simp [Builtin.copy_, run_underlying hu, Builtin.lenOf, Builtin.firstCells, sizeOf, typeInfo, hq, hi, ← hn, hl, hst]
    exact ⟨rfl, by unfold putL; rw [List.append_assoc]⟩
theorem run_append_in (t ty e : TypeId) (i : TypeInfo) (size : Nat) (ht : P.underlying t = some (.slice e)) (hi : P.info? e = some i) (hsize : i.size = size)
    (g n cap : Nat) (cur : Array Value) (T : TypeId) (a : Addr) (m c : Nat) (news : List Value) (hg : w.heap[g]? = some (.cells cur T (0, 0))) (hl : news.length = m * size)
    (hnews : ∀ j u, news[j]? = some u → w.cell? (a.add j) = some u) (h1 : ∀ u ∈ news, u.oneCell' = true) (hroom : n + m ≤ cap) (hfit : n * size + news.length ≤ cur.size) :
    (Builtin.append_ #[t, t] ty #[.slice (some ⟨g, 0, none⟩) n cap, .slice (some a) m c]).run P w = .ok (.slice (some ⟨g, 0, none⟩) (n + m) cap) (w.setRow g (putL cur (n * size) news)) := by
  subst hsize
  have hf := run_firstCells_some (P := P) w i.size m a m c news hl hnews
  have hst := run_storeCells_at P g (n * i.size) T news 0 cur w hg (by simpa using hfit) h1
  simp only [Nat.add_zero] at hst
  simp [Builtin.append_, run_underlying ht, sizeOf, typeInfo, hi, Builtin.lenOf, hroom, hf, Addr.add_lit, hst]
  unfold putL; rw [List.append_assoc]
theorem run_append_zeros (t tn ty e : TypeId) (i : TypeInfo) (z : Value) (kn k : IntKind) (ht : P.underlying t = some (.slice e)) (htn : P.underlying tn = some (.int kn)) (hi : P.info? e = some i) (hz : i.zero = some z)
    (b : Addr) (sLen sCap : Nat) (olds : List Value) (hlo : olds.length = sLen * i.size) (holds : ∀ j v, olds[j]? = some v → w.cell? (b.add j) = some v)
    (n : Nat) (h0 : 0 < n) (hs : 0 < i.size) (hg : sCap < sLen + n) (h63 : ((sLen + n : Nat) : Int) ≤ 9223372036854775807) (h48 : n * i.bytes ≤ 281474976710656) (hfit : Builtin.nextslicecap (sLen + n) sCap * i.bytes ≤ 281474976710656) :
    (Builtin.append_ #[t, tn] ty #[.slice (some b) sLen sCap, .int k n]).run P w =
      .ok (.slice (some ⟨w.heap.size, 0, none⟩) (sLen + n) (grownCap w (sLen + n) sCap e))
        (w.drew.alloc (.cells (olds.toArray ++ Builtin.zeroCells z.cells n ++ Builtin.zeroCells z.cells (grownCap w (sLen + n) sCap e - (sLen + n))) e)) := by
  have hn : ¬ (sLen + n ≤ sCap) := by omega
  have hn0 : n ≠ 0 := by omega
  have hw : IntKind.i64.wrap (n : Int) = n := by rw [IntKind.wrap_i64]; omega
  have h63' : ¬ (9223372036854775807 < ((sLen : Int) + (n : Int))) := by omega
  have h48' : ¬ (281474976710656 < Builtin.nextslicecap (sLen + n) sCap * i.bytes) := by omega
  have h48i : ¬ (281474976710656 < (n : Int) * (i.bytes : Int)) := by
    rw [← Int.natCast_mul]
    omega
  have hneg : ¬ ((n : Int) < 0) := by omega
  have hns : ¬ (n * i.size = 0) := Nat.mul_ne_zero hn0 (by omega)
  have hfo := run_firstCells_some (P := P) w.drew i.size sLen b sLen sCap olds hlo (by simpa using holds)
  simp [Builtin.append_, run_underlying ht, run_underlying htn, sizeOf, typeInfo, zeroValue, hi, hz, asInt, asIntOf, hw, hn, hn0, hneg, hns, h63', h48', h48i, Question.forced, hfo, newRow, grownCap]
theorem zeroCells_size (z : Array Value) (n : Nat) : (Builtin.zeroCells z n).size = n * z.size := by unfold Builtin.zeroCells; simp
theorem run_clearK (t ty e size : Nat) (it : TypeInfo) (z : Value) (ht : P.underlying t = some (.slice e)) (hi : P.info? e = some it) (hz : it.zero = some z) (hzs : z.cells.size = size) (h1z : ∀ v ∈ z.cells.toList, v.oneCell' = true) (hz0 : 0 < size)
    (g o n c : Nat) (cur : Array Value) (T : TypeId) (hg : w.heap[g]? = some (.cells cur T (0, 0))) (hn : 0 < n) (hfit : o + n * size ≤ cur.size) :
    (Builtin.clear_ #[t] ty #[.slice (some ⟨g, o, none⟩) n c]).run P w = .ok (.tuple #[]) (w.setRow g (putL cur o (Builtin.zeroCells z.cells n).toList)) := by
  have hl : (Builtin.zeroCells z.cells n).toList.length = n * size := by rw [Array.length_toList, zeroCells_size, hzs]
  have h1 : ∀ v ∈ (Builtin.zeroCells z.cells n).toList, v.oneCell' = true := fun v hv => by
    unfold Builtin.zeroCells at hv
    rw [Array.toList_map, List.mem_map] at hv
    obtain ⟨i, _, rfl⟩ := hv
    refine h1z _ ?_
    have hlt : i % z.cells.size < z.cells.size := Nat.mod_lt _ (by omega)
    rw [getElem!_pos z.cells _ hlt]
    exact Array.getElem_mem_toList hlt
  have hst := run_storeCells_at P g o T (Builtin.zeroCells z.cells n).toList 0 cur w hg (by rw [hl]; simpa using hfit) h1
  obtain ⟨m, rfl⟩ : ∃ m, n = m + 1 := ⟨n - 1, by omega⟩
  simp [Builtin.clear_, run_underlying ht, zeroValue, typeInfo, hi, hz] at hst ⊢
  rw [hst]; unfold putL; rw [List.append_assoc, Array.length_toList]; rfl
end
section
variable {P : Program} {N : Nat} {ops : Array Oper} {i : Nat} {r : List Nat} {K : Env → World → Prop} {ρ : Env} {w : World} {B : Nat} {w0 : World} {l : List (Nat × Obj)}
/-- 'append(s, make(..)...)', where there is no room: a new row. -/
theorem s_appendZ (HS : St B w0 w l) (d : Option Nat) (t tn e size bytes : Nat) (kn : IntKind) (x y : Operand) (j b n cap m : Nat) (cur : Array Value) (xs : List Value)
    (h : opk ops i ρ = some (d, true, .call { callee := .builtin .append, args := #[x, y], argTypes := #[t, tn] })) (hd : dOK d N = true) (ht : sliceOf P t = some (e, size, bytes)) (htn : P.underlying tn = some (.int kn))
    (hx : ev ρ x = .slice (some ⟨b, 0, none⟩) n cap) (hy : ev ρ y = .int .i64 (m : Int)) (hj : l[j]? = some (b, .cells cur e (0, 0))) (hr : Rw size cur cap n xs) (h0 : 0 < m) (hg : cap < n + m) (hb : (n + m) * bytes ≤ 140737488355328) (hm : n + m ≤ maxLen)
    (kk : ∀ b' cap' cur' w', St B w0 w' ((b', .cells cur' e (0, 0)) :: l) → n + m ≤ cap' → cap' ≤ maxLen → cur'.size = cap' * size → cur'.toList.take (n * size) = xs → WPs P N ops K r (updO ρ d (.slice (some ⟨b', 0, none⟩) (n + m) cap')) w') : WPs P N ops K (i :: r) ρ w := by
  obtain ⟨o', ho, rfl, hw, hop⟩ := opk_some h
  obtain ⟨it, z, hu, hi, hz, hsz, hby, hzs, hs0⟩ := sliceOf_spec ht
  subst hsz hby
  have hml : n + m ≤ 9223372036854775807 := by simp only [maxLen] at hm; omega
  have hmb : m * it.bytes ≤ (n + m) * it.bytes := Nat.mul_le_mul_right _ (by omega)
  have holds : ∀ q v, xs[q]? = some v → w.cell? ((⟨b, 0, none⟩ : Addr).add q) = some v := fun q v hq => by
    have hql : q < n * it.size := by rw [← hr.len]; exact (List.getElem?_eq_some_iff.1 hq).1
    rw [addr_add, Nat.zero_add]
    simp [World.cell?, HS.get j hj, hr.get q hql, hq]
  have hrun := run_append_zeros (P := P) (w := w) t tn o'.type e it z kn .i64 hu htn hi hz ⟨b, 0, none⟩ n cap xs hr.len holds m h0 hs0 hg (by omega) (by omega) (growslice_fits hg hb)
  refine WPo.run ho hw fun a' ha => ?_
  have hex : (execOp (ev ρ) o').run P w = .ok (.value (.slice (some ⟨w.heap.size, 0, none⟩) (n + m) (grownCap w (n + m) cap e))) (w.drew.alloc (.cells (xs.toArray ++ Builtin.zeroCells z.cells m ++ Builtin.zeroCells z.cells (grownCap w (n + m) cap e - (n + m))) e)) := by
    unfold execOp
    simp only [hop, resolve, invoke, builtin, Sem.run_bind, Sem.run_pure, Result.andThen_ok, List.map_toArray, List.map_cons, List.map_nil, hx, hy, hrun]
  rw [hex, Oper.upon_value]
  have hge := grownCap_ge w (n + m) cap e
  have hcm := grownCap_le_maxLen w (n + m) cap e hm
  refine ⟨_, ha.put _ (dOK_lt hd) _, kk _ _ _ _ (HS.drew.alloc _) hge hcm ?_ ?_⟩
  · simp only [Array.size_append, List.size_toArray, zeroCells_size, hzs, hr.len, ← Nat.add_mul]
    congr 1; omega
  · simp only [Array.toList_append]
    rw [List.append_assoc, ← hr.len, List.take_left]
/-- 'clear(s)', s a part of an own row. -/
theorem s_clearK (HS : St B w0 w l) (d : Option Nat) (t e size bytes : Nat) (x : Operand) (j b o n c : Nat) (cur : Array Value) (T : TypeId)
    (h : opk ops i ρ = some (d, true, .call { callee := .builtin .clear, args := #[x], argTypes := #[t] })) (hd : dOK d N = true) (ht : sliceOf P t = some (e, size, bytes)) (hz1 : ((P.info? e).bind (·.zero)).all (fun z => z.cells.all (·.oneCell')) = true)
    (hx : ev ρ x = .slice (some ⟨b, o, none⟩) n c) (hj : l[j]? = some (b, .cells cur T (0, 0))) (hn : 0 < n) (hfit : o + n * size ≤ cur.size)
    (kk : ∀ V w', V.length = n * size → St B w0 w' (l.set j (b, .cells (putL cur o V) T (0, 0))) → WPs P N ops K r (updO ρ d (.tuple #[])) w') : WPs P N ops K (i :: r) ρ w := by
  obtain ⟨o', ho, rfl, hw, hop⟩ := opk_some h
  obtain ⟨it, z, hu, hi, hz, hsz, hby, hzs, hs0⟩ := sliceOf_spec ht
  have h1z : ∀ v ∈ z.cells.toList, v.oneCell' = true := fun v hv => by
    rw [hi] at hz1
    simp only [Option.bind_some, hz, Option.all_some] at hz1
    exact (Array.all_eq_true_iff_forall_mem.1 hz1) v (by simpa using hv)
  have hrun := run_clearK (P := P) (w := w) t o'.type e size it z hu hi hz hzs h1z hs0 b o n c cur T (HS.get j hj) hn hfit
  refine WPo.run ho hw fun a' ha => ?_
  have hex : (execOp (ev ρ) o').run P w = .ok (.value (.tuple #[])) (w.setRow b (putL cur o (Builtin.zeroCells z.cells n).toList)) := by
    unfold execOp
    simp only [hop, resolve, invoke, builtin, Sem.run_bind, Sem.run_pure, Result.andThen_ok, List.map_toArray, List.map_cons, List.map_nil, hx, hrun]
  rw [hex, Oper.upon_value]
  exact ⟨_, ha.put _ (dOK_lt hd) _, kk (Builtin.zeroCells z.cells n).toList _ (by rw [Array.length_toList, zeroCells_size, hzs]) (HS.store j hj)⟩
end
end Go.Proofs.YtlhfgbjhngkicaaGreatDoor

namespace Go.Proofs.YtlhfgbjhngkicaaGreatDoor
open Go Go.RowKit
open D2 (Gh Runs)
set_option linter.unusedVariables false
section
variable {P : Program} {B : Nat} {w0 : World}
theorem setRow_grown {w : World} (g : Nat) (C : Array Value) : w.grownBy (w.setRow g C) (some g) := ⟨rfl, rfl, rfl, by simp, fun k _ hk => setRow_other w g k _ (fun e => hk (by simp [e]))⟩
/-- 'copy(d, s)' as a line of a script. -/
theorem copyIt {dT sT e size : Nat} (hu : P.underlying dT = some (.slice e)) (hs : (P.info? e).map (·.size) = some size) {x y : Operand} {j b off dLen dCap sLen sCap : Nat} {a : Addr} {cur : Array Value} {T : TypeId} {cs : List Value} {rd : List (Nat × (Nat × Obj))}
    (hn : cs.length = Nat.min sLen dLen * size) (hsrc : ∀ w, Hd ((j, (b, .cells cur T (0, 0))) :: rd) w → ∀ q v, cs[q]? = some v → w.cell? (a.add q) = some v) (hfit : off + cs.length ≤ cur.size) (h1 : ∀ v ∈ cs, v.oneCell' = true) :
    ∀ (ρ : Env) (o : Oper) (w : World), o.op = .call { callee := .builtin .copy, args := #[x, y], argTypes := #[dT, sT] } → Ins (ev ρ) [(x, .slice (some ⟨b, off, none⟩) dLen dCap), (y, .slice (some a) sLen sCap)] → Hd ((j, (b, .cells cur T (0, 0))) :: rd) w → Below B w0 w →
      Runs P (fun v w' => ∃ g : Gh, v = .int .i64 ((Nat.min sLen dLen : Nat) : Int) ∧ ∃ q, (List.lookup j ((j, (b, Obj.cells cur T (0, 0))) :: rd)) = some q ∧ w.grownBy w' (some q.1) ∧ w'.heap[q.1]? = some (.cells (putL cur off cs) T (0, 0))) ((execOp (ev ρ) o).run P w) := fun ρ o w ho hi hd hb => by
  have hg : w.heap[b]? = some (.cells cur T (0, 0)) := hd.1
  have hrun := run_copyK (P := P) (w := w) dT sT o.type e size hu hs b off dLen dCap a sLen sCap cur T cs hg hn (hsrc w hd) hfit h1
  have hex : (execOp (ev ρ) o).run P w = .ok (.value (.int .i64 ((Nat.min sLen dLen : Nat) : Int))) (w.setRow b (putL cur off cs)) := by
    unfold execOp
    simp only [ho, resolve, invoke, builtin, Sem.run_bind, Sem.run_pure, Result.andThen_ok, List.map_toArray, List.map_cons, List.map_nil, hi.1, hi.2.1, hrun]
  rw [hex]
  exact ⟨default, rfl, (b, .cells cur T (0, 0)), by simp [List.lookup], setRow_grown b _, setRow_heap w b cur _ T (0, 0) hg⟩
/-- 'append(s, x...)' where there is room, as a line of a script. -/
theorem appInIt {t e size bytes : Nat} (ht : sliceOf P t = some (e, size, bytes)) {x y : Operand} {j b n cap m c : Nat} {a : Addr} {cur : Array Value} {T : TypeId} {news : List Value} {rd : List (Nat × (Nat × Obj))}
    (hl : news.length = m * size) (hsrc : ∀ w, Hd ((j, (b, .cells cur T (0, 0))) :: rd) w → ∀ q v, news[q]? = some v → w.cell? (a.add q) = some v) (h1 : ∀ v ∈ news, v.oneCell' = true) (hroom : n + m ≤ cap) (hfit : n * size + news.length ≤ cur.size) :
    ∀ (ρ : Env) (o : Oper) (w : World), o.op = appendOp t x y → Ins (ev ρ) [(x, .slice (some ⟨b, 0, none⟩) n cap), (y, .slice (some a) m c)] → Hd ((j, (b, .cells cur T (0, 0))) :: rd) w → Below B w0 w →
      Runs P (fun v w' => ∃ g : Gh, v = .slice (some ⟨b, 0, none⟩) (n + m) cap ∧ ∃ q, (List.lookup j ((j, (b, Obj.cells cur T (0, 0))) :: rd)) = some q ∧ w.grownBy w' (some q.1) ∧ w'.heap[q.1]? = some (.cells (putL cur (n * size) news) T (0, 0))) ((execOp (ev ρ) o).run P w) := fun ρ o w ho hi hd hb => by
  obtain ⟨it, z, hu, hit, hz, hsz, hby, hzs, h0⟩ := sliceOf_spec ht
  have hg : w.heap[b]? = some (.cells cur T (0, 0)) := hd.1
  have hrun := run_append_in (P := P) (w := w) t o.type e it size hu hit hsz b n cap cur T a m c news hg hl (hsrc w hd) h1 hroom hfit
  have hex : (execOp (ev ρ) o).run P w = .ok (.value (.slice (some ⟨b, 0, none⟩) (n + m) cap)) (w.setRow b (putL cur (n * size) news)) := by
    unfold execOp
    simp only [ho, appendOp, resolve, invoke, builtin, Sem.run_bind, Sem.run_pure, Result.andThen_ok, List.map_toArray, List.map_cons, List.map_nil, hi.1, hi.2.1, hrun]
  rw [hex]
  exact ⟨default, rfl, (b, .cells cur T (0, 0)), by simp [List.lookup], setRow_grown b _, setRow_heap w b cur _ T (0, 0) hg⟩
/-- Cells of a row, as they are read. -/
theorem src_row {w : World} {b off : Nat} {cur : Array Value} {T : TypeId} {fz : Nat × Nat} {cs : List Value} (hg : w.heap[b]? = some (.cells cur T fz)) (h : ∀ q v, cs[q]? = some v → cur[off + q]? = some v) : ∀ q v, cs[q]? = some v → w.cell? ((⟨b, off, none⟩ : Addr).add q) = some v := fun q v hq => by
  rw [addr_add]
  simp [World.cell?, hg, h q v hq]
theorem cut3_run {ρ : Env} {t e : TypeId} {size bytes : Nat} (ht : sliceOf P t = some (e, size, bytes)) {x y z u : Operand} {o : Oper} {kd kz ku : IntKind} (b n c j k m : Nat) (ho : o.op = .slice t x (some z) (some y) (some u)) (hx : ev ρ x = .slice (some ⟨b, 0, none⟩) n c)
    (hy : ev ρ y = .int kd (k : Int)) (hz : ev ρ z = .int kz (j : Int)) (hu : ev ρ u = .int ku (m : Int)) (hm : m ≤ c) (hk : k ≤ m) (hj : j ≤ k) (hjm : j < m) :
    ∀ w, (execOp (ev ρ) o).run P w = .ok (.value (.slice (some ⟨b, j * size, none⟩) (k - j) (m - j))) w := fun w => by
  obtain ⟨it, z', hun, hi, hz', hsz, hby, hzs, h0⟩ := sliceOf_spec ht
  have hS : (sizeOf e).run P w = .ok size w := by simp [sizeOf, typeInfo, hi, hsz]
  unfold execOp
  simp [ho, hx, hy, hz, hu, Instr.sliceAt, Instr.slice, Instr.sliceBounds, Instr.sliceBound, asIntOf, run_underlying hun, hS, hm, hk, hj, addr_add, show ¬ m = j by omega]
end
section
variable {α : Type} {S : Fl α}
theorem cellsF_take (L : List α) (i : Nat) (h : i ≤ L.length) : cellsF S (L.take i) = (cellsF S L).take (i * S.K) := by
  have e : cellsF S L = cellsF S (L.take i) ++ cellsF S (L.drop i) := by rw [← cellsF_append, List.take_append_drop]
  rw [e, List.take_left']
  rw [cellsF_len, List.length_take, Nat.min_eq_left h]
theorem cellsF_drop (L : List α) (i : Nat) (h : i ≤ L.length) : cellsF S (L.drop i) = (cellsF S L).drop (i * S.K) := by
  have e : cellsF S L = cellsF S (L.take i) ++ cellsF S (L.drop i) := by rw [← cellsF_append, List.take_append_drop]
  rw [e, List.drop_left']
  rw [cellsF_len, List.length_take, Nat.min_eq_left h]
end
theorem fin_room {cur : Array Value} {xs X D : List Value} {i n c : Nat} (hsz : cur.size = c * 2) (htk : cur.toList.take (n * 2) = xs) (hD : D = xs.drop (i * 2)) (hxs : xs.length = n * 2) (hX : X.length = 2) (hi : i < n) (hc : n + 1 ≤ c) :
    (putL (putL cur ((i + 1) * 2) D) (i * 2) X).toList.take ((n + 1) * 2) = xs.take (i * 2) ++ (X ++ D) := by
  have hDl : D.length = (n - i) * 2 := by rw [hD, List.length_drop, hxs]; omega
  have s1 : (putL cur ((i + 1) * 2) D).size = c * 2 := by rw [putL_size (by omega), hsz]
  have hcl : cur.toList.length = c * 2 := by rw [Array.length_toList, hsz]
  rw [putL_take (C := putL cur ((i + 1) * 2) D) (o := i * 2) (vs := X) (m := (n + 1) * 2) (by omega) (by omega),
    putL_take_lt (C := cur) (o := (i + 1) * 2) (vs := D) (m := i * 2) (by omega) (by omega),
    putL_take (C := cur) (o := (i + 1) * 2) (vs := D) (m := (n + 1) * 2) (by omega) (by omega)]
  have e1 : (cur.toList.take ((n + 1) * 2)).drop ((i + 1) * 2 + D.length) = [] := List.drop_of_length_le (by rw [List.length_take]; omega)
  have e2 : cur.toList.take (i * 2) = xs.take (i * 2) := by rw [← htk, List.take_take, Nat.min_eq_left (by omega)]
  have e3 : (cur.toList.take ((i + 1) * 2) ++ D).drop (i * 2 + X.length) = D := List.drop_left' (by rw [List.length_take]; omega)
  rw [e1, List.append_nil, e3, e2, List.append_assoc]
theorem fin_grow {cur : Array Value} {xs X D : List Value} {i n c : Nat} (hsz : cur.size = c * 2) (htk : cur.toList.take (i * 2) = xs.take (i * 2)) (hxs : xs.length = n * 2) (hX : X.length = 2) (hDl : D.length = (n - i) * 2) (hi : i < n) (hc : n + 1 ≤ c) :
    (putL (putL cur (i * 2) X) ((i + 1) * 2) D).toList.take ((n + 1) * 2) = xs.take (i * 2) ++ (X ++ D) := by
  have s1 : (putL cur (i * 2) X).size = c * 2 := by rw [putL_size (by omega), hsz]
  have hcl : cur.toList.length = c * 2 := by rw [Array.length_toList, hsz]
  have hcl1 : (putL cur (i * 2) X).toList.length = c * 2 := by rw [Array.length_toList, s1]
  rw [putL_take (C := putL cur (i * 2) X) (o := (i + 1) * 2) (vs := D) (m := (n + 1) * 2) (by omega) (by omega),
    putL_take (C := cur) (o := i * 2) (vs := X) (m := (i + 1) * 2) (by omega) (by omega)]
  have e1 : ((putL cur (i * 2) X).toList.take ((n + 1) * 2)).drop ((i + 1) * 2 + D.length) = [] := List.drop_of_length_le (by rw [List.length_take]; omega)
  have e2 : (cur.toList.take ((i + 1) * 2)).drop (i * 2 + X.length) = [] := List.drop_of_length_le (by rw [List.length_take]; omega)
  rw [e1, e2, List.append_nil, List.append_nil, htk, List.append_assoc]
theorem overl_run (bv bw : Nat) (cur : Array Value) (x : Pr) (la lb cb i : Nat) (hne : bw ≠ bv) (hc : cur.size ≠ 0) {ρ : Env} {o : Oper} {w : World} (ho : o.op = .call { callee := .value (.func 63), args := #[.tmp 61, .tmp 66], argTypes := #[23, 23] })
    (hx : ev ρ (.tmp 61) = .slice (some ⟨bv, 0, none⟩) la 1) (hy : ev ρ (.tmp 66) = .slice (some ⟨bw, i * 2, none⟩) lb cb) (hv : w.heap[bv]? = some (pwO x)) (hw : w.heap[bw]? = some (.cells cur 48 (0, 0))) :
    (execOp (ev ρ) o).run Tryz.prog w = .ok (.value (.bool false)) w := by
  rw [run_ext (f := 63) (args := #[.slice (some ⟨bv, 0, none⟩) la 1, .slice (some ⟨bw, i * 2, none⟩) lb cb]) ho rfl rfl (by simp [hx, hy])]
  rw [run_callFunc_extern Tryz.func63 kr kr kr (e := Extern.SlicesOverlaps.overlaps #[23, 23] #[4]) kr,
    Lib.run_overlaps_apart w 23 4 48 Tryz.underlying23 2 (fun w => by
      obtain ⟨it, hi, hsz⟩ := Option.map_eq_some_iff.1 (show (Tryz.prog.info? 48).map (·.size) = some 2 by kernel_rfl)
      simp [sizeOf, typeInfo, hi, hsz]) ⟨bv, 0, none⟩ ⟨bw, i * 2, none⟩ la 1 lb cb (Ne.symm hne) 48 48 2 cur.size (by simp [World.shape?, hv]) (by simp [World.shape?, hw]) hc (by simp [World.frozen?, hv]) (by simp [World.frozen?, hv])]
  rfl
set_option maxRecDepth 100000 in
set_option maxHeartbeats 4000000 in
theorem insertMid_c (bw n c : Nat) (cur : Array Value) (L : List Pr) (x : Pr) (i bv : Nat) (Lr : List (Nat × Obj)) {B : Nat} {w0 w : World} (hrw : Rw 2 cur c n (cellsF pS L)) (h : St B w0 w ((bw, .cells cur 48 (0, 0)) :: (bv, pwO x) :: Lr)) (hi : i < n) (hL : n ≤ 1000000) :
    Calls Tryz.prog 35 #[.slice (some ⟨bw, 0, none⟩) n c, iN i, .slice (some ⟨bv, 0, none⟩) 1 1] w fun e w' => ∃ v, e = .returned v ∧ Ins1 B w0 Lr (L.take i ++ x :: L.drop i) v w' := by
  refine calls_intro (c := codeOf Tryz.f35) (rs := [.tmp 6]) (N := 95) Tryz.func35 kr kr kr ?_
  have hlenL : L.length = n := hrw.lenF (S := pS)
  have hcl : (cellsF pS L).length = n * 2 := by rw [cellsF_len, hlenL]; rfl
  have hle := hrw.le
  have hmx := hrw.max
  have hnd : bw ≠ bv := by
    have q := (List.nodup_cons.1 h.nd).1
    intro e; exact q (by rw [e]; exact List.mem_cons_self ..)
  have etk : cellsF pS (L.take i) = (cellsF pS L).take (i * 2) := cellsF_take L i (by omega)
  have edr : cellsF pS (L.drop i) = (cellsF pS L).drop (i * 2) := cellsF_drop L i (by omega)
  have hxs : ([.string x.1, .string x.2] : List Value).length = 2 := rfl
  have ex : pS.cs x = [.string x.1, .string x.2] := rfl
  have hdl : ((cellsF pS L).drop (i * 2)).length = (n - i) * 2 := by rw [List.length_drop, hcl]; omega
  have ecell : cellsF pS (L.take i ++ x :: L.drop i) = (cellsF pS L).take (i * 2) ++ ([.string x.1, .string x.2] ++ (cellsF pS L).drop (i * 2)) := by
    rw [cellsF_append, etk]
    show _ ++ (pS.cs x ++ cellsF pS (L.drop i)) = _
    rw [edr, ex]
  have hlen2 : (L.take i ++ x :: L.drop i).length = n + 1 := by simp; omega
  have h1d : ∀ v ∈ (cellsF pS L).drop (i * 2), v.oneCell' = true := fun v hv => cellsF_one L v (List.mem_of_mem_drop hv)
  have h1x : ∀ v ∈ ([.string x.1, .string x.2] : List Value), v.oneCell' = true := one_all rfl
  have hsrcD : ∀ q v, ((cellsF pS L).drop (i * 2))[q]? = some v → cur[i * 2 + q]? = some v := fun q v hq => by
    rw [List.getElem?_drop] at hq
    have hlt := (List.getElem?_eq_some_iff.1 hq).1
    rw [hrw.get (i * 2 + q) (by omega)]; exact hq
  refine rS [.v] h kr fun gs1 w1 H1 => ?_
  refine rS [.v, .v, .oe (ins := [((.tmp 10), .slice (some ⟨bw, 0, none⟩) n c), ((.tmp 11), iN i)]) (v := .slice (some ⟨bw, if c = i then 0 else 0 + i * 2, none⟩) (n - i) (c - i)) (v' := .slice (some ⟨bw, i * 2, none⟩) (n - i) (c - i)) (fun ρ o w ho hi2 => cutL_run (kz := .i64) (t := 23) (e := 48) (size := 2) (bytes := 32) kr (x := (.tmp 10)) (z := (.tmp 11)) bw 0 n c i ho hi2.1 hi2.2.1 (by omega) (hle) w) (by rw [if_neg (by omega), Nat.zero_add])] H1 kr fun gs2 w2 H2 => ?_
  refine rS [.v, .v, .v] H2 kr fun gs3 w3 H3 => ?_
  refine g_seq kr ?_
  refine rS [.v, .v] H3 kr fun gs4 w4 H4 => ?_
  refine g_cond_f kr kr ?_
  refine g_skip kr ?_
  show WP _ _ _ _ _ _
  refine rS [.v, .v, .v] H4 kr fun gs5 w5 H5 => ?_
  refine g_seq kr ?_
  refine rS [.v, .v, .e (v := .bool (((i : Nat) : Int) == ((n : Nat) : Int))) (v' := .bool false) (bool_eq (beq_eq_false_iff_ne.2 (by omega)))] H5 kr fun gs6 w6 H6 => ?_
  refine g_cond_f kr kr ?_
  refine g_skip kr ?_
  show WP _ _ _ _ _ _
  refine g_seq kr ?_
  by_cases hroom : n + 1 ≤ c
  · refine rS [.v, .v, .e (v := .int .i64 (IntKind.i64.wrap (((n : Nat) : Int) + 1))) (v' := iN (n + 1)) (int_eq (wrapAdd_i64 (a := n) (b := 1) (by omega))), .v, .v, .e (v := .bool (decide (((n + 1 : Nat) : Int) > ((c : Nat) : Int)))) (v' := .bool false) (bool_eq (decide_eq_false (by omega)))] H6 kr fun gs7 w7 H7 => ?_
    refine g_cond_f kr kr ?_
    refine g_skip kr ?_
    show WP _ _ _ _ _ _
    refine rS [.v, .v, .v, .e (v := .int .i64 (IntKind.i64.wrap (((n : Nat) : Int) + 1))) (v' := iN (n + 1)) (int_eq (wrapAdd_i64 (a := n) (b := 1) (by omega))), .o (ins := [((.tmp 56), .slice (some ⟨bw, 0, none⟩) n c), ((.tmp 59), iN (n + 1))]) (v := .slice (some ⟨bw, 0, none⟩) (n + 1) c) (fun ρ o w ho hi2 => cut_run (kd := .i64) (t := 23) (e := 48) (size := 2) (bytes := 32) kr (x := (.tmp 56)) (y := (.tmp 59)) bw n c (n + 1) ho hi2.1 hi2.2.1 (hroom) w), .v] H7 kr fun gs8 w8 H8 => ?_
    refine g_seq kr ?_
    refine rS [.v, .v, .v, .v, .e (v := .int .i64 (IntKind.i64.wrap (((i : Nat) : Int) + 1))) (v' := iN (i + 1)) (int_eq (wrapAdd_i64 (a := i) (b := 1) (by omega))), .oe (ins := [((.tmp 62), .slice (some ⟨bw, 0, none⟩) (n + 1) c), ((.tmp 65), iN (i + 1))]) (v := .slice (some ⟨bw, if c = (i + 1) then 0 else 0 + (i + 1) * 2, none⟩) ((n + 1) - (i + 1)) (c - (i + 1))) (v' := .slice (some ⟨bw, (i + 1) * 2, none⟩) ((n + 1) - (i + 1)) (c - (i + 1))) (fun ρ o w ho hi2 => cutL_run (kz := .i64) (t := 23) (e := 48) (size := 2) (bytes := 32) kr (x := (.tmp 62)) (z := (.tmp 65)) bw 0 (n + 1) c (i + 1) ho hi2.1 hi2.2.1 (by omega) (hroom) w) (by rw [if_neg (by omega), Nat.zero_add]),
      .x (ins := [((.tmp 61), .slice (some ⟨bv, 0, none⟩) 1 1), ((.tmp 66), .slice (some ⟨bw, (i + 1) * 2, none⟩) ((n + 1) - (i + 1)) (c - (i + 1)))]) (op := .call { callee := .value (.func 63), args := #[.tmp 61, .tmp 66], argTypes := #[23, 23] }) (v := .bool false) [(1, (bv, pwO x)), (0, (bw, .cells cur 48 (0, 0)))] (fun ρ o w ho hi2 hd => overl_run bv bw cur x _ _ _ (i + 1) hnd (by rw [hrw.sz]; omega) ho hi2.1 hi2.2.1 hd.1 hd.2.1), .v] H8 kr fun gs9 w9 H9 => ?_
    refine g_cond_t kr kr ?_
    refine dS [.v, .v, .v, .e (v := .int .i64 (IntKind.i64.wrap (((i : Nat) : Int) + 1))) (v' := iN (i + 1)) (int_eq (wrapAdd_i64 (a := i) (b := 1) (by omega))), .oe (ins := [((.tmp 69), .slice (some ⟨bw, 0, none⟩) (n + 1) c), ((.tmp 72), iN (i + 1))]) (v := .slice (some ⟨bw, if c = (i + 1) then 0 else 0 + (i + 1) * 2, none⟩) ((n + 1) - (i + 1)) (c - (i + 1))) (v' := .slice (some ⟨bw, (i + 1) * 2, none⟩) ((n + 1) - (i + 1)) (c - (i + 1))) (fun ρ o w ho hi2 => cutL_run (kz := .i64) (t := 23) (e := 48) (size := 2) (bytes := 32) kr (x := (.tmp 69)) (z := (.tmp 72)) bw 0 (n + 1) c (i + 1) ho hi2.1 hi2.2.1 (by omega) (hroom) w) (by rw [if_neg (by omega), Nat.zero_add]), .v, .v, .oe (ins := [((.tmp 74), .slice (some ⟨bw, 0, none⟩) (n + 1) c), ((.tmp 75), iN i)]) (v := .slice (some ⟨bw, if c = i then 0 else 0 + i * 2, none⟩) ((n + 1) - i) (c - i)) (v' := .slice (some ⟨bw, i * 2, none⟩) ((n + 1) - i) (c - i)) (fun ρ o w ho hi2 => cutL_run (kz := .i64) (t := 23) (e := 48) (size := 2) (bytes := 32) kr (x := (.tmp 74)) (z := (.tmp 75)) bw 0 (n + 1) c i ho hi2.1 hi2.2.1 (by omega) (hroom) w) (by rw [if_neg (by omega), Nat.zero_add]),
      .g [((.tmp 73), .slice (some ⟨bw, (i + 1) * 2, none⟩) ((n + 1) - (i + 1)) (c - (i + 1))), ((.tmp 76), .slice (some ⟨bw, i * 2, none⟩) ((n + 1) - i) (c - i))] (.call { callee := .builtin .copy, args := #[.tmp 73, .tmp 76], argTypes := #[23, 23] }) ((0, (bw, Obj.cells (cur) 48 (0, 0))) :: []) (fun _ => .int .i64 ((Nat.min ((n + 1) - i) ((n + 1) - (i + 1)) : Nat) : Int)) (.turn 0 (.cells (putL (cur) ((i + 1) * 2) ((cellsF pS L).drop (i * 2))) 48 (0, 0))) (copyIt (dT := 23) (sT := 23) (e := 48) (size := 2) kr kr (x := (.tmp 73)) (y := (.tmp 76)) (j := 0) (b := bw) (off := (i + 1) * 2) (dLen := (n + 1) - (i + 1)) (dCap := c - (i + 1)) (sLen := (n + 1) - i) (sCap := c - i) (a := ⟨bw, i * 2, none⟩) (cur := cur) (T := 48) (cs := (cellsF pS L).drop (i * 2)) (rd := []) (by rw [hdl]; show _ = min _ _ * 2; omega) (fun w hd => src_row hd.1 hsrcD) (by rw [hdl, hrw.sz]; omega) (h1d))] H9 kr fun w10 H10 => ?_
    have hsz1 : (putL cur ((i + 1) * 2) ((cellsF pS L).drop (i * 2))).size = c * 2 := by rw [putL_size (by rw [hdl, hrw.sz]; omega), hrw.sz]
    refine rS [.v, .v, .oe (ins := [((.tmp 78), .slice (some ⟨bw, 0, none⟩) (n + 1) c), ((.tmp 79), iN i)]) (v := .slice (some ⟨bw, if c = i then 0 else 0 + i * 2, none⟩) ((n + 1) - i) (c - i)) (v' := .slice (some ⟨bw, i * 2, none⟩) ((n + 1) - i) (c - i)) (fun ρ o w ho hi2 => cutL_run (kz := .i64) (t := 23) (e := 48) (size := 2) (bytes := 32) kr (x := (.tmp 78)) (z := (.tmp 79)) bw 0 (n + 1) c i ho hi2.1 hi2.2.1 (by omega) (hroom) w) (by rw [if_neg (by omega), Nat.zero_add]), .v,
      .g [((.tmp 80), .slice (some ⟨bw, i * 2, none⟩) ((n + 1) - i) (c - i)), ((.tmp 81), .slice (some ⟨bv, 0, none⟩) (1) (1))] (.call { callee := .builtin .copy, args := #[.tmp 80, .tmp 81], argTypes := #[23, 23] }) ((0, (bw, Obj.cells (putL cur ((i + 1) * 2) ((cellsF pS L).drop (i * 2))) 48 (0, 0))) :: [(1, (bv, pwO x))]) (fun _ => .int .i64 ((Nat.min (1) ((n + 1) - i) : Nat) : Int)) (.turn 0 (.cells (putL (putL cur ((i + 1) * 2) ((cellsF pS L).drop (i * 2))) (i * 2) ([.string x.1, .string x.2])) 48 (0, 0))) (copyIt (dT := 23) (sT := 23) (e := 48) (size := 2) kr kr (x := (.tmp 80)) (y := (.tmp 81)) (j := 0) (b := bw) (off := i * 2) (dLen := (n + 1) - i) (dCap := c - i) (sLen := 1) (sCap := 1) (a := ⟨bv, 0, none⟩) (cur := putL cur ((i + 1) * 2) ((cellsF pS L).drop (i * 2))) (T := 48) (cs := [.string x.1, .string x.2]) (rd := [(1, (bv, pwO x))]) (by show 2 = min _ _ * 2; omega) (fun w hd => src_row hd.2.1 (fun q v hq => by rw [Nat.zero_add, ← Array.getElem?_toList]; exact hq)) (by rw [hsz1, hxs]; omega) (h1x))] H10 kr fun gs11 w11 H11 => ?_
    refine rS [.v, .v] H11 kr fun gs12 w12 H12 => ?_
    refine rRr [.tmp 6] [] (.slice (some ⟨bw, 0, none⟩) (n + 1) c) (Ins1 B w0 Lr (L.take i ++ x :: L.drop i)) H12 kr ?_
    have hfin : Rw 2 (putL (putL cur ((i + 1) * 2) ((cellsF pS L).drop (i * 2))) (i * 2) [.string x.1, .string x.2]) c (n + 1) (cellsF pS (L.take i ++ x :: L.drop i)) := by
      refine ⟨by rw [cellsF_len, hlen2]; rfl, hroom, hmx, ?_, by rw [putL_size (by rw [hsz1, hxs]; omega), hsz1]⟩
      rw [ecell]
      exact fin_room hrw.sz hrw.take rfl hcl hxs hi hroom
    exact ⟨some ⟨bw, 0, none⟩, n + 1, c, _, rfl, .inr ⟨bw, _, rfl, rfl, hfin⟩, (H12.as (l := (bw, .cells (putL (putL cur ((i + 1) * 2) ((cellsF pS L).drop (i * 2))) (i * 2) [.string x.1, .string x.2]) 48 (0, 0)) :: (bv, pwO x) :: Lr) kr).sub (List.Sublist.cons_cons _ (List.sublist_cons_self ..))⟩
  · refine rS [.v, .v, .e (v := .int .i64 (IntKind.i64.wrap (((n : Nat) : Int) + 1))) (v' := iN (n + 1)) (int_eq (wrapAdd_i64 (a := n) (b := 1) (by omega))), .v, .v, .e (v := .bool (decide (((n + 1 : Nat) : Int) > ((c : Nat) : Int)))) (v' := .bool true) (bool_eq (decide_eq_true (by omega)))] H6 kr fun gs7 w7 H7 => ?_
    refine g_cond_t kr kr ?_
    have hm1 : i + (n + 1 - i) = n + 1 := by omega
    refine g_sreg [0, 1, 2, 3, 4, 5, 6, 7, 8, 9] kr kr ?_
    refine rp [.v, .v, .o (ins := [((.tmp 32), .slice (some ⟨bw, 0, none⟩) n c), ((.tmp 33), iN i)]) (v := .slice (some ⟨bw, 0, none⟩) i c) (fun ρ o w ho hi2 => cut_run (kd := .i64) (t := 23) (e := 48) (size := 2) (bytes := 32) kr (x := (.tmp 32)) (y := (.tmp 33)) bw n c i ho hi2.1 hi2.2.1 (by omega) w), .v, .v, .e (v := .int .i64 (IntKind.i64.wrap (((n : Nat) : Int) + 1))) (v' := iN (n + 1)) (int_eq (wrapAdd_i64 (a := n) (b := 1) (by omega))), .v, .e (v := .int .i64 (IntKind.i64.wrap (((n + 1 : Nat) : Int) - ((i : Nat) : Int)))) (v' := iN (n + 1 - i)) (int_eq (wrapSub_i64 (by omega)))] H7 kr fun gs8 w8 H8 => ?_
    show WPs _ _ _ _ [8, 9] _ _
    have H9 : St B w0 w8 ((bw, .cells cur 48 (0, 0)) :: (bv, pwO x) :: Lr) := H8.as kr
    refine s_appendZ H9 (some 40) 23 3 48 2 32 .i64 (.tmp 34) (.tmp 39) 0 bw i c (n + 1 - i) cur ((cellsF pS L).take (i * 2)) kr kr kr kr kr kr rfl (hrw.cut i (by omega)) (by omega) (by omega) (by omega) (by unfold maxLen; omega) ?_
    intro b' cap' cur' w9 H10 hcp hcx hcs htk
    rw [hm1] at hcp ⊢
    refine rp [.v] H10 kr fun gs9 w10 H11 => ?_
    show WPs _ _ _ _ [] _ _
    refine s_nil ?_
    have H12 : St B w0 w10 ((b', .cells cur' 48 (0, 0)) :: (bw, .cells cur 48 (0, 0)) :: (bv, pwO x) :: Lr) := H11.as kr
    have hs1 : (putL cur' (i * 2) [.string x.1, .string x.2]).size = cap' * 2 := by rw [putL_size (by rw [hcs, hxs]; omega), hcs]
    refine rS [.v, .v, .oe (ins := [((.tmp 41), .slice (some ⟨b', 0, none⟩) (n + 1) cap'), ((.tmp 42), iN i)]) (v := .slice (some ⟨b', if cap' = i then 0 else 0 + i * 2, none⟩) ((n + 1) - i) (cap' - i)) (v' := .slice (some ⟨b', i * 2, none⟩) ((n + 1) - i) (cap' - i)) (fun ρ o w ho hi2 => cutL_run (kz := .i64) (t := 23) (e := 48) (size := 2) (bytes := 32) kr (x := (.tmp 41)) (z := (.tmp 42)) b' 0 (n + 1) cap' i ho hi2.1 hi2.2.1 (by omega) (hcp) w) (by rw [if_neg (by omega), Nat.zero_add]), .v,
      .g [((.tmp 43), .slice (some ⟨b', i * 2, none⟩) ((n + 1) - i) (cap' - i)), ((.tmp 44), .slice (some ⟨bv, 0, none⟩) (1) (1))] (.call { callee := .builtin .copy, args := #[.tmp 43, .tmp 44], argTypes := #[23, 23] }) ((0, (b', Obj.cells (cur') 48 (0, 0))) :: [(2, (bv, pwO x))]) (fun _ => .int .i64 ((Nat.min (1) ((n + 1) - i) : Nat) : Int)) (.turn 0 (.cells (putL (cur') (i * 2) ([.string x.1, .string x.2])) 48 (0, 0))) (copyIt (dT := 23) (sT := 23) (e := 48) (size := 2) kr kr (x := (.tmp 43)) (y := (.tmp 44)) (j := 0) (b := b') (off := i * 2) (dLen := (n + 1) - i) (dCap := cap' - i) (sLen := 1) (sCap := 1) (a := ⟨bv, 0, none⟩) (cur := cur') (T := 48) (cs := [.string x.1, .string x.2]) (rd := [(2, (bv, pwO x))]) (by show 2 = min _ _ * 2; omega) (fun w hd => src_row hd.2.1 (fun q v hq => by rw [Nat.zero_add, ← Array.getElem?_toList]; exact hq)) (by rw [hcs, hxs]; omega) (h1x))] H12 kr fun gs11 w11 H13 => ?_
    refine dS [.v, .v, .v, .e (v := .int .i64 (IntKind.i64.wrap (((i : Nat) : Int) + 1))) (v' := iN (i + 1)) (int_eq (wrapAdd_i64 (a := i) (b := 1) (by omega))), .oe (ins := [((.tmp 46), .slice (some ⟨b', 0, none⟩) (n + 1) cap'), ((.tmp 49), iN (i + 1))]) (v := .slice (some ⟨b', if cap' = (i + 1) then 0 else 0 + (i + 1) * 2, none⟩) ((n + 1) - (i + 1)) (cap' - (i + 1))) (v' := .slice (some ⟨b', (i + 1) * 2, none⟩) ((n + 1) - (i + 1)) (cap' - (i + 1))) (fun ρ o w ho hi2 => cutL_run (kz := .i64) (t := 23) (e := 48) (size := 2) (bytes := 32) kr (x := (.tmp 46)) (z := (.tmp 49)) b' 0 (n + 1) cap' (i + 1) ho hi2.1 hi2.2.1 (by omega) (hcp) w) (by rw [if_neg (by omega), Nat.zero_add]), .v, .v, .oe (ins := [((.tmp 51), .slice (some ⟨bw, 0, none⟩) n c), ((.tmp 52), iN i)]) (v := .slice (some ⟨bw, if c = i then 0 else 0 + i * 2, none⟩) (n - i) (c - i)) (v' := .slice (some ⟨bw, i * 2, none⟩) (n - i) (c - i)) (fun ρ o w ho hi2 => cutL_run (kz := .i64) (t := 23) (e := 48) (size := 2) (bytes := 32) kr (x := (.tmp 51)) (z := (.tmp 52)) bw 0 n c i ho hi2.1 hi2.2.1 (by omega) (hle) w) (by rw [if_neg (by omega), Nat.zero_add]),
      .g [((.tmp 50), .slice (some ⟨b', (i + 1) * 2, none⟩) ((n + 1) - (i + 1)) (cap' - (i + 1))), ((.tmp 53), .slice (some ⟨bw, i * 2, none⟩) (n - i) (c - i))] (.call { callee := .builtin .copy, args := #[.tmp 50, .tmp 53], argTypes := #[23, 23] }) ((0, (b', Obj.cells (putL cur' (i * 2) [.string x.1, .string x.2]) 48 (0, 0))) :: [(1, (bw, .cells cur 48 (0, 0)))]) (fun _ => .int .i64 ((Nat.min (n - i) ((n + 1) - (i + 1)) : Nat) : Int)) (.turn 0 (.cells (putL (putL cur' (i * 2) [.string x.1, .string x.2]) ((i + 1) * 2) ((cellsF pS L).drop (i * 2))) 48 (0, 0))) (copyIt (dT := 23) (sT := 23) (e := 48) (size := 2) kr kr (x := (.tmp 50)) (y := (.tmp 53)) (j := 0) (b := b') (off := (i + 1) * 2) (dLen := (n + 1) - (i + 1)) (dCap := cap' - (i + 1)) (sLen := n - i) (sCap := c - i) (a := ⟨bw, i * 2, none⟩) (cur := putL cur' (i * 2) [.string x.1, .string x.2]) (T := 48) (cs := (cellsF pS L).drop (i * 2)) (rd := [(1, (bw, .cells cur 48 (0, 0)))]) (by rw [hdl]; show _ = min _ _ * 2; omega) (fun w hd => src_row hd.2.1 hsrcD) (by rw [hdl, hs1]; omega) (h1d))] H13 kr fun w12 H14 => ?_
    refine rS [.v, .v] H14 kr fun gs12 w13 H15 => ?_
    refine rRr [.tmp 6] [] (.slice (some ⟨b', 0, none⟩) (n + 1) cap') (Ins1 B w0 Lr (L.take i ++ x :: L.drop i)) H15 kr ?_
    have hfin : Rw 2 (putL (putL cur' (i * 2) [.string x.1, .string x.2]) ((i + 1) * 2) ((cellsF pS L).drop (i * 2))) cap' (n + 1) (cellsF pS (L.take i ++ x :: L.drop i)) := by
      refine ⟨by rw [cellsF_len, hlen2]; rfl, hcp, hcx, ?_, by rw [putL_size (by rw [hs1, hdl]; omega), hs1]⟩
      rw [ecell]
      exact fin_grow hcs htk hcl hxs hdl hi hcp
    exact ⟨some ⟨b', 0, none⟩, n + 1, cap', _, rfl, .inr ⟨b', _, rfl, rfl, hfin⟩, (H15.as (l := (b', .cells (putL (putL cur' (i * 2) [.string x.1, .string x.2]) ((i + 1) * 2) ((cellsF pS L).drop (i * 2))) 48 (0, 0)) :: (bw, .cells cur 48 (0, 0)) :: (bv, pwO x) :: Lr) kr).sub (List.Sublist.cons_cons _ ((List.sublist_cons_self ..).trans (List.sublist_cons_self ..)))⟩
end Go.Proofs.YtlhfgbjhngkicaaGreatDoor

namespace Go.Proofs.YtlhfgbjhngkicaaGreatDoor
open Go Go.RowKit
set_option linter.unusedVariables false
/-! ### Entries by their first half byte -/
def kap (e : Ent) : Nat := match e.1 with
  | [] => 0
  | b :: _ => b.toNat + 1
def fil (c : Nat) (l : List Ent) : List Ent := l.filter fun e => decide (kap e = c)
theorem fil_cons (c : Nat) (e : Ent) (l : List Ent) : fil c (e :: l) = if kap e = c then e :: fil c l else fil c l := by
  unfold fil; rw [List.filter_cons]; by_cases h : kap e = c <;> simp [h]
def fm : Nat → List Ent → List Ent
  | 0, _ => []
  | n + 1, l => fm n l ++ fil n l
theorem fil_none {c : Nat} {l : List Ent} (h : ∀ e ∈ l, kap e ≠ c) : fil c l = [] := by
  unfold fil; rw [List.filter_eq_nil_iff]; intro e he; simp [h e he]
theorem fm_none : ∀ {n : Nat} {l : List Ent}, (∀ e ∈ l, n ≤ kap e) → fm n l = []
  | 0, _, _ => rfl
  | n + 1, l, h => by
    unfold fm
    rw [fm_none fun e he => Nat.le_of_succ_le (h e he), fil_none fun e he => by have := h e he; omega]; rfl
theorem fm_cons {e : Ent} {l : List Ent} (h : ∀ x ∈ l, kap e ≤ kap x) : ∀ n, fm n (e :: l) = if kap e < n then e :: fm n l else fm n l
  | 0 => by rw [if_neg (Nat.not_lt_zero _)]; rfl
  | n + 1 => by
    have ih := fm_cons h n
    unfold fm
    rw [ih, fil_cons]
    rcases Nat.lt_trichotomy (kap e) n with c | c | c
    · rw [if_pos c, if_neg (by omega), if_pos (by omega)]; rfl
    · rw [if_neg (by omega), if_pos c, if_pos (by omega), fm_none fun x hx => by have := h x hx; omega]; rfl
    · rw [if_neg (by omega), if_neg (by omega), if_neg (by omega)]
theorem fm_all {n : Nat} : ∀ {l : List Ent}, l.Pairwise (fun a b => kap a ≤ kap b) → (∀ e ∈ l, kap e < n) → fm n l = l
  | [], _, _ => fm_none fun _ h => nomatch h
  | e :: l, h, hn => by
    rw [fm_cons (List.pairwise_cons.1 h).1, if_pos (hn e (List.mem_cons_self ..)), fm_all (List.pairwise_cons.1 h).2 fun x hx => hn x (List.mem_cons_of_mem _ hx)]
theorem kap_lex {a b : Ent} (h : lexB a.1 b.1 = true) : kap a ≤ kap b := by
  obtain ⟨x, v⟩ := a
  obtain ⟨y, u⟩ := b
  cases x with
  | nil => exact Nat.zero_le _
  | cons p x =>
    cases y with
    | nil => rw [lexB_nil] at h; cases h
    | cons q y =>
      show p.toNat + 1 ≤ q.toNat + 1
      rcases lexB_cons h with h | ⟨rfl, _⟩ <;> omega
theorem kap_rise {l : List Ent} (h : Rise l) : l.Pairwise fun a b => kap a ≤ kap b := List.Pairwise.imp kap_lex h
theorem kap_ok {f : Nat} {l : List Ent} (h : Okl f l) : ∀ e ∈ l, kap e < 17 := fun e he => by
  obtain ⟨x, v⟩ := e
  cases x with
  | nil => show 0 < 17; omega
  | cons p x => have := (h _ he).2 p (List.mem_cons_self ..); show p.toNat + 1 < 17; omega
/-- The pairs of entries. -/
def coll (pre : List UInt8) (l : List Ent) : List Pr := l.map fun e => (kyS (pre ++ e.1), e.2)
theorem coll_append (pre : List UInt8) (l m : List Ent) : coll pre (l ++ m) = coll pre l ++ coll pre m := List.map_append ..
theorem ofNat_toNat8 (b : UInt8) : UInt8.ofNat b.toNat = b := by simp
theorem coll_cut (pre : List UInt8) (c : Nat) : ∀ l : List Ent, coll pre (fil (c + 1) l) = coll (pre ++ [UInt8.ofNat c]) (cutE c l)
  | [] => rfl
  | e :: l => by
    have ih := coll_cut pre c l
    rw [fil_cons]
    obtain ⟨x, v⟩ := e
    cases x with
    | nil =>
      rw [if_neg (show ¬ kap ([], v) = c + 1 from fun h => by cases h), ih]; rfl
    | cons p x =>
      by_cases h : p.toNat = c
      · rw [if_pos (show kap (p :: x, v) = c + 1 from congrArg (· + 1) h)]
        have e2 : cutE c ((p :: x, v) :: l) = (x, v) :: cutE c l := by simp [cutE, h]
        rw [e2]
        unfold coll at ih ⊢
        rw [List.map_cons, List.map_cons, ih]
        congr 2
        rw [List.append_assoc, ← h, ofNat_toNat8]; rfl
      · rw [if_neg (show ¬ kap (p :: x, v) = c + 1 from fun q => h (Nat.succ.inj q)), ih]
        have e2 : cutE c ((p :: x, v) :: l) = cutE c l := by simp [cutE, h]
        rw [e2]
theorem may_em (k : ByteArray) : mayM k ⟨#[]⟩ = false := by unfold mayM; simp [show (⟨#[]⟩ : ByteArray).size = 0 from rfl]
theorem found_val (pre : List UInt8) (ps : List Pr) : ∀ l : List Ent, Rise l → (∀ e ∈ l, mayM (kyS (pre ++ e.1)) e.2 = true) → foundM pre (valE l) ps = ps ++ coll pre (fil 0 l)
  | [], _, _ => by
    show foundM pre ⟨#[]⟩ ps = ps ++ []
    unfold foundM; rw [may_em]; simp
  | e :: l, h, hm => by
    have h2 := List.pairwise_cons.1 h
    unfold valE
    rw [fil_cons]
    by_cases he : e.1 = []
    · have hk : kap e = 0 := by unfold kap; rw [he]
      rw [if_pos he, if_pos hk]
      have hn : fil 0 l = [] := fil_none fun x hx => by
        have h3 := h2.1 x hx
        rw [he] at h3
        unfold kap
        cases hx1 : x.1 with
        | nil => rw [hx1] at h3; cases h3
        | cons p t => simp
      have hme := hm e (List.mem_cons_self ..)
      rw [he, List.append_nil] at hme
      rw [hn]; unfold foundM coll
      rw [if_pos hme]; simp [he]
    · have hk : ¬ kap e = 0 := by
        unfold kap
        cases hx1 : e.1 with
        | nil => exact absurd hx1 he
        | cons p t => simp
      rw [if_neg he, if_neg hk]
      exact found_val pre ps l h2.2 fun x hx => hm x (List.mem_cons_of_mem _ hx)
/-! ### What is laid stands behind -/
theorem kids_pre {lay : List Ent → List Nd → List Nd × Int} (h : ∀ l A, ∃ Z, (lay l A).1 = A ++ Z) (l : List Ent) (A : List Nd) : ∀ n, ∃ Z, (kidsW lay l n A).1 = A ++ Z
  | 0 => ⟨[], by simp [kidsW]⟩
  | n + 1 => by
    obtain ⟨Z, hZ⟩ := kids_pre h l A n
    obtain ⟨Y, hY⟩ := h (cutE n l) (kidsW lay l n A).1
    exact ⟨Z ++ Y, by show (lay (cutE n l) (kidsW lay l n A).1).1 = _; rw [hY, hZ, List.append_assoc]⟩
theorem lay_pre : ∀ (f : Nat) (l : List Ent) (A : List Nd), ∃ Z, (layM f l A).1 = A ++ Z
  | 0, _, A => ⟨[], by simp [layM]⟩
  | f + 1, [], A => ⟨[], by simp [layM]⟩
  | f + 1, [e], A => ⟨_, by unfold layM; rfl⟩
  | f + 1, e :: e' :: r, A => by
    unfold layM
    split
    · obtain ⟨Z, hZ⟩ := lay_pre f (dropE (commonM (e :: e' :: r)) (e :: e' :: r)) A
      exact ⟨_, by rw [hZ, List.append_assoc]⟩
    · obtain ⟨Z, hZ⟩ := kids_pre (lay_pre f) (e :: e' :: r) A 16
      exact ⟨_, by rw [hZ, List.append_assoc]⟩
theorem kids_more (f : Nat) (l : List Ent) (A : List Nd) (c : Nat) : ∀ n, c ≤ n → ∃ Z, (kidsW (layM f) l n A).1 = (kidsW (layM f) l c A).1 ++ Z := by
  intro n hn
  induction n with
  | zero => obtain rfl : c = 0 := by omega
            exact ⟨[], by simp⟩
  | succ n ih =>
    by_cases h : c = n + 1
    · subst h; exact ⟨[], by simp⟩
    · obtain ⟨Z, hZ⟩ := ih (by omega)
      obtain ⟨Y, hY⟩ := lay_pre f (cutE n l) (kidsW (layM f) l n A).1
      exact ⟨Z ++ Y, by show (layM f (cutE n l) (kidsW (layM f) l n A).1).1 = _; rw [hY, hZ, List.append_assoc]⟩
theorem lay_root : ∀ (f : Nat) (l : List Ent) (A : List Nd), l ≠ [] → Okl f l → ∃ m : Nat, (layM f l A).2 = (m : Int) ∧ (layM f l A).1.length = m + 1 ∧ A.length ≤ m
  | 0, [], _, h, _ => absurd rfl h
  | 0, e :: l, _, _, h => absurd (h e (List.mem_cons_self ..)).1 (Nat.not_lt_zero _)
  | f + 1, [], _, h, _ => absurd rfl h
  | f + 1, [e], A, _, _ => ⟨A.length, rfl, by unfold layM; simp, Nat.le_refl _⟩
  | f + 1, e :: e' :: r, A, _, _ => by
    unfold layM
    split
    · obtain ⟨Z, hZ⟩ := lay_pre f (dropE (commonM (e :: e' :: r)) (e :: e' :: r)) A
      exact ⟨_, rfl, by simp, by rw [hZ]; simp⟩
    · obtain ⟨Z, hZ⟩ := kids_pre (lay_pre f) (e :: e' :: r) A 16
      exact ⟨_, rfl, by simp, by rw [hZ]; simp⟩
/-! ### How many -/
def grp (l : List Ent) : Nat → Nat
  | 0 => 0
  | n + 1 => grp l n + if cutE n l = [] then 0 else 1
theorem grp_mono (l : List Ent) {m n : Nat} (h : m ≤ n) : grp l m ≤ grp l n := by
  induction n with
  | zero => obtain rfl : m = 0 := by omega
            exact Nat.le_refl _
  | succ n ih =>
    by_cases e : m = n + 1
    · subst e; exact Nat.le_refl _
    · have := ih (by omega)
      show _ ≤ grp l n + (if cutE n l = [] then 0 else 1)
      omega
theorem grp_one {l : List Ent} {i : Nat} (h : cutE i l ≠ []) : grp l i + 1 = grp l (i + 1) := by
  show _ = grp l i + if cutE i l = [] then 0 else 1
  rw [if_neg h]
theorem grp_two {l : List Ent} {i j n : Nat} (hi : i < n) (hj : j < n) (hij : i < j) (h1 : cutE i l ≠ []) (h2 : cutE j l ≠ []) : 2 ≤ grp l n := by
  have a := grp_one h1
  have b := grp_one h2
  have c := grp_mono l (show i + 1 ≤ j by omega)
  have d := grp_mono l (show j + 1 ≤ n by omega)
  omega
theorem cut_has {l : List Ent} {b : UInt8} {t : List UInt8} {v : ByteArray} (h : (b :: t, v) ∈ l) : cutE b.toNat l ≠ [] := by
  intro e
  have : (t, v) ∈ cutE b.toNat l := by
    unfold cutE; rw [List.mem_filterMap]
    exact ⟨_, h, by simp⟩
  rw [e] at this; cases this
theorem sum_cut_val {e : Ent} (h : e.1 = []) (r : List Ent) (n : Nat) : ((List.range n).map fun c => (cutE c (e :: r)).length).sum = ((List.range n).map fun c => (cutE c r).length).sum := by
  congr 1
  refine List.map_congr_left fun c _ => ?_
  obtain ⟨x, v⟩ := e
  obtain rfl : x = [] := h
  rfl
/-- Of two or more that part here: one that ends here and one more, or two that go on unlike. -/
theorem grp_part {f : Nat} {l : List Ent} (hr : Rise l) (ho : Okl f l) (h2 : 2 ≤ l.length) (hc : commonM l = 0) : ((List.range 16).map fun c => (cutE c l).length).sum + 1 ≤ l.length ∧ 1 ≤ grp l 16 ∨ 2 ≤ grp l 16 := by
  match l, h2 with
  | e :: e' :: r, _ =>
    have h' := ho e' (by simp)
    have hlex : lexB e.1 e'.1 = true := (List.pairwise_cons.1 hr).1 e' (by simp)
    obtain ⟨x', v'⟩ := e'
    cases x' with
    | nil => rw [lexB_nil] at hlex; cases hlex
    | cons q y =>
      have hq : q.toNat < 16 := h'.2 q (by simp)
      have hcq := cut_has (l := e :: (q :: y, v') :: r) (b := q) (t := y) (v := v') (by simp)
      obtain ⟨x, v⟩ := e
      cases x with
      | nil =>
        left
        refine ⟨?_, ?_⟩
        · rw [sum_cut_val rfl]
          have := cutE_len ((q :: y, v') :: r) 16
          simp only [List.length_cons] at this ⊢; omega
        · have a := grp_one hcq
          have b := grp_mono ((([] : List UInt8), v) :: (q :: y, v') :: r) (show q.toNat + 1 ≤ 16 by omega)
          omega
      | cons p x =>
        right
        have hp : p.toNat < 16 := (ho (p :: x, v) (by simp)).2 p (by simp)
        have hcp := cut_has (l := (p :: x, v) :: (q :: y, v') :: r) (b := p) (t := x) (v := v) (by simp)
        by_cases hall : ∀ z ∈ (p :: x, v) :: (q :: y, v') :: r, ∃ t, z.1 = p :: t
        · exfalso
          have : 1 ≤ commonM ((p :: x, v) :: (q :: y, v') :: r) := cmL_min _ _ _ _ (by simp) fun z hz => by
            obtain ⟨t, ht⟩ := hall z hz
            rw [ht]; simp [shr]
          omega
        · have ⟨z, hz, hne⟩ : ∃ z ∈ (p :: x, v) :: (q :: y, v') :: r, ∀ t, z.1 ≠ p :: t := by
            refine Classical.byContradiction fun hn => hall fun z hz => ?_
            refine Classical.byContradiction fun ht => hn ⟨z, hz, fun t e => ht ⟨t, e⟩⟩
          obtain ⟨zx, zv⟩ := z
          cases zx with
          | nil =>
            exfalso
            rcases List.mem_cons.1 hz with hz | hz
            · cases hz
            · have := (List.pairwise_cons.1 hr).1 _ hz
              rw [lexB_nil] at this; cases this
          | cons b t =>
            have hb : b.toNat < 16 := (ho _ hz).2 b (by simp)
            have hcb := cut_has hz
            have hbp : b.toNat ≠ p.toNat := fun e => hne t (by rw [UInt8.toNat_inj.1 e])
            rcases Nat.lt_or_gt_of_ne hbp with h | h
            · exact grp_two hb hp h hcb hcp
            · exact grp_two hp hb h hcp hcb
theorem common_drop {l : List Ent} {e : Ent} (he : l.head? = some e) : commonM (dropE (commonM l) l) = 0 := by
  cases l with
  | nil => rfl
  | cons e0 r =>
    obtain rfl : e0 = e := by simpa using he
    refine Classical.byContradiction fun hne => ?_
    have hle := fun p (hp : p ∈ e0 :: r) => commonM_le (l := e0 :: r) (e := e0) rfl p hp
    generalize hk : commonM (e0 :: r) = k at *
    have h1 := fun p hp => commonM_le (l := dropE k (e0 :: r)) (e := (e0.1.drop k, e0.2)) rfl p hp
    have h2 : k + 1 ≤ commonM (e0 :: r) := by
      have key : ∀ p ∈ e0 :: r, k + 1 ≤ shr p.1 e0.1 := fun p hp => by
        have a := h1 (p.1.drop k, p.2) (List.mem_map.2 ⟨p, hp, rfl⟩)
        have b := shr_takeLe (hle p hp)
        have d : shr p.1 e0.1 = (p.1.take k).length + shr (p.1.drop k) (e0.1.drop k) := by
          have := shr_pre (p.1.take k) (p.1.drop k) (e0.1.drop k)
          rw [List.take_append_drop] at this
          rw [b, List.take_append_drop] at this
          rw [this, b]
        have g := hle p hp
        have g2 := (shr_le p.1 e0.1).1
        rw [List.length_take] at d
        simp only at a
        omega
      refine cmL_min _ _ _ _ ?_ key
      have := key e0 (List.mem_cons_self ..)
      have := (shr_le e0.1 e0.1).1
      omega
    omega
theorem kids_cnt {f : Nat} (l : List Ent) (hc : ∀ c (A : List Nd), cutE c l ≠ [] → (layM f (cutE c l) A).1.length + 2 ≤ A.length + 3 * (cutE c l).length) (A : List Nd) : ∀ n, (kidsW (layM f) l n A).1.length + 2 * grp l n ≤ A.length + 3 * ((List.range n).map fun c => (cutE c l).length).sum
  | 0 => by simp [kidsW, grp]
  | n + 1 => by
    have ih := kids_cnt l hc A n
    rw [List.range_succ, List.map_append, List.sum_append]
    simp only [List.map_cons, List.map_nil, List.sum_cons, List.sum_nil, Nat.add_zero]
    show (layM f (cutE n l) (kidsW (layM f) l n A).1).1.length + 2 * (grp l n + if cutE n l = [] then 0 else 1) ≤ _
    by_cases h : cutE n l = []
    · rw [if_pos h, h]
      have e0 : layM f ([] : List Ent) (kidsW (layM f) l n A).1 = ((kidsW (layM f) l n A).1, -1) := by cases f <;> simp [layM]
      rw [e0]; simp only [List.length_nil]; omega
    · rw [if_neg h]
      have := hc n (kidsW (layM f) l n A).1 h
      omega
theorem lay_cnt : ∀ (f : Nat) (l : List Ent) (A : List Nd), l ≠ [] → Rise l → Okl f l → (layM f l A).1.length + 2 ≤ A.length + 3 * l.length ∧ (2 ≤ l.length → commonM l = 0 → (layM f l A).1.length + 3 ≤ A.length + 3 * l.length)
  | 0, [], _, h, _, _ => absurd rfl h
  | 0, e :: l, _, _, _, h => absurd (h e (List.mem_cons_self ..)).1 (Nat.not_lt_zero _)
  | f + 1, [], _, h, _, _ => absurd rfl h
  | f + 1, [e], A, _, _, _ => by unfold layM; simp
  | f + 1, e :: e' :: r, A, _, hr, ho => by
    have h2 : 2 ≤ (e :: e' :: r).length := by simp
    unfold layM
    by_cases hc : 0 < commonM (e :: e' :: r)
    · rw [if_pos hc]
      have ih := (lay_cnt f (dropE (commonM (e :: e' :: r)) (e :: e' :: r)) A (by simp [dropE]) (dropE_rise hr rfl) (dropE_ok rfl hc ho)).2 (by rw [dropE_len]; exact h2) (common_drop rfl)
      rw [dropE_len] at ih
      refine ⟨?_, fun _ h => absurd h (by omega)⟩
      simp only [List.length_append, List.length_cons, List.length_nil] at ih ⊢; omega
    · rw [if_neg hc]
      have hk := kids_cnt (f := f) (e :: e' :: r) (fun c A' hne => (lay_cnt f _ A' hne (cutE_rise c hr) (cutE_ok c ho)).1) A 16
      have hg := grp_part hr ho h2 (by omega)
      have hs := cutE_len (e :: e' :: r) 16
      have : (kidsW (layM f) (e :: e' :: r) 16 A).1.length + 1 + 3 ≤ A.length + 3 * (e :: e' :: r).length := by
        rcases hg with ⟨h1, h3⟩ | h3 <;> omega
      refine ⟨?_, fun _ _ => ?_⟩ <;> (simp only [List.length_append, List.length_cons, List.length_nil] at this ⊢; omega)
/-! ### It is walked as it was laid -/
theorem kids_none {go : Int → List UInt8 → Nat × List Pr → Nat × List Pr} {x : Nd} {part : List UInt8} : ∀ (n : Nat) (s : Nat × List Pr), (∀ i, i < n → x.kids.getD i (-1) = -1) → kidsR go x part n s = s
  | 0, s, _ => rfl
  | n + 1, s, h => by
    unfold kidsR
    rw [if_pos (h n (Nat.lt_succ_self n))]
    exact kids_none n s fun i hi => h i (by omega)
theorem kids_first {go : Int → List UInt8 → Nat × List Pr → Nat × List Pr} {x : Nd} {part : List UInt8} (h0 : x.kids.getD 0 (-1) ≠ -1) (h1 : ∀ i, 0 < i → x.kids.getD i (-1) = -1) : ∀ (n : Nat) (s : Nat × List Pr), kidsR go x part (n + 1) s = go (x.kids.getD 0 (-1)) (part ++ stepM' x.kind 0) s
  | 0, s => by
    unfold kidsR
    rw [if_neg h0]; rfl
  | n + 1, s => by
    rw [kidsR, if_pos (h1 (n + 1) (Nat.succ_pos n))]
    exact kids_first h0 h1 n s
theorem walk_at {A' : List Nd} {g m : Nat} {pre : List UInt8} {s : Nat × List Pr} {x : Nd} (hx : A'[m]? = some x) (hs : s.1 ≠ 0) (hp : pre.length + x.part.size ≤ 64) :
    walkM A' (g + 1) (m : Int) pre s = kidsR (walkM A' g) x (pre ++ tl x.part) 16 (s.1 - 1, foundM (pre ++ tl x.part) x.value s.2) := by
  have hm := (List.getElem?_eq_some_iff.1 hx).1
  unfold walkM
  rw [if_neg (by omega), Int.toNat_natCast, hx]
  simp only
  rw [if_neg (by omega)]
theorem at_last {α : Type} (L : List α) (x : α) (Z : List α) : ((L ++ [x]) ++ Z)[L.length]? = some x := by simp
theorem walk_lay : ∀ (f g : Nat) (l : List Ent) (A A' : List Nd) (pre : List UInt8) (s : Nat × List Pr), f ≤ g → l ≠ [] → Okl f l → Rise l → (∀ e ∈ l, pre.length + e.1.length ≤ 64) → (∀ e ∈ l, mayM (kyS (pre ++ e.1)) e.2 = true) →
    (∃ Z, A' = (layM f l A).1 ++ Z) → (layM f l A).1.length ≤ A.length + s.1 → walkM A' g (layM f l A).2 pre s = (s.1 - ((layM f l A).1.length - A.length), s.2 ++ coll pre l)
  | 0, _, [], _, _, _, _, _, h, _, _, _, _, _, _ => absurd rfl h
  | 0, _, e :: l, _, _, _, _, _, _, h, _, _, _, _, _ => absurd (h e (List.mem_cons_self ..)).1 (Nat.not_lt_zero _)
  | f + 1, 0, _, _, _, _, _, h, _, _, _, _, _, _, _ => absurd h (Nat.not_succ_le_zero f)
  | f + 1, g + 1, [], _, _, _, _, _, h, _, _, _, _, _, _ => absurd rfl h
  | f + 1, g + 1, [e], A, A', pre, s, hg, _, ho, hr, hlen, hmay, ⟨Z, hZ⟩, hs => by
    unfold layM at hs hZ ⊢
    simp only [List.length_append, List.length_cons, List.length_nil] at hs ⊢
    have hsz : (strB e.1).size = e.1.length := rfl
    rw [walk_at (x := ⟨1, strB e.1, e.2, aloneL⟩) (by rw [hZ]; exact at_last A _ Z) (by omega) (by show pre.length + (strB e.1).size ≤ 64; rw [hsz]; exact hlen e (by simp)), kids_none]
    · have hm := hmay e (by simp)
      show (s.1 - 1, foundM (pre ++ e.1) e.2 s.2) = _
      unfold foundM
      rw [if_pos hm]
      refine Prod.ext ?_ rfl
      show s.1 - 1 = _; omega
    · intro i hi
      show aloneL.getD i (-1) = -1
      unfold aloneL
      rw [List.getD_eq_getElem?_getD, List.getElem?_replicate, if_pos hi]; rfl
  | f + 1, g + 1, e :: e' :: r, A, A', pre, s, hg, _, ho, hr, hlen, hmay, ⟨Z, hZ⟩, hs => by
    unfold layM at hs hZ ⊢
    by_cases hc : 0 < commonM (e :: e' :: r)
    · rw [if_pos hc] at hs hZ ⊢
      have hd : dropE (commonM (e :: e' :: r)) (e :: e' :: r) ≠ [] := by simp [dropE]
      have hok := dropE_ok (e := e) rfl hc ho
      obtain ⟨m, hm1, hm2, hm3⟩ := lay_root f _ A hd hok
      have hsub : ∀ x ∈ dropE (commonM (e :: e' :: r)) (e :: e' :: r), (pre ++ e.1.take (commonM (e :: e' :: r))).length + x.1.length ≤ 64 ∧ mayM (kyS ((pre ++ e.1.take (commonM (e :: e' :: r))) ++ x.1)) x.2 = true := fun x hx => by
        obtain ⟨y, hy, rfl⟩ := List.mem_map.1 hx
        have h1 := shr_takeLe (commonM_le (l := e :: e' :: r) (e := e) rfl y hy)
        have h2 : (pre ++ e.1.take (commonM (e :: e' :: r))) ++ y.1.drop (commonM (e :: e' :: r)) = pre ++ y.1 := by
          rw [← h1, List.append_assoc, List.take_append_drop]
        refine ⟨?_, by rw [show ((y.1.drop (commonM (e :: e' :: r)), y.2) : Ent).1 = y.1.drop (commonM (e :: e' :: r)) from rfl, h2]; exact hmay y hy⟩
        rw [← List.length_append, show ((y.1.drop (commonM (e :: e' :: r)), y.2) : Ent).1 = y.1.drop (commonM (e :: e' :: r)) from rfl, h2, List.length_append]
        exact hlen y hy
      have hcol : coll (pre ++ e.1.take (commonM (e :: e' :: r))) (dropE (commonM (e :: e' :: r)) (e :: e' :: r)) = coll pre (e :: e' :: r) := by
        unfold coll dropE
        rw [List.map_map]
        refine List.map_congr_left fun y hy => ?_
        have h1 := shr_takeLe (commonM_le (l := e :: e' :: r) (e := e) rfl y hy)
        show (kyS ((pre ++ e.1.take (commonM (e :: e' :: r))) ++ y.1.drop (commonM (e :: e' :: r))), y.2) = _
        rw [← h1, List.append_assoc, List.take_append_drop]
      have ih := fun A' s => walk_lay f g (dropE (commonM (e :: e' :: r)) (e :: e' :: r)) A A' (pre ++ e.1.take (commonM (e :: e' :: r))) s (by omega) hd hok (dropE_rise hr rfl) (fun x hx => (hsub x hx).1) (fun x hx => (hsub x hx).2)
      rw [hcol] at ih
      generalize layM f (dropE (commonM (e :: e' :: r)) (e :: e' :: r)) A = R at *
      obtain ⟨R1, R2⟩ := R
      simp only at *
      subst hm1
      simp only [List.length_append, List.length_cons, List.length_nil] at hs ⊢
      have hsz : (strB (e.1.take (commonM (e :: e' :: r)))).size = min (commonM (e :: e' :: r)) e.1.length := by rw [strB_size, List.length_take]
      have he := hlen e (by simp)
      rw [walk_at (x := ⟨2, strB (e.1.take (commonM (e :: e' :: r))), ⟨#[]⟩, (m : Int) :: List.replicate 15 (-1)⟩) (by rw [hZ]; exact at_last R1 _ Z) (by omega) (by show pre.length + (strB _).size ≤ 64; rw [hsz]; omega)]
      have h0 : ((m : Int) :: List.replicate 15 (-1)).getD 0 (-1) = (m : Int) := rfl
      rw [kids_first (x := ⟨2, strB (e.1.take (commonM (e :: e' :: r))), ⟨#[]⟩, (m : Int) :: List.replicate 15 (-1)⟩) (by show ((m : Int) :: List.replicate 15 (-1)).getD 0 (-1) ≠ -1; rw [h0]; omega) (fun i hi => by
        show ((m : Int) :: List.replicate 15 (-1)).getD i (-1) = -1
        cases i with
        | zero => omega
        | succ i =>
          rw [List.getD_cons_succ, List.getD_eq_getElem?_getD, List.getElem?_replicate]
          split <;> rfl)]
      show walkM A' g (m : Int) (pre ++ e.1.take (commonM (e :: e' :: r)) ++ stepM' 2 0) (s.1 - 1, foundM (pre ++ e.1.take (commonM (e :: e' :: r))) ⟨#[]⟩ s.2) = _
      have e1 : stepM' 2 0 = [] := rfl
      have e2 : foundM (pre ++ e.1.take (commonM (e :: e' :: r))) ⟨#[]⟩ s.2 = s.2 := by unfold foundM; rw [may_em]; simp
      rw [e1, e2, List.append_nil, ih A' (s.1 - 1, s.2) ⟨_, by rw [hZ, List.append_assoc]⟩ (by show _ ≤ A.length + (s.1 - 1); omega)]
      refine Prod.ext ?_ rfl
      show s.1 - 1 - _ = _; omega
    · rw [if_neg hc] at hs hZ ⊢
      simp only [List.length_append, List.length_cons, List.length_nil] at hs ⊢
      have hl0 : (kidsW (layM f) (e :: e' :: r) 16 A).1.length ≥ A.length := by
        obtain ⟨Y, hY⟩ := kids_pre (lay_pre f) (e :: e' :: r) A 16
        rw [hY]; simp
      have hpre : pre.length ≤ 64 := by have := hlen e (by simp); omega
      have hcol : coll pre (e :: e' :: r) = coll pre (fm 17 (e :: e' :: r)) := by rw [fm_all (kap_rise hr) (kap_ok ho)]
      generalize hl : e :: e' :: r = l at *
      rw [walk_at (x := ⟨3, ⟨#[]⟩, valE l, (kidsW (layM f) l 16 A).2⟩) (by rw [hZ]; exact at_last _ _ Z) (by omega) (by show pre.length + 0 ≤ 64; exact hpre)]
      show kidsR (walkM A' g) ⟨3, ⟨#[]⟩, valE l, (kidsW (layM f) l 16 A).2⟩ (pre ++ []) 16 (s.1 - 1, foundM (pre ++ []) (valE l) s.2) = _
      rw [List.append_nil, found_val pre s.2 l hr hmay]
      have key : ∀ c, c ≤ 16 → kidsR (walkM A' g) ⟨3, ⟨#[]⟩, valE l, (kidsW (layM f) l 16 A).2⟩ pre c (s.1 - 1, s.2 ++ coll pre (fil 0 l)) = (s.1 - 1 - ((kidsW (layM f) l c A).1.length - A.length), s.2 ++ coll pre (fm (c + 1) l)) := by
        intro c
        induction c with
        | zero =>
          intro _
          show (s.1 - 1, s.2 ++ coll pre (fil 0 l)) = (s.1 - 1 - (A.length - A.length), s.2 ++ coll pre ([] ++ fil 0 l))
          rw [Nat.sub_self, List.nil_append]; rfl
        | succ c ih =>
          intro hc16
          have ih := ih (by omega)
          rw [kidsR, ih]
          have hk : ((kidsW (layM f) l 16 A).2).getD c (-1) = (layM f (cutE c l) (kidsW (layM f) l c A).1).2 := kidsW_get (layM f) l A 16 c (by omega)
          show (if ((kidsW (layM f) l 16 A).2).getD c (-1) = -1 then _ else walkM A' g (((kidsW (layM f) l 16 A).2).getD c (-1)) (pre ++ stepM' 3 c) _) = _
          rw [hk]
          have hstep : (kidsW (layM f) l (c + 1) A).1 = (layM f (cutE c l) (kidsW (layM f) l c A).1).1 := rfl
          rw [hstep]
          have hfm : coll pre (fm (c + 1 + 1) l) = coll pre (fm (c + 1) l) ++ coll (pre ++ [UInt8.ofNat c]) (cutE c l) := by
            rw [fm, coll_append, coll_cut]
          rw [hfm]
          by_cases hn : cutE c l = []
          · have e0 : layM f (cutE c l) (kidsW (layM f) l c A).1 = ((kidsW (layM f) l c A).1, -1) := by rw [hn]; cases f <;> simp [layM]
            rw [e0, if_pos rfl, hn]
            simp [coll]
          · obtain ⟨m, hm1, hm2, hm3⟩ := lay_root f (cutE c l) (kidsW (layM f) l c A).1 hn (cutE_ok c ho)
            rw [if_neg (by rw [hm1]; omega)]
            obtain ⟨Y, hY⟩ := kids_more f l A (c + 1) 16 hc16
            rw [hstep] at hY
            obtain ⟨Y0, hY0⟩ := kids_pre (lay_pre f) l A c
            have hl1 : A.length ≤ (kidsW (layM f) l c A).1.length := by rw [hY0]; simp
            have hl2 : (layM f (cutE c l) (kidsW (layM f) l c A).1).1.length ≤ (kidsW (layM f) l 16 A).1.length := by rw [hY]; simp
            have hmem : ∀ x ∈ cutE c l, (pre ++ [UInt8.ofNat c]).length + x.1.length ≤ 64 ∧ mayM (kyS ((pre ++ [UInt8.ofNat c]) ++ x.1)) x.2 = true := fun x hx => by
              obtain ⟨b, hb, hbc⟩ := cutE_mem hx
              have h1 := hlen _ hb
              have h2 := hmay _ hb
              simp only [List.length_cons, List.length_append, List.length_nil] at h1 ⊢
              refine ⟨by omega, ?_⟩
              rw [List.append_assoc, ← hbc, ofNat_toNat8]
              exact h2
            have hw := walk_lay f g (cutE c l) (kidsW (layM f) l c A).1 A' (pre ++ [UInt8.ofNat c]) (s.1 - 1 - ((kidsW (layM f) l c A).1.length - A.length), s.2 ++ coll pre (fm (c + 1) l)) (by omega) hn (cutE_ok c ho) (cutE_rise c hr) (fun x hx => (hmem x hx).1) (fun x hx => (hmem x hx).2) ⟨Y ++ ([⟨3, ⟨#[]⟩, valE l, (kidsW (layM f) l 16 A).2⟩] ++ Z), by rw [hZ, hY]; simp only [List.append_assoc]⟩ (by show _ ≤ _ + (s.1 - 1 - _); omega)
            show walkM A' g _ (pre ++ [UInt8.ofNat c]) _ = _
            rw [hw]
            refine Prod.ext ?_ ?_
            · show s.1 - 1 - _ - _ = s.1 - 1 - _; omega
            · show _ ++ _ ++ _ = _; rw [List.append_assoc]
      rw [key 16 (Nat.le_refl _), ← hcol]
      refine Prod.ext ?_ rfl
      show s.1 - 1 - _ = _; omega
theorem ndsB_self : ∀ A : List Nd, ndsB A A = true
  | [] => rfl
  | x :: A => by unfold ndsB; rw [ndB_self, ndsB_self A]; rfl
/-- A trie's pairs. -/
structure OkP (L : List Pr) : Prop where
  len : L.length ≤ 64
  may : ∀ x ∈ L, mayM x.1 x.2 = true
  rise : L.Pairwise fun a b => lexB (tl a.1) (tl b.1) = true
theorem coll_ents (L : List Pr) : coll [] (entsOf L) = L := by
  unfold coll entsOf
  rw [List.map_map]
  conv => rhs; rw [← List.map_id L]
  refine List.map_congr_left fun x _ => ?_
  show (kyS ([] ++ hv (tl x.1)), x.2) = x
  rw [List.nil_append, (ky_hv (tl x.1)).1]; rfl
theorem read_built {L : List Pr} (h : OkP L) : readM (builtM L).1 (builtM L).2 = some L := by
  cases hL : L with
  | nil => decide +kernel
  | cons x0 L0 =>
    rw [← hL]
    have hne : entsOf L ≠ [] := by rw [hL]; simp [entsOf]
    have hlen : (entsOf L).length = L.length := List.length_map ..
    have hr : Rise (entsOf L) := key_rise.2 h.rise
    have ho : Okl 65 (entsOf L) := fun e he => by
      obtain ⟨x, hx, rfl⟩ := List.mem_map.1 he
      have := (may_size (h.may x hx)).1.2
      refine ⟨?_, fun b hb => hv_low _ b hb⟩
      show (hv (tl x.1)).length < 65
      rw [hv_len, tl_len]; omega
    have hw := walk_lay 65 192 (entsOf L) [] (builtM L).1 [] (192, []) (by omega) hne ho hr (fun e he => by have := (ho e he).1; simp only [List.length_nil]; omega) (fun e he => by
      obtain ⟨x, hx, rfl⟩ := List.mem_map.1 he
      show mayM (kyS ([] ++ hv (tl x.1))) x.2 = true
      rw [List.nil_append, (ky_hv (tl x.1)).1]
      exact h.may x hx) ⟨[], by simp [builtM]⟩ (by
        have h1 := (lay_cnt 65 (entsOf L) [] hne hr ho).1
        have h2 := h.len
        rw [hlen] at h1
        show _ ≤ ([] : List Nd).length + 192
        simp only [List.length_nil] at h1 ⊢; omega)
    have hwk : walked (builtM L).1 (builtM L).2 = L := by
      unfold walked
      rw [show (builtM L).2 = (layM 65 (entsOf L) []).2 from rfl, hw]
      show [] ++ coll [] (entsOf L) = L
      rw [coll_ents]; rfl
    unfold readM
    rw [hwk, if_pos ⟨h.len, (riseB_iff L).2 h.rise, by rw [ndsB_self]; simp⟩]
end Go.Proofs.YtlhfgbjhngkicaaGreatDoor

namespace Go.Proofs.YtlhfgbjhngkicaaGreatDoor
open Go Go.RowKit
set_option linter.unusedVariables false
theorem mayR_fn (k v : ByteArray) : Fn Tryz.prog 18 #[.string k, .string v] (.bool (mayM k v)) := by
  refine Fn.intro (c := codeOf Tryz.f18) [.tmp 4] 23 Tryz.func18 kr kr kr fun w => ?_
  have H0 := St.start w
  refine rS [.v] H0 kr fun gs1 w1 H1 => ?_
  by_cases h1 : 1 ≤ k.size
  · by_cases h2 : k.size ≤ 32
    · by_cases h3 : 1 ≤ v.size
      · refine rS [.v, .v, .e (v := .bool (decide (1 ≤ ((k.size : Nat) : Int)))) (v' := .bool true) (bool_eq (decide_eq_true (by omega))), .v, .v, .v, .e (v := .bool (decide (((k.size : Nat) : Int) ≤ 32))) (v' := .bool true) (bool_eq (decide_eq_true (by omega))), .v, .v, .v, .v, .e (v := .bool (decide (1 ≤ ((v.size : Nat) : Int)))) (v' := .bool true) (bool_eq (decide_eq_true (by omega))), .v, .v, .v, .v, .e (v := .bool (decide (((v.size : Nat) : Int) ≤ 500))) (v' := .bool (mayM k v)) (bool_eq (by unfold mayM; rw [decide_eq_true h1, decide_eq_true h2, decide_eq_true h3]; simp only [Bool.true_and, decide_eq_decide]; omega)), .v, .v] H1 kr fun gs2 w2 H2 => ?_
        exact rRe [.tmp 4] [] (v := .bool (mayM k v)) (v' := .bool (mayM k v)) H2 rfl kr
      · refine rS [.v, .v, .e (v := .bool (decide (1 ≤ ((k.size : Nat) : Int)))) (v' := .bool true) (bool_eq (decide_eq_true (by omega))), .v, .v, .v, .e (v := .bool (decide (((k.size : Nat) : Int) ≤ 32))) (v' := .bool true) (bool_eq (decide_eq_true (by omega))), .v, .v, .v, .v, .e (v := .bool (decide (1 ≤ ((v.size : Nat) : Int)))) (v' := .bool false) (bool_eq (decide_eq_false (by omega))), .v, .v, .n, .n, .n, .v, .v] H1 kr fun gs2 w2 H2 => ?_
        exact rRe [.tmp 4] [] (v := .bool false) (v' := .bool (mayM k v)) H2 (bool_eq (by unfold mayM; rw [decide_eq_false h3]; simp)) kr
    · refine rS [.v, .v, .e (v := .bool (decide (1 ≤ ((k.size : Nat) : Int)))) (v' := .bool true) (bool_eq (decide_eq_true (by omega))), .v, .v, .v, .e (v := .bool (decide (((k.size : Nat) : Int) ≤ 32))) (v' := .bool false) (bool_eq (decide_eq_false (by omega))), .v, .v, .n, .n, .n, .v, .v, .n, .n, .n, .v, .v] H1 kr fun gs2 w2 H2 => ?_
      exact rRe [.tmp 4] [] (v := .bool false) (v' := .bool (mayM k v)) H2 (bool_eq (by unfold mayM; rw [decide_eq_false h2]; simp)) kr
  · refine rS [.v, .v, .e (v := .bool (decide (1 ≤ ((k.size : Nat) : Int)))) (v' := .bool false) (bool_eq (decide_eq_false (by omega))), .v, .n, .n, .n, .v, .v, .n, .n, .n, .v, .v, .n, .n, .n, .v, .v] H1 kr fun gs2 w2 H2 => ?_
    exact rRe [.tmp 4] [] (v := .bool false) (v' := .bool (mayM k v)) H2 (bool_eq (by unfold mayM; rw [decide_eq_false h1]; simp)) kr
/-- Two pairs are the same. -/
def prB (x y : Pr) : Bool := (x.1.toList == y.1.toList) && (x.2.toList == y.2.toList)
theorem prB_iff (x y : Pr) : prB x y = true ↔ x = y := by
  have hs : ∀ a b : ByteArray, a.toList = b.toList → a = b := fun a b e => by
    rw [ByteArray.toList_eq, ByteArray.toList_eq] at e
    exact tl_inj e
  unfold prB
  rw [Bool.and_eq_true, beq_iff_eq, beq_iff_eq]
  constructor
  · rintro ⟨h1, h2⟩; exact Prod.ext (hs _ _ h1) (hs _ _ h2)
  · rintro rfl; exact ⟨rfl, rfl⟩
abbrev prV (x : Pr) : Value := .agg #[.string x.1, .string x.2]
theorem pair_eq (x y : Pr) (w : World) : (Op.equalIn 10000 48 (prV x) (prV y)).run Tryz.prog w = .ok (prB x y) w := by
  rw [run_equalIn_agg w 9999 48 _ _ kr kr]
  rw [show (Tryz.prog.fieldsOf 48).toList = [{ name := "Key", type := 9, offset := 0, embedded := false, tag := "", pkgPath := "", byteOffset := 0 }, { name := "Value", type := 9, offset := 1, embedded := false, tag := "", pkgPath := "", byteOffset := 16 }] by kernel_rfl]
  have e4 : (Op.eqFields 9999 #[.string x.1, .string x.2] #[.string y.1, .string y.2] []).run Tryz.prog w = .ok true w := by simp [Op.eqFields]
  have h2 := eqF_cons (P := Tryz.prog) (w := w) (d := 9999) (xs := #[.string x.1, .string x.2]) (ys := #[.string y.1, .string y.2]) (f := { name := "Value", type := 9, offset := 1, embedded := false, tag := "", pkgPath := "", byteOffset := 16 }) (a := .string x.2) (b := .string y.2) (by decide) (run_part_plain w kr rfl) (run_part_plain w kr rfl) (run_equalIn_string w 9998 _ _ _ Tryz.underlying9) e4
  have h3 := eqF_cons (P := Tryz.prog) (w := w) (d := 9999) (xs := #[.string x.1, .string x.2]) (ys := #[.string y.1, .string y.2]) (f := { name := "Key", type := 9, offset := 0, embedded := false, tag := "", pkgPath := "", byteOffset := 0 }) (a := .string x.1) (b := .string y.1) (by decide) (run_part_plain w kr rfl) (run_part_plain w kr rfl) (run_equalIn_string w 9998 _ _ _ Tryz.underlying9) h2
  rw [h3]; unfold prB; rw [Bool.and_true]
theorem pair_neq_run {ρ : Env} (x y : Pr) {a b : Operand} {o : Oper} (w : World) (ho : o.op = .binOp .neq 48 a b 48) (hx : ev ρ a = prV x) (hy : ev ρ b = prV y) :
    (execOp (ev ρ) o).run Tryz.prog w = .ok (.value (.bool (!(prB x y)))) w := by
  have q := pair_eq x y w
  have hg := fun X Y => run_eqGuard_agg (P := Tryz.prog) w .neq 48 a b X Y kr
  have hn := fun X Y => run_neq_struct (P := Tryz.prog) w 48 X Y
  unfold prV at hx hy q
  generalize (#[.string x.1, .string x.2] : Array Value) = X at q hx
  generalize (#[.string y.1, .string y.2] : Array Value) = Y at q hy
  unfold execOp
  simp only [ho, hx, hy, Sem.run_bind, hg, hn, q, Result.andThen_ok, Sem.run_pure]
def prsB : List Pr → List Pr → Bool
  | [], [] => true
  | x :: a, y :: b => prB x y && prsB a b
  | _, _ => false
theorem prsB_self : ∀ L : List Pr, prsB L L = true
  | [] => rfl
  | x :: L => by unfold prsB; rw [(prB_iff x x).2 rfl, prsB_self L]; rfl
theorem prsB_len : ∀ {a b : List Pr}, a.length ≠ b.length → prsB a b = false
  | [], [], h => absurd rfl h
  | [], _ :: _, _ => rfl
  | _ :: _, [], _ => rfl
  | x :: a, y :: b, h => by
    unfold prsB
    rw [prsB_len (a := a) (b := b) (by simpa using h), Bool.and_false]
set_option maxRecDepth 100000 in
set_option maxHeartbeats 4000000 in
theorem sameR_fn (p : Option Addr) (n c : Nat) (A : List Pr) (p' : Option Addr) (n' c' : Nat) (A' : List Pr) (hA : A.length ≤ 1000000000000) :
    FnP Tryz.prog 13 #[.slice p n c, .slice p' n' c'] (fun w => PrAt w p n A ∧ PrAt w p' n' A') (.bool (prsB A A')) := by
  refine FnP.intro (c := codeOf Tryz.f13) [.tmp 4] 26 Tryz.func13 kr kr kr fun w hP => ?_
  have H0 := St.start w
  obtain ⟨hN, hN'⟩ := hP
  have hn := hN.1
  have hn' := hN'.1
  refine rS [.v] H0 kr fun gs1 w1 H1 => ?_
  refine g_seq kr ?_
  by_cases hne : n = n'
  · obtain rfl := hne
    refine rS [.v, .v, .v, .v, .e (v := .bool (!(((n : Nat) : Int) == ((n : Nat) : Int)))) (v' := .bool false) (bool_eq (by rw [beq_self_eq_true]; rfl))] H1 kr fun gs2 w2 H2 => ?_
    refine g_cond_f kr kr ?_
    refine g_skip kr ?_
    show WP _ _ _ _ _ _
    refine g_seq kr ?_
    refine rS [.v, .v, .v] H2 kr fun gs3 w3 H3 => ?_
    refine g_block 0 kr ?_
    have H4 : St w.heap.size w w3 [] := H3.as kr
    refine g_loop kr (fun mz ρ ww => ∃ (i : Nat), n - i = mz ∧ i ≤ n ∧ prsB (A.drop i) (A'.drop i) = prsB A A' ∧ St w.heap.size w ww [] ∧ Is [(0, .slice p n c), (1, .slice p' n c'), (12, iN n), (13, iN i)] ρ) (n - 0) ⟨0, rfl, Nat.zero_le _, rfl, H4, (Is.of ⟨kr, kr, kr, kr, trivial⟩)⟩ ?_
    clear H0 H1 H2 H3 H4
    rintro _ _ w4 ⟨i, rfl, hin, heq, H5, _, rfl⟩
    by_cases hi : i < n
    · refine rS [.e (v := .bool (decide (((i : Nat) : Int) < ((n : Nat) : Int)))) (v' := .bool true) (bool_eq (decide_eq_true (by omega)))] H5 kr fun gs4 w5 H6 => ?_
      refine g_seq kr ?_
      refine g_cond_t kr kr ?_
      refine g_skip kr ?_
      show WP _ _ _ _ _ _
      obtain ⟨x, hx⟩ : ∃ x, A[i]? = some x := ⟨_, List.getElem?_eq_getElem (by omega)⟩
      obtain ⟨y, hy⟩ : ∃ y, A'[i]? = some y := ⟨_, List.getElem?_eq_getElem (by omega)⟩
      obtain ⟨b1, o1, C1, T1, fz1, hp1, hh1, hR1⟩ := hN.row (by omega)
      obtain ⟨b2, o2, C2, T2, fz2, hp2, hh2, hR2⟩ := hN'.row (by omega)
      rw [drop_one hx, drop_one hy] at heq
      refine g_seq kr ?_
      refine g_block 1 kr ?_
      refine rS [.v, .v] H6 kr fun gs5 w6 H7 => ?_
      cases hb : prB x y with
      | true =>
        refine dS [.v, .v, .o (ins := [((.tmp 16), .slice p n c), ((.tmp 17), iN i)]) (v := .pointer (some ⟨b1, o1 + i * 2, none⟩)) (fun ρ o w ho hi2 => idxP_run (kd := .i64) (t := 23) (e := 48) (K := 2) (bytes := 32) kr (x := (.tmp 16)) (y := (.tmp 17)) b1 o1 n c i hp1 ho hi2.1 hi2.2.1 (by omega) w), .fp (off := o1 + i * 2) (n := 2) (W := #[.string x.1, .string x.2]) hh1 (lt_of_heap hh1) (hR1 i x hx).1 (hR1 i x hx).2, .v, .v, .o (ins := [((.tmp 20), .slice p' n c'), ((.tmp 21), iN i)]) (v := .pointer (some ⟨b2, o2 + i * 2, none⟩)) (fun ρ o w ho hi2 => idxP_run (kd := .i64) (t := 23) (e := 48) (K := 2) (bytes := 32) kr (x := (.tmp 20)) (y := (.tmp 21)) b2 o2 n c' i hp2 ho hi2.1 hi2.2.1 (by omega) w), .fp (off := o2 + i * 2) (n := 2) (W := #[.string y.1, .string y.2]) hh2 (lt_of_heap hh2) (hR2 i y hy).1 (hR2 i y hy).2, .oe (ins := [((.tmp 19), prV x), ((.tmp 23), prV y)]) (v := .bool (!(prB x y))) (v' := .bool (!true)) (fun ρ o w ho hi2 => pair_neq_run x y w ho hi2.1 hi2.2.1) (by rw [hb])] H7 kr fun w7 H8 => ?_
        show WP _ _ _ _ _ _
        refine g_cond_f kr kr ?_
        refine g_skip kr ?_
        show WP _ _ _ _ _ _
        refine rL [.e (v := .int .i64 (IntKind.i64.wrap (((i : Nat) : Int) + 1))) (v' := .int .i64 ((i + 1 : Nat) : Int)) (int_eq (wrapAdd_i64 (a := i) (b := 1) (by omega))), .v] H8 kr fun gs7 w10 H9 => ?_
        show ∃ m, _ ∧ _
        refine ⟨_, (by omega), i + 1, rfl, hi, ?_, H9.as kr, (Is.of ⟨kr, kr, kr, kr, trivial⟩)⟩
        rw [← heq]; simp only [prsB, hb, Bool.true_and]
      | false =>
        refine dS [.v, .v, .o (ins := [((.tmp 16), .slice p n c), ((.tmp 17), iN i)]) (v := .pointer (some ⟨b1, o1 + i * 2, none⟩)) (fun ρ o w ho hi2 => idxP_run (kd := .i64) (t := 23) (e := 48) (K := 2) (bytes := 32) kr (x := (.tmp 16)) (y := (.tmp 17)) b1 o1 n c i hp1 ho hi2.1 hi2.2.1 (by omega) w), .fp (off := o1 + i * 2) (n := 2) (W := #[.string x.1, .string x.2]) hh1 (lt_of_heap hh1) (hR1 i x hx).1 (hR1 i x hx).2, .v, .v, .o (ins := [((.tmp 20), .slice p' n c'), ((.tmp 21), iN i)]) (v := .pointer (some ⟨b2, o2 + i * 2, none⟩)) (fun ρ o w ho hi2 => idxP_run (kd := .i64) (t := 23) (e := 48) (K := 2) (bytes := 32) kr (x := (.tmp 20)) (y := (.tmp 21)) b2 o2 n c' i hp2 ho hi2.1 hi2.2.1 (by omega) w), .fp (off := o2 + i * 2) (n := 2) (W := #[.string y.1, .string y.2]) hh2 (lt_of_heap hh2) (hR2 i y hy).1 (hR2 i y hy).2, .oe (ins := [((.tmp 19), prV x), ((.tmp 23), prV y)]) (v := .bool (!(prB x y))) (v' := .bool (!false)) (fun ρ o w ho hi2 => pair_neq_run x y w ho hi2.1 hi2.2.1) (by rw [hb])] H7 kr fun w7 H8 => ?_
        show WP _ _ _ _ _ _
        refine g_cond_t kr kr ?_
        refine rS [.v] H8 kr fun gs6 w8 H9 => ?_
        exact rRe [.tmp 4] [] (v := .bool false) (v' := .bool (prsB A A')) H9 (bool_eq (by rw [← heq]; simp only [prsB, hb, Bool.false_and])) kr
    · refine rS [.e (v := .bool (decide (((i : Nat) : Int) < ((n : Nat) : Int)))) (v' := .bool false) (bool_eq (decide_eq_false (by omega)))] H5 kr fun gs4 w5 H6 => ?_
      refine g_seq kr ?_
      refine g_cond_f kr kr ?_
      refine g_exit 0 kr ?_
      show WP _ _ _ _ _ _
      refine rS [.v] H6 kr fun gs5 w6 H7 => ?_
      exact rRe [.tmp 4] [] (v := .bool true) (v' := .bool (prsB A A')) H7 (bool_eq (by rw [← heq, List.drop_of_length_le (by omega), List.drop_of_length_le (by omega)]; rfl)) kr
  · refine rS [.v, .v, .v, .v, .e (v := .bool (!(((n : Nat) : Int) == ((n' : Nat) : Int)))) (v' := .bool true) (bool_eq (by rw [beq_eq_false_iff_ne.2 (by omega)]; rfl))] H1 kr fun gs2 w2 H2 => ?_
    refine g_cond_t kr kr ?_
    refine rS [.v] H2 kr fun gs3 w3 H3 => ?_
    exact rRe [.tmp 4] [] (v := .bool false) (v' := .bool (prsB A A')) H3 (bool_eq (prsB_len (by omega)).symm) kr
end Go.Proofs.YtlhfgbjhngkicaaGreatDoor

namespace Go.Proofs.YtlhfgbjhngkicaaGreatDoor
open Go Go.RowKit
set_option linter.unusedVariables false
def getP (k : ByteArray) : List Pr → ByteArray × Bool
  | [] => (⟨#[]⟩, false)
  | x :: L => if x.1 = k then (x.2, true) else getP k L
def delP (k : ByteArray) (L : List Pr) : List Pr := L.filter fun x => !decide (x.1 = k)
theorem delP_snoc (k : ByteArray) (L : List Pr) (x : Pr) : delP k (L ++ [x]) = if x.1 = k then delP k L else delP k L ++ [x] := by
  unfold delP
  rw [List.filter_append, List.filter_cons, List.filter_nil]
  by_cases h : x.1 = k <;> simp [h]
set_option maxRecDepth 100000 in
set_option maxHeartbeats 4000000 in
theorem getR_fn (p : Option Addr) (n c : Nat) (L : List Pr) (key : ByteArray) (hL : L.length ≤ 1000000) :
    FnP Tryz.prog 20 #[.slice p n c, .string key] (fun w => PrAt w p n L) (.tuple #[.string (getP key L).1, .bool (getP key L).2]) := by
  refine FnP.intro (c := codeOf Tryz.f20) [.tmp 4, .tmp 5] 21 Tryz.func20 kr kr kr fun w hP => ?_
  have H0 := St.start w
  have hn := hP.1
  refine rS [.v, .v] H0 kr fun gs1 w1 H1 => ?_
  refine g_seq kr ?_
  refine rS [.v, .v, .v] H1 kr fun gs3 w3 H3 => ?_
  refine g_block 0 kr ?_
  have H4 : St w.heap.size w w3 [] := H3.as kr
  refine g_loop kr (fun mz ρ ww => ∃ (i : Nat), n - i = mz ∧ i ≤ n ∧ getP key (L.drop i) = getP key L ∧ St w.heap.size w ww [] ∧ Is [(1, .string key), (8, .slice p n c), (9, iN n), (10, iN i)] ρ) (n - 0) ⟨0, rfl, Nat.zero_le _, rfl, H4, (Is.of ⟨kr, kr, kr, kr, trivial⟩)⟩ ?_
  clear H0 H1 H3 H4
  rintro _ _ w4 ⟨i, rfl, hin, hdr, H5, _, rfl⟩
  by_cases hi : i < n
  · obtain ⟨⟨kk, vv⟩, hx⟩ : ∃ x, L[i]? = some x := ⟨_, List.getElem?_eq_getElem (by omega)⟩
    rw [drop_one hx] at hdr
    obtain ⟨bl, off, C, T, fz, hp, hh, hR⟩ := hP.row (by omega)
    refine rS [.e (v := .bool (decide (((i : Nat) : Int) < ((n : Nat) : Int)))) (v' := .bool true) (bool_eq (decide_eq_true (by omega)))] H5 kr fun gs4 w5 H6 => ?_
    refine g_seq kr ?_
    refine g_cond_t kr kr ?_
    refine g_skip kr ?_
    show WP _ _ _ _ _ _
    refine g_seq kr ?_
    refine g_block 1 kr ?_
    refine rS [.o (ins := [((.tmp 8), .slice p n c), ((.tmp 10), iN i)]) (v := .pointer (some ⟨bl, off + i * 2, none⟩)) (fun ρ o w ho hi2 => idxP_run (kd := .i64) (t := 23) (e := 48) (K := 2) (bytes := 32) kr (x := (.tmp 8)) (y := (.tmp 10)) bl off n c i hp ho hi2.1 hi2.2.1 hi w), .fp (off := off + i * 2) (n := 2) (W := #[.string kk, .string vv]) hh (lt_of_heap hh) (hR _ _ hx).1 (hR _ _ hx).2, .a, .s 0] H6 kr fun gs5 w6 H7 => ?_
    by_cases hk : kk = key
    · refine rS [.v, .l 0, .v, .e (v := .bool (kk.toList == key.toList)) (v' := .bool true) (bool_eq (str_same _ _ hk))] H7 kr fun gs6 w8 H9 => ?_
      refine g_cond_t kr kr ?_
      refine rS [.v, .l 0, .v, .v] H9 kr fun gs7 w9 H10 => ?_
      exact rRe [.tmp 4, .tmp 5] [] (v := .tuple #[.string vv, .bool true]) (v' := .tuple #[.string (getP key L).1, .bool (getP key L).2]) H10 (by rw [← hdr, getP, if_pos hk]) kr
    · refine rS [.v, .l 0, .v, .e (v := .bool (kk.toList == key.toList)) (v' := .bool false) (bool_eq (str_other _ _ hk))] H7 kr fun gs6 w8 H9 => ?_
      refine g_cond_f kr kr ?_
      refine g_skip kr ?_
      show WP _ _ _ _ _ _
      refine rL [.e (v := .int .i64 (IntKind.i64.wrap (((i : Nat) : Int) + 1))) (v' := .int .i64 ((i + 1 : Nat) : Int)) (int_eq (wrapAdd_i64 (a := i) (b := 1) (by omega))), .v] H9 kr fun gs8 w10 H11 => ?_
      show ∃ m, _ ∧ _
      exact ⟨_, (by omega), i + 1, rfl, hi, by rw [← hdr, getP, if_neg hk], H11.sub (List.nil_sublist _), (Is.of ⟨kr, kr, kr, kr, trivial⟩)⟩
  · refine rS [.e (v := .bool (decide (((i : Nat) : Int) < ((n : Nat) : Int)))) (v' := .bool false) (bool_eq (decide_eq_false (by omega)))] H5 kr fun gs4 w5 H6 => ?_
    refine g_seq kr ?_
    refine g_cond_f kr kr ?_
    refine g_exit 0 kr ?_
    show WP _ _ _ _ _ _
    refine rS [.v, .v] H6 kr fun gs5 w6 H7 => ?_
    rw [List.drop_of_length_le (by omega)] at hdr
    exact rRe [.tmp 4, .tmp 5] [] (v := .tuple #[.string ⟨#[]⟩, .bool false]) (v' := .tuple #[.string (getP key L).1, .bool (getP key L).2]) H7 (by rw [← hdr]; rfl) kr
set_option maxRecDepth 100000 in
set_option maxHeartbeats 4000000 in
theorem delR_fn (p : Option Addr) (n c : Nat) (L : List Pr) (key : ByteArray) (hL : L.length ≤ 1000000) :
    FnT Tryz.prog 21 #[.slice p n c, .string key] (fun w => PrAt w p n L) (okRow (delP key L)) := by
  refine FnT.intro (c := codeOf Tryz.f21) [.tmp 4] 25 Tryz.func21 kr kr kr fun w hP => ?_
  have H0 := St.start w
  have hn := hP.1
  refine rS [.v] H0 kr fun gs1 w1 H1 => ?_
  refine rS [.nw (fun b => .slice (some ⟨b, 0, none⟩) 0 0) #[] 48, .v] H1 kr fun gs2 w2 H2 => ?_
  refine g_seq kr ?_
  refine rS [.v, .v, .v] H2 kr fun gs3 w3 H3 => ?_
  refine g_block 0 kr ?_
  have H4 : St w.heap.size w w3 [((gs2 0).b, .cells #[] 48 (0, 0))] := H3.as kr
  refine g_loop kr (fun mz ρ ww => ∃ (i b k r : Nat) (cur : Array Value), n - i = mz ∧ i ≤ n ∧ r ≤ i ∧ Rw 2 cur k r (cellsF pS (delP key (L.take i))) ∧ St w.heap.size w ww [(b, .cells cur 48 (0, 0))] ∧ Is [(1, .string key), (5, .slice (some ⟨b, 0, none⟩) r k), (9, .slice p n c), (10, iN n), (11, iN i)] ρ) (n - 0) ⟨0, (gs2 0).b, 0, 0, #[], rfl, Nat.zero_le _, Nat.le_refl _, ⟨rfl, Nat.le_refl _, Nat.zero_le _, rfl, rfl⟩, H4, (Is.of ⟨kr, kr, kr, kr, kr, trivial⟩)⟩ ?_
  clear H0 H1 H2 H3 H4
  rintro _ _ w4 ⟨i, b, k, r, cur, rfl, hin, hri, hrw, H5, _, rfl⟩
  by_cases hi : i < n
  · obtain ⟨⟨kk, vv⟩, hx⟩ : ∃ x, L[i]? = some x := ⟨_, List.getElem?_eq_getElem (by omega)⟩
    have htk := take_one hx
    obtain ⟨bl, off, C, T, fz, hp, hh, hR⟩ := hP.row (by omega)
    refine rS [.e (v := .bool (decide (((i : Nat) : Int) < ((n : Nat) : Int)))) (v' := .bool true) (bool_eq (decide_eq_true (by omega)))] H5 kr fun gs4 w5 H6 => ?_
    refine g_seq kr ?_
    refine g_cond_t kr kr ?_
    refine g_skip kr ?_
    show WP _ _ _ _ _ _
    refine g_seq kr ?_
    refine g_block 1 kr ?_
    refine rS [.o (ins := [((.tmp 9), .slice p n c), ((.tmp 11), iN i)]) (v := .pointer (some ⟨bl, off + i * 2, none⟩)) (fun ρ o w ho hi2 => idxP_run (kd := .i64) (t := 23) (e := 48) (K := 2) (bytes := 32) kr (x := (.tmp 9)) (y := (.tmp 11)) bl off n c i hp ho hi2.1 hi2.2.1 hi w), .fp (off := off + i * 2) (n := 2) (W := #[.string kk, .string vv]) hh (lt_of_heap hh) (hR _ _ hx).1 (hR _ _ hx).2, .a, .s 1] H6 kr fun gs5 w6 H7 => ?_
    by_cases hk : kk = key
    · refine rS [.v, .l 1, .v, .e (v := .bool (!(kk.toList == key.toList))) (v' := .bool false) (bool_eq (by rw [str_same _ _ hk]; rfl))] H7 kr fun gs6 w8 H9 => ?_
      refine g_cond_f kr kr ?_
      refine g_skip kr ?_
      show WP _ _ _ _ _ _
      refine rL [.e (v := .int .i64 (IntKind.i64.wrap (((i : Nat) : Int) + 1))) (v' := .int .i64 ((i + 1 : Nat) : Int)) (int_eq (wrapAdd_i64 (a := i) (b := 1) (by omega))), .v] H9 kr fun gs8 w10 H11 => ?_
      show ∃ m, _ ∧ _
      have H12 : St w.heap.size w w10 [(b, .cells cur 48 (0, 0)), ((gs5 2).b, pwO (kk, vv))] := H11.as kr
      refine ⟨_, (by omega), i + 1, b, k, r, cur, rfl, hi, by omega, ?_, H12.sub (List.Sublist.cons_cons _ (List.sublist_cons_self ..)), (Is.of ⟨kr, kr, kr, kr, kr, trivial⟩)⟩
      rw [htk, delP_snoc, if_pos hk]; exact hrw
    · refine rS [.v, .l 1, .v, .e (v := .bool (!(kk.toList == key.toList))) (v' := .bool true) (bool_eq (by rw [str_other _ _ hk]; rfl))] H7 kr fun gs6 w8 H9 => ?_
      refine g_cond_t kr kr ?_
      refine g_reg0 [0, 1, 2, 3, 4] kr ?_
      refine rp [.v, .l 1, .nw (fun b => .slice (some ⟨b, 0, none⟩) 1 1) #[.string kk, .string vv] 48] H9 kr fun gs7 w9 H10 => ?_
      show WPs _ _ _ _ [3, 4] _ _
      have H11 : St w.heap.size w w9 [(b, .cells cur 48 (0, 0)), ((gs5 2).b, pwO (kk, vv)), ((gs7 2).b, pwO (kk, vv))] := H10.as kr
      refine s_grow (K' := 2) H11 (some 22) 23 48 32 (.tmp 19) (.tmp 21) 0 2 b (gs7 2).b r k 1 cur #[.string kk, .string vv] (cellsF pS (delP key (L.take i))) kr kr kr kr kr hrw kr kr rfl (one_all rfl) (by omega) (by unfold maxLen; omega) ?_
      intro b' cap' cur' w10 H12 hrw'
      refine rp [.v] H12 kr fun gs8 w11 H13 => ?_
      show WPs _ _ _ _ [] _ _
      refine s_nil ?_
      show WP _ _ _ _ _ _
      refine rL [.e (v := .int .i64 (IntKind.i64.wrap (((i : Nat) : Int) + 1))) (v' := .int .i64 ((i + 1 : Nat) : Int)) (int_eq (wrapAdd_i64 (a := i) (b := 1) (by omega))), .v] H13 kr fun gs9 w12 H14 => ?_
      show ∃ m, _ ∧ _
      have H15 : St w.heap.size w w12 [(b', .cells cur' 48 (0, 0)), ((gs5 2).b, pwO (kk, vv)), ((gs7 2).b, pwO (kk, vv))] := H14.as kr
      refine ⟨_, (by omega), i + 1, b', cap', r + 1, cur', rfl, hi, by omega, ?_, H15.sub (List.Sublist.cons_cons _ (List.nil_sublist _)), (Is.of ⟨kr, kr, kr, kr, kr, trivial⟩)⟩
      rw [htk, delP_snoc, if_neg hk, cellsF_snoc]; exact hrw'
  · refine rS [.e (v := .bool (decide (((i : Nat) : Int) < ((n : Nat) : Int)))) (v' := .bool false) (bool_eq (decide_eq_false (by omega)))] H5 kr fun gs4 w5 H6 => ?_
    refine g_seq kr ?_
    refine g_cond_f kr kr ?_
    refine g_exit 0 kr ?_
    show WP _ _ _ _ _ _
    refine rS [.v, .v] H6 kr fun gs5 w6 H7 => ?_
    refine rRr [.tmp 4] [] (.slice (some ⟨b, 0, none⟩) r k) (outT w.heap.size w (okRow (delP key L))) H7 kr ?_
    rw [List.take_of_length_le (by omega)] at hrw
    exact ⟨_, ⟨some ⟨b, 0, none⟩, r, k, rfl, .inr ⟨b, cur, rfl, rfl, hrw⟩⟩, H7.as kr⟩
end Go.Proofs.YtlhfgbjhngkicaaGreatDoor

namespace Go.Proofs.YtlhfgbjhngkicaaGreatDoor
open Go Go.RowKit
set_option linter.unusedVariables false
def putT (k v : ByteArray) (s : List Pr × Bool) (x : Pr) : List Pr × Bool := if (!s.2 && !lexB (tl x.1) (tl k)) = true then (s.1 ++ [(k, v)], true) else s
def putN (k : ByteArray) (s : List Pr × Bool) (x : Pr) : List Pr × Bool := (if x.1 = k then s.1 else s.1 ++ [x], s.2)
def putS (k v : ByteArray) (L : List Pr) : List Pr × Bool := L.foldl (fun s x => putN k (putT k v s x) x) ([], false)
def putP (k v : ByteArray) (L : List Pr) : List Pr := if (putS k v L).2 = true then (putS k v L).1 else (putS k v L).1 ++ [(k, v)]
theorem putS_snoc (k v : ByteArray) (L : List Pr) (x : Pr) : putS k v (L ++ [x]) = putN k (putT k v (putS k v L) x) x := by
  unfold putS; rw [List.foldl_append]; rfl
set_option maxRecDepth 100000 in
set_option maxHeartbeats 8000000 in
theorem putR_fn (p : Option Addr) (n c : Nat) (L : List Pr) (key val : ByteArray) (hL : L.length ≤ 1000000) :
    FnT Tryz.prog 22 #[.slice p n c, .string key, .string val] (fun w => PrAt w p n L) (okRow (putP key val L)) := by
  refine FnT.intro (c := codeOf Tryz.f22) [.tmp 6] 50 Tryz.func22 kr kr kr fun w hP => ?_
  have H0 := St.start w
  have hn := hP.1
  refine rS [.v] H0 kr fun gs1 w1 H1 => ?_
  refine rS [.nw (fun b => .slice (some ⟨b, 0, none⟩) 0 0) #[] 48, .v] H1 kr fun gs2 w2 H2 => ?_
  refine rS [.v] H2 kr fun gs2' w2' H2 => ?_
  refine g_seq kr ?_
  refine rS [.v, .v, .v] H2 kr fun gs3 w3 H3 => ?_
  refine g_block 0 kr ?_
  have H4 : St w.heap.size w w3 [((gs2 0).b, .cells #[] 48 (0, 0))] := H3.as kr
  refine g_loop kr (fun mz ρ ww => ∃ (i b k r : Nat) (cur : Array Value), n - i = mz ∧ i ≤ n ∧ r ≤ 2 * i ∧ Rw 2 cur k r (cellsF pS (putS key val (L.take i)).1) ∧ St w.heap.size w ww [(b, .cells cur 48 (0, 0))] ∧ Is [(1, .string key), (2, .string val), (7, .slice (some ⟨b, 0, none⟩) r k), (8, .bool (putS key val (L.take i)).2), (12, .slice p n c), (13, iN n), (14, iN i)] ρ) (n - 0) ⟨0, (gs2 0).b, 0, 0, #[], rfl, Nat.zero_le _, Nat.le_refl _, ⟨rfl, Nat.le_refl _, Nat.zero_le _, rfl, rfl⟩, H4, (Is.of ⟨kr, kr, kr, kr, kr, kr, kr, trivial⟩)⟩ ?_
  clear H0 H1 H2 H3 H4
  rintro _ _ w4 ⟨i, b, k, r, cur, rfl, hin, hri, hrw, H5, _, rfl⟩
  by_cases hi : i < n
  · obtain ⟨⟨kk, vv⟩, hx⟩ : ∃ x, L[i]? = some x := ⟨_, List.getElem?_eq_getElem (by omega)⟩
    have htk := take_one hx
    obtain ⟨bl, off, C, T, fz, hp, hh, hR⟩ := hP.row (by omega)
    refine rS [.e (v := .bool (decide (((i : Nat) : Int) < ((n : Nat) : Int)))) (v' := .bool true) (bool_eq (decide_eq_true (by omega)))] H5 kr fun gs4 w5 H6 => ?_
    refine g_seq kr ?_
    refine g_cond_t kr kr ?_
    refine g_skip kr ?_
    show WP _ _ _ _ _ _
    refine g_seq kr ?_
    refine g_block 1 kr ?_
    refine rS [.o (ins := [((.tmp 12), .slice p n c), ((.tmp 14), iN i)]) (v := .pointer (some ⟨bl, off + i * 2, none⟩)) (fun ρ o w ho hi2 => idxP_run (kd := .i64) (t := 23) (e := 48) (K := 2) (bytes := 32) kr (x := (.tmp 12)) (y := (.tmp 14)) bl off n c i hp ho hi2.1 hi2.2.1 hi w), .fp (off := off + i * 2) (n := 2) (W := #[.string kk, .string vv]) hh (lt_of_heap hh) (hR _ _ hx).1 (hR _ _ hx).2, .a, .s 1] H6 kr fun gs5 w6 H7 => ?_
    have H8 : St w.heap.size w w6 [(b, .cells cur 48 (0, 0)), ((gs5 2).b, pwO (kk, vv))] := H7.as kr
    generalize hs : putS key val (L.take i) = s at *
    obtain ⟨out, put⟩ := s
    refine g_seq kr ?_
    -- the first choice
    refine g_mono (Q := fun e ρ ww => e = .normal ∧ ∃ (b k r' : Nat) (cur : Array Value), r' ≤ r + 1 ∧ Rw 2 cur k r' (cellsF pS (putT key val (out, put) (kk, vv)).1) ∧ St w.heap.size w ww [(b, .cells cur 48 (0, 0)), ((gs5 2).b, pwO (kk, vv))] ∧ Is [(1, .string key), (2, .string val), (7, .slice (some ⟨b, 0, none⟩) r' k), (8, .bool (putT key val (out, put) (kk, vv)).2), (10, .pointer (some ⟨(gs5 2).b, 0, none⟩)), (12, .slice p n c), (13, iN n), (14, iN i)] ρ) ?_ ?_
    · cases put with
      | true =>
        refine rS [.v, .v, .v, .n, .n, .n, .n, .v] H8 kr fun gs6 w7 H9 => ?_
        refine g_cond_f kr kr ?_
        refine g_skip kr ?_
        exact ⟨rfl, b, k, r, cur, by omega, hrw, H9.as kr, Is.of ⟨kr, kr, kr, kr, kr, kr, kr, kr, trivial⟩⟩
      | false =>
        cases hlt : lexB (tl kk) (tl key) with
        | true =>
          have hT : putT key val (out, false) (kk, vv) = (out, false) := by unfold putT; simp [hlt]
          rw [hT]
          refine rS [.v, .v, .v, .v, .l 1, .v, .e (v := .bool (!(Op.bytesLess kk.toList key.toList))) (v' := .bool false) (bool_eq (by rw [bl_tl, hlt]; rfl)), .v] H8 kr fun gs6 w7 H9 => ?_
          refine g_cond_f kr kr ?_
          refine g_skip kr ?_
          exact ⟨rfl, b, k, r, cur, by omega, hrw, H9.as kr, Is.of ⟨kr, kr, kr, kr, kr, kr, kr, kr, trivial⟩⟩
        | false =>
          have hT : putT key val (out, false) (kk, vv) = (out ++ [(key, val)], true) := by unfold putT; simp [hlt]
          rw [hT]
          refine rS [.v, .v, .v, .v, .l 1, .v, .e (v := .bool (!(Op.bytesLess kk.toList key.toList))) (v' := .bool true) (bool_eq (by rw [bl_tl, hlt]; rfl)), .v] H8 kr fun gs6 w7 H9 => ?_
          refine g_cond_t kr kr ?_
          refine g_sreg [0, 1, 2, 3, 4, 5, 6] kr kr ?_
          refine rp [.v, .v, .v, .v, .nw (fun b => .slice (some ⟨b, 0, none⟩) 1 1) #[.string key, .string val] 48] H9 kr fun gs7 w8 H10 => ?_
          show WPs _ _ _ _ [5, 6] _ _
          have H11 : St w.heap.size w w8 [(b, .cells cur 48 (0, 0)), ((gs5 2).b, pwO (kk, vv)), ((gs7 4).b, pwO (key, val))] := H10.as kr
          refine s_grow (K' := 2) H11 (some 31) 23 48 32 (.tmp 26) (.tmp 30) 0 2 b (gs7 4).b r k 1 cur #[.string key, .string val] (cellsF pS out) kr kr kr kr kr hrw kr kr rfl (one_all rfl) (by omega) (by unfold maxLen; omega) ?_
          intro b' cap' cur' w9 H12 hrw'
          refine rp [.v] H12 kr fun gs8 w10 H13 => ?_
          show WPs _ _ _ _ [] _ _
          refine s_nil ?_
          refine rL [.v] H13 kr fun gs9 w11 H14 => ?_
          have H15 : St w.heap.size w w11 [(b', .cells cur' 48 (0, 0)), ((gs5 2).b, pwO (kk, vv)), ((gs7 4).b, pwO (key, val))] := H14.as kr
          exact ⟨rfl, b', cap', r + 1, cur', by omega, by rw [cellsF_snoc]; exact hrw', H15.sub (List.sublist_append_left [_, _] [_]), Is.of ⟨kr, kr, kr, kr, kr, kr, kr, kr, trivial⟩⟩
    · clear hrw H5 H6 H7 H8
      rintro _ _ w7 ⟨rfl, b, k, r', cur, hr', hrw, H8, _, rfl⟩
      show WP _ _ _ _ _ _
      generalize hs2 : putT key val (out, put) (kk, vv) = s2 at *
      obtain ⟨out2, put2⟩ := s2
      by_cases hk : kk = key
      · refine rS [.v, .l 1, .v, .e (v := .bool (!(kk.toList == key.toList))) (v' := .bool false) (bool_eq (by rw [str_same _ _ hk]; rfl))] H8 kr fun gs6 w8 H9 => ?_
        refine g_cond_f kr kr ?_
        refine g_skip kr ?_
        show WP _ _ _ _ _ _
        refine rL [.e (v := .int .i64 (IntKind.i64.wrap (((i : Nat) : Int) + 1))) (v' := .int .i64 ((i + 1 : Nat) : Int)) (int_eq (wrapAdd_i64 (a := i) (b := 1) (by omega))), .v] H9 kr fun gs8 w10 H11 => ?_
        show ∃ m, _ ∧ _
        have H12 : St w.heap.size w w10 [(b, .cells cur 48 (0, 0)), ((gs5 2).b, pwO (kk, vv))] := H11.as kr
        have hS : putS key val (L.take (i + 1)) = (out2, put2) := by rw [htk, putS_snoc, hs, hs2]; unfold putN; simp only [hk, if_true]
        refine ⟨_, (by omega), i + 1, b, k, r', cur, rfl, hi, by omega, ?_, H12.sub (List.Sublist.cons_cons _ (List.sublist_cons_self ..)), (Is.of ⟨kr, kr, kr, ?_, kr, kr, kr, trivial⟩)⟩
        · rw [hS]; exact hrw
        · rw [hS]; kernel_rfl
      · refine rS [.v, .l 1, .v, .e (v := .bool (!(kk.toList == key.toList))) (v' := .bool true) (bool_eq (by rw [str_other _ _ hk]; rfl))] H8 kr fun gs6 w8 H9 => ?_
        refine g_cond_t kr kr ?_
        refine g_reg0 [0, 1, 2, 3, 4] kr ?_
        refine rp [.v, .l 1, .nw (fun b => .slice (some ⟨b, 0, none⟩) 1 1) #[.string kk, .string vv] 48] H9 kr fun gs7 w9 H10 => ?_
        show WPs _ _ _ _ [3, 4] _ _
        have H11 : St w.heap.size w w9 [(b, .cells cur 48 (0, 0)), ((gs5 2).b, pwO (kk, vv)), ((gs7 2).b, pwO (kk, vv))] := H10.as kr
        refine s_grow (K' := 2) H11 (some 39) 23 48 32 (.tmp 36) (.tmp 38) 0 2 b (gs7 2).b r' k 1 cur #[.string kk, .string vv] (cellsF pS out2) kr kr kr kr kr hrw kr kr rfl (one_all rfl) (by omega) (by unfold maxLen; omega) ?_
        intro b' cap' cur' w10 H12 hrw'
        refine rp [.v] H12 kr fun gs8 w11 H13 => ?_
        show WPs _ _ _ _ [] _ _
        refine s_nil ?_
        show WP _ _ _ _ _ _
        refine rL [.e (v := .int .i64 (IntKind.i64.wrap (((i : Nat) : Int) + 1))) (v' := .int .i64 ((i + 1 : Nat) : Int)) (int_eq (wrapAdd_i64 (a := i) (b := 1) (by omega))), .v] H13 kr fun gs9 w12 H14 => ?_
        show ∃ m, _ ∧ _
        have H15 : St w.heap.size w w12 [(b', .cells cur' 48 (0, 0)), ((gs5 2).b, pwO (kk, vv)), ((gs7 2).b, pwO (kk, vv))] := H14.as kr
        have hS : putS key val (L.take (i + 1)) = (out2 ++ [(kk, vv)], put2) := by rw [htk, putS_snoc, hs, hs2]; unfold putN; simp only [hk, if_false]
        refine ⟨_, (by omega), i + 1, b', cap', r' + 1, cur', rfl, hi, by omega, ?_, H15.sub (List.Sublist.cons_cons _ (List.nil_sublist _)), (Is.of ⟨kr, kr, kr, ?_, kr, kr, kr, trivial⟩)⟩
        · rw [hS, cellsF_snoc]; exact hrw'
        · rw [hS]; kernel_rfl
  · generalize hs : putS key val (L.take i) = s at *
    rw [List.take_of_length_le (by omega)] at hs
    obtain ⟨out, put⟩ := s
    refine rS [.e (v := .bool (decide (((i : Nat) : Int) < ((n : Nat) : Int)))) (v' := .bool false) (bool_eq (decide_eq_false (by omega)))] H5 kr fun gs4 w5 H6 => ?_
    refine g_seq kr ?_
    refine g_cond_f kr kr ?_
    refine g_exit 0 kr ?_
    show WP _ _ _ _ _ _
    refine g_seq kr ?_
    cases put with
    | true =>
      refine rS [.v, .v] H6 kr fun gs5 w6 H7 => ?_
      refine g_cond_f kr kr ?_
      refine g_skip kr ?_
      show WP _ _ _ _ _ _
      refine rS [.v, .v] H7 kr fun gs6 w7 H8 => ?_
      refine rRr [.tmp 6] [] (.slice (some ⟨b, 0, none⟩) r k) (outT w.heap.size w (okRow (putP key val L))) H8 kr ?_
      have hP2 : putP key val L = out := by unfold putP; rw [hs]; rfl
      exact ⟨_, ⟨some ⟨b, 0, none⟩, r, k, rfl, .inr ⟨b, cur, rfl, rfl, by rw [hP2]; exact hrw⟩⟩, H8.as kr⟩
    | false =>
      refine rS [.v, .v] H6 kr fun gs5 w6 H7 => ?_
      refine g_cond_t kr kr ?_
      refine g_reg0 [0, 1, 2, 3, 4, 5, 6] kr ?_
      refine rp [.v, .v, .v, .v, .nw (fun b => .slice (some ⟨b, 0, none⟩) 1 1) #[.string key, .string val] 48] H7 kr fun gs7 w8 H10 => ?_
      show WPs _ _ _ _ [5, 6] _ _
      have H11 : St w.heap.size w w8 [(b, .cells cur 48 (0, 0)), ((gs7 4).b, pwO (key, val))] := H10.as kr
      refine s_grow (K' := 2) H11 (some 48) 23 48 32 (.tmp 43) (.tmp 47) 0 1 b (gs7 4).b r k 1 cur #[.string key, .string val] (cellsF pS out) kr kr kr kr kr hrw kr kr rfl (one_all rfl) (by omega) (by unfold maxLen; omega) ?_
      intro b' cap' cur' w9 H12 hrw'
      refine rp [.v] H12 kr fun gs8 w10 H13 => ?_
      show WPs _ _ _ _ [] _ _
      refine s_nil ?_
      show WP _ _ _ _ _ _
      refine rS [.v, .v] H13 kr fun gs9 w11 H14 => ?_
      refine rRr [.tmp 6] [] (.slice (some ⟨b', 0, none⟩) (r + 1) cap') (outT w.heap.size w (okRow (putP key val L))) H14 kr ?_
      have H15 : St w.heap.size w w11 [(b', .cells cur' 48 (0, 0)), ((gs7 4).b, pwO (key, val))] := H14.as kr
      have hP2 : putP key val L = out ++ [(key, val)] := by unfold putP; rw [hs]; rfl
      exact ⟨_, ⟨some ⟨b', 0, none⟩, r + 1, cap', rfl, .inr ⟨b', cur', rfl, rfl, by rw [hP2, cellsF_snoc]; exact hrw'⟩⟩, H15.sub (List.sublist_append_left [_] [_])⟩
end Go.Proofs.YtlhfgbjhngkicaaGreatDoor

namespace Go.Proofs.YtlhfgbjhngkicaaGreatDoor
open Go Go.RowKit
set_option linter.unusedVariables false
abbrev RiseP (L : List Pr) : Prop := L.Pairwise fun a b => lexB (tl a.1) (tl b.1) = true
theorem lexB_tri : ∀ {x y : List UInt8}, lexB x y = false → x ≠ y → lexB y x = true
  | [], [], _, h => absurd rfl h
  | [], _ :: _, h, _ => by simp [lexB] at h
  | _ :: _, [], _, _ => rfl
  | a :: x, b :: y, h, hne => by
    unfold lexB at h ⊢
    by_cases e : a = b
    · subst e
      have hlt : ¬ a.toNat < a.toNat := Nat.lt_irrefl _
      simp only [Nat.lt_irrefl, if_false, if_true] at h ⊢
      exact lexB_tri h fun e => hne (by rw [e])
    · have hn : a.toNat ≠ b.toNat := fun q => e (UInt8.toNat_inj.1 q)
      by_cases c : b.toNat < a.toNat
      · rw [if_pos c]
      · have : a.toNat < b.toNat := by omega
        rw [if_pos this] at h; cases h
theorem lexB_ne {k l : ByteArray} (h : lexB (tl k) (tl l) = true) : k ≠ l := fun e => by rw [e, lexB_self] at h; cases h
theorem posM_cons (k : ByteArray) (x : Pr) (L : List Pr) : posM k (x :: L) = if lexB (tl x.1) (tl k) = true then posM k L + 1 else 0 := by
  unfold posM
  rw [List.takeWhile_cons]
  split <;> rfl
theorem hasM_cons (k : ByteArray) (x : Pr) (L : List Pr) : hasM k (x :: L) = if lexB (tl x.1) (tl k) = true then hasM k L else decide (x.1 = k) := by
  unfold hasM
  rw [posM_cons]
  by_cases c : lexB (tl x.1) (tl k) = true
  · rw [if_pos c, if_pos c, List.getElem?_cons_succ]
  · rw [if_neg c, if_neg c]
    show decide (tl x.1 = tl k) = decide (x.1 = k)
    exact decide_eq_decide.2 ⟨tl_inj, fun h => by rw [h]⟩
theorem posM_le (k : ByteArray) : ∀ L : List Pr, posM k L ≤ L.length
  | [] => Nat.le_refl _
  | x :: L => by rw [posM_cons]; split; exact Nat.succ_le_succ (posM_le k L); exact Nat.zero_le _
theorem hasM_lt {k : ByteArray} {L : List Pr} (h : hasM k L = true) : posM k L < L.length := by
  unfold hasM at h
  split at h
  · rename_i x hx; exact (List.getElem?_eq_some_iff.1 hx).1
  · cases h
theorem hasM_at {k : ByteArray} {L : List Pr} (h : hasM k L = true) : ∃ v, L[posM k L]? = some (k, v) := by
  unfold hasM at h
  split at h
  · rename_i x hx
    have := tl_inj (of_decide_eq_true h)
    exact ⟨x.2, by rw [hx, ← this]⟩
  · cases h
/-- One more, in its place. -/
def insM (k v : ByteArray) : List Pr → List Pr
  | [] => [(k, v)]
  | x :: L => if lexB (tl x.1) (tl k) = true then x :: insM k v L else if x.1 = k then (k, v) :: L else (k, v) :: x :: L
theorem ins_found {k v : ByteArray} : ∀ {L : List Pr}, hasM k L = true → L.set (posM k L) (k, v) = insM k v L
  | [], h => by cases h
  | x :: L, h => by
    rw [hasM_cons] at h
    rw [posM_cons]
    unfold insM
    by_cases c : lexB (tl x.1) (tl k) = true
    · rw [if_pos c] at h ⊢
      rw [if_pos c, List.set_cons_succ, ins_found h]
    · rw [if_neg c] at h ⊢
      rw [if_neg c, if_pos (of_decide_eq_true h), List.set_cons_zero]
theorem ins_new {k v : ByteArray} : ∀ {L : List Pr}, hasM k L = false → L.take (posM k L) ++ (k, v) :: L.drop (posM k L) = insM k v L
  | [], _ => rfl
  | x :: L, h => by
    rw [hasM_cons] at h
    rw [posM_cons]
    unfold insM
    by_cases c : lexB (tl x.1) (tl k) = true
    · rw [if_pos c] at h ⊢
      rw [if_pos c, List.take_succ_cons, List.drop_succ_cons, List.cons_append, ins_new h]
    · rw [if_neg c] at h ⊢
      rw [if_neg c, if_neg (of_decide_eq_false h)]; rfl
theorem none_above {k : ByteArray} {x : Pr} {L : List Pr} (hr : RiseP (x :: L)) (hx : lexB (tl x.1) (tl k) = false) : ∀ y ∈ L, y.1 ≠ k := fun y hy e => by
  have h := (List.pairwise_cons.1 hr).1 y hy
  rw [e] at h
  rw [h] at hx; cases hx
theorem del_none {k : ByteArray} {L : List Pr} (h : ∀ y ∈ L, y.1 ≠ k) : delP k L = L := by
  unfold delP
  rw [List.filter_eq_self]
  intro y hy; simp [h y hy]
theorem del_cons (k : ByteArray) (x : Pr) (L : List Pr) : delP k (x :: L) = if x.1 = k then delP k L else x :: delP k L := by
  unfold delP; rw [List.filter_cons]; by_cases h : x.1 = k <;> simp [h]
theorem del_found {k : ByteArray} : ∀ {L : List Pr}, RiseP L → hasM k L = true → L.take (posM k L) ++ L.drop (posM k L + 1) = delP k L
  | [], _, h => by cases h
  | x :: L, hr, h => by
    rw [hasM_cons] at h
    rw [posM_cons, del_cons]
    by_cases c : lexB (tl x.1) (tl k) = true
    · rw [if_pos c] at h ⊢
      rw [if_neg (lexB_ne c), List.take_succ_cons, List.drop_succ_cons, List.cons_append, del_found (List.pairwise_cons.1 hr).2 h]
    · rw [if_neg c] at h ⊢
      rw [if_pos (of_decide_eq_true h), del_none (none_above hr (by simpa using c))]; rfl
theorem get_none {k : ByteArray} : ∀ {L : List Pr}, (∀ y ∈ L, y.1 ≠ k) → getP k L = (⟨#[]⟩, false)
  | [], _ => rfl
  | x :: L, h => by
    unfold getP
    rw [if_neg (h x (List.mem_cons_self ..)), get_none fun y hy => h y (List.mem_cons_of_mem _ hy)]
theorem get_has (k : ByteArray) : ∀ {L : List Pr}, RiseP L → (getP k L).2 = hasM k L
  | [], _ => rfl
  | x :: L, hr => by
    rw [hasM_cons]
    unfold getP
    by_cases c : lexB (tl x.1) (tl k) = true
    · rw [if_neg (lexB_ne c), if_pos c, get_has k (List.pairwise_cons.1 hr).2]
    · rw [if_neg c]
      by_cases e : x.1 = k
      · rw [if_pos e, decide_eq_true e]
      · rw [if_neg e, get_none (none_above hr (by simpa using c)), decide_eq_false e]
theorem mem_ins {k v : ByteArray} {y : Pr} : ∀ {L : List Pr}, y ∈ insM k v L → y = (k, v) ∨ y ∈ L
  | [], h => .inl (List.mem_singleton.1 h)
  | x :: L, h => by
    unfold insM at h
    split at h
    · rcases List.mem_cons.1 h with rfl | h
      · exact .inr (List.mem_cons_self ..)
      · exact (mem_ins h).imp id fun q => List.mem_cons_of_mem _ q
    · split at h
      · rcases List.mem_cons.1 h with rfl | h
        · exact .inl rfl
        · exact .inr (List.mem_cons_of_mem _ h)
      · rcases List.mem_cons.1 h with rfl | h
        · exact .inl rfl
        · exact .inr h
theorem ins_rise {k v : ByteArray} : ∀ {L : List Pr}, RiseP L → RiseP (insM k v L)
  | [], _ => by unfold insM; exact List.pairwise_singleton ..
  | x :: L, h => by
    have h2 := List.pairwise_cons.1 h
    unfold insM
    by_cases c : lexB (tl x.1) (tl k) = true
    · rw [if_pos c]
      refine List.pairwise_cons.2 ⟨fun y hy => ?_, ins_rise h2.2⟩
      rcases mem_ins hy with rfl | hy
      · exact c
      · exact h2.1 y hy
    · rw [if_neg c]
      by_cases e : x.1 = k
      · rw [if_pos e]
        exact List.pairwise_cons.2 ⟨fun y hy => by show lexB (tl k) (tl y.1) = true; rw [← e]; exact h2.1 y hy, h2.2⟩
      · rw [if_neg e]
        have hk : lexB (tl k) (tl x.1) = true := lexB_tri (by simpa using c) fun q => e (tl_inj q)
        refine List.pairwise_cons.2 ⟨fun y hy => ?_, h⟩
        rcases List.mem_cons.1 hy with rfl | hy
        · exact hk
        · exact lexB_trans hk (h2.1 y hy)
theorem ins_len {k v : ByteArray} : ∀ L : List Pr, (insM k v L).length = if hasM k L = true then L.length else L.length + 1
  | [] => rfl
  | x :: L => by
    rw [hasM_cons]
    unfold insM
    by_cases c : lexB (tl x.1) (tl k) = true
    · rw [if_pos c, if_pos c, List.length_cons, ins_len L]; split <;> simp
    · rw [if_neg c, if_neg c]
      by_cases e : x.1 = k
      · rw [if_pos e, decide_eq_true e]; simp
      · rw [if_neg e, decide_eq_false e]; simp
theorem OkP.ins {k v : ByteArray} {L : List Pr} (h : OkP L) (hm : mayM k v = true) (hn : hasM k L = true ∨ L.length < 64) : OkP (insM k v L) := by
  refine ⟨?_, fun x hx => ?_, ins_rise h.rise⟩
  · have := h.len
    rw [ins_len]
    split
    · exact this
    · rename_i q
      rcases hn with hn | hn
      · exact absurd hn q
      · omega
  · rcases mem_ins hx with rfl | hx
    · exact hm
    · exact h.may x hx
theorem OkP.del {k : ByteArray} {L : List Pr} (h : OkP L) : OkP (delP k L) :=
  ⟨Nat.le_trans (List.length_filter_le _ _) h.len, fun x hx => h.may x (List.mem_filter.1 hx).1, List.Pairwise.filter _ h.rise⟩
theorem okP_nil : OkP [] := ⟨Nat.zero_le _, (fun _ h => nomatch h), List.Pairwise.nil⟩
/-! ### What the reference makes -/
theorem putS_after (k v : ByteArray) : ∀ (L : List Pr) (out : List Pr), (∀ y ∈ L, y.1 ≠ k) → L.foldl (fun s x => putN k (putT k v s x) x) (out, true) = (out ++ L, true)
  | [], out, _ => by simp
  | x :: L, out, h => by
    rw [List.foldl_cons]
    have e : putN k (putT k v (out, true) x) x = (out ++ [x], true) := by
      unfold putN putT
      rw [if_neg (h x (List.mem_cons_self ..))]; simp
    rw [e, putS_after k v L (out ++ [x]) fun y hy => h y (List.mem_cons_of_mem _ hy), List.append_assoc]; rfl
theorem putS_ins (k v : ByteArray) : ∀ (L : List Pr) (out : List Pr), RiseP L →
    (if (L.foldl (fun s x => putN k (putT k v s x) x) (out, false)).2 = true then (L.foldl (fun s x => putN k (putT k v s x) x) (out, false)).1 else (L.foldl (fun s x => putN k (putT k v s x) x) (out, false)).1 ++ [(k, v)]) = out ++ insM k v L
  | [], out, _ => by simp [insM]
  | x :: L, out, hr => by
    rw [List.foldl_cons]
    unfold insM
    by_cases c : lexB (tl x.1) (tl k) = true
    · have e : putN k (putT k v (out, false) x) x = (out ++ [x], false) := by
        unfold putN putT
        rw [if_neg (lexB_ne c), c]; simp
      rw [e, putS_ins k v L (out ++ [x]) (List.pairwise_cons.1 hr).2, if_pos c, List.append_assoc]; rfl
    · have hf : lexB (tl x.1) (tl k) = false := by simpa using c
      have hn := none_above hr hf
      rw [if_neg c]
      by_cases q : x.1 = k
      · have e : putN k (putT k v (out, false) x) x = (out ++ [(k, v)], true) := by
          unfold putN putT
          rw [if_pos q, hf]; simp
        rw [e, putS_after k v L _ hn, if_pos rfl, if_pos q, List.append_assoc]; rfl
      · have e : putN k (putT k v (out, false) x) x = (out ++ [(k, v)] ++ [x], true) := by
          unfold putN putT
          rw [if_neg q, hf]; simp
        rw [e, putS_after k v L _ hn, if_pos rfl, if_neg q]; simp
theorem putP_ins {k v : ByteArray} {L : List Pr} (hr : RiseP L) : putP k v L = insM k v L := by
  have := putS_ins k v L [] hr
  rw [List.nil_append] at this
  exact this
/-! ### Back again -/
end Go.Proofs.YtlhfgbjhngkicaaGreatDoor
