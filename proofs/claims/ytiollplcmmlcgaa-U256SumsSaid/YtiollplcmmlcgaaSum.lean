/-
  The contract of Sum.
-/
import Derived.Test.YtiollplcmmlcgaaSumM
namespace Go.Proofs.Ytiollplcmmlcgaa
open Go.ChangeShapes Go.WideShapes Go.ChangeAt Go.RowKit
set_option linter.unusedVariables false

set_option maxHeartbeats 4000000 in
set_option maxRecDepth 100000 in
theorem sum_any (va vb : Value) (x y : List Nat) (hx : Ok x) (hy : Ok y) (lx : x.length ≤ 1000) (ly : y.length ≤ 1000) (w : World) (ha : Dig w va x) (hb : Dig w vb y) :
    Calls Try.prog 13 #[va, vb] w fun e w' => ∃ v l, e = .returned v ∧ Dig w' v l ∧ Ok l ∧ vl l = vl x + vl y ∧ l.length ≤ max x.length y.length + 1 ∧ Below w.heap.size w w' := by
  obtain ⟨i0, hi, hz0, hz1, hz2⟩ := info_parts info3
  have I : Out w (.slice (some ⟨w.heap.size, 0, none⟩) 0 0) [] (w.alloc (.cells #[] 3)) :=
    ⟨⟨w.heap.size, Nat.le_refl _, by simp, World.ownsRow_lit (base := w.heap.size) (e := 3) (size := 1) w #[] 0 (by simp) (by decide) (by simp)⟩, below_laid (Below.refl _ _) _⟩
  obtain ⟨aa, ca, ea, -⟩ := id ha
  obtain ⟨ab, cb, eb, -⟩ := id hb
  have Ha := Lib.hid ha
  have Hb := Lib.hid hb
  clear ha hb
  subst ea eb
  go_enter Try.func13, Try.ntmps13
  go_wp2
  go_loopw [5, 6, 7] (fun v c i wr => ∃ (l : List Nat) (k : Nat) (q : Int), i = .int .i64 k ∧ c = .int .i64 q ∧ SumI x y l k q ∧ Out w v l wr) (fun _ _ i _ => 1002 - (intOf i).toNat)
  case atStart => exact ⟨[], 0, 0, rfl, rfl, SumI.start x y, I⟩
  case round =>
    obtain ⟨l, k, q, rfl, rfl, S, J⟩ := hrel
    clear I
    have q0 := S.c0; have q1 := S.c1
    have x0 := dAt_lo (l := x) k; have x1 := dAt_hi hx k
    have y0 := dAt_lo (l := y) k; have y1 := dAt_hi hy k
    have tk := S.top
    have Da := Ha.out.past J.2
    have Db := Hb.out.past J.2
    have cA := digit_nat _ x k (by omega) _ Da
    have cB := digit_nat _ y k (by omega) _ Db
    have J2 := J
    obtain ⟨⟨B, hB, hle, hown⟩, JB⟩ := J2
    clear Da Db
    have hk2 : l.length ≤ 1001 := by have := S.len; omega
    by_cases h1 : k < x.length
    · have hd1 : decide (k < x.length) = true := by simp; omega
      have N := S.next hx hy (by omega)
      go_wp2_with fail
      refine cA.mono ?_
      rintro e w' ⟨rfl, rfl⟩
      go_wp2_with fail
      refine cB.mono ?_
      rintro e w' ⟨rfl, rfl⟩
      go_wp2_with (first | (at_builtin; refine wpList_append_own _ rfl _ _ 28 rfl B 3 i0 (.int .i64 0) 1 8 Try.underlying28 hi hz0 hz1 hz2 rfl (by decide) _ _ _ rfl (hown.alloc _) ⟨wr.heap.size, 0, none⟩ 1 1 [.int .i64 ((dAt x k + dAt y k + q) % 65536)] rfl rfl ?c1_1 ?c2_1 ?c3_1 ?c4_1 ?c5_1 ?_) | go_in)
      case c1_1 => exact one_new _ _
      case c2_1 => intro u hu; simp at hu; subst hu; rfl
      case c3_1 => unfold maxLen; omega
      case c4_1 => omega
      case c5_1 => simp; omega
      intro v' W1 hown' hgrow _
      have N2 := out_next hB hle hown JB ((dAt x k + dAt y k + q) % 65536).toNat (by rw [Int.toNat_of_nonneg (by omega)]) hown' hgrow
      clear hown' hgrow hown J cA cB
      go_wp2
      go_roundw
      case rel => exact ⟨_, k + 1, _, by go_num, by go_num, N, N2⟩
      case measure => simp [intOf]; omega
    · have hd1 : decide (k < x.length) = false := by simp; omega
      by_cases h2 : k < y.length
      · have hd2 : decide (k < y.length) = true := by simp; omega
        have N := S.next hx hy (by omega)
        go_wp2_with fail
        refine cA.mono ?_
        rintro e w' ⟨rfl, rfl⟩
        go_wp2_with fail
        refine cB.mono ?_
        rintro e w' ⟨rfl, rfl⟩
        go_wp2_with (first | (at_builtin; refine wpList_append_own _ rfl _ _ 28 rfl B 3 i0 (.int .i64 0) 1 8 Try.underlying28 hi hz0 hz1 hz2 rfl (by decide) _ _ _ rfl (hown.alloc _) ⟨wr.heap.size, 0, none⟩ 1 1 [.int .i64 ((dAt x k + dAt y k + q) % 65536)] rfl rfl ?c1_2 ?c2_2 ?c3_2 ?c4_2 ?c5_2 ?_) | go_in)
        case c1_2 => exact one_new _ _
        case c2_2 => intro u hu; simp at hu; subst hu; rfl
        case c3_2 => unfold maxLen; omega
        case c4_2 => omega
        case c5_2 => simp; omega
        intro v' W1 hown' hgrow _
        have N2 := out_next hB hle hown JB ((dAt x k + dAt y k + q) % 65536).toNat (by rw [Int.toNat_of_nonneg (by omega)]) hown' hgrow
        clear hown' hgrow hown J cA cB
        go_wp2
        go_roundw
        case rel => exact ⟨_, k + 1, _, by go_num, by go_num, N, N2⟩
        case measure => simp [intOf]; omega
      · have hd2 : decide (k < y.length) = false := by simp; omega
        by_cases h3 : 0 < q
        · have hd3 : decide (0 < q) = true := by simp; omega
          have N := S.next hx hy (by omega)
          go_wp2_with fail
          refine cA.mono ?_
          rintro e w' ⟨rfl, rfl⟩
          go_wp2_with fail
          refine cB.mono ?_
          rintro e w' ⟨rfl, rfl⟩
          go_wp2_with (first | (at_builtin; refine wpList_append_own _ rfl _ _ 28 rfl B 3 i0 (.int .i64 0) 1 8 Try.underlying28 hi hz0 hz1 hz2 rfl (by decide) _ _ _ rfl (hown.alloc _) ⟨wr.heap.size, 0, none⟩ 1 1 [.int .i64 ((dAt x k + dAt y k + q) % 65536)] rfl rfl ?c1_3 ?c2_3 ?c3_3 ?c4_3 ?c5_3 ?_) | go_in)
          case c1_3 => exact one_new _ _
          case c2_3 => intro u hu; simp at hu; subst hu; rfl
          case c3_3 => unfold maxLen; omega
          case c4_3 => omega
          case c5_3 => simp; omega
          intro v' W1 hown' hgrow _
          have N2 := out_next hB hle hown JB ((dAt x k + dAt y k + q) % 65536).toNat (by rw [Int.toNat_of_nonneg (by omega)]) hown' hgrow
          clear hown' hgrow hown J cA cB
          go_wp2
          go_roundw
          case rel => exact ⟨_, k + 1, _, by go_num, by go_num, N, N2⟩
          case measure => simp [intOf]; omega
        · have hd3 : decide (0 < q) = false := by simp; omega
          have F := S.fin h1 h2 h3
          have D := J.dig
          have hlen := S.len
          have hok := S.ok
          clear cA cB
          have HH := Lib.hid (And.intro F (And.intro hlen hok))
          clear F hlen hok
          go_wp2
          go_ret
          obtain ⟨F, hlen, hok⟩ := HH.out
          exact ⟨_, rfl, l, D, hok, F, by omega, JB⟩
end Go.Proofs.Ytiollplcmmlcgaa
