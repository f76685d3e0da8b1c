/-
  The contracts of To and Full.
-/
import Derived.Test.YtiollplcmmlcgaaToMath
import Derived.Deep.RegionWith
namespace Go.Proofs.Ytiollplcmmlcgaa
open Go.ChangeShapes Go.WideShapes Go.ChangeAt Go.RowKit
set_option linter.unusedVariables false

/-- 2^256, in 17 digits. -/
def fullD : List Nat := [0, 0, 0, 0, 0, 0, 0, 0, 0, 0, 0, 0, 0, 0, 0, 0, 1]
theorem fullD_ok : Ok fullD := by intro d hd; simp [fullD] at hd; omega
theorem fullD_val : vl fullD = big := rfl

set_option maxHeartbeats 1000000 in
theorem full_any (w : World) : Calls Try.prog 15 #[] w fun e w' => ∃ v, e = .returned v ∧ Dig w' v fullD ∧ Below w.heap.size w w' := by
  have hmk : ∀ w : World, (Instr.makeSlice 27 (.int .i64 17) (.int .i64 17)).run Try.prog w = .ok (.slice (some ⟨w.heap.size, 0, none⟩) 17 17) (w.alloc (.cells #[.int .i64 0, .int .i64 0, .int .i64 0, .int .i64 0, .int .i64 0, .int .i64 0, .int .i64 0, .int .i64 0, .int .i64 0, .int .i64 0, .int .i64 0, .int .i64 0, .int .i64 0, .int .i64 0, .int .i64 0, .int .i64 0, .int .i64 0] 3)) := fun _ => by kernel_rfl
  go_enter Try.func15, Try.ntmps15
  go_wp2
  go_ret
  refine ⟨_, rfl, ⟨_, 17, rfl, .inr ⟨w.heap.size, 0, rfl, by simp, ?_⟩⟩, below_laid (Below.refl _ _) _⟩
  intro i hi
  have hi' : i < 17 := hi
  have hk : i = 0 ∨ i = 1 ∨ i = 2 ∨ i = 3 ∨ i = 4 ∨ i = 5 ∨ i = 6 ∨ i = 7 ∨ i = 8 ∨ i = 9 ∨ i = 10 ∨ i = 11 ∨ i = 12 ∨ i = 13 ∨ i = 14 ∨ i = 15 ∨ i = 16 := by omega
  rcases hk with rfl | rfl | rfl | rfl | rfl | rfl | rfl | rfl | rfl | rfl | rfl | rfl | rfl | rfl | rfl | rfl | rfl <;> simp [dAt, fullD]

def oI (V j q : Nat) : Int := ((ow V j q : Nat) : Int)
/-- The words so far, at block b. -/
def TH (wr : World) (b V j : Nat) : Prop :=
  (wr.cell? ⟨b, 0, none⟩ = some (.int .u64 (oI V j 0)) ∧ wr.cell? ⟨b, 1, none⟩ = some (.int .u64 (oI V j 1)) ∧ wr.cell? ⟨b, 2, none⟩ = some (.int .u64 (oI V j 2)) ∧ wr.cell? ⟨b, 3, none⟩ = some (.int .u64 (oI V j 3))) ∧
  (wr.frozen? ⟨b, 0, none⟩ = false ∧ wr.frozen? ⟨b, 1, none⟩ = false ∧ wr.frozen? ⟨b, 2, none⟩ = false ∧ wr.frozen? ⟨b, 3, none⟩ = false)
def TInv (w : World) (V j : Nat) (wr : World) : Prop := Below w.heap.size w wr ∧ TH wr (w.heap.size + 1) V j ∧ Zr wr w.heap.size

set_option maxHeartbeats 4000000 in
set_option maxRecDepth 100000 in
theorem to_any (va : Value) (x : List Nat) (hx : Ok x) (lx : x.length ≤ 1000) (w : World) (ha : Dig w va x) :
    Calls Try.prog 18 #[va] w fun e w' => e = .returned (uv (vl x % big)) ∧ Below w.heap.size w w' := by
  obtain ⟨aa, ca, ea, -⟩ := id ha
  have Ha := Lib.hid ha
  clear ha
  subst ea
  have I : TInv w (vl x) 16 ((w.alloc (.cells #[.int .u64 0, .int .u64 0, .int .u64 0, .int .u64 0] 24)).alloc (.cells #[.int .u64 0, .int .u64 0, .int .u64 0, .int .u64 0] 24)) := by
    have z : ∀ q, q < 4 → oI (vl x) 16 q = 0 := fun q hq => by unfold oI; rw [ow_start _ _ hq]; rfl
    refine ⟨below_laid (below_laid (Below.refl _ _) _) _, ?_, (Zr.hereAt w _ rfl).alloc _⟩
    have h := Zr.hereAt (w.alloc (.cells #[.int .u64 0, .int .u64 0, .int .u64 0, .int .u64 0] 24)) (w.heap.size + 1) (by simp)
    unfold TH
    rw [z 0 (by omega), z 1 (by omega), z 2 (by omega), z 3 (by omega)]
    exact h
  go_enter Try.func18, Try.ntmps18
  go_wp2
  go_loopw [4] (fun i wr => ∃ j : Nat, j ≤ 16 ∧ i = .int .i64 ((j : Int) - 1) ∧ TInv w (vl x) j wr) (fun i _ => (1 + intOf i).toNat)
  case atStart => exact ⟨16, by omega, rfl, I⟩
  case round =>
    obtain ⟨j, hj, rfl, J⟩ := hrel
    clear I
    have J0 := J
    obtain ⟨JB, ⟨⟨c0, c1, c2, c3⟩, f0, f1, f2, f3⟩, JZ⟩ := J0
    by_cases hlt : 0 < j
    · obtain ⟨k, rfl⟩ : ∃ k, j = k + 1 := ⟨j - 1, by omega⟩
      have hk : k < 16 := by omega
      have e1 : ((k + 1 : Nat) : Int) - 1 = (k : Int) := by omega
      rw [e1]
      obtain ⟨s1, s2, s3⟩ := ow_step (vl x) k hk
      rw [dg_vl hx] at s1
      have cD := digit_nat _ x k (by omega) _ ((Ha.out.past JB).drew)
      have d0 := dAt_lo (l := x) k; have d1 := dAt_hi hx k
      have wd : IntKind.u64.wrap (dAt x k) = dAt x k := by rw [IntKind.wrap_u64]; omega
      have o0 : 0 ≤ oI (vl x) (k + 1) (k / 4) := by unfold oI; omega
      have o1 : oI (vl x) (k + 1) (k / 4) < 281474976710656 := by unfold oI; omega
      have wm : IntKind.u64.wrap (oI (vl x) (k + 1) (k / 4) * 65536) = oI (vl x) (k + 1) (k / 4) * 65536 := by rw [IntKind.wrap_u64]; omega
      have wa : IntKind.u64.wrap (oI (vl x) (k + 1) (k / 4) * 65536 + dAt x k) = oI (vl x) (k + 1) (k / 4) * 65536 + dAt x k := by rw [IntKind.wrap_u64]; omega
      have HS : Hid (oI (vl x) (k + 1) (k / 4) * 65536 + dAt x k = oI (vl x) k (k / 4)) := by show _ = _; unfold oI dAt; rw [s1, Int.natCast_add, Int.natCast_mul]; rfl
      have HT := Lib.hid s3
      clear s1 s2 s3 o0 o1 d1 e1
      have hq : k / 4 = 0 ∨ k / 4 = 1 ∨ k / 4 = 2 ∨ k / 4 = 3 := by omega
      rcases hq with hq | hq | hq | hq
      · rw [hq] at wm wa
        have hqi : (k : Int) / 4 = 0 := by omega
        have htd : (k : Int).tdiv 4 = 0 := by rw [Int.tdiv_eq_ediv_of_nonneg (by omega)]; exact hqi
        go_wp2_with fail
        go_region_with (go_at_call 34; (with_reducible refine cD.mono ?_); rintro e w' ⟨rfl, rfl⟩)
        all_goals
          go_wp2
          go_roundw
          case rel =>
            have o2 := HT.out
            have ev := HS.out
            rw [hq] at o2 ev
            have g1 : oI (vl x) k 1 = oI (vl x) (k + 1) 1 := by unfold oI; rw [o2 1 (by omega) (by omega)]
            have g2 : oI (vl x) k 2 = oI (vl x) (k + 1) 2 := by unfold oI; rw [o2 2 (by omega) (by omega)]
            have g3 : oI (vl x) k 3 = oI (vl x) (k + 1) 3 := by unfold oI; rw [o2 3 (by omega) (by omega)]
            refine ⟨k, by omega, by go_num, (JB.setCell (by simp) _).drew, ⟨⟨?_, ?_, ?_, ?_⟩, ?_, ?_, ?_, ?_⟩, (JZ.set (by simp) _)⟩
            · rw [← ev]; exact World.cell?_setCell_same _ _ _ c0
            · rw [g1]; exact (World.cell?_setCell_other _ _ _ _ (by simp)).trans c1
            · rw [g2]; exact (World.cell?_setCell_other _ _ _ _ (by simp)).trans c2
            · rw [g3]; exact (World.cell?_setCell_other _ _ _ _ (by simp)).trans c3
            · simp [f0]
            · simp [f1]
            · simp [f2]
            · simp [f3]
          case measure => simp [intOf]; omega
      · rw [hq] at wm wa
        have hqi : (k : Int) / 4 = 1 := by omega
        have htd : (k : Int).tdiv 4 = 1 := by rw [Int.tdiv_eq_ediv_of_nonneg (by omega)]; exact hqi
        go_wp2_with fail
        go_region_with (go_at_call 34; (with_reducible refine cD.mono ?_); rintro e w' ⟨rfl, rfl⟩)
        all_goals
          go_wp2
          go_roundw
          case rel =>
            have o2 := HT.out
            have ev := HS.out
            rw [hq] at o2 ev
            have g0 : oI (vl x) k 0 = oI (vl x) (k + 1) 0 := by unfold oI; rw [o2 0 (by omega) (by omega)]
            have g2 : oI (vl x) k 2 = oI (vl x) (k + 1) 2 := by unfold oI; rw [o2 2 (by omega) (by omega)]
            have g3 : oI (vl x) k 3 = oI (vl x) (k + 1) 3 := by unfold oI; rw [o2 3 (by omega) (by omega)]
            refine ⟨k, by omega, by go_num, (JB.setCell (by simp) _).drew, ⟨⟨?_, ?_, ?_, ?_⟩, ?_, ?_, ?_, ?_⟩, (JZ.set (by simp) _)⟩
            · rw [g0]; exact (World.cell?_setCell_other _ _ _ _ (by simp)).trans c0
            · rw [← ev]; exact World.cell?_setCell_same _ _ _ c1
            · rw [g2]; exact (World.cell?_setCell_other _ _ _ _ (by simp)).trans c2
            · rw [g3]; exact (World.cell?_setCell_other _ _ _ _ (by simp)).trans c3
            · simp [f0]
            · simp [f1]
            · simp [f2]
            · simp [f3]
          case measure => simp [intOf]; omega
      · rw [hq] at wm wa
        have hqi : (k : Int) / 4 = 2 := by omega
        have htd : (k : Int).tdiv 4 = 2 := by rw [Int.tdiv_eq_ediv_of_nonneg (by omega)]; exact hqi
        go_wp2_with fail
        go_region_with (go_at_call 34; (with_reducible refine cD.mono ?_); rintro e w' ⟨rfl, rfl⟩)
        all_goals
          go_wp2
          go_roundw
          case rel =>
            have o2 := HT.out
            have ev := HS.out
            rw [hq] at o2 ev
            have g0 : oI (vl x) k 0 = oI (vl x) (k + 1) 0 := by unfold oI; rw [o2 0 (by omega) (by omega)]
            have g1 : oI (vl x) k 1 = oI (vl x) (k + 1) 1 := by unfold oI; rw [o2 1 (by omega) (by omega)]
            have g3 : oI (vl x) k 3 = oI (vl x) (k + 1) 3 := by unfold oI; rw [o2 3 (by omega) (by omega)]
            refine ⟨k, by omega, by go_num, (JB.setCell (by simp) _).drew, ⟨⟨?_, ?_, ?_, ?_⟩, ?_, ?_, ?_, ?_⟩, (JZ.set (by simp) _)⟩
            · rw [g0]; exact (World.cell?_setCell_other _ _ _ _ (by simp)).trans c0
            · rw [g1]; exact (World.cell?_setCell_other _ _ _ _ (by simp)).trans c1
            · rw [← ev]; exact World.cell?_setCell_same _ _ _ c2
            · rw [g3]; exact (World.cell?_setCell_other _ _ _ _ (by simp)).trans c3
            · simp [f0]
            · simp [f1]
            · simp [f2]
            · simp [f3]
          case measure => simp [intOf]; omega
      · rw [hq] at wm wa
        have hqi : (k : Int) / 4 = 3 := by omega
        have htd : (k : Int).tdiv 4 = 3 := by rw [Int.tdiv_eq_ediv_of_nonneg (by omega)]; exact hqi
        go_wp2_with fail
        go_region_with (go_at_call 34; (with_reducible refine cD.mono ?_); rintro e w' ⟨rfl, rfl⟩)
        all_goals
          go_wp2
          go_roundw
          case rel =>
            have o2 := HT.out
            have ev := HS.out
            rw [hq] at o2 ev
            have g0 : oI (vl x) k 0 = oI (vl x) (k + 1) 0 := by unfold oI; rw [o2 0 (by omega) (by omega)]
            have g1 : oI (vl x) k 1 = oI (vl x) (k + 1) 1 := by unfold oI; rw [o2 1 (by omega) (by omega)]
            have g2 : oI (vl x) k 2 = oI (vl x) (k + 1) 2 := by unfold oI; rw [o2 2 (by omega) (by omega)]
            refine ⟨k, by omega, by go_num, (JB.setCell (by simp) _).drew, ⟨⟨?_, ?_, ?_, ?_⟩, ?_, ?_, ?_, ?_⟩, (JZ.set (by simp) _)⟩
            · rw [g0]; exact (World.cell?_setCell_other _ _ _ _ (by simp)).trans c0
            · rw [g1]; exact (World.cell?_setCell_other _ _ _ _ (by simp)).trans c1
            · rw [g2]; exact (World.cell?_setCell_other _ _ _ _ (by simp)).trans c2
            · rw [← ev]; exact World.cell?_setCell_same _ _ _ c3
            · simp [f0]
            · simp [f1]
            · simp [f2]
            · simp [f3]
          case measure => simp [intOf]; omega
    · have e : j = 0 := by omega
      subst e
      have HE : Hid (uv (vl x % big) = .agg #[.int .u64 (oI (vl x) 0 0), .int .u64 (oI (vl x) 0 1), .int .u64 (oI (vl x) 0 2), .int .u64 (oI (vl x) 0 3)]) := by
        show _ = _
        unfold uv oI
        rw [ow_mod0, ow_mod1, ow_mod2, ow_mod3, ow_w0, ow_w1, ow_w2, ow_w3]
      obtain ⟨⟨z0, z1, z2, z3⟩, y0, y1, y2, y3⟩ := JZ
      go_wp2
      have hS0 : (wr.setCell ⟨w.heap.size, 0, none⟩ (.int .u64 (oI (vl x) 0 0))).cell? ⟨w.heap.size, 0, none⟩ = some (.int .u64 (oI (vl x) 0 0)) := World.cell?_setCell_same _ _ _ z0
      have hS1 : ((wr.setCell ⟨w.heap.size, 0, none⟩ (.int .u64 (oI (vl x) 0 0))).setCell ⟨w.heap.size, 1, none⟩ (.int .u64 (oI (vl x) 0 1))).cell? ⟨w.heap.size, 1, none⟩ = some (.int .u64 (oI (vl x) 0 1)) := World.cell?_setCell_same _ _ _ ((World.cell?_setCell_other _ _ _ _ (by simp)).trans z1)
      have hS2 : (((wr.setCell ⟨w.heap.size, 0, none⟩ (.int .u64 (oI (vl x) 0 0))).setCell ⟨w.heap.size, 1, none⟩ (.int .u64 (oI (vl x) 0 1))).setCell ⟨w.heap.size, 2, none⟩ (.int .u64 (oI (vl x) 0 2))).cell? ⟨w.heap.size, 2, none⟩ = some (.int .u64 (oI (vl x) 0 2)) := World.cell?_setCell_same _ _ _ ((World.cell?_setCell_other _ _ _ _ (by simp)).trans ((World.cell?_setCell_other _ _ _ _ (by simp)).trans z2))
      have hS3 : ((((wr.setCell ⟨w.heap.size, 0, none⟩ (.int .u64 (oI (vl x) 0 0))).setCell ⟨w.heap.size, 1, none⟩ (.int .u64 (oI (vl x) 0 1))).setCell ⟨w.heap.size, 2, none⟩ (.int .u64 (oI (vl x) 0 2))).setCell ⟨w.heap.size, 3, none⟩ (.int .u64 (oI (vl x) 0 3))).cell? ⟨w.heap.size, 3, none⟩ = some (.int .u64 (oI (vl x) 0 3)) := World.cell?_setCell_same _ _ _ ((World.cell?_setCell_other _ _ _ _ (by simp)).trans ((World.cell?_setCell_other _ _ _ _ (by simp)).trans ((World.cell?_setCell_other _ _ _ _ (by simp)).trans z3)))
      refine bodyPost_ret (v := .agg #[.int .u64 (oI (vl x) 0 0), .int .u64 (oI (vl x) 0 1), .int .u64 (oI (vl x) 0 2), .int .u64 (oI (vl x) 0 3)]) (by simp [results, Try.results18, go_sem, hS0, hS1, hS2, hS3]) rfl ?_
      refine ⟨by rw [HE.out], ?_⟩
      exact ((((JB.setCell (by simp) _).setCell (by simp) _).setCell (by simp) _).setCell (by simp) _)
end Go.Proofs.Ytiollplcmmlcgaa
