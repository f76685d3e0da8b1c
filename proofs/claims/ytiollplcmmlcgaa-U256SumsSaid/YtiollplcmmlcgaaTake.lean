/-
  The contract of Take.
-/
import Derived.Test.YtiollplcmmlcgaaLess
import Derived.Deep.QuietTactic
import Derived.BigQuiet
namespace Go.Proofs.Ytiollplcmmlcgaa
open Go.ChangeShapes Go.WideShapes Go.ChangeAt Go.RowKit
set_option linter.unusedVariables false

structure TakeI (x y l : List Nat) (k : Nat) (c : Int) : Prop where
  len : l.length = k
  ok : Ok l
  c0 : 0 ≤ c
  c1 : c ≤ 1
  val : (vl l : Int) - 65536 ^ k * c = vl (x.take k) - vl (y.take k)

theorem TakeI.start (x y : List Nat) : TakeI x y [] 0 0 := ⟨rfl, (fun d h => by cases h), by omega, by omega, by simp [vl]⟩
theorem TakeI.step {x y l : List Nat} {k : Nat} {c : Int} (h : TakeI x y l k c) (r q : Int) (hr0 : 0 ≤ r) (hr1 : r < 65536) (hq0 : 0 ≤ q) (hq1 : q ≤ 1) (hm : dAt x k - dAt y k - c = r - 65536 * q) :
    TakeI x y (l ++ [r.toNat]) (k + 1) q := by
  obtain ⟨e1, e2, c0, c1, ev⟩ := h
  refine ⟨by simp [e1], ok_append e2 (fun d hd => by simp at hd; omega), hq0, hq1, ?_⟩
  rw [vl_snoc, e1, vl_take', vl_take', Int.pow_succ]
  have hs : ((r.toNat : Nat) : Int) = r := by omega
  have e3 : (65536 : Int) ^ k * dAt x k - 65536 ^ k * dAt y k - 65536 ^ k * c = 65536 ^ k * r - 65536 ^ k * 65536 * q := by
    rw [← Int.mul_sub, ← Int.mul_sub, hm, Int.mul_sub, Int.mul_assoc]
  have g1 : ((vl l + 65536 ^ k * r.toNat : Nat) : Int) = (vl l : Int) + 65536 ^ k * r := by rw [Int.natCast_add, Int.natCast_mul, Int.natCast_pow, hs]; rfl
  have g2 : ((vl (x.take k) + 65536 ^ k * x.getD k 0 : Nat) : Int) = (vl (x.take k) : Int) + 65536 ^ k * dAt x k := by rw [Int.natCast_add, Int.natCast_mul, Int.natCast_pow]; rfl
  have g3 : ((vl (y.take k) + 65536 ^ k * y.getD k 0 : Nat) : Int) = (vl (y.take k) : Int) + 65536 ^ k * dAt y k := by rw [Int.natCast_add, Int.natCast_mul, Int.natCast_pow]; rfl
  rw [g1, g2, g3]
  omega
theorem TakeI.fin {x y l : List Nat} {c : Int} (h : TakeI x y l x.length c) (hx : Ok x) (hy : Ok y) (hle : vl y ≤ vl x) : vl l = vl x - vl y := by
  obtain ⟨e1, e2, c0, c1, ev⟩ := h
  have b1 := vl_lt hx
  have b2 := vl_lt e2
  rw [e1] at b2
  have e3 : vl (y.take x.length) = vl y := by rw [vl_take_mod hy, Nat.mod_eq_of_lt (by omega)]
  rw [e3, List.take_of_length_le (Nat.le_refl _)] at ev
  have hp : ((65536 ^ x.length : Nat) : Int) = 65536 ^ x.length := by rw [Int.natCast_pow]; rfl
  have hc : c = 0 ∨ c = 1 := by omega
  rcases hc with rfl | rfl
  · omega
  · exfalso; omega

set_option maxHeartbeats 4000000 in
set_option maxRecDepth 100000 in
theorem take_any (va vb : Value) (x y : List Nat) (hx : Ok x) (hy : Ok y) (lx : x.length ≤ 1000) (ly : y.length ≤ 1000) (hxy : vl y ≤ vl x) (w : World) (ha : Dig w va x) (hb : Dig w vb y) :
    Calls Try.prog 16 #[va, vb] w fun e w' => ∃ v l, e = .returned v ∧ Dig w' v l ∧ Ok l ∧ vl l = vl x - vl y ∧ l.length = x.length ∧ Below w.heap.size w w' := by
  obtain ⟨i0, hi, hz0, hz1, hz2⟩ := info_parts info3
  have I : Out w (.slice (some ⟨w.heap.size, 0, none⟩) 0 0) [] (w.alloc (.cells #[] 3)) :=
    ⟨⟨w.heap.size, Nat.le_refl _, by simp, World.ownsRow_lit (base := w.heap.size) (e := 3) (size := 1) w #[] 0 (by simp) (by decide) (by simp)⟩, below_laid (Below.refl _ _) _⟩
  obtain ⟨aa, ca, ea, -⟩ := id ha
  obtain ⟨ab, cb, eb, -⟩ := id hb
  have Ha := Lib.hid ha
  have Hb := Lib.hid hb
  have Hxy := Lib.hid hxy
  clear ha hb hxy
  subst ea eb
  go_enter Try.func16, Try.ntmps16
  go_wp2
  go_loopw [5, 6, 12] (fun v c i wr => ∃ (l : List Nat) (k : Nat) (q : Int), k ≤ x.length ∧ i = .int .i64 k ∧ c = .int .i64 q ∧ TakeI x y l k q ∧ Out w v l wr) (fun _ _ i _ => x.length - (intOf i).toNat)
  case atStart => exact ⟨[], 0, 0, by omega, rfl, rfl, TakeI.start x y, I⟩
  case round =>
    obtain ⟨l, k, q, hk, rfl, rfl, S, J⟩ := hrel
    clear I
    have q0 := S.c0; have q1 := S.c1
    have x0 := dAt_lo (l := x) k; have x1 := dAt_hi hx k
    have y0 := dAt_lo (l := y) k; have y1 := dAt_hi hy k
    have Da := Ha.out.past J.2
    have Db := Hb.out.past J.2
    have hk2 : l.length ≤ 1001 := by have := S.len; omega
    by_cases h1 : k < x.length
    · have cB : ∀ n, Calls Try.prog 34 #[.slice ab y.length cb, .int .i64 (k : Int)] (wr.drewN n) fun e w' => e = .returned (.int .i64 (dAt y k)) ∧ w' = wr.drewN n := fun n =>
        (digit_nat _ y k (by omega) _ (Db.past (below_drewN (Below.refl _ _) n))).mono fun e w' ⟨h, hw⟩ => ⟨h, hw.symm⟩
      obtain ⟨aa', ca', ea', hca⟩ := Da
      injection ea' with ea1 ea2 ea3
      subst ea1 ea3
      rcases hca with hca | ⟨g, o, rfl, hg, hca⟩
      · subst hca; simp at h1
      have hc := hca k h1
      clear hca Db ea2
      have J2 := J
      obtain ⟨⟨B, hB, hle, hown⟩, JB⟩ := J2
      clear J
      have hi1 : (k : Int) < (x.length : Int) := by omega
      have hi0 : (0 : Int) ≤ (k : Int) := by omega
      go_wp2_with fail
      go_quiet ((go_at_call 34; exact Calls.quiet_of_same (cB _)))
      obtain ⟨wd, hwd⟩ : ∃ x, x = wr.drewN nq := ⟨_, rfl⟩
      have hown0 : wd.ownsRow B 3 1 u5 l.length (cellsD l) := by rw [hwd]; exact hown
      have JB0 : Below w.heap.size w wd := by rw [hwd]; exact below_drewN JB nq
      have hle0 : B ≤ wd.heap.size := by rw [hwd]; exact hle
      rw [← hwd]
      clear hwd hown JB hle hc cB
      have hown := hown0
      have JB := JB0
      have hle := hle0
      clear hown0 JB0 hle0
      by_cases hneg : dAt x k - dAt y k - q < 0
      · have N := S.step (dAt x k - dAt y k - q + 65536) 1 (by omega) (by omega) (by omega) (by omega) (by omega)
        go_wp2_with (first | (at_builtin; refine wpList_append_own _ rfl _ _ 28 rfl B 3 i0 (.int .i64 0) 1 8 Try.underlying28 hi hz0 hz1 hz2 rfl (by decide) _ _ _ rfl (hown.alloc _) ⟨wd.heap.size, 0, none⟩ 1 1 [.int .i64 (dAt x k - dAt y k - q + 65536)] rfl rfl ?c1_1 ?c2_1 ?c3_1 ?c4_1 ?c5_1 ?_) | go_in)
        try case c1_1 => exact one_new _ _
        case c2_1 => first | rfl | (intro u hu; simp at hu; subst hu; rfl) | (simp; done)
        case c3_1 => unfold maxLen; omega
        case c4_1 => omega
        case c5_1 => first | omega | (simp; omega)
        intro v' W1 hown' hgrow _
        have N2 := out_next hB hle hown JB (dAt x k - dAt y k - q + 65536).toNat (by rw [Int.toNat_of_nonneg (by omega)]) hown' hgrow
        clear hown' hgrow hown
        go_wp2
        go_roundw
        case rel => exact ⟨_, k + 1, 1, by omega, by go_num, rfl, N, N2⟩
        case measure => simp [intOf]; omega
      · have N := S.step (dAt x k - dAt y k - q) 0 (by omega) (by omega) (by omega) (by omega) (by omega)
        go_wp2_with (first | (at_builtin; refine wpList_append_own _ rfl _ _ 28 rfl B 3 i0 (.int .i64 0) 1 8 Try.underlying28 hi hz0 hz1 hz2 rfl (by decide) _ _ _ rfl (hown.alloc _) ⟨wd.heap.size, 0, none⟩ 1 1 [.int .i64 (dAt x k - dAt y k - q)] rfl rfl ?c1_2 ?c2_2 ?c3_2 ?c4_2 ?c5_2 ?_) | go_in)
        try case c1_2 => exact one_new _ _
        case c2_2 => first | rfl | (intro u hu; simp at hu; subst hu; rfl) | (simp; done)
        case c3_2 => unfold maxLen; omega
        case c4_2 => omega
        case c5_2 => first | omega | (simp; omega)
        intro v' W1 hown' hgrow _
        have N2 := out_next hB hle hown JB (dAt x k - dAt y k - q).toNat (by rw [Int.toNat_of_nonneg (by omega)]) hown' hgrow
        clear hown' hgrow hown
        go_wp2
        go_roundw
        case rel => exact ⟨_, k + 1, 0, by omega, by go_num, rfl, N, N2⟩
        case measure => simp [intOf]; omega
    · have e : k = x.length := by omega
      subst e
      have F := S.fin hx hy Hxy.out
      have D := J.dig
      have hlen := S.len
      have hok := S.ok
      have JB := J.2
      have HH := Lib.hid (And.intro F (And.intro hlen hok))
      clear F hlen hok Da Db
      go_wp2
      go_ret
      obtain ⟨F, hlen, hok⟩ := HH.out
      first | exact ⟨_, rfl, l, D, hok, F, hlen, JB⟩ | exact ⟨_, l, rfl, D, hok, F, hlen, JB⟩
end Go.Proofs.Ytiollplcmmlcgaa
