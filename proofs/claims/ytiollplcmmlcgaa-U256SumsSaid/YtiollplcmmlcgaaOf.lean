/-
  The contract of Of: a number's 16 digits.
-/
import Derived.Test.YtiollplcmmlcgaaRow
namespace Go.Proofs.Ytiollplcmmlcgaa
open Go.ChangeShapes Go.WideShapes Go.ChangeAt Go.RowKit
set_option linter.unusedVariables false

/-- Digits as the cells of a row. -/
def cellsD (ds : List Nat) : List Value := ds.map fun d => Value.int .i64 ((d : Nat) : Int)
theorem cellsD_snoc (ds : List Nat) (d : Nat) : cellsD (ds ++ [d]) = cellsD ds ++ [.int .i64 ((d : Nat) : Int)] := by unfold cellsD; simp

theorem wd_div {x : Int} (h : 0 ≤ x) (n : Nat) : 0 ≤ x / 2 ^ n := Int.ediv_nonneg h (by exact_mod_cast Nat.zero_le _)
theorem dg_wrap (x : Int) (d : Nat) (h : 0 ≤ x) (e : x % 65536 = (d : Int)) : wrap64 (x.tmod 65536) = (d : Int) := by
  rw [Int.tmod_eq_emod_of_nonneg h, e, IntWalk.wrap64_in _ (by omega)]
/-- The cell of a new block. -/
theorem one_new (w : World) (x : Value) (j : Nat) (u : Value) (hj : [x][j]? = some u) : (w.alloc (.cells #[x] 3)).cell? ((⟨w.heap.size, 0, none⟩ : Addr).add j) = some u := by
  match j, hj with
  | 0, hj => simp at hj; subst hj; simp [Addr.add]

/-- The loop's relation: the row of the first k digits, and the number's own cells. -/
def OfInv (w : World) (A k : Nat) (v : Value) (wr : World) : Prop :=
  wr.ownsRow (w.heap.size + 1) 3 1 v k (cellsD (dgs A k)) ∧ Lie wr w.heap.size A ∧ Below w.heap.size w wr

theorem OfInv.next {w wr w1 : World} {A k : Nat} {v v1 : Value} (h : OfInv w A k v wr) {x : Value} (hx : x = .int .i64 ((dg A k : Nat) : Int))
    (ho : w1.ownsRow (w.heap.size + 1) 3 1 v1 (k + 1) (cellsD (dgs A k) ++ [x])) (hg : (wr.alloc (.cells #[x] 3)).grownBy w1 v.ownBlock) : OfInv w A (k + 1) v1 w1 := by
  obtain ⟨h1, h2, h3⟩ := h
  subst hx
  have hob : ∀ j, v.ownBlock = some j → w.heap.size + 1 ≤ j := by
    intro j hj
    rcases h1.2 with ⟨rfl, _⟩ | ⟨g, cap, cur, rfl, hb, _⟩
    · cases hj
    · injection hj with hj; subst hj; exact hb
  have lt := h2.lt
  have B1 : Below (w.heap.size + 1) (wr.alloc (.cells #[.int .i64 ((dg A k : Nat) : Int)] 3)) w1 := (Below.refl _ _).grown hg (by simp; omega) hob
  refine ⟨by rw [dgs_succ, cellsD_snoc]; exact ho, ?_, ?_⟩
  · exact (h2.alloc _).later B1 (by omega)
  · exact (below_laid h3 _).trans (B1.mono (by omega))

set_option maxHeartbeats 4000000 in
set_option maxRecDepth 100000 in
theorem of_any (A : Nat) (w : World) : Calls Try.prog 12 #[uv A] w fun e w' => ∃ v, e = .returned v ∧ Dig w' v (dgs A 16) ∧ Below w.heap.size w w' := by
  obtain ⟨i0, hi, hz0, hz1, hz2⟩ := info_parts info3
  have I : OfInv w A 0 (.slice (some ⟨w.heap.size + 1, 0, none⟩) 0 0) ((w.alloc (.cells #[.int .u64 (w0 A), .int .u64 (w1 A), .int .u64 (w2 A), .int .u64 (w3 A)] 24)).alloc (.cells #[] 3)) := by
    refine ⟨?_, (Lie.here w A).alloc _, below_laid (below_laid (Below.refl _ _) _) _⟩
    have h := World.ownsRow_lit (base := w.heap.size + 1) (e := 3) (size := 1) (w.alloc (.cells #[.int .u64 (w0 A), .int .u64 (w1 A), .int .u64 (w2 A), .int .u64 (w3 A)] 24)) #[] 0 (by simp) (by decide) (by simp)
    rw [World.size_alloc] at h
    exact h
  unfold uv
  go_enter Try.func12, Try.ntmps12
  go_wp2
  go_loopw [3, 4] (fun v i wr => ∃ k : Nat, k ≤ 16 ∧ i = .int .i64 k ∧ OfInv w A k v wr) (fun _ i _ => 16 - (intOf i).toNat)
  case atStart => exact ⟨0, by omega, rfl, I⟩
  case round =>
    obtain ⟨k, hk, rfl, J⟩ := hrel
    clear I
    have lt := J.2.1.lt
    have lt := J.2.1.lt
    have J0 := J
    obtain ⟨hown, ⟨c0, c1, c2, c3⟩, JB⟩ := J0
    have hwr : IntKind.i64.wrap ((dg A k : Nat) : Int) = ((dg A k : Nat) : Int) := IntWalk.i64_in _ (by unfold dg; omega)
    by_cases hlt : k < 16
    · have hq : k / 4 = 0 ∨ k / 4 = 1 ∨ k / 4 = 2 ∨ k / 4 = 3 := by omega
      rcases hq with hq | hq | hq | hq
      · have hd := dg_wrap _ _ (wd_div (wd0 A).1 _) (dg_word0 A k hq)
        go_wp2_with (first
          | (at_builtin; refine wpList_append_own _ rfl _ _ 28 rfl (w.heap.size + 1) 3 i0 (.int .i64 0) 1 8 Try.underlying28 hi hz0 hz1 hz2 rfl (by decide) _ _ _ rfl (hown.alloc _) ⟨wr.heap.size, 0, none⟩ 1 1 [.int .i64 ((dg A k : Nat) : Int)] rfl rfl ?c1_0 ?c2_0 ?c3_0 ?c4_0 ?c5_0 ?_)
          | go_in)
        case c1_0 => exact one_new _ _
        case c2_0 => intro u hu; simp at hu; subst hu; rfl
        case c3_0 => unfold maxLen; omega
        case c4_0 => omega
        case c5_0 => have := lt; simp; omega
        intro v' W1 hown' hgrow _
        have N := J.next rfl hown' hgrow
        clear hown' hgrow hown J c0 c1 c2 c3
        go_wp2
        go_roundw
        case rel => exact ⟨k + 1, by omega, by go_num, N⟩
        case measure => simp [intOf]; omega
      · have hd := dg_wrap _ _ (wd_div (wd1 A).1 _) (dg_word1 A k hq)
        go_wp2_with (first
          | (at_builtin; refine wpList_append_own _ rfl _ _ 28 rfl (w.heap.size + 1) 3 i0 (.int .i64 0) 1 8 Try.underlying28 hi hz0 hz1 hz2 rfl (by decide) _ _ _ rfl (hown.alloc _) ⟨wr.heap.size, 0, none⟩ 1 1 [.int .i64 ((dg A k : Nat) : Int)] rfl rfl ?c1_1 ?c2_1 ?c3_1 ?c4_1 ?c5_1 ?_)
          | go_in)
        case c1_1 => exact one_new _ _
        case c2_1 => intro u hu; simp at hu; subst hu; rfl
        case c3_1 => unfold maxLen; omega
        case c4_1 => omega
        case c5_1 => have := lt; simp; omega
        intro v' W1 hown' hgrow _
        have N := J.next rfl hown' hgrow
        clear hown' hgrow hown J c0 c1 c2 c3
        go_wp2
        go_roundw
        case rel => exact ⟨k + 1, by omega, by go_num, N⟩
        case measure => simp [intOf]; omega
      · have hd := dg_wrap _ _ (wd_div (wd2 A).1 _) (dg_word2 A k hq)
        go_wp2_with (first
          | (at_builtin; refine wpList_append_own _ rfl _ _ 28 rfl (w.heap.size + 1) 3 i0 (.int .i64 0) 1 8 Try.underlying28 hi hz0 hz1 hz2 rfl (by decide) _ _ _ rfl (hown.alloc _) ⟨wr.heap.size, 0, none⟩ 1 1 [.int .i64 ((dg A k : Nat) : Int)] rfl rfl ?c1_2 ?c2_2 ?c3_2 ?c4_2 ?c5_2 ?_)
          | go_in)
        case c1_2 => exact one_new _ _
        case c2_2 => intro u hu; simp at hu; subst hu; rfl
        case c3_2 => unfold maxLen; omega
        case c4_2 => omega
        case c5_2 => have := lt; simp; omega
        intro v' W1 hown' hgrow _
        have N := J.next rfl hown' hgrow
        clear hown' hgrow hown J c0 c1 c2 c3
        go_wp2
        go_roundw
        case rel => exact ⟨k + 1, by omega, by go_num, N⟩
        case measure => simp [intOf]; omega
      · have hd := dg_wrap _ _ (wd_div (wd3 A).1 _) (dg_word3 A k hq)
        go_wp2_with (first
          | (at_builtin; refine wpList_append_own _ rfl _ _ 28 rfl (w.heap.size + 1) 3 i0 (.int .i64 0) 1 8 Try.underlying28 hi hz0 hz1 hz2 rfl (by decide) _ _ _ rfl (hown.alloc _) ⟨wr.heap.size, 0, none⟩ 1 1 [.int .i64 ((dg A k : Nat) : Int)] rfl rfl ?c1_3 ?c2_3 ?c3_3 ?c4_3 ?c5_3 ?_)
          | go_in)
        case c1_3 => exact one_new _ _
        case c2_3 => intro u hu; simp at hu; subst hu; rfl
        case c3_3 => unfold maxLen; omega
        case c4_3 => omega
        case c5_3 => have := lt; simp; omega
        intro v' W1 hown' hgrow _
        have N := J.next rfl hown' hgrow
        clear hown' hgrow hown J c0 c1 c2 c3
        go_wp2
        go_roundw
        case rel => exact ⟨k + 1, by omega, by go_num, N⟩
        case measure => simp [intOf]; omega
    · go_wp2
      go_ret
      have : k = 16 := by omega
      subst this
      refine ⟨_, rfl, ?_, JB⟩
      have e := dgs_length A 16
      exact Dig.of_owns (by rw [e]; exact hown)
end Go.Proofs.Ytiollplcmmlcgaa
