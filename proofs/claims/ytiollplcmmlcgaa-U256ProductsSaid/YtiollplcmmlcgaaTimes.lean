/-
  The contract of Times.
-/
import Derived.Test.YtiollplcmmlcgaaTimesM
import Derived.Test.YtiollplcmmlcgaaSumM
import Derived.Deep.QuietTactic
import Derived.BigQuiet
namespace Go.Proofs.Ytiollplcmmlcgaa
open Go.ChangeShapes Go.WideShapes Go.ChangeAt Go.RowKit
set_option linter.unusedVariables false

/-- The row of the digits out, at the head of a block. -/
def Row1 (w : World) (g N : Nat) (out : List Nat) (wr : World) : Prop :=
  wr.ownsRow w.heap.size 3 1 (.slice (some ⟨g, 0, none⟩) N N) N (cellsD out) ∧ w.heap.size ≤ g ∧ Below w.heap.size w wr
theorem cellsD_set (out : List Nat) (j d : Nat) : (cellsD out).set j (.int .i64 ((d : Nat) : Int)) = cellsD (out.set j d) := by unfold cellsD; rw [List.map_set]
theorem Row1.cell {w wr : World} {g N : Nat} {out : List Nat} (h : Row1 w g N out wr) (hl : out.length = N) (j : Nat) (hj : j < N) : wr.cell? ⟨g, j, none⟩ = some (.int .i64 (dAt out j)) := by
  rw [h.1.cellAt j (by omega)]
  simp [cellsD, dAt, List.getD, List.getElem?_eq_getElem (show j < out.length by omega)]
theorem Row1.put {w wr : World} {g N : Nat} {out : List Nat} (h : Row1 w g N out wr) (j d : Nat) : Row1 w g N (out.set j d) (wr.setCell ⟨g, j, none⟩ (.int .i64 ((d : Nat) : Int))) := by
  obtain ⟨h1, h2, h3⟩ := h
  refine ⟨?_, h2, h3.setCell h2 _⟩
  have := (h1.stored j (.int .i64 ((d : Nat) : Int))).1
  rw [cellsD_set] at this
  exact this
theorem Row1.drewN {w wr : World} {g N : Nat} {out : List Nat} (h : Row1 w g N out wr) (n : Nat) : Row1 w g N out (wr.drewN n) := ⟨h.1, h.2.1, below_drewN h.2.2 n⟩

set_option maxHeartbeats 4000000 in
set_option maxRecDepth 100000 in
theorem times_any (va vb : Value) (x y : List Nat) (hx : Ok x) (hy : Ok y) (lx : x.length ≤ 1000) (ly : y.length ≤ 1000) (w : World) (ha : Dig w va x) (hb : Dig w vb y) :
    Calls Try.prog 21 #[va, vb] w fun e w' => ∃ v l, e = .returned v ∧ v = .slice (some ⟨w.heap.size, 0, none⟩) (x.length + y.length + 1) (x.length + y.length + 1) ∧ Dig w' v l ∧ Ok l ∧ vl l = vl x * vl y ∧ l.length = x.length + y.length + 1 ∧ Below w.heap.size w w' := by
  obtain ⟨i0, hi, hz0, hz1, hz2⟩ := info_parts info3
  obtain ⟨aa, ca, ea, -⟩ := id ha
  obtain ⟨ab, cb, eb, -⟩ := id hb
  have Ha := Lib.hid ha
  have Hb := Lib.hid hb
  clear ha hb
  subst ea eb
  go_enter Try.func21, Try.ntmps21
  go_wp2_with (first | (with_reducible refine wpList_make_full _ rfl _ _ 27 rfl w.heap.size 3 i0 (.int .i64 0) 1 Try.underlying27 hi hz0 hz1 .i64 .i64 _ _ (x.length + y.length + 1) rfl rfl ?e1 ?e2 ?e3 ?e4 ?e5 ?_) | go_in)
  case e1 => omega
  case e2 => omega
  case e3 => rw [hz2]; omega
  case e4 => unfold maxLen; omega
  case e5 => exact Nat.le_refl _
  intro W1 hown hgrow
  have R0 : Row1 w w.heap.size (x.length + y.length + 1) (List.replicate (x.length + y.length + 1) 0) W1 := by
    refine ⟨?_, Nat.le_refl _, (Below.refl _ _).grown hgrow (Nat.le_refl _) (fun k h => by cases h)⟩
    have e : cellsD (List.replicate (x.length + y.length + 1) 0) = (madeCells #[Value.int .i64 0] (x.length + y.length + 1)).toList := by rw [toList_madeCells_one]; simp [cellsD]
    rw [e]
    exact hown
  clear hown hgrow
  go_wp2
  go_loopw [19] (fun i wr => ∃ (j : Nat) (out : List Nat), j ≤ x.length ∧ i = .int .i64 j ∧ out.length = x.length + y.length + 1 ∧ Ok out ∧ vl out = vl (x.take j) * vl y ∧ Row1 w w.heap.size (x.length + y.length + 1) out wr) (fun i _ => x.length - (intOf i).toNat)
  case atStart => exact ⟨0, _, by omega, rfl, by simp, ok_zeros _, by rw [vl_zeros]; simp [vl], R0⟩
  case round =>
    obtain ⟨j, out, hj, rfl, hlen, hok, hval, R⟩ := hrel
    clear R0
    by_cases hlt : j < x.length
    · have M0 := MulI.start hlen hok hlt hval
      have HM := Lib.hid (And.intro hlen hval)
      clear hlen hval
      go_wp2
      obtain ⟨wo, rfl⟩ : ∃ wo : World, wo = wr := ⟨_, rfl⟩
      go_loopw [7, 8] (fun c k wi => ∃ (kk cc : Nat) (o2 : List Nat), k = .int .i64 kk ∧ c = .int .i64 cc ∧ MulI x y o2 j kk cc ∧ Row1 w w.heap.size (x.length + y.length + 1) o2 wi) (fun _ k _ => y.length + 2 - (intOf k).toNat)
      case atStart => exact ⟨0, 0, out, rfl, rfl, M0, R⟩
      case round =>
        obtain ⟨kk, cc, o2, rfl, rfl, M, R2⟩ := hrel
        by_cases g1 : kk < y.length
        · have hd1 : decide (kk < y.length) = true := by simp; omega
          obtain ⟨hij, N⟩ := M.next hx hy (by omega)
          have hl2 := M.len
          have hkk := M.top
          have hcc := M.cw
          have x0 := dAt_lo (l := x) j; have x1 := dAt_hi hx j
          have y0 := dAt_lo (l := y) kk; have y1 := dAt_hi hy kk
          have o0 := dAt_lo (l := o2) (j + kk); have o1 := dAt_hi M.ok (j + kk)
          have p0 : 0 ≤ dAt x j * dAt y kk := Int.mul_nonneg x0 y0
          have p1 : dAt x j * dAt y kk ≤ 4294836225 := by
            have := Int.mul_le_mul x1 y1 y0 (by omega)
            omega
          have hcell := R2.cell hl2 (j + kk) (by omega)
          have en : ((o2.getD (j + kk) 0 + x.getD j 0 * y.getD kk 0 + cc : Nat) : Int) = dAt o2 (j + kk) + dAt x j * dAt y kk + cc := by
            rw [Int.natCast_add, Int.natCast_add, Int.natCast_mul]; rfl
          have i1 : IntKind.i64.wrap ((j : Int) + (kk : Int)) = (j : Int) + (kk : Int) := IntWalk.i64_in _ (by omega)
          have i2 : (0 : Int) ≤ (j : Int) + (kk : Int) := by omega
          have i3 : ((j : Int) + (kk : Int)).toNat = j + kk := by omega
          have i4 : (j : Int) + (kk : Int) < ((x.length + y.length + 1 : Nat) : Int) := by omega
          have i5 : (j : Int) + (kk : Int) < (x.length : Int) + (y.length : Int) + 1 := by omega
          have j1 : (j : Int) < (x.length : Int) := by omega
          have m1 : IntKind.i64.wrap (dAt x j * dAt y kk) = dAt x j * dAt y kk := IntWalk.i64_in _ (by omega)
          have m2 : IntKind.i64.wrap (dAt o2 (j + kk) + dAt x j * dAt y kk) = dAt o2 (j + kk) + dAt x j * dAt y kk := IntWalk.i64_in _ (by omega)
          have m3 : IntKind.i64.wrap (dAt o2 (j + kk) + dAt x j * dAt y kk + (cc : Int)) = dAt o2 (j + kk) + dAt x j * dAt y kk + (cc : Int) := IntWalk.i64_in _ (by omega)
          have Da := Ha.out.past R2.2.2
          have Db := Hb.out.past R2.2.2
          have cB : ∀ n, Calls Try.prog 34 #[.slice ab y.length cb, .int .i64 (kk : Int)] (wr.drewN n) fun e w' => e = .returned (.int .i64 (dAt y kk)) ∧ w' = wr.drewN n := fun n =>
            (digit_nat _ y kk (by omega) _ (Db.past (below_drewN (Below.refl _ _) n))).mono fun e w' ⟨h, hw⟩ => ⟨h, hw.symm⟩
          obtain ⟨aa', ca', ea', hca⟩ := Da
          injection ea' with ea1 ea2 ea3
          subst ea1 ea3
          rcases hca with hca | ⟨g, o, hgo, hg, hca⟩
          · subst hca; simp at hlt
          have hc := hca j hlt
          subst hgo
          clear hca Db ea2
          have Hen := Lib.hid en
          have HN := Lib.hid N
          have Hl2 := Lib.hid hl2
          have nb0 : 0 ≤ dAt o2 (j + kk) + dAt x j * dAt y kk + (cc : Int) := by omega
          have nb1 : dAt o2 (j + kk) + dAt x j * dAt y kk + (cc : Int) ≤ 5000000000 := by omega
          clear en N hl2 i2 i5
          go_wp2_with fail
          go_quiet ((go_at_call 34; exact Calls.quiet_of_same (cB _)))
          obtain ⟨wd, hwd⟩ : ∃ x, x = wr.drewN nq := ⟨_, rfl⟩
          have Rd : Row1 w w.heap.size (x.length + y.length + 1) o2 wd := by rw [hwd]; exact R2.drewN nq
          have hcell2 : wd.cell? ⟨w.heap.size, j + kk, none⟩ = some (.int .i64 (dAt o2 (j + kk))) := by rw [hwd]; exact hcell
          have hfr : wd.frozen? ⟨w.heap.size, j + kk, none⟩ = false := Rd.1.frozenAt _
          rw [← hwd]
          clear hwd R2 hcell hc cB m1 m2 m3
          generalize hn : dAt o2 (j + kk) + dAt x j * dAt y kk + (cc : Int) = n at nb0 nb1 ⊢
          have Hn := Lib.hid hn
          clear hn p0 p1
          go_wp2
          go_roundw
          case rel =>
            have e1 := Hn.out
            have e2 := Hen.out
            have N := HN.out
            have q1 : n / 65536 = (((o2.getD (j + kk) 0 + x.getD j 0 * y.getD kk 0 + cc) / 65536 : Nat) : Int) := by rw [← e1, ← e2]; rfl
            have q2 : n % 65536 = (((o2.getD (j + kk) 0 + x.getD j 0 * y.getD kk 0 + cc) % 65536 : Nat) : Int) := by rw [← e1, ← e2]; rfl
            refine ⟨kk + 1, (o2.getD (j + kk) 0 + x.getD j 0 * y.getD kk 0 + cc) / 65536, _, by go_num, by rw [q1], N, ?_⟩
            rw [q2]
            exact Rd.put _ _
          case measure => simp [intOf]; omega
        · have hd1 : decide (kk < y.length) = false := by simp; omega
          by_cases g2 : 0 < cc
          · have hd2 : decide ((0 : Int) < (cc : Int)) = true := by simp; omega
            have hd3 : decide (0 < cc) = true := by simp; omega
            obtain ⟨hij, N⟩ := M.next hx hy (by omega)
            have hl2 := M.len
            have hkk := M.top
            have hcc := M.cw
            have x0 := dAt_lo (l := x) j; have x1 := dAt_hi hx j
            have y0 := dAt_lo (l := y) kk; have y1 := dAt_hi hy kk
            have o0 := dAt_lo (l := o2) (j + kk); have o1 := dAt_hi M.ok (j + kk)
            have p0 : 0 ≤ dAt x j * dAt y kk := Int.mul_nonneg x0 y0
            have p1 : dAt x j * dAt y kk ≤ 4294836225 := by
              have := Int.mul_le_mul x1 y1 y0 (by omega)
              omega
            have hcell := R2.cell hl2 (j + kk) (by omega)
            have en : ((o2.getD (j + kk) 0 + x.getD j 0 * y.getD kk 0 + cc : Nat) : Int) = dAt o2 (j + kk) + dAt x j * dAt y kk + cc := by
              rw [Int.natCast_add, Int.natCast_add, Int.natCast_mul]; rfl
            have i1 : IntKind.i64.wrap ((j : Int) + (kk : Int)) = (j : Int) + (kk : Int) := IntWalk.i64_in _ (by omega)
            have i2 : (0 : Int) ≤ (j : Int) + (kk : Int) := by omega
            have i3 : ((j : Int) + (kk : Int)).toNat = j + kk := by omega
            have i4 : (j : Int) + (kk : Int) < ((x.length + y.length + 1 : Nat) : Int) := by omega
            have i5 : (j : Int) + (kk : Int) < (x.length : Int) + (y.length : Int) + 1 := by omega
            have j1 : (j : Int) < (x.length : Int) := by omega
            have m1 : IntKind.i64.wrap (dAt x j * dAt y kk) = dAt x j * dAt y kk := IntWalk.i64_in _ (by omega)
            have m2 : IntKind.i64.wrap (dAt o2 (j + kk) + dAt x j * dAt y kk) = dAt o2 (j + kk) + dAt x j * dAt y kk := IntWalk.i64_in _ (by omega)
            have m3 : IntKind.i64.wrap (dAt o2 (j + kk) + dAt x j * dAt y kk + (cc : Int)) = dAt o2 (j + kk) + dAt x j * dAt y kk + (cc : Int) := IntWalk.i64_in _ (by omega)
            have Da := Ha.out.past R2.2.2
            have Db := Hb.out.past R2.2.2
            have cB : ∀ n, Calls Try.prog 34 #[.slice ab y.length cb, .int .i64 (kk : Int)] (wr.drewN n) fun e w' => e = .returned (.int .i64 (dAt y kk)) ∧ w' = wr.drewN n := fun n =>
              (digit_nat _ y kk (by omega) _ (Db.past (below_drewN (Below.refl _ _) n))).mono fun e w' ⟨h, hw⟩ => ⟨h, hw.symm⟩
            obtain ⟨aa', ca', ea', hca⟩ := Da
            injection ea' with ea1 ea2 ea3
            subst ea1 ea3
            rcases hca with hca | ⟨g, o, hgo, hg, hca⟩
            · subst hca; simp at hlt
            have hc := hca j hlt
            subst hgo
            clear hca Db ea2
            have Hen := Lib.hid en
            have HN := Lib.hid N
            have Hl2 := Lib.hid hl2
            have nb0 : 0 ≤ dAt o2 (j + kk) + dAt x j * dAt y kk + (cc : Int) := by omega
            have nb1 : dAt o2 (j + kk) + dAt x j * dAt y kk + (cc : Int) ≤ 5000000000 := by omega
            clear en N hl2 i2 i5
            go_wp2_with fail
            go_quiet ((go_at_call 34; exact Calls.quiet_of_same (cB _)))
            obtain ⟨wd, hwd⟩ : ∃ x, x = wr.drewN nq := ⟨_, rfl⟩
            have Rd : Row1 w w.heap.size (x.length + y.length + 1) o2 wd := by rw [hwd]; exact R2.drewN nq
            have hcell2 : wd.cell? ⟨w.heap.size, j + kk, none⟩ = some (.int .i64 (dAt o2 (j + kk))) := by rw [hwd]; exact hcell
            have hfr : wd.frozen? ⟨w.heap.size, j + kk, none⟩ = false := Rd.1.frozenAt _
            rw [← hwd]
            clear hwd R2 hcell hc cB m1 m2 m3
            generalize hn : dAt o2 (j + kk) + dAt x j * dAt y kk + (cc : Int) = n at nb0 nb1 ⊢
            have Hn := Lib.hid hn
            clear hn p0 p1
            go_wp2
            go_roundw
            case rel =>
              have e1 := Hn.out
              have e2 := Hen.out
              have N := HN.out
              have q1 : n / 65536 = (((o2.getD (j + kk) 0 + x.getD j 0 * y.getD kk 0 + cc) / 65536 : Nat) : Int) := by rw [← e1, ← e2]; rfl
              have q2 : n % 65536 = (((o2.getD (j + kk) 0 + x.getD j 0 * y.getD kk 0 + cc) % 65536 : Nat) : Int) := by rw [← e1, ← e2]; rfl
              refine ⟨kk + 1, (o2.getD (j + kk) 0 + x.getD j 0 * y.getD kk 0 + cc) / 65536, _, by go_num, by rw [q1], N, ?_⟩
              rw [q2]
              exact Rd.put _ _
            case measure => simp [intOf]; omega
          · have hd2 : decide ((0 : Int) < (cc : Int)) = false := by simp; omega
            have hd3 : decide (0 < cc) = false := by simp; omega
            have F := M.fin g1 g2
            have hl2 := M.len
            have hok2 := M.ok
            have HF := Lib.hid (And.intro F (And.intro hl2 hok2))
            clear F hl2 hok2
            go_wp2
            go_roundw
            case rel =>
              obtain ⟨F, hl2, hok2⟩ := HF.out
              exact ⟨j + 1, o2, by omega, by go_num, hl2, hok2, F, R2⟩
            case measure => simp [intOf]; omega
    · have e : j = x.length := by omega
      subst e
      have D := Dig.of_owns (by have h := R.1; rw [← hlen] at h; exact h)
      have HH := Lib.hid (And.intro hlen (And.intro hok hval))
      have JB := R.2.2
      clear hlen hok hval R
      go_wp2
      go_ret
      obtain ⟨hlen, hok, hval⟩ := HH.out
      rw [List.take_of_length_le (l := x) (Nat.le_refl _)] at hval
      rw [hlen] at D
      first | exact ⟨_, rfl, rfl, out, D, hok, hval, hlen, JB⟩ | exact ⟨_, rfl, out, rfl, D, hok, hval, hlen, JB⟩ | exact ⟨_, out, rfl, rfl, D, hok, hval, hlen, JB⟩
end Go.Proofs.Ytiollplcmmlcgaa
