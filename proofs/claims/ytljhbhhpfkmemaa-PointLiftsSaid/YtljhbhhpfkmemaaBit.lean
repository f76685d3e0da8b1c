/-
  The contracts of u256.Bit, math/bits.Len64, u256.Len.
-/
import Derived.Test.YtljhbhhpfkmemaaWords
import Derived.Test.YtljhbhhpfkmemaaBitMath
import Derived.Shelf.Strconv.Itoa0
import Derived.Lib.Hide
namespace Go.Proofs.Ytljhbhhpfkmemaa
open Go.ChangeShapes Go.WideShapes Go.ChangeAt Go.RowKit Go.Shelf
set_option linter.unusedVariables false

def lays129_ren : Go.Shelf.Ren := ⟨fun | 129 => 73 | n => n, fun | 53 => 22 | 3 => 3 | 4 => 4 | 46 => 85 | 5 => 5 | 9 => 9 | n => n, fun | n => n⟩
theorem lays129 : Go.Proofs.Lays.n129 Try.prog lays129_ren := {
  mixed := by kernel_rfl
  f129 := Try.func73.trans (congrArg some (by kernel_rfl))
  t3 := Try.underlying3
  a3 := Try.isAgg3
  z3 := Try.sizeOf3
  v3 := Try.zeroValue3
  t4 := Try.underlying4
  a4 := Try.isAgg4
  z4 := Try.sizeOf4
  v4 := Try.zeroValue4
  t5 := Try.underlying5
  a5 := Try.isAgg5
  z5 := Try.sizeOf5
  v5 := Try.zeroValue5
  t9 := Try.underlying9
  a9 := Try.isAgg9
  z9 := Try.sizeOf9
  v9 := Try.zeroValue9
  t46 := Try.underlying85
  a46 := Try.isAgg85
  z46 := Try.sizeOf85
  v46 := Try.zeroValue85
  t53 := Try.underlying22
  a53 := Try.isAgg22
  z53 := Try.sizeOf22
  v53 := Try.zeroValue22 }

def lw (x : Int) : Int := (Lib.bitLen x.toNat : Int)

theorem len64_any {x : Int} (hx : Wd x) (w : World) :
    Calls Try.prog 73 #[.int .u64 x] w fun e w' => e = .returned (.int .i64 (lw x)) ∧ w = w' :=
  (Any.bits_Len64 lays129 x w hx.1 (by have := hx.2; omega)).mono fun e w' ⟨he, hw⟩ => ⟨he, hw.symm⟩

/-- Bit i of A, of i below 0 or above 255 none. -/
def bt (A : Nat) (i : Int) : Bool := decide (0 ≤ i) && (decide (i < 256) && A.testBit i.toNat)

set_option maxHeartbeats 400000 in
theorem bit_in (A : Nat) (n : Nat) (h : n < 256) (w : World) : Calls Try.prog 62 #[uv A, .int .i64 n] w fun e w' => e = .returned (.bool (A.testBit n)) ∧ Below w.heap.size w w' := by
  have hq : n / 64 = 0 ∨ n / 64 = 1 ∨ n / 64 = 2 ∨ n / 64 = 3 := by omega
  unfold uv
  rcases hq with hq | hq | hq | hq
  · have F := Lib.hid (bit_word0 A n hq)
    go_enter Try.func62, Try.ntmps62
    go_wp2
    go_returns
    exact ⟨by rw [F.out]; rfl, by go_grown⟩
  · have F := Lib.hid (bit_word1 A n hq)
    go_enter Try.func62, Try.ntmps62
    go_wp2
    go_returns
    exact ⟨by rw [F.out]; rfl, by go_grown⟩
  · have F := Lib.hid (bit_word2 A n hq)
    go_enter Try.func62, Try.ntmps62
    go_wp2
    go_returns
    exact ⟨by rw [F.out]; rfl, by go_grown⟩
  · have F := Lib.hid (bit_word3 A n hq)
    go_enter Try.func62, Try.ntmps62
    go_wp2
    go_returns
    exact ⟨by rw [F.out]; rfl, by go_grown⟩

set_option maxHeartbeats 400000 in
theorem bit_out (A : Nat) (i : Int) (h : i < 0 ∨ 256 ≤ i) (w : World) : Calls Try.prog 62 #[uv A, .int .i64 i] w fun e w' => e = .returned (.bool false) ∧ Below w.heap.size w w' := by
  unfold uv
  rcases h with h | h
  · go_enter Try.func62, Try.ntmps62
    go_wp2
    go_returns
    exact ⟨rfl, by go_grown⟩
  · have h' : ¬ i < 0 := by omega
    go_enter Try.func62, Try.ntmps62
    go_wp2
    go_returns
    exact ⟨rfl, by go_grown⟩

theorem bit_any (A : Nat) (i : Int) (w : World) : Calls Try.prog 62 #[uv A, .int .i64 i] w fun e w' => e = .returned (.bool (bt A i)) ∧ Below w.heap.size w w' := by
  by_cases h0 : 0 ≤ i
  · by_cases h1 : i < 256
    · obtain ⟨n, rfl⟩ := Int.eq_ofNat_of_zero_le h0
      have e : bt A n = A.testBit n := by unfold bt; simp; omega
      rw [e]
      exact bit_in A n (by omega) w
    · have e : bt A i = false := by unfold bt; simp; omega
      rw [e]
      exact bit_out A i (.inr (by omega)) w
  · have e : bt A i = false := by unfold bt; simp; omega
    rw [e]
    exact bit_out A i (.inl (by omega)) w

/-- The length that the words' loop comes to. -/
def lenOf (A : Nat) : Int :=
  if w3 A != 0 then 192 + lw (w3 A) else if w2 A != 0 then 128 + lw (w2 A) else if w1 A != 0 then 64 + lw (w1 A) else if w0 A != 0 then lw (w0 A) else 0

theorem lw_le (x : Int) (h : Wd x) : 0 ≤ lw x ∧ lw x ≤ 64 := by
  refine ⟨by unfold lw; omega, ?_⟩
  unfold lw Lib.bitLen
  have : ∀ f y, Lib.bitLenAux f y ≤ f := by
    intro f
    induction f with
    | zero => intro y; simp [Lib.bitLenAux]
    | succ f ih => intro y; simp only [Lib.bitLenAux]; have := ih (y / 2); split <;> omega
  have := this 64 x.toNat
  omega

set_option maxHeartbeats 1000000 in
theorem len_any (A : Nat) (w : World) : Calls Try.prog 70 #[uv A] w fun e w' => e = .returned (.int .i64 (lenOf A)) ∧ Below w.heap.size w w' := by
  have i0 := ix0; have i1 := ix1; have i2 := ix2; have i3 := ix3
  have d0 := wd0 A; have d1 := wd1 A; have d2 := wd2 A; have d3 := wd3 A
  obtain ⟨l0, u0⟩ := lw_le _ d0; obtain ⟨l1, u1⟩ := lw_le _ d1; obtain ⟨l2, u2⟩ := lw_le _ d2; obtain ⟨l3, u3⟩ := lw_le _ d3
  have fin : True := trivial
  unfold uv
  cases c0 : (w0 A != 0) <;> cases c1 : (w1 A != 0) <;> cases c2 : (w2 A != 0) <;> cases c3 : (w3 A != 0)
  all_goals
    have e : lenOf A = lenOf A := rfl
    conv at e => rhs; unfold lenOf
    simp only [c0, c1, c2, c3, if_true, if_false, Bool.false_eq_true] at e
    rw [e]
    clear e fin
    go_enter Try.func70, Try.ntmps70
    go_wp2
    refine wp_loop_rounds 5 ?_
    rw [rounds_succ]
    go_wp2_with (go_at_call 73; refine (len64_any (by assumption) _).mono ?_; rintro e w' ⟨rfl, rfl⟩)
    rw [rounds_succ]
    go_wp2_with (go_at_call 73; refine (len64_any (by assumption) _).mono ?_; rintro e w' ⟨rfl, rfl⟩)
    rw [rounds_succ]
    go_wp2_with (go_at_call 73; refine (len64_any (by assumption) _).mono ?_; rintro e w' ⟨rfl, rfl⟩)
    rw [rounds_succ]
    go_wp2_with (go_at_call 73; refine (len64_any (by assumption) _).mono ?_; rintro e w' ⟨rfl, rfl⟩)
    rw [rounds_succ]
    go_wp2
    go_returns
    exact ⟨rfl, by go_grown⟩
end Go.Proofs.Ytljhbhhpfkmemaa
