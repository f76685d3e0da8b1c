/-
  Products of digits: plain arithmetic.
-/
import Derived.Test.YtiollplcmmlcgaaLess
namespace Go.Proofs.Ytiollplcmmlcgaa

theorem vl_set : ∀ (l : List Nat) (j d : Nat), j < l.length → vl (l.set j d) + 65536 ^ j * l.getD j 0 = vl l + 65536 ^ j * d
  | [], j, d, h => by simp at h
  | a :: r, 0, d, _ => by simp [vl]; omega
  | a :: r, j + 1, d, h => by
    have ih := vl_set r j d (by simpa using h)
    simp only [List.set_cons_succ, vl, List.getD_cons_succ, Nat.pow_succ]
    have e1 : 65536 ^ j * 65536 * r.getD j 0 = 65536 * (65536 ^ j * r.getD j 0) := by rw [Nat.mul_comm (65536 ^ j) 65536, Nat.mul_assoc]
    have e2 : 65536 ^ j * 65536 * d = 65536 * (65536 ^ j * d) := by rw [Nat.mul_comm (65536 ^ j) 65536, Nat.mul_assoc]
    rw [e1, e2]
    omega
theorem ok_set {l : List Nat} (h : Ok l) (j d : Nat) (hd : d < 65536) : Ok (l.set j d) := fun x hx => by
  rcases List.mem_or_eq_of_mem_set hx with h1 | h1
  · exact h x h1
  · rw [h1]; exact hd
theorem vl_zeros (n : Nat) : vl (List.replicate n 0) = 0 := by
  induction n with
  | zero => rfl
  | succ n ih => rw [List.replicate_succ, vl, ih]
theorem ok_zeros (n : Nat) : Ok (List.replicate n 0) := fun d hd => by
  have := List.eq_of_mem_replicate hd; omega
theorem vl_ge (l : List Nat) (j : Nat) : 65536 ^ j * l.getD j 0 ≤ vl l := by
  have e := vl_at l j
  have h1 : 0 ≤ vl (l.take j) := Nat.zero_le _
  have h2 : 0 ≤ 65536 ^ (j + 1) * vl (l.drop (j + 1)) := Nat.zero_le _
  omega

/-- What the inner rounds keep: out, the carry c, at place i of x and k of y. -/
structure MulI (x y out : List Nat) (i k c : Nat) : Prop where
  len : out.length = x.length + y.length + 1
  ok : Ok out
  hi : i < x.length
  cw : c < 65536
  val : vl out + 65536 ^ (i + k) * c = vl (x.take i) * vl y + 65536 ^ i * (x.getD i 0 * vl (y.take k))
  top : k ≤ y.length + 1
  last : k = y.length + 1 → c = 0

theorem MulI.start {x y out : List Nat} {i : Nat} (hl : out.length = x.length + y.length + 1) (hok : Ok out) (hi : i < x.length) (hv : vl out = vl (x.take i) * vl y) : MulI x y out i 0 0 :=
  ⟨hl, hok, hi, by omega, by simp [vl, hv], by omega, by omega⟩
theorem MulI.next {x y out : List Nat} {i k c : Nat} (h : MulI x y out i k c) (hx : Ok x) (hy : Ok y) (hgo : k < y.length ∨ 0 < c) :
    i + k < out.length ∧ MulI x y (out.set (i + k) ((out.getD (i + k) 0 + x.getD i 0 * y.getD k 0 + c) % 65536)) i (k + 1) ((out.getD (i + k) 0 + x.getD i 0 * y.getD k 0 + c) / 65536) := by
  obtain ⟨e1, e2, e3, e4, ev, et, el⟩ := h
  have hk : k ≤ y.length := by
    rcases Nat.lt_or_ge k (y.length + 1) with h | h
    · omega
    · have := el (by omega); omega
  have hij : i + k < out.length := by omega
  refine ⟨hij, ?_⟩
  have ho := ok_getD e2 (i + k)
  have hxi := ok_getD hx i
  have hyk := ok_getD hy k
  generalize hn : out.getD (i + k) 0 + x.getD i 0 * y.getD k 0 + c = n
  have hm : x.getD i 0 * y.getD k 0 ≤ 65535 * 65535 := Nat.mul_le_mul (by omega) (by omega)
  have hset := vl_set out (i + k) (n % 65536) hij
  have hnew : vl (out.set (i + k) (n % 65536)) + 65536 ^ (i + (k + 1)) * (n / 65536) = vl (x.take i) * vl y + 65536 ^ i * (x.getD i 0 * vl (y.take (k + 1))) := by
    have hp : 65536 ^ (i + (k + 1)) * (n / 65536) + 65536 ^ (i + k) * (n % 65536) = 65536 ^ (i + k) * n := by
      rw [show i + (k + 1) = (i + k) + 1 by omega, Nat.pow_succ, Nat.mul_assoc, ← Nat.mul_add]
      congr 1; omega
    have ht : 65536 ^ i * (x.getD i 0 * vl (y.take (k + 1))) = 65536 ^ i * (x.getD i 0 * vl (y.take k)) + 65536 ^ (i + k) * (x.getD i 0 * y.getD k 0) := by
      rw [vl_take', Nat.mul_add, Nat.mul_add, Nat.pow_add, Nat.mul_left_comm (x.getD i 0), Nat.mul_assoc (65536 ^ i)]
    have hs : 65536 ^ (i + k) * n = 65536 ^ (i + k) * out.getD (i + k) 0 + 65536 ^ (i + k) * (x.getD i 0 * y.getD k 0) + 65536 ^ (i + k) * c := by
      rw [← hn, Nat.mul_add, Nat.mul_add]
    rw [ht]
    omega
  refine ⟨by simpa using e1, ok_set e2 _ _ (Nat.mod_lt _ (by omega)), e3, ?_, hnew, by omega, ?_⟩
  · omega
  · intro hkl
    have hky : k = y.length := by omega
    -- at the end the number has no digit there
    have hb : vl (x.take i) * vl y + 65536 ^ i * (x.getD i 0 * vl (y.take (k + 1))) = vl (x.take (i + 1)) * vl y := by
      rw [List.take_of_length_le (l := y) (by omega), vl_take' x, Nat.add_mul, Nat.mul_assoc]
    have b1 := vl_lt (ok_take hx (i + 1))
    have b2 : 65536 ^ (x.take (i + 1)).length ≤ 65536 ^ (i + 1) := Nat.pow_le_pow_right (by omega) (List.length_take_le _ _)
    have b3 := vl_lt hy
    have b4 : vl (x.take (i + 1)) * vl y < 65536 ^ (i + 1) * 65536 ^ y.length := by
      exact Nat.mul_lt_mul_of_lt_of_le (by omega) (Nat.le_of_lt b3) (Nat.pow_pos (by omega))
    rw [← Nat.pow_add] at b4
    rw [hb] at hnew
    rcases Nat.eq_zero_or_pos (n / 65536) with hz | hz
    · exact hz
    · exfalso
      have h5 : 65536 ^ (i + (k + 1)) * 1 ≤ 65536 ^ (i + (k + 1)) * (n / 65536) := Nat.mul_le_mul_left _ hz
      rw [show i + (k + 1) = i + 1 + y.length by omega] at h5 hnew
      omega
theorem MulI.fin {x y out : List Nat} {i k c : Nat} (h : MulI x y out i k c) (hk : ¬ k < y.length) (hc : ¬ 0 < c) : vl out = vl (x.take (i + 1)) * vl y := by
  obtain ⟨e1, e2, e3, e4, ev, et, el⟩ := h
  rw [show c = 0 by omega, List.take_of_length_le (l := y) (by omega)] at ev
  rw [vl_take', Nat.add_mul, Nat.mul_assoc]
  simpa using ev
end Go.Proofs.Ytiollplcmmlcgaa
