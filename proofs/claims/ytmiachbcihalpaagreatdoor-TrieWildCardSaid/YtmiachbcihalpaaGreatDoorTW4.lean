/-
  Texts of the proof, part 4.
-/
import Derived.Test.YtmiachbcihalpaaGreatDoorProg
import Derived.Lib.AppendStr
import Derived.Lib.Builder
import Derived.Test.YtmiachbcihalpaaGreatDoorRows
import Derived.ChangeArms
import Derived.ChangeSlices
import Derived.OpenShut
import Derived.Deep.Strs
import Derived.DataReads
import Derived.Lib.LaidTab
import Derived.MakeChecks
import Derived.LaidLaws
import Derived.LaidHandle
import Derived.ProofKit
import Derived.WalkKit
import Derived.Test.YtmiachbcihalpaaGreatDoorTW2
import Derived.Test.YtmiachbcihalpaaGreatDoorTW3

namespace Go.Proofs.YtmiachbcihalpaaGreatDoor
open Go Go.RowKit
set_option linter.unusedVariables false
/-- A number's digits, the highest first. -/
def dgI : Nat → Nat → List UInt8
  | 0, _ => []
  | m + 1, n => if n = 0 then [] else dgI m (n / 256) ++ [UInt8.ofNat n]
def dg (n : Nat) : List UInt8 := dgI 8 n
def hd (f n : Nat) : List UInt8 := if n ≤ 55 then [UInt8.ofNat (f + n)] else UInt8.ofNat (f + 55 + (dg n).length) :: dg n
def frm (l : Bool) : Nat := if l then 192 else 128
def single (s : ByteArray) : Bool := decide (s.size = 1) && decide (by_ s 0 < 128)
def mixed (l : Bool) (s : ByteArray) (n : Nat) : Bool := if l then decide (s.size ≠ 0) else decide (n ≠ 0)
def wr1 (l : Bool) (s : ByteArray) (m : Nat) (ks : List UInt8) : List UInt8 := (if single s then [] else hd (frm l) (s.size + m)) ++ (tl s ++ ks)
def sz1 (l : Bool) (s : ByteArray) (m : Nat) : Nat := if single s then 1 else (hd (frm l) (s.size + m)).length + (s.size + m)
/-- Of all in a list: how many bytes; the bytes; the depth. -/
def szF : Fo → Nat
  | .nil => 0
  | .cons l s k r => sz1 l s (szF k) + szF r
def wrF : Fo → List UInt8
  | .nil => []
  | .cons l s k r => wr1 l s (szF k) (wrF k) ++ wrF r
def dp1 (l : Bool) (d : Nat) : Nat := if l then 1 + d else 0
def dpF : Fo → Nat
  | .nil => 0
  | .cons l s k r => max (dp1 l (dpF k)) (dpF r)
def pureF : Fo → Bool
  | .nil => true
  | .cons l s k r => (!mixed l s k.len && pureF k) && pureF r
def lf1 (l : Bool) (s : ByteArray) (k : Nat) (f : Nat → Option Nat) (room : Nat) : Option Nat := if room = 0 ∨ mixed l s k = true then none else f (room - 1)
def lfF : Fo → Nat → Option Nat
  | .nil, room => some room
  | .cons l s k r, room => (lf1 l s k.len (lfF k) room).bind (lfF r)
def lfV : Option Nat → Int
  | none => -1
  | some q => (q : Int)
theorem lfF_eq : ∀ (k : Fo) (room : Nat), lfF k room = if pureF k = true ∧ k.cnt ≤ room then some (room - k.cnt) else none
  | .nil, room => by simp [lfF, pureF, Fo.cnt]
  | .cons l s k r, room => by
    have h1 := lfF_eq k (room - 1)
    have e1 : pureF (.cons l s k r) = ((!mixed l s k.len && pureF k) && pureF r) := rfl
    have e2 : (Fo.cons l s k r).cnt = 1 + k.cnt + r.cnt := rfl
    rw [show lfF (.cons l s k r) room = (lf1 l s k.len (lfF k) room).bind (lfF r) from rfl]
    unfold lf1
    by_cases hr : room = 0
    · subst hr; rw [if_pos (Or.inl rfl), if_neg (by rw [e2]; omega)]; rfl
    · cases hm : mixed l s k.len with
      | true => rw [if_pos (Or.inr rfl), if_neg (by rw [e1, hm]; simp)]; rfl
      | false =>
        rw [if_neg (by simp [hr]), h1]
        cases hp : pureF k with
        | false => rw [if_neg (by simp), if_neg (by rw [e1, hp]; simp)]; rfl
        | true =>
          by_cases hc : k.cnt ≤ room - 1
          · rw [if_pos ⟨rfl, hc⟩, Option.bind_some, lfF_eq r]
            cases hq : pureF r with
            | false => rw [if_neg (by simp), if_neg (by rw [e1, hq]; simp)]
            | true =>
              by_cases hd : r.cnt ≤ room - 1 - k.cnt
              · rw [if_pos ⟨rfl, hd⟩, if_pos ⟨by rw [e1, hm, hp, hq]; rfl, by rw [e2]; omega⟩, e2]; congr 1; omega
              · rw [if_neg (by simp [hd]), if_neg (by rw [e2]; rintro ⟨_, h⟩; omega)]
          · rw [if_neg (by simp [hc]), if_neg (by rw [e2]; rintro ⟨_, h⟩; omega)]; rfl
theorem lfF_le {k : Fo} {room q : Nat} (h : lfF k room = some q) : q ≤ room := by
  rw [lfF_eq] at h; split at h
  · injection h with h; omega
  · cases h
theorem dgI_len : ∀ m n, (dgI m n).length ≤ m
  | 0, _ => Nat.le_refl _
  | m + 1, n => by unfold dgI; split; · simp
                   · simp; exact dgI_len m _
theorem dg_len (n : Nat) : (dg n).length ≤ 8 := dgI_len 8 n
theorem hd_len (f n : Nat) : 1 ≤ (hd f n).length ∧ (hd f n).length ≤ 9 := by
  unfold hd; have := dg_len n; split <;> simp <;> omega
theorem sz1_le (l : Bool) (s : ByteArray) (m : Nat) : sz1 l s m ≤ 9 + (s.size + m) := by
  unfold sz1; have := hd_len (frm l) (s.size + m); split <;> omega
theorem single_size {s : ByteArray} (h : single s = true) : s.size = 1 := by
  unfold single at h; simp only [Bool.and_eq_true, decide_eq_true_eq] at h; exact h.1
theorem sz_pos (l : Bool) (s : ByteArray) (m : Nat) : 1 ≤ sz1 l s m := by
  unfold sz1; have := hd_len (frm l) (s.size + m); split <;> omega
theorem size_ne {s : ByteArray} (h : ¬ s = ⟨#[]⟩) : s.size ≠ 0 := fun e => h (by
  obtain ⟨d⟩ := s
  have : d.size = 0 := e
  rw [Array.eq_empty_of_size_eq_zero this])
theorem lf1_le {l : Bool} {s : ByteArray} {n : Nat} {k : Fo} {room q : Nat} (h : lf1 l s n (lfF k) room = some q) : q ≤ room := by
  unfold lf1 at h; split at h
  · cases h
  · have := lfF_le h; omega
theorem lf1_zero {l : Bool} {s : ByteArray} {n : Nat} {f : Nat → Option Nat} {room : Nat} (h : room = 0) : lfV (lf1 l s n f room) = -1 := by unfold lf1; rw [if_pos (Or.inl h)]; rfl
theorem lf1_mixed {l : Bool} {s : ByteArray} {n : Nat} {f : Nat → Option Nat} {room : Nat} (h : mixed l s n = true) : lfV (lf1 l s n f room) = -1 := by unfold lf1; rw [if_pos (Or.inr h)]; rfl
theorem lf1_go {l : Bool} {s : ByteArray} {n : Nat} {f : Nat → Option Nat} {room : Nat} (h0 : room ≠ 0) (h : mixed l s n = false) : lf1 l s n f room = f (room - 1) := by unfold lf1; rw [if_neg (by simp [h0, h])]
theorem lfF_next {l : Bool} {s : ByteArray} {n : Nat} {k r : Fo} {q y : Nat} (hn : n = k.len) (h : lf1 l s n (lfF k) q = some y) : lfF (.cons l s k r) q = lfF r y := by
  subst hn; show (lf1 l s k.len (lfF k) q).bind (lfF r) = _; rw [h]; rfl
theorem lfF_stop {l : Bool} {s : ByteArray} {n : Nat} {k r : Fo} {q : Nat} (hn : n = k.len) (h : lf1 l s n (lfF k) q = none) : lfV (lfF (.cons l s k r) q) = -1 := by
  subst hn; show lfV ((lf1 l s k.len (lfF k) q).bind (lfF r)) = _; rw [h]; rfl
theorem shr0 {a : Nat} (h : a < 18446744073709551616) : Int.fdiv (a : Int) (2 ^ 0) = (a : Int) := by rw [Int.pow_zero, Int.fdiv_one]
/-- A bound of how many bytes. -/
def wtF : Fo → Nat
  | .nil => 0
  | .cons l s k r => 9 + s.size + wtF k + wtF r
theorem szF_le : ∀ k : Fo, szF k ≤ wtF k
  | .nil => Nat.le_refl _
  | .cons l s k r => by
    have h1 := szF_le k; have h2 := szF_le r; have h3 := sz1_le l s (szF k)
    simp only [szF, wtF]; omega
theorem FoAt.wt {B : Nat} {w : World} : ∀ {k : Fo} {b off : Nat}, FoAt B w k b off → wtF k ≤ k.cnt * 140737488355337
  | .nil, _, _, _ => Nat.zero_le _
  | .cons l s k r, b, off, ⟨⟨C, T, fz, p, n, c, h1, h2, h3, h4, h5, h6, h7, h8⟩, h9⟩ => by
    have hr := FoAt.wt h9
    have hk : wtF k ≤ k.cnt * 140737488355337 := by
      rcases h8 with rfl | ⟨b', o', e, h⟩
      · exact Nat.zero_le _
      · exact FoAt.wt h
    simp only [wtF, Fo.cnt]; omega
theorem SlAt.wt {B : Nat} {w : World} {p : Option Addr} {n : Nat} {k : Fo} (h : SlAt B w p n k) : wtF k ≤ k.cnt * 140737488355337 := by
  rcases h.2.2 with rfl | ⟨b, o, e, h⟩
  · exact Nat.zero_le _
  · exact h.wt
theorem hd_small {f : Nat} (b : BitVec 8) (hb : b.toNat = f) (n : Nat) (h : n ≤ 55) (hf : f ≤ 192) : strOfNums [((BitVec.toNat (b + BitVec.ofNat 8 n) : Nat) : Int)] = strB (hd f n) := by
  unfold hd; rw [if_pos h]
  show (⟨#[UInt8.ofNat (Int.toNat _)]⟩ : ByteArray) = ⟨#[UInt8.ofNat (f + n)]⟩
  rw [Int.toNat_natCast, BitVec.toNat_add, BitVec.toNat_ofNat, hb]
  rw [show (f + n % 2 ^ 8) % 2 ^ 8 = f + n by omega]
theorem hd_big {f : Nat} (b : BitVec 8) (hb : b.toNat = f + 55) (n : Nat) (h : ¬ n ≤ 55) (hf : f ≤ 192) : strOfNums [((BitVec.toNat (b + BitVec.ofNat 8 (ByteArray.size (strB (dg n)))) : Nat) : Int)] ++ strB (dg n) = strB (hd f n) := by
  have hl := dg_len n
  have e : UInt8.ofNat (Int.toNat ((BitVec.toNat (b + BitVec.ofNat 8 (ByteArray.size (strB (dg n)))) : Nat) : Int)) = UInt8.ofNat (f + 55 + (dg n).length) := by
    rw [Int.toNat_natCast, BitVec.toNat_add, BitVec.toNat_ofNat, hb, strB_size]
    rw [show (f + 55 + (dg n).length % 2 ^ 8) % 2 ^ 8 = f + 55 + (dg n).length by omega]
  apply tl_inj
  rw [tl_add]
  show [UInt8.ofNat _] ++ dg n = hd f n
  unfold hd; rw [if_neg h, e]; rfl
theorem wrF_len : ∀ k : Fo, (wrF k).length ≤ wtF k
  | .nil => Nat.le_refl _
  | .cons l s k r => by
    have h1 := wrF_len k; have h2 := wrF_len r
    simp only [wrF, wtF, wr1, List.length_append, tl_len]
    split
    · simp only [List.length_nil]; omega
    · have := hd_len (frm l) (s.size + szF k); omega
theorem pure_wt : ∀ {k : Fo}, pureF k = true → wtF k ≤ szF k + 9 * k.cnt
  | .nil, _ => Nat.zero_le _
  | .cons l s k r, h => by
    simp only [pureF, Bool.and_eq_true, Bool.not_eq_true'] at h
    have h1 := pure_wt h.1.2; have h2 := pure_wt h.2
    simp only [wtF, szF, Fo.cnt, sz1]
    split
    · rename_i hs
      have hz := single_size hs
      have hk : k = .nil := by
        have hm := h.1.1
        unfold mixed at hm
        cases l with
        | true => simp [hz] at hm
        | false =>
          cases k with
          | nil => rfl
          | cons => simp [Fo.len] at hm
      subst hk
      simp only [wtF, Fo.cnt]; omega
    · have := hd_len (frm l) (s.size + szF k); omega
theorem opt_cases {α : Type} (x : Option α) : x = none ∨ ∃ y, x = some y := by cases x with
  | none => exact .inl rfl
  | some y => exact .inr ⟨y, rfl⟩
theorem dpF_le : ∀ k : Fo, dpF k ≤ k.cnt
  | .nil => Nat.le_refl _
  | .cons l s k r => by
    have h1 := dpF_le k; have h2 := dpF_le r
    simp only [dpF, Fo.cnt, dp1]; split <;> omega
theorem cut1_size (t : ByteArray) (h : t.size ≠ 0) : (t.extract 1 t.size).size = t.size - 1 := by simp
theorem tl_cut1 (t : ByteArray) : tl (t.extract 1 t.size) = (tl t).drop 1 := by
  rw [tl_extract, List.take_of_length_le (by rw [tl_len]; exact Nat.le_refl _)]
theorem by0_eq {t : ByteArray} (h : t.size ≠ 0) : ∃ l, tl t = UInt8.ofNat (by_ t 0) :: l := by
  have hl : (tl t).length ≠ 0 := by rw [tl_len]; exact h
  unfold by_
  cases e : tl t with
  | nil => rw [e] at hl; simp at hl
  | cons x l => exact ⟨l, by simp⟩
theorem trim_next (t : ByteArray) (h : t.size ≠ 0) (h0 : by_ t 0 = 0) : (tl (t.extract 1 t.size)).dropWhile (· == 0) = (tl t).dropWhile (· == 0) := by
  obtain ⟨l, e⟩ := by0_eq h
  rw [tl_cut1, e, h0]; rfl
theorem trim_empty {t : ByteArray} (h : t = ⟨#[]⟩) : strB ((tl t).dropWhile (· == 0)) = t := by subst h; rfl
theorem trim_done (t : ByteArray) (h : t.size = 0 ∨ by_ t 0 ≠ 0) : strB ((tl t).dropWhile (· == 0)) = t := by
  rcases h with h | h
  · exact trim_empty (Decidable.not_not.1 fun q => size_ne q h)
  · by_cases h2 : t.size = 0
    · exact trim_empty (Decidable.not_not.1 fun q => size_ne q h2)
    · obtain ⟨l, e⟩ := by0_eq h2
      have hb := by_lt t 0
      have hne : (UInt8.ofNat (by_ t 0) == 0) = false := by
        rw [beq_eq_false_iff_ne]; intro q
        have := congrArg UInt8.toNat q
        rw [UInt8.toNat_ofNat_of_lt' (by simpa using hb)] at this
        exact h this
      rw [e, List.dropWhile_cons, hne]
      show strB (UInt8.ofNat (by_ t 0) :: l) = t
      rw [← e]; exact strB_tl t
theorem dropW_nil : ∀ {l : List UInt8}, (∀ x ∈ l, (x == 0) = true) → l.dropWhile (· == 0) = []
  | [], _ => rfl
  | x :: l, h => by rw [List.dropWhile_cons, if_pos (h x (List.mem_cons_self ..))]; exact dropW_nil fun y hy => h y (List.mem_cons_of_mem _ hy)
/-- All of m digits. -/
def beI : Nat → Nat → List UInt8
  | 0, _ => []
  | m + 1, n => beI m (n / 256) ++ [UInt8.ofNat n]
theorem beI_zero : ∀ m, (beI m 0).dropWhile (· == 0) = [] ∧ ∀ x ∈ beI m 0, (x == 0) = true
  | 0 => ⟨rfl, fun _ h => nomatch h⟩
  | m + 1 => by
    have h := (beI_zero m).2
    have h2 : ∀ x ∈ beI (m + 1) 0, (x == 0) = true := by
      intro x hx
      simp only [beI, Nat.zero_div, List.mem_append, List.mem_singleton] at hx
      rcases hx with hx | rfl
      · exact h x hx
      · rfl
    exact ⟨dropW_nil h2, h2⟩
theorem dgI_zero (m : Nat) : dgI m 0 = [] := by cases m <;> rfl
theorem drop_append {l r : List UInt8} (h : l.dropWhile (· == 0) ≠ []) : (l ++ r).dropWhile (· == 0) = l.dropWhile (· == 0) ++ r := by
  induction l with
  | nil => exact absurd rfl h
  | cons x l ih =>
    rw [List.cons_append, List.dropWhile_cons, List.dropWhile_cons]
    split
    · rename_i hx; rw [List.dropWhile_cons, if_pos hx] at h; exact ih h
    · rfl
theorem beI_drop : ∀ m n, n < 256 ^ m → (beI m n).dropWhile (· == 0) = dgI m n
  | 0, n, h => rfl
  | m + 1, n, h => by
    have hlt : n / 256 < 256 ^ m := by rw [Nat.pow_succ] at h; omega
    have ih := beI_drop m (n / 256) hlt
    unfold dgI
    split
    · rename_i h0; subst h0; exact (beI_zero (m + 1)).1
    · rename_i h0
      show (beI m (n / 256) ++ [UInt8.ofNat n]).dropWhile (· == 0) = _
      by_cases hq : n / 256 = 0
      · rw [hq, dgI_zero, List.dropWhile_append, (beI_zero m).1]
        have hx : (UInt8.ofNat n == 0) = false := by
          rw [beq_eq_false_iff_ne]; intro q
          have := congrArg UInt8.toNat q
          rw [UInt8.toNat_ofNat_of_lt' (by simp only [UInt8.size]; omega)] at this
          exact h0 this
        simp [hx]
      · rw [drop_append, ih]
        rw [ih]; intro q
        cases m with
        | zero => simp at hlt; omega
        | succ m => unfold dgI at q; rw [if_neg hq] at q; simp at q
def dgB (n d : Nat) : BitVec 8 := BitVec.ofNat 8 (n / d)
theorem dgB_conv (n d : Nat) : Value.int .u8 (IntKind.u8.wrap (((n / d : Nat) : Int))) = .int .u8 ((BitVec.toNat (dgB n d) : Nat) : Int) := bv_ofNat_u8 (n / d)
theorem dgB_conv1 (n : Nat) : Value.int .u8 (IntKind.u8.wrap (((n : Nat) : Int))) = .int .u8 ((BitVec.toNat (dgB n 1) : Nat) : Int) := by
  have h := dgB_conv n 1; rw [Nat.div_one] at h; exact h
theorem dgB_ofNat (n d : Nat) : UInt8.ofNat (Int.toNat ((BitVec.toNat (dgB n d) : Nat) : Int)) = UInt8.ofNat (n / d) := by
  rw [Int.toNat_natCast]
  apply UInt8.toNat_inj.1
  rw [UInt8.toNat_ofNat', UInt8.toNat_ofNat']
  unfold dgB; rw [BitVec.toNat_ofNat]; omega
theorem be_list (n : Nat) : tl (strOfNums [((BitVec.toNat (dgB n 72057594037927936) : Nat) : Int), ((BitVec.toNat (dgB n 281474976710656) : Nat) : Int), ((BitVec.toNat (dgB n 1099511627776) : Nat) : Int), ((BitVec.toNat (dgB n 4294967296) : Nat) : Int), ((BitVec.toNat (dgB n 16777216) : Nat) : Int), ((BitVec.toNat (dgB n 65536) : Nat) : Int), ((BitVec.toNat (dgB n 256) : Nat) : Int), ((BitVec.toNat (dgB n 1) : Nat) : Int)]) = beI 8 n := by
  unfold tl
  rw [strOfNums_data]
  simp only [List.map_cons, List.map_nil, dgB_ofNat, beI, List.nil_append, List.append_assoc, List.cons_append, Nat.div_div_eq_div_mul, Nat.div_one]
theorem be_drop (n : Nat) (h : n < 18446744073709551616) : (tl (strOfNums [((BitVec.toNat (dgB n 72057594037927936) : Nat) : Int), ((BitVec.toNat (dgB n 281474976710656) : Nat) : Int), ((BitVec.toNat (dgB n 1099511627776) : Nat) : Int), ((BitVec.toNat (dgB n 4294967296) : Nat) : Int), ((BitVec.toNat (dgB n 16777216) : Nat) : Int), ((BitVec.toNat (dgB n 65536) : Nat) : Int), ((BitVec.toNat (dgB n 256) : Nat) : Int), ((BitVec.toNat (dgB n 1) : Nat) : Int)])).dropWhile (· == 0) = dg n := by
  rw [be_list]; exact beI_drop 8 n h
/-- What Encode answers: the bytes, and the error's number. -/
def encS (l : Bool) (s : ByteArray) (n : Nat) (k : Fo) : ByteArray × Nat :=
  match lf1 l s n (lfF k) 4000 with
  | none => (⟨#[]⟩, 1)
  | some _ => if 8 < dp1 l (dpF k) then (⟨#[]⟩, 5) else if 4000 < sz1 l s (szF k) then (⟨#[]⟩, 2) else (strB (wr1 l s (szF k) (wrF k)), 0)
def encV (x : ByteArray × Nat) : Value := .tuple #[.string x.1, .int .i64 ((x.2 : Nat) : Int)]
section
variable {l : Bool} {s : ByteArray} {n y : Nat} {k : Fo}
theorem encS_1 (h : lf1 l s n (lfF k) 4000 = none) : encV (encS l s n k) = .tuple #[.string ⟨#[]⟩, .int .i64 1] := by unfold encS; rw [h]; rfl
theorem encS_5 (h : lf1 l s n (lfF k) 4000 = some y) (hd : 8 < dp1 l (dpF k)) : encV (encS l s n k) = .tuple #[.string ⟨#[]⟩, .int .i64 5] := by unfold encS; rw [h]; simp only []; rw [if_pos hd]; rfl
theorem encS_2 (h : lf1 l s n (lfF k) 4000 = some y) (hd : ¬ 8 < dp1 l (dpF k)) (hz : 4000 < sz1 l s (szF k)) : encV (encS l s n k) = .tuple #[.string ⟨#[]⟩, .int .i64 2] := by unfold encS; rw [h]; simp only []; rw [if_neg hd, if_pos hz]; rfl
theorem encS_0 (h : lf1 l s n (lfF k) 4000 = some y) (hd : ¬ 8 < dp1 l (dpF k)) (hz : ¬ 4000 < sz1 l s (szF k)) : encV (encS l s n k) = .tuple #[.string (strB (wr1 l s (szF k) (wrF k))), .int .i64 0] := by unfold encS; rw [h]; simp only []; rw [if_neg hd, if_neg hz]; rfl
theorem lf1_some {room : Nat} (h : lf1 l s n (lfF k) room = some y) : mixed l s n = false ∧ pureF k = true ∧ k.cnt < room := by
  unfold lf1 at h
  split at h
  · cases h
  · rename_i h0
    rw [lfF_eq] at h
    split at h
    · rename_i h1
      refine ⟨?_, h1.1, by omega⟩
      cases hm : mixed l s n with
      | true => exact absurd (.inr hm) h0
      | false => rfl
    · cases h
theorem mixed_single (hm : mixed l s n = false) (h : single s = true) : n = 0 := by
  have hz := single_size h
  unfold mixed at hm
  cases l with
  | true => simp [hz] at hm
  | false => simpa using hm
theorem len_zero {k : Fo} (h : k.len = 0) : k = .nil := by cases k with
  | nil => rfl
  | cons => simp [Fo.len] at h
theorem wr1_sz (hm : mixed l s k.len = false) (hk : (wrF k).length = szF k) : (wr1 l s (szF k) (wrF k)).length = sz1 l s (szF k) := by
  unfold wr1 sz1
  rw [List.length_append, List.length_append, tl_len, hk]
  split
  · rename_i h
    have := len_zero (mixed_single hm h)
    subst this
    have hz := single_size h
    simp only [szF, List.length_nil]; omega
  · omega
theorem pure_len : ∀ {k : Fo}, pureF k = true → (wrF k).length = szF k
  | .nil, _ => rfl
  | .cons l s k r, h => by
    simp only [pureF, Bool.and_eq_true, Bool.not_eq_true'] at h
    simp only [wrF, szF, List.length_append]
    rw [wr1_sz h.1.1 (pure_len h.1.2), pure_len h.2]
theorem wr1_len (hm : mixed l s n = false) (hp : pureF k = true) (hn : n = k.len) : 0 < (wr1 l s (szF k) (wrF k)).length ∧ (wr1 l s (szF k) (wrF k)).length ≤ sz1 l s (szF k) := by
  subst hn
  rw [wr1_sz hm (pure_len hp)]
  exact ⟨sz_pos l s (szF k), Nat.le_refl _⟩
theorem pure_wt1 (hm : mixed l s n = false) (hp : pureF k = true) (hz : sz1 l s (szF k) ≤ 4000) (hn : n = k.len) : s.size + wtF k ≤ 4000 + 9 * k.cnt := by
  have h1 := pure_wt hp
  unfold sz1 at hz
  split at hz
  · rename_i h
    have h2 := mixed_single hm h
    have := len_zero (hn ▸ h2)
    subst this
    have := single_size h
    simp only [wtF]; omega
  · omega
end
theorem mixed_t {s : ByteArray} {n : Nat} {b : Bool} (h : decide (s.size ≠ 0) = b) : b = mixed true s n := h.symm
theorem mixed_f {s : ByteArray} {n : Nat} {b : Bool} (h : decide (n ≠ 0) = b) : b = mixed false s n := h.symm
end Go.Proofs.YtmiachbcihalpaaGreatDoor

namespace Go.Proofs.YtmiachbcihalpaaGreatDoor
open Go Go.RowKit
set_option linter.unusedVariables false
set_option maxRecDepth 100000 in
set_option maxHeartbeats 2000000 in
theorem mixed_fn (l : Bool) (s : ByteArray) (p : Option Addr) (n c : Nat) (k : Fo) (hs : s.size ≤ 140737488355328) : FnP Tryz.prog 71 #[.agg #[.bool l, .string s, .slice p n c]] (fun w => SlAt w.heap.size w p n k) (.bool (mixed l s n)) := by
  refine FnP.intro (c := codeOf Tryz.f71) [.tmp 2] 12 Tryz.func71 kr kr kr fun w hpre => ?_
  have H0 := St.start w
  have hn := hpre.1
  have hnm := hpre.2.1
  refine rS [.b, .v] H0 kr fun gs1 w1 H1 => ?_
  clear H0
  refine g_seq kr ?_
  refine rS [.v, .l 0] H1 kr fun gs2 w2 H2 => ?_
  clear H1
  refine Or.elim (Bool.eq_false_or_eq_true (l)).symm (fun hq1 => ?_) (fun hq1 => ?_)
  · skip
    refine g_now 4 (v := .bool l) (v' := .bool false) (bool_eq hq1) kr ?_
    refine g_cond_f kr kr ?_
    refine g_skip kr ?_
    show WP _ _ _ _ _ _
    refine g_sreg [0, 1, 2, 3, 4] kr kr ?_
    refine rp [.v, .l 0, .v] H2 kr fun gs3 w3 H3 => ?_
    show WPs _ _ _ _ [3, 4] _ _
    clear H2
    by_cases hc1 : (n : Nat) > 0
    · skip
      refine rp [.e (v := .bool (decide (0 < ((n : Nat) : Int)))) (v' := .bool true) (bool_eq (decide_eq_true (by omega))), .v] H3 kr fun gs4 w4 H4 => ?_
      show WPs _ _ _ _ [] _ _
      clear H3
      refine s_nil ?_
      refine g_ret kr ?_
      show ∃ vs, Res _ _ _ _ vs ∧ _
      refine ⟨[.bool true], (.tmp (.bool true) kr .nil), ?_, H4.below⟩
      rw [hq1]; exact bool_eq (mixed_f (decide_eq_true (by omega)))
    · skip
      refine rp [.e (v := .bool (decide (0 < ((n : Nat) : Int)))) (v' := .bool false) (bool_eq (decide_eq_false (by omega))), .v] H3 kr fun gs5 w5 H5 => ?_
      show WPs _ _ _ _ [] _ _
      clear H3
      refine s_nil ?_
      refine g_ret kr ?_
      show ∃ vs, Res _ _ _ _ vs ∧ _
      refine ⟨[.bool false], (.tmp (.bool false) kr .nil), ?_, H5.below⟩
      rw [hq1]; exact bool_eq (mixed_f (decide_eq_false (by omega)))
  · skip
    refine g_now 4 (v := .bool l) (v' := .bool true) (bool_eq hq1) kr ?_
    refine g_cond_t kr kr ?_
    refine g_sreg [0, 1, 2, 3] kr kr ?_
    refine rp [.v, .l 0] H2 kr fun gs6 w6 H6 => ?_
    show WPs _ _ _ _ [2, 3] _ _
    clear H2
    by_cases hx2 : s = ⟨#[]⟩
    · skip
      refine rp [.e (v := .bool (!(ByteArray.toList s == ByteArray.toList (⟨#[]⟩)))) (v' := .bool false) (bool_eq (by rw [str_same s (⟨#[]⟩) hx2]; rfl)), .v] H6 kr fun gs7 w7 H7 => ?_
      show WPs _ _ _ _ [] _ _
      clear H6
      refine s_nil ?_
      refine g_ret kr ?_
      show ∃ vs, Res _ _ _ _ vs ∧ _
      refine ⟨[.bool false], (.tmp (.bool false) kr .nil), ?_, H7.below⟩
      rw [hq1]; exact bool_eq (mixed_t (decide_eq_false (by rw [hx2]; decide)))
    · skip
      refine rp [.e (v := .bool (!(ByteArray.toList s == ByteArray.toList (⟨#[]⟩)))) (v' := .bool true) (bool_eq (by rw [str_other s (⟨#[]⟩) hx2]; rfl)), .v] H6 kr fun gs8 w8 H8 => ?_
      show WPs _ _ _ _ [] _ _
      clear H6
      refine s_nil ?_
      refine g_ret kr ?_
      show ∃ vs, Res _ _ _ _ vs ∧ _
      refine ⟨[.bool true], (.tmp (.bool true) kr .nil), ?_, H8.below⟩
      rw [hq1]; exact bool_eq (mixed_t (decide_eq_true (size_ne hx2)))
set_option maxRecDepth 100000 in
set_option maxHeartbeats 2000000 in
theorem left_step (m : Nat) (ih : ∀ (l : Bool) (s : ByteArray) (p : Option Addr) (n c : Nat) (k : Fo) (room : Nat), s.size ≤ 140737488355328 → room ≤ 4000 → k.cnt < m → FnP Tryz.prog 46 #[.agg #[.bool l, .string s, .slice p n c], .int .i64 ((room : Nat) : Int)] (fun w => SlAt w.heap.size w p n k) (.int .i64 (lfV (lf1 l s n (lfF k) room)))) (l : Bool) (s : ByteArray) (p : Option Addr) (n c : Nat) (k : Fo) (hs : s.size ≤ 140737488355328) (room : Nat) (hro : room ≤ 4000) (hkm : k.cnt < m + 1) : FnP Tryz.prog 46 #[.agg #[.bool l, .string s, .slice p n c], .int .i64 ((room : Nat) : Int)] (fun w => SlAt w.heap.size w p n k) (.int .i64 (lfV (lf1 l s n (lfF k) room))) := by
  refine FnP.intro (c := codeOf Tryz.f46) [.tmp 4] 30 Tryz.func46 kr kr kr fun w hpre => ?_
  have H0 := St.start w
  have hn := hpre.1
  have hnm := hpre.2.1
  refine rS [.b, .v] H0 kr fun gs1 w1 H1 => ?_
  clear H0
  refine g_seq kr ?_
  refine g_sreg [0, 1, 2, 3, 4, 5] kr kr ?_
  refine rp [.v] H1 kr fun gs2 w2 H2 => ?_
  show WPs _ _ _ _ [1, 2, 3, 4, 5] _ _
  clear H1
  by_cases hc1 : (room : Nat) = 0
  · skip
    refine rp [.e (v := .bool (((room : Nat) : Int) == 0)) (v' := .bool true) (bool_eq (beq_iff_eq.2 (by omega))), .v, .n, .n, .v] H2 kr fun gs3 w3 H3 => ?_
    show WPs _ _ _ _ [] _ _
    clear H2
    refine s_nil ?_
    refine g_cond_t kr kr ?_
    refine rS [.v] H3 kr fun gs4 w4 H4 => ?_
    clear H3
    refine g_ret kr ?_
    show ∃ vs, Res _ _ _ _ vs ∧ _
    refine ⟨[.int .i64 (-1)], (.tmp (.int .i64 (-1)) kr .nil), ?_, H4.below⟩
    exact int_eq (lf1_zero (by omega)).symm
  · skip
    refine rp [.e (v := .bool (((room : Nat) : Int) == 0)) (v' := .bool false) (bool_eq (beq_eq_false_iff_ne.2 (by omega))), .v, .l 0, .cp (pre := fun w => SlAt w.heap.size w p n k) (mixed_fn l s p n c k (by omega) ) [] (fun w hb hd => (SlAt.call hpre hb)), .v] H2 kr fun gs5 w5 H5 => ?_
    show WPs _ _ _ _ [] _ _
    clear H2
    refine s_nil ?_
    refine Or.elim (Bool.eq_false_or_eq_true (mixed l s n)).symm (fun hq1 => ?_) (fun hq1 => ?_)
    · skip
      refine g_now 11 (v := .bool (mixed l s n)) (v' := .bool false) (bool_eq hq1) kr ?_
      refine g_now 12 (v := .bool (mixed l s n)) (v' := .bool false) (bool_eq hq1) kr ?_
      refine g_cond_f kr kr ?_
      refine g_skip kr ?_
      show WP _ _ _ _ _ _
      refine rS [.v, .e (v := .int .i64 (IntKind.i64.wrap (((room : Nat) : Int) - 1))) (v' := .int .i64 ((room - 1 : Nat) : Int)) (int_eq (wrapSub_i64 (a := room) (b := 1) (by omega))), .v] H5 kr fun gs6 w6 H6 => ?_
      clear H5
      refine g_seq kr ?_
      refine rS [.v, .l 0, .v, .v] H6 kr fun gs7 w7 H7 => ?_
      clear H6
      refine g_block 0 kr ?_
      have HL2 : St w.heap.size w w7 [((gs1 0).b, Obj.cells #[.bool l, .string s, .slice p n c] 68 (0, 0))] := H7.as kr
      clear H7
      have HD3 : St w.heap.size w w7 [] := HL2.sub (List.Sublist.cons _ List.Sublist.slnil)
      refine g_loop kr (fun mz ρ ww => ∃ (i : Nat) (r : Fo) (q : Nat), n - i = mz ∧ (FoR w.heap.size w p i r) ∧ (i + Fo.len r = n) ∧ (q ≤ 4000) ∧ (Fo.cnt r ≤ Fo.cnt k) ∧ (lfF k (room - 1) = lfF r q) ∧ St w.heap.size w ww [] ∧ Is [(0, .agg #[.bool l, .string s, .slice p n c]), (1, .int .i64 ((q : Nat) : Int)), (2, .pointer (some ⟨(gs1 0).b, 0, none⟩)), (12, .bool false), (16, .slice p n c), (17, .int .i64 ((n : Nat) : Int)), (18, .int .i64 ((i : Nat) : Int))] ρ) (n - 0) ⟨0, k, (room - 1), rfl, (SlAt.start hpre), (by have hn0 := (hpre).1; omega), (by omega), (Nat.le_refl _), rfl, HD3, (Is.of ⟨kr, kr, kr, kr, kr, kr, kr, trivial⟩)⟩ ?_
      clear HD3
      rintro _ _ w8 ⟨i, r, q, rfl, hR, hN, hq0, hcn, hlf, H8, _, rfl⟩
      by_cases hc4 : (i : Nat) < n
      · skip
        refine rS [.e (v := .bool (decide (((i : Nat) : Int) < ((n : Nat) : Int)))) (v' := .bool true) (bool_eq (decide_eq_true (by omega)))] H8 kr fun gs9 w9 H9 => ?_
        clear H8
        refine g_seq kr ?_
        refine g_cond_t kr kr ?_
        refine g_skip kr ?_
        show WP _ _ _ _ _ _
        refine g_seq kr ?_
        refine g_block 1 kr ?_
        obtain ⟨l1, s1, k1, r1, b1, off1, C1, T1, fz1, p1, n1, c1, hr1, hp1, hb1, hh1, hs1, hx1, hz1, hk1, hR1, hN1⟩ := FoR.open hR hN (by omega)
        refine rS [.o (ins := [((.tmp 16), .slice p n c), ((.tmp 18), .int .i64 ((i : Nat) : Int))]) (v := .pointer (some ⟨b1, off1 + i * 3, none⟩)) (fun ρ o w ho hi => idxO_run (kd := .i64) (t := 66) (e := 68) (bytes := 48) kr (x := (.tmp 16)) (y := (.tmp 18)) b1 off1 n c i hp1 ho hi.1 hi.2.1 (by omega) w), .fp (off := off1 + i * 3) (n := 3) (W := #[.bool l1, .string s1, .slice p1 n1 c1]) hh1 hb1 hs1 hx1, .a, .s 0] H9 kr fun gs10 w10 H10 => ?_
        clear H9
        refine g_keep [0, 1, 2, 6, 12, 16, 17, 18, 19] fun ρ1 => ?_
        have HK5 := H10.keep
        clear H10
        have hcn1 := hcn
        rw [hr1] at hcn1
        simp only [Fo.cnt] at hcn1
        refine g_sreg [0, 1, 2, 3] kr kr ?_
        refine rp [.l 0, .v, .cp (pre := fun w => SlAt w.heap.size w p1 n1 k1) (ih l1 s1 p1 n1 c1 k1 q hz1 (by omega) (by omega)) [] (fun w hb hd => (SlAt.call hk1 hb))] HK5 kr fun gs11 w11 H11 => ?_
        show WPs _ _ _ _ [3] _ _
        clear HK5
        rcases opt_cases (lf1 l1 s1 n1 (lfF k1) q) with hv1 | ⟨y, hv1⟩
        · skip
          refine s_now 24 (v := .int .i64 (lfV (lf1 l1 s1 n1 (lfF k1) q))) (v' := .int .i64 (-1)) (int_eq (show (lfV (lf1 l1 s1 n1 (lfF k1) q)) = -1 from by rw [hv1]; rfl)) kr ?_
          refine rp [.v] H11 kr fun gs12 w12 H12 => ?_
          show WPs _ _ _ _ [] _ _
          clear H11
          refine s_nil ?_
          refine rS [.v, .v] H12 kr fun gs13 w13 H13 => ?_
          clear H12
          refine g_cond_t kr kr ?_
          refine rS [.v, .v] H13 kr fun gs14 w14 H14 => ?_
          clear H13
          refine g_ret kr ?_
          show ∃ vs, Res _ _ _ _ vs ∧ _
          refine ⟨[.int .i64 (-1)], (.tmp (.int .i64 (-1)) kr .nil), ?_, H14.below⟩
          refine int_eq ?_
          rw [lf1_go (by omega) hq1, hlf, hr1]; exact (lfF_stop hk1.1 hv1).symm
        · skip
          refine s_now 24 (v := .int .i64 (lfV (lf1 l1 s1 n1 (lfF k1) q))) (v' := .int .i64 ((y : Nat) : Int)) (int_eq (show (lfV (lf1 l1 s1 n1 (lfF k1) q)) = ((y : Nat) : Int) from by rw [hv1]; rfl)) kr ?_
          have hy4 := lf1_le hv1
          refine rp [.v] H11 kr fun gs15 w15 H15 => ?_
          show WPs _ _ _ _ [] _ _
          clear H11
          refine s_nil ?_
          refine rS [.v, .e (v := .bool (decide (((y : Nat) : Int) < 0))) (v' := .bool false) (bool_eq (decide_eq_false (by omega)))] H15 kr fun gs16 w16 H16 => ?_
          clear H15
          refine g_cond_f kr kr ?_
          refine g_skip kr ?_
          show WP _ _ _ _ _ _
          refine rL [.e (v := .int .i64 (IntKind.i64.wrap (((i : Nat) : Int) + 1))) (v' := .int .i64 ((i + 1 : Nat) : Int)) (int_eq (wrapAdd_i64 (a := i) (b := 1) (by omega))), .v] H16 kr fun gs17 w17 H17 => ?_
          clear H16
          have HL6 : St w.heap.size w w17 [((gs10 2).b, Obj.cells #[.bool l1, .string s1, .slice p1 n1 c1] 68 (0, 0))] := H17.as kr
          clear H17
          have HD7 : St w.heap.size w w17 [] := HL6.sub (List.Sublist.cons _ List.Sublist.slnil)
          show ∃ m, _ ∧ _
          exact ⟨_, (by omega), (i + 1), r1, y, rfl, hR1, hN1, (by omega), (by omega), (by rw [hlf, hr1]; exact lfF_next hk1.1 hv1), HD7, (Is.of ⟨kr, kr, kr, kr, kr, kr, kr, trivial⟩)⟩
      · skip
        refine rS [.e (v := .bool (decide (((i : Nat) : Int) < ((n : Nat) : Int)))) (v' := .bool false) (bool_eq (decide_eq_false (by omega)))] H8 kr fun gs18 w18 H18 => ?_
        clear H8
        refine g_seq kr ?_
        refine g_cond_f kr kr ?_
        refine g_exit 0 kr ?_
        show WP _ _ _ _ _ _
        refine rS [.v, .v] H18 kr fun gs19 w19 H19 => ?_
        clear H18
        refine g_ret kr ?_
        show ∃ vs, Res _ _ _ _ vs ∧ _
        refine ⟨[.int .i64 ((q : Nat) : Int)], (.tmp (.int .i64 ((q : Nat) : Int)) kr .nil), ?_, H19.below⟩
        refine int_eq ?_
        rw [lf1_go (by omega) hq1, hlf, FoR.done hN (by omega)]; rfl
    · skip
      refine g_now 11 (v := .bool (mixed l s n)) (v' := .bool true) (bool_eq hq1) kr ?_
      refine g_now 12 (v := .bool (mixed l s n)) (v' := .bool true) (bool_eq hq1) kr ?_
      refine g_cond_t kr kr ?_
      refine rS [.v] H5 kr fun gs20 w20 H20 => ?_
      clear H5
      refine g_ret kr ?_
      show ∃ vs, Res _ _ _ _ vs ∧ _
      refine ⟨[.int .i64 (-1)], (.tmp (.int .i64 (-1)) kr .nil), ?_, H20.below⟩
      exact int_eq (lf1_mixed hq1).symm
theorem left_fn (l : Bool) (s : ByteArray) (p : Option Addr) (n c : Nat) (k : Fo) (hs : s.size ≤ 140737488355328) (room : Nat) (hro : room ≤ 4000) : FnP Tryz.prog 46 #[.agg #[.bool l, .string s, .slice p n c], .int .i64 ((room : Nat) : Int)] (fun w => SlAt w.heap.size w p n k) (.int .i64 (lfV (lf1 l s n (lfF k) room))) := by
  have key : ∀ (m : Nat) (l : Bool) (s : ByteArray) (p : Option Addr) (n c : Nat) (k : Fo) (room : Nat), s.size ≤ 140737488355328 → room ≤ 4000 → k.cnt < m → FnP Tryz.prog 46 #[.agg #[.bool l, .string s, .slice p n c], .int .i64 ((room : Nat) : Int)] (fun w => SlAt w.heap.size w p n k) (.int .i64 (lfV (lf1 l s n (lfF k) room))) := by
    intro m
    induction m with
    | zero => intros; omega
    | succ m ih => intro l s p n c k room hs hro hkm; exact left_step m ih l s p n c k hs room hro hkm
  exact key (k.cnt + 1) l s p n c k room hs hro (by omega)
set_option maxRecDepth 100000 in
set_option maxHeartbeats 2000000 in
theorem depth_step (m : Nat) (ih : ∀ (l : Bool) (s : ByteArray) (p : Option Addr) (n c : Nat) (k : Fo), s.size ≤ 140737488355328 → k.cnt ≤ 1000000 → k.cnt < m → FnP Tryz.prog 47 #[.agg #[.bool l, .string s, .slice p n c]] (fun w => SlAt w.heap.size w p n k) (.int .i64 ((dp1 l (dpF k) : Nat) : Int))) (l : Bool) (s : ByteArray) (p : Option Addr) (n c : Nat) (k : Fo) (hs : s.size ≤ 140737488355328) (hk6 : k.cnt ≤ 1000000) (hkm : k.cnt < m + 1) : FnP Tryz.prog 47 #[.agg #[.bool l, .string s, .slice p n c]] (fun w => SlAt w.heap.size w p n k) (.int .i64 ((dp1 l (dpF k) : Nat) : Int)) := by
  refine FnP.intro (c := codeOf Tryz.f47) [.tmp 2] 23 Tryz.func47 kr kr kr fun w hpre => ?_
  have H0 := St.start w
  have hn := hpre.1
  have hnm := hpre.2.1
  have hdk := dpF_le k
  refine rS [.b, .v] H0 kr fun gs1 w1 H1 => ?_
  clear H0
  refine g_seq kr ?_
  refine g_sreg [0, 1, 2] kr kr ?_
  refine rp [.v, .l 0] H1 kr fun gs2 w2 H2 => ?_
  show WPs _ _ _ _ [2] _ _
  clear H1
  refine Or.elim (Bool.eq_false_or_eq_true (l)).symm (fun hq1 => ?_) (fun hq1 => ?_)
  · skip
    refine s_now 7 (v := .bool l) (v' := .bool false) (bool_eq hq1) kr ?_
    refine rp [.v] H2 kr fun gs3 w3 H3 => ?_
    show WPs _ _ _ _ [] _ _
    clear H2
    refine s_nil ?_
    refine g_cond_t kr kr ?_
    refine rS [.v] H3 kr fun gs4 w4 H4 => ?_
    clear H3
    refine g_ret kr ?_
    show ∃ vs, Res _ _ _ _ vs ∧ _
    refine ⟨[.int .i64 0], (.tmp (.int .i64 0) kr .nil), ?_, H4.below⟩
    rw [hq1]; rfl
  · skip
    refine s_now 7 (v := .bool l) (v' := .bool true) (bool_eq hq1) kr ?_
    refine rp [.v] H2 kr fun gs5 w5 H5 => ?_
    show WPs _ _ _ _ [] _ _
    clear H2
    refine s_nil ?_
    refine g_cond_f kr kr ?_
    refine g_skip kr ?_
    show WP _ _ _ _ _ _
    refine rS [.v] H5 kr fun gs6 w6 H6 => ?_
    clear H5
    refine g_seq kr ?_
    refine rS [.v, .l 0, .v, .v] H6 kr fun gs7 w7 H7 => ?_
    clear H6
    refine g_block 0 kr ?_
    have HL1 : St w.heap.size w w7 [((gs1 0).b, Obj.cells #[.bool l, .string s, .slice p n c] 68 (0, 0))] := H7.as kr
    clear H7
    have HD2 : St w.heap.size w w7 [] := HL1.sub (List.Sublist.cons _ List.Sublist.slnil)
    refine g_loop kr (fun mz ρ ww => ∃ (i : Nat) (r : Fo) (d : Nat), n - i = mz ∧ (FoR w.heap.size w p i r) ∧ (i + Fo.len r = n) ∧ (Fo.cnt r ≤ Fo.cnt k) ∧ (dpF k = max d (dpF r)) ∧ St w.heap.size w ww [] ∧ Is [(0, .agg #[.bool l, .string s, .slice p n c]), (1, .pointer (some ⟨(gs1 0).b, 0, none⟩)), (2, .int .i64 0), (3, .int .i64 ((d : Nat) : Int)), (8, .bool false), (10, .slice p n c), (11, .int .i64 ((n : Nat) : Int)), (12, .int .i64 ((i : Nat) : Int))] ρ) (n - 0) ⟨0, k, 0, rfl, (SlAt.start hpre), (by have hn0 := (hpre).1; omega), (Nat.le_refl _), (by omega), HD2, (Is.of ⟨kr, kr, kr, kr, kr, kr, kr, kr, trivial⟩)⟩ ?_
    clear HD2
    rintro _ _ w8 ⟨i, r, d, rfl, hR, hN, hcn, hd, H8, _, rfl⟩
    by_cases hc3 : (i : Nat) < n
    · skip
      refine rS [.e (v := .bool (decide (((i : Nat) : Int) < ((n : Nat) : Int)))) (v' := .bool true) (bool_eq (decide_eq_true (by omega)))] H8 kr fun gs9 w9 H9 => ?_
      clear H8
      refine g_seq kr ?_
      refine g_cond_t kr kr ?_
      refine g_skip kr ?_
      show WP _ _ _ _ _ _
      refine g_seq kr ?_
      refine g_block 1 kr ?_
      obtain ⟨l1, s1, k1, r1, b1, off1, C1, T1, fz1, p1, n1, c1, hr1, hp1, hb1, hh1, hs1, hx1, hz1, hk1, hR1, hN1⟩ := FoR.open hR hN (by omega)
      refine rS [.o (ins := [((.tmp 10), .slice p n c), ((.tmp 12), .int .i64 ((i : Nat) : Int))]) (v := .pointer (some ⟨b1, off1 + i * 3, none⟩)) (fun ρ o w ho hi => idxO_run (kd := .i64) (t := 66) (e := 68) (bytes := 48) kr (x := (.tmp 10)) (y := (.tmp 12)) b1 off1 n c i hp1 ho hi.1 hi.2.1 (by omega) w), .fp (off := off1 + i * 3) (n := 3) (W := #[.bool l1, .string s1, .slice p1 n1 c1]) hh1 hb1 hs1 hx1, .a, .s 0] H9 kr fun gs10 w10 H10 => ?_
      clear H9
      have hcn1 := hcn
      rw [hr1] at hcn1
      simp only [Fo.cnt] at hcn1
      refine rL [.v, .l 0, .cp (pre := fun w => SlAt w.heap.size w p1 n1 k1) (ih l1 s1 p1 n1 c1 k1 hz1 (by omega) (by omega)) [] (fun w hb hd => (SlAt.call hk1 hb)), .e (v := .int .i64 (if (((dp1 l1 (dpF k1) : Nat) : Int) : Int) > (((d : Nat) : Int) : Int) then (((dp1 l1 (dpF k1) : Nat) : Int) : Int) else (((d : Nat) : Int) : Int))) (v' := .int .i64 ((max d (dp1 l1 (dpF k1)) : Nat) : Int)) (int_eq (maxN d (dp1 l1 (dpF k1)))), .v] H10 kr fun gs11 w11 H11 => ?_
      clear H10
      show WP _ _ _ _ _ _
      refine g_keep [0, 1, 2, 3, 5, 8, 10, 11, 12, 13] fun ρ1 => ?_
      have HK4 := H11.keep
      clear H11
      refine rL [.e (v := .int .i64 (IntKind.i64.wrap (((i : Nat) : Int) + 1))) (v' := .int .i64 ((i + 1 : Nat) : Int)) (int_eq (wrapAdd_i64 (a := i) (b := 1) (by omega))), .v] HK4 kr fun gs12 w12 H12 => ?_
      clear HK4
      have HL5 : St w.heap.size w w12 [((gs10 2).b, Obj.cells #[.bool l1, .string s1, .slice p1 n1 c1] 68 (0, 0))] := H12.as kr
      clear H12
      have HD6 : St w.heap.size w w12 [] := HL5.sub (List.Sublist.cons _ List.Sublist.slnil)
      show ∃ m, _ ∧ _
      exact ⟨_, (by omega), (i + 1), r1, (max d (dp1 l1 (dpF k1))), rfl, hR1, hN1, (by omega), (by rw [hd, hr1]; simp only [dpF]; omega), HD6, (Is.of ⟨kr, kr, kr, kr, kr, kr, kr, kr, trivial⟩)⟩
    · skip
      refine rS [.e (v := .bool (decide (((i : Nat) : Int) < ((n : Nat) : Int)))) (v' := .bool false) (bool_eq (decide_eq_false (by omega)))] H8 kr fun gs13 w13 H13 => ?_
      clear H8
      refine g_seq kr ?_
      refine g_cond_f kr kr ?_
      refine g_exit 0 kr ?_
      show WP _ _ _ _ _ _
      refine rS [.v, .e (v := .int .i64 (IntKind.i64.wrap (1 + ((d : Nat) : Int)))) (v' := .int .i64 ((1 + d : Nat) : Int)) (int_eq (wrapAdd_i64 (a := 1) (b := d) (by omega))), .v] H13 kr fun gs14 w14 H14 => ?_
      clear H13
      refine g_ret kr ?_
      show ∃ vs, Res _ _ _ _ vs ∧ _
      refine ⟨[.int .i64 ((1 + d : Nat) : Int)], (.tmp (.int .i64 ((1 + d : Nat) : Int)) kr .nil), ?_, H14.below⟩
      refine int_eq ?_
      rw [hq1, hd, FoR.done hN (by omega)]; show ((1 + d : Nat) : Int) = ((1 + max d 0 : Nat) : Int); omega
theorem depth_fn (l : Bool) (s : ByteArray) (p : Option Addr) (n c : Nat) (k : Fo) (hs : s.size ≤ 140737488355328) (hk6 : k.cnt ≤ 1000000) : FnP Tryz.prog 47 #[.agg #[.bool l, .string s, .slice p n c]] (fun w => SlAt w.heap.size w p n k) (.int .i64 ((dp1 l (dpF k) : Nat) : Int)) := by
  have key : ∀ (m : Nat) (l : Bool) (s : ByteArray) (p : Option Addr) (n c : Nat) (k : Fo), s.size ≤ 140737488355328 → k.cnt ≤ 1000000 → k.cnt < m → FnP Tryz.prog 47 #[.agg #[.bool l, .string s, .slice p n c]] (fun w => SlAt w.heap.size w p n k) (.int .i64 ((dp1 l (dpF k) : Nat) : Int)) := by
    intro m
    induction m with
    | zero => intros; omega
    | succ m ih => intro l s p n c k hs hk6 hkm; exact depth_step m ih l s p n c k hs hk6 hkm
  exact key (k.cnt + 1) l s p n c k hs hk6 (by omega)
set_option maxRecDepth 100000 in
set_option maxHeartbeats 2000000 in
theorem single_fn (s : ByteArray) : Fn Tryz.prog 72 #[.string s] (.bool (single s)) := by
  refine Fn.intro (c := codeOf Tryz.f72) [.tmp 2] 11 Tryz.func72 kr kr kr fun w => ?_
  have H0 := St.start w
  refine rS [.v] H0 kr fun gs1 w1 H1 => ?_
  clear H0
  refine g_sreg [0, 1, 2, 3, 4, 5, 6, 7, 8] kr kr ?_
  refine rp [.v, .v] H1 kr fun gs2 w2 H2 => ?_
  show WPs _ _ _ _ [2, 3, 4, 5, 6, 7, 8] _ _
  clear H1
  by_cases hc1 : (ByteArray.size s : Nat) = 1
  · skip
    refine rp [.e (v := .bool (((ByteArray.size s : Nat) : Int) == 1)) (v' := .bool true) (bool_eq (beq_iff_eq.2 (by omega))), .v, .v, .o (ins := [((.tmp 7), .string s), ((.const (.int .i64 0)), .int .i64 0)]) (v := .int .u8 ((by_ s 0 : Nat) : Int)) (fun ρ o w ho hi => sindex_run (t := 9) (kd := .i64) kr (x := (.tmp 7)) (y := (.const (.int .i64 0))) s 0 ho hi.1 hi.2.1 (by omega) w)] H2 kr fun gs3 w3 H3 => ?_
    show WPs _ _ _ _ [6, 7, 8] _ _
    clear H2
    by_cases hc2 : (by_ s 0 : Nat) < 128
    · skip
      refine rp [.e (v := .bool (decide (((by_ s 0 : Nat) : Int) < 128))) (v' := .bool true) (bool_eq (decide_eq_true (by omega))), .v, .v] H3 kr fun gs4 w4 H4 => ?_
      show WPs _ _ _ _ [] _ _
      clear H3
      refine s_nil ?_
      refine g_ret kr ?_
      show ∃ vs, Res _ _ _ _ vs ∧ _
      refine ⟨[.bool true], (.tmp (.bool true) kr .nil), ?_, H4.below⟩
      exact bool_eq (by unfold single; simp [*])
    · skip
      refine rp [.e (v := .bool (decide (((by_ s 0 : Nat) : Int) < 128))) (v' := .bool false) (bool_eq (decide_eq_false (by omega))), .v, .v] H3 kr fun gs5 w5 H5 => ?_
      show WPs _ _ _ _ [] _ _
      clear H3
      refine s_nil ?_
      refine g_ret kr ?_
      show ∃ vs, Res _ _ _ _ vs ∧ _
      refine ⟨[.bool false], (.tmp (.bool false) kr .nil), ?_, H5.below⟩
      exact bool_eq (by unfold single; simp [*])
  · skip
    refine rp [.e (v := .bool (((ByteArray.size s : Nat) : Int) == 1)) (v' := .bool false) (bool_eq (beq_eq_false_iff_ne.2 (by omega))), .v, .n, .n, .n, .v, .v] H2 kr fun gs6 w6 H6 => ?_
    show WPs _ _ _ _ [] _ _
    clear H2
    refine s_nil ?_
    refine g_ret kr ?_
    show ∃ vs, Res _ _ _ _ vs ∧ _
    refine ⟨[.bool false], (.tmp (.bool false) kr .nil), ?_, H6.below⟩
    exact bool_eq (by unfold single; simp [*])
end Go.Proofs.YtmiachbcihalpaaGreatDoor

namespace Go.Proofs.YtmiachbcihalpaaGreatDoor
open Go Go.RowKit
set_option linter.unusedVariables false
set_option maxRecDepth 100000 in
set_option maxHeartbeats 2000000 in
theorem trimByte_fn (s : ByteArray) (hs : ByteArray.size s ≤ 140737488355328) : Fn Tryz.prog 118 #[.string s, .int .u8 0] (.string (strB ((tl s).dropWhile (· == 0)))) := by
  refine Fn.intro (c := codeOf Tryz.f118) [.tmp 4] 17 Tryz.func118 kr kr kr fun w => ?_
  have H0 := St.start w
  refine rS [.v] H0 kr fun gs1 w1 H1 => ?_
  clear H0
  refine g_seq kr ?_
  refine g_block 0 kr ?_
  have HL1 : St w.heap.size w w1 [] := H1.as kr
  clear H1
  refine g_loop kr (fun mz ρ ww => ∃ (t : ByteArray), ByteArray.size t = mz ∧ ((tl t).dropWhile (· == 0) = (tl s).dropWhile (· == 0)) ∧ (ByteArray.size t ≤ ByteArray.size s) ∧ St w.heap.size w ww [] ∧ Is [(0, .string t), (1, .int .u8 0), (4, .string (⟨#[]⟩))] ρ) (ByteArray.size s) ⟨s, rfl, rfl, (Nat.le_refl _), HL1, (Is.of ⟨kr, kr, kr, trivial⟩)⟩ ?_
  clear HL1
  rintro _ _ w2 ⟨t, rfl, ht, htz, H2, _, rfl⟩
  refine g_seq kr ?_
  refine g_sreg [0, 1, 2, 3, 4, 5, 6, 7, 8] kr kr ?_
  refine rp [.v, .v] H2 kr fun gs3 w3 H3 => ?_
  show WPs _ _ _ _ [2, 3, 4, 5, 6, 7, 8] _ _
  clear H2
  by_cases hc2 : (ByteArray.size t : Nat) > 0
  · skip
    refine rp [.e (v := .bool (decide (0 < ((ByteArray.size t : Nat) : Int)))) (v' := .bool true) (bool_eq (decide_eq_true (by omega))), .v, .v, .o (ins := [((.tmp 9), .string t), ((.const (.int .i64 0)), .int .i64 0)]) (v := .int .u8 ((by_ t 0 : Nat) : Int)) (fun ρ o w ho hi => sindex_run (t := 9) (kd := .i64) kr (x := (.tmp 9)) (y := (.const (.int .i64 0))) t 0 ho hi.1 hi.2.1 (by omega) w), .v] H3 kr fun gs4 w4 H4 => ?_
    show WPs _ _ _ _ [7, 8] _ _
    clear H3
    by_cases hc3 : (by_ t 0 : Nat) = 0
    · skip
      refine rp [.e (v := .bool (((by_ t 0 : Nat) : Int) == 0)) (v' := .bool true) (bool_eq (beq_iff_eq.2 (by omega))), .v] H4 kr fun gs5 w5 H5 => ?_
      show WPs _ _ _ _ [] _ _
      clear H4
      refine s_nil ?_
      refine g_cond_t kr kr ?_
      refine g_skip kr ?_
      show WP _ _ _ _ _ _
      refine g_block 1 kr ?_
      refine rL [.v, .o (ins := [((.tmp 14), .string t), ((.const (.int .i64 1)), .int .i64 1)]) (v := .string (ByteArray.extract t 1 (ByteArray.size t))) (fun ρ o w ho hi => scut3_run (t := 9) (kz := .i64) kr (x := (.tmp 14)) (z := (.const (.int .i64 1))) t 1 ho hi.1 hi.2.1 (by omega) w), .v] H5 kr fun gs6 w6 H6 => ?_
      clear H5
      have HL4 : St w.heap.size w w6 [] := H6.as kr
      clear H6
      show ∃ m, _ ∧ _
      exact ⟨_, (by rw [cut1_size t (by omega)]; omega), (ByteArray.extract t 1 (ByteArray.size t)), rfl, (by rw [trim_next t (by omega) (by omega)]; exact ht), (by rw [cut1_size t (by omega)]; omega), HL4, (Is.of ⟨kr, kr, kr, trivial⟩)⟩
    · skip
      refine rp [.e (v := .bool (((by_ t 0 : Nat) : Int) == 0)) (v' := .bool false) (bool_eq (beq_eq_false_iff_ne.2 (by omega))), .v] H4 kr fun gs7 w7 H7 => ?_
      show WPs _ _ _ _ [] _ _
      clear H4
      refine s_nil ?_
      refine g_cond_f kr kr ?_
      refine g_exit 0 kr ?_
      show WP _ _ _ _ _ _
      refine rS [.v, .v] H7 kr fun gs8 w8 H8 => ?_
      clear H7
      refine g_ret kr ?_
      show ∃ vs, Res _ _ _ _ vs ∧ _
      refine ⟨[.string t], (.tmp (.string t) kr .nil), ?_, H8.below⟩
      have hdone : strB ((tl s).dropWhile (· == 0)) = t := by rw [← ht]; exact trim_done t (by omega)
      exact congrArg Value.string hdone.symm
  · skip
    refine rp [.e (v := .bool (decide (0 < ((ByteArray.size t : Nat) : Int)))) (v' := .bool false) (bool_eq (decide_eq_false (by omega))), .v, .n, .n, .n, .n, .v] H3 kr fun gs9 w9 H9 => ?_
    show WPs _ _ _ _ [] _ _
    clear H3
    refine s_nil ?_
    refine g_cond_f kr kr ?_
    refine g_exit 0 kr ?_
    show WP _ _ _ _ _ _
    refine rS [.v, .v] H9 kr fun gs10 w10 H10 => ?_
    clear H9
    refine g_ret kr ?_
    show ∃ vs, Res _ _ _ _ vs ∧ _
    refine ⟨[.string t], (.tmp (.string t) kr .nil), ?_, H10.below⟩
    have hdone : strB ((tl s).dropWhile (· == 0)) = t := by rw [← ht]; exact trim_done t (by omega)
    exact congrArg Value.string hdone.symm
set_option maxRecDepth 100000 in
set_option maxHeartbeats 2000000 in
theorem trim_fn (s : ByteArray) (hs : ByteArray.size s ≤ 140737488355328) : Fn Tryz.prog 112 #[.string s, .string (⟨#[0]⟩)] (.string (strB ((tl s).dropWhile (· == 0)))) := by
  refine Fn.intro (c := codeOf Tryz.f112) [.tmp 4] 37 Tryz.func112 kr kr kr fun w => ?_
  have H0 := St.start w
  refine rS [.v] H0 kr fun gs1 w1 H1 => ?_
  clear H0
  refine g_seq kr ?_
  refine g_sreg [0, 1, 2, 3, 4, 5] kr kr ?_
  refine rp [.v] H1 kr fun gs2 w2 H2 => ?_
  show WPs _ _ _ _ [1, 2, 3, 4, 5] _ _
  clear H1
  by_cases hx1 : s = ⟨#[]⟩
  · skip
    refine rp [.e (v := .bool (ByteArray.toList s == ByteArray.toList (⟨#[]⟩))) (v' := .bool true) (bool_eq (str_same s (⟨#[]⟩) hx1)), .v, .n, .n, .v] H2 kr fun gs3 w3 H3 => ?_
    show WPs _ _ _ _ [] _ _
    clear H2
    refine s_nil ?_
    refine g_cond_t kr kr ?_
    refine rS [.v, .v] H3 kr fun gs4 w4 H4 => ?_
    clear H3
    refine g_ret kr ?_
    show ∃ vs, Res _ _ _ _ vs ∧ _
    refine ⟨[.string s], (.tmp (.string s) kr .nil), ?_, H4.below⟩
    exact congrArg Value.string (trim_empty (by assumption)).symm
  · skip
    refine rp [.e (v := .bool (ByteArray.toList s == ByteArray.toList (⟨#[]⟩))) (v' := .bool false) (bool_eq (str_other s (⟨#[]⟩) hx1)), .v, .v, .e (v := .bool (ByteArray.toList (⟨#[0]⟩) == ByteArray.toList (⟨#[]⟩))) (v' := .bool false) (bool_eq (str_other (⟨#[0]⟩) (⟨#[]⟩) (fun h => absurd (congrArg ByteArray.size h) (by decide)))), .v] H2 kr fun gs5 w5 H5 => ?_
    show WPs _ _ _ _ [] _ _
    clear H2
    refine s_nil ?_
    refine g_cond_f kr kr ?_
    refine g_skip kr ?_
    show WP _ _ _ _ _ _
    refine g_seq kr ?_
    refine rS [.v, .v, .v, .v, .v, .oe (ins := [((.tmp 18), .string (⟨#[0]⟩)), ((.const (.int .i64 0)), .int .i64 0)]) (v := .int .u8 ((by_ (⟨#[0]⟩) 0 : Nat) : Int)) (v' := .int .u8 0) (fun ρ o w ho hi => sindex_run (t := 9) (kd := .i64) kr (x := (.tmp 18)) (y := (.const (.int .i64 0))) (⟨#[0]⟩) 0 ho hi.1 hi.2.1 (by decide) w) (int_eq (by decide)), .v, .v] H5 kr fun gs6 w6 H6 => ?_
    clear H5
    refine g_cond_t kr kr ?_
    refine rS [.v, .v, .oe (ins := [((.tmp 23), .string (⟨#[0]⟩)), ((.const (.int .i64 0)), .int .i64 0)]) (v := .int .u8 ((by_ (⟨#[0]⟩) 0 : Nat) : Int)) (v' := .int .u8 0) (fun ρ o w ho hi => sindex_run (t := 9) (kd := .i64) kr (x := (.tmp 23)) (y := (.const (.int .i64 0))) (⟨#[0]⟩) 0 ho hi.1 hi.2.1 (by decide) w) (int_eq (by decide)), .c (trimByte_fn s (by omega)), .v] H6 kr fun gs7 w7 H7 => ?_
    clear H6
    refine g_ret kr ?_
    show ∃ vs, Res _ _ _ _ vs ∧ _
    refine ⟨[.string (strB ((tl s).dropWhile (· == 0)))], (.tmp (.string (strB ((tl s).dropWhile (· == 0)))) kr .nil), ?_, H7.below⟩
    rfl
set_option maxRecDepth 100000 in
set_option maxHeartbeats 2000000 in
theorem digits_fn (n : Nat) (hn : n < 18446744073709551616) : Fn Tryz.prog 93 #[.int .u64 ((n : Nat) : Int)] (.string (strB (dg n))) := by
  refine Fn.intro (c := codeOf Tryz.f93) [.tmp 2] 20 Tryz.func93 kr kr kr fun w => ?_
  have H0 := St.start w
  refine rS [.v] H0 kr fun gs1 w1 H1 => ?_
  clear H0
  refine rS [.a] H1 kr fun gs2 w2 H2 => ?_
  clear H1
  refine g_seq kr ?_
  refine rS [.v] H2 kr fun gs3 w3 H3 => ?_
  clear H2
  refine g_block 0 kr ?_
  have HL1 : St w.heap.size w w3 [((gs2 0).b, Obj.cells #[.int .u8 0, .int .u8 0, .int .u8 0, .int .u8 0, .int .u8 0, .int .u8 0, .int .u8 0, .int .u8 0] 150 (0, 0))] := H3.as kr
  clear H3
  refine g_first kr ?_
  refine rS [.v] HL1 kr fun gs4 w4 H4 => ?_
  clear HL1
  refine g_seq kr ?_
  refine g_cond_t kr kr ?_
  refine g_skip kr ?_
  show WP _ _ _ _ _ _
  refine g_seq kr ?_
  refine g_block 1 kr ?_
  refine rS [.v, .v] H4 kr fun gs5 w5 H5 => ?_
  clear H4
  refine rL [.v, .v, .v, .v, .v, .e (v := .int .u64 (Int.fdiv (((n : Nat) : Int)) (2 ^ 0))) (v' := .int .u64 ((n : Nat) : Int)) (int_eq (shr0 (a := n) (by omega))), .e (v := .int .u8 (IntKind.u8.wrap (((n : Nat) : Int)))) (v' := .int .u8 ((BitVec.toNat (dgB n 1) : Nat) : Int)) (dgB_conv1 n), .v, .s 0] H5 kr fun gs6 w6 H6 => ?_
  clear H5
  show WP _ _ _ _ _ _
  have HL2 : St w.heap.size w w6 [((gs2 0).b, Obj.cells #[.int .u8 0, .int .u8 0, .int .u8 0, .int .u8 0, .int .u8 0, .int .u8 0, .int .u8 0, .int .u8 ((BitVec.toNat (dgB n 1) : Nat) : Int)] 150 (0, 0))] := H6.as kr
  clear H6
  refine rL [.v, .v] HL2 kr fun gs7 w7 H7 => ?_
  clear HL2
  show WPL _ _ _ _ _ _
  refine g_next ?_
  refine g_keep [0, 2, 3, 4, 5, 6] fun ρ1 => ?_
  have HK3 := H7.keep
  clear H7
  refine rS [.v] HK3 kr fun gs8 w8 H8 => ?_
  clear HK3
  refine g_seq kr ?_
  refine g_cond_t kr kr ?_
  refine g_skip kr ?_
  show WP _ _ _ _ _ _
  refine g_seq kr ?_
  refine g_block 1 kr ?_
  refine rS [.v, .v] H8 kr fun gs9 w9 H9 => ?_
  clear H8
  refine rL [.v, .v, .v, .v, .v, .e (v := .int .u64 (Int.fdiv ((n : Nat) : Int) (2 ^ 8))) (v' := .int .u64 ((n / 256 : Nat) : Int)) (int_eq (shrN (k := 8) n 256 rfl)), .e (v := .int .u8 (IntKind.u8.wrap (((n / 256 : Nat) : Int)))) (v' := .int .u8 ((BitVec.toNat (dgB n 256) : Nat) : Int)) (dgB_conv n 256), .v, .s 0] H9 kr fun gs10 w10 H10 => ?_
  clear H9
  show WP _ _ _ _ _ _
  have HL4 : St w.heap.size w w10 [((gs2 0).b, Obj.cells #[.int .u8 0, .int .u8 0, .int .u8 0, .int .u8 0, .int .u8 0, .int .u8 0, .int .u8 ((BitVec.toNat (dgB n 256) : Nat) : Int), .int .u8 ((BitVec.toNat (dgB n 1) : Nat) : Int)] 150 (0, 0))] := H10.as kr
  clear H10
  refine rL [.v, .v] HL4 kr fun gs11 w11 H11 => ?_
  clear HL4
  show WPL _ _ _ _ _ _
  refine g_next ?_
  refine rS [.v] H11 kr fun gs12 w12 H12 => ?_
  clear H11
  refine g_seq kr ?_
  refine g_cond_t kr kr ?_
  refine g_skip kr ?_
  show WP _ _ _ _ _ _
  refine g_seq kr ?_
  refine g_block 1 kr ?_
  refine rS [.v, .v] H12 kr fun gs13 w13 H13 => ?_
  clear H12
  refine g_keep [0, 2, 3, 4, 5, 6] fun ρ2 => ?_
  have HK5 := H13.keep
  clear H13
  refine rL [.v, .v, .v, .v, .v, .e (v := .int .u64 (Int.fdiv ((n : Nat) : Int) (2 ^ 16))) (v' := .int .u64 ((n / 65536 : Nat) : Int)) (int_eq (shrN (k := 16) n 65536 rfl)), .e (v := .int .u8 (IntKind.u8.wrap (((n / 65536 : Nat) : Int)))) (v' := .int .u8 ((BitVec.toNat (dgB n 65536) : Nat) : Int)) (dgB_conv n 65536), .v, .s 0] HK5 kr fun gs14 w14 H14 => ?_
  clear HK5
  show WP _ _ _ _ _ _
  have HL6 : St w.heap.size w w14 [((gs2 0).b, Obj.cells #[.int .u8 0, .int .u8 0, .int .u8 0, .int .u8 0, .int .u8 0, .int .u8 ((BitVec.toNat (dgB n 65536) : Nat) : Int), .int .u8 ((BitVec.toNat (dgB n 256) : Nat) : Int), .int .u8 ((BitVec.toNat (dgB n 1) : Nat) : Int)] 150 (0, 0))] := H14.as kr
  clear H14
  refine rL [.v, .v] HL6 kr fun gs15 w15 H15 => ?_
  clear HL6
  show WPL _ _ _ _ _ _
  refine g_next ?_
  refine rS [.v] H15 kr fun gs16 w16 H16 => ?_
  clear H15
  refine g_seq kr ?_
  refine g_cond_t kr kr ?_
  refine g_skip kr ?_
  show WP _ _ _ _ _ _
  refine g_seq kr ?_
  refine g_block 1 kr ?_
  refine rS [.v, .v] H16 kr fun gs17 w17 H17 => ?_
  clear H16
  refine rL [.v, .v, .v, .v, .v, .e (v := .int .u64 (Int.fdiv ((n : Nat) : Int) (2 ^ 24))) (v' := .int .u64 ((n / 16777216 : Nat) : Int)) (int_eq (shrN (k := 24) n 16777216 rfl)), .e (v := .int .u8 (IntKind.u8.wrap (((n / 16777216 : Nat) : Int)))) (v' := .int .u8 ((BitVec.toNat (dgB n 16777216) : Nat) : Int)) (dgB_conv n 16777216), .v, .s 0] H17 kr fun gs18 w18 H18 => ?_
  clear H17
  show WP _ _ _ _ _ _
  refine g_keep [0, 2, 3, 4, 5, 6] fun ρ3 => ?_
  have HK7 := H18.keep
  clear H18
  have HL8 : St w.heap.size w w18 [((gs2 0).b, Obj.cells #[.int .u8 0, .int .u8 0, .int .u8 0, .int .u8 0, .int .u8 ((BitVec.toNat (dgB n 16777216) : Nat) : Int), .int .u8 ((BitVec.toNat (dgB n 65536) : Nat) : Int), .int .u8 ((BitVec.toNat (dgB n 256) : Nat) : Int), .int .u8 ((BitVec.toNat (dgB n 1) : Nat) : Int)] 150 (0, 0))] := HK7.as kr
  clear HK7
  refine rL [.v, .v] HL8 kr fun gs19 w19 H19 => ?_
  clear HL8
  show WPL _ _ _ _ _ _
  refine g_next ?_
  refine rS [.v] H19 kr fun gs20 w20 H20 => ?_
  clear H19
  refine g_seq kr ?_
  refine g_cond_t kr kr ?_
  refine g_skip kr ?_
  show WP _ _ _ _ _ _
  refine g_seq kr ?_
  refine g_block 1 kr ?_
  refine rS [.v, .v] H20 kr fun gs21 w21 H21 => ?_
  clear H20
  refine rL [.v, .v, .v, .v, .v, .e (v := .int .u64 (Int.fdiv ((n : Nat) : Int) (2 ^ 32))) (v' := .int .u64 ((n / 4294967296 : Nat) : Int)) (int_eq (shrN (k := 32) n 4294967296 rfl)), .e (v := .int .u8 (IntKind.u8.wrap (((n / 4294967296 : Nat) : Int)))) (v' := .int .u8 ((BitVec.toNat (dgB n 4294967296) : Nat) : Int)) (dgB_conv n 4294967296), .v, .s 0] H21 kr fun gs22 w22 H22 => ?_
  clear H21
  show WP _ _ _ _ _ _
  have HL9 : St w.heap.size w w22 [((gs2 0).b, Obj.cells #[.int .u8 0, .int .u8 0, .int .u8 0, .int .u8 ((BitVec.toNat (dgB n 4294967296) : Nat) : Int), .int .u8 ((BitVec.toNat (dgB n 16777216) : Nat) : Int), .int .u8 ((BitVec.toNat (dgB n 65536) : Nat) : Int), .int .u8 ((BitVec.toNat (dgB n 256) : Nat) : Int), .int .u8 ((BitVec.toNat (dgB n 1) : Nat) : Int)] 150 (0, 0))] := H22.as kr
  clear H22
  refine rL [.v, .v] HL9 kr fun gs23 w23 H23 => ?_
  clear HL9
  show WPL _ _ _ _ _ _
  refine g_next ?_
  refine rS [.v] H23 kr fun gs24 w24 H24 => ?_
  clear H23
  refine g_keep [0, 2, 3, 4, 5, 6] fun ρ4 => ?_
  have HK10 := H24.keep
  clear H24
  refine g_seq kr ?_
  refine g_cond_t kr kr ?_
  refine g_skip kr ?_
  show WP _ _ _ _ _ _
  refine g_seq kr ?_
  refine g_block 1 kr ?_
  refine rS [.v, .v] HK10 kr fun gs25 w25 H25 => ?_
  clear HK10
  refine rL [.v, .v, .v, .v, .v, .e (v := .int .u64 (Int.fdiv ((n : Nat) : Int) (2 ^ 40))) (v' := .int .u64 ((n / 1099511627776 : Nat) : Int)) (int_eq (shrN (k := 40) n 1099511627776 rfl)), .e (v := .int .u8 (IntKind.u8.wrap (((n / 1099511627776 : Nat) : Int)))) (v' := .int .u8 ((BitVec.toNat (dgB n 1099511627776) : Nat) : Int)) (dgB_conv n 1099511627776), .v, .s 0] H25 kr fun gs26 w26 H26 => ?_
  clear H25
  show WP _ _ _ _ _ _
  have HL11 : St w.heap.size w w26 [((gs2 0).b, Obj.cells #[.int .u8 0, .int .u8 0, .int .u8 ((BitVec.toNat (dgB n 1099511627776) : Nat) : Int), .int .u8 ((BitVec.toNat (dgB n 4294967296) : Nat) : Int), .int .u8 ((BitVec.toNat (dgB n 16777216) : Nat) : Int), .int .u8 ((BitVec.toNat (dgB n 65536) : Nat) : Int), .int .u8 ((BitVec.toNat (dgB n 256) : Nat) : Int), .int .u8 ((BitVec.toNat (dgB n 1) : Nat) : Int)] 150 (0, 0))] := H26.as kr
  clear H26
  refine rL [.v, .v] HL11 kr fun gs27 w27 H27 => ?_
  clear HL11
  show WPL _ _ _ _ _ _
  refine g_next ?_
  refine rS [.v] H27 kr fun gs28 w28 H28 => ?_
  clear H27
  refine g_seq kr ?_
  refine g_cond_t kr kr ?_
  refine g_skip kr ?_
  show WP _ _ _ _ _ _
  refine g_seq kr ?_
  refine g_block 1 kr ?_
  refine rS [.v, .v] H28 kr fun gs29 w29 H29 => ?_
  clear H28
  refine rL [.v, .v, .v, .v, .v, .e (v := .int .u64 (Int.fdiv ((n : Nat) : Int) (2 ^ 48))) (v' := .int .u64 ((n / 281474976710656 : Nat) : Int)) (int_eq (shrN (k := 48) n 281474976710656 rfl)), .e (v := .int .u8 (IntKind.u8.wrap (((n / 281474976710656 : Nat) : Int)))) (v' := .int .u8 ((BitVec.toNat (dgB n 281474976710656) : Nat) : Int)) (dgB_conv n 281474976710656), .v, .s 0] H29 kr fun gs30 w30 H30 => ?_
  clear H29
  show WP _ _ _ _ _ _
  refine g_keep [0, 2, 3, 4, 5, 6] fun ρ5 => ?_
  have HK12 := H30.keep
  clear H30
  have HL13 : St w.heap.size w w30 [((gs2 0).b, Obj.cells #[.int .u8 0, .int .u8 ((BitVec.toNat (dgB n 281474976710656) : Nat) : Int), .int .u8 ((BitVec.toNat (dgB n 1099511627776) : Nat) : Int), .int .u8 ((BitVec.toNat (dgB n 4294967296) : Nat) : Int), .int .u8 ((BitVec.toNat (dgB n 16777216) : Nat) : Int), .int .u8 ((BitVec.toNat (dgB n 65536) : Nat) : Int), .int .u8 ((BitVec.toNat (dgB n 256) : Nat) : Int), .int .u8 ((BitVec.toNat (dgB n 1) : Nat) : Int)] 150 (0, 0))] := HK12.as kr
  clear HK12
  refine rL [.v, .v] HL13 kr fun gs31 w31 H31 => ?_
  clear HL13
  show WPL _ _ _ _ _ _
  refine g_next ?_
  refine rS [.v] H31 kr fun gs32 w32 H32 => ?_
  clear H31
  refine g_seq kr ?_
  refine g_cond_t kr kr ?_
  refine g_skip kr ?_
  show WP _ _ _ _ _ _
  refine g_seq kr ?_
  refine g_block 1 kr ?_
  refine rS [.v, .v] H32 kr fun gs33 w33 H33 => ?_
  clear H32
  refine rL [.v, .v, .v, .v, .v, .e (v := .int .u64 (Int.fdiv ((n : Nat) : Int) (2 ^ 56))) (v' := .int .u64 ((n / 72057594037927936 : Nat) : Int)) (int_eq (shrN (k := 56) n 72057594037927936 rfl)), .e (v := .int .u8 (IntKind.u8.wrap (((n / 72057594037927936 : Nat) : Int)))) (v' := .int .u8 ((BitVec.toNat (dgB n 72057594037927936) : Nat) : Int)) (dgB_conv n 72057594037927936), .v, .s 0] H33 kr fun gs34 w34 H34 => ?_
  clear H33
  show WP _ _ _ _ _ _
  have HL14 : St w.heap.size w w34 [((gs2 0).b, Obj.cells #[.int .u8 ((BitVec.toNat (dgB n 72057594037927936) : Nat) : Int), .int .u8 ((BitVec.toNat (dgB n 281474976710656) : Nat) : Int), .int .u8 ((BitVec.toNat (dgB n 1099511627776) : Nat) : Int), .int .u8 ((BitVec.toNat (dgB n 4294967296) : Nat) : Int), .int .u8 ((BitVec.toNat (dgB n 16777216) : Nat) : Int), .int .u8 ((BitVec.toNat (dgB n 65536) : Nat) : Int), .int .u8 ((BitVec.toNat (dgB n 256) : Nat) : Int), .int .u8 ((BitVec.toNat (dgB n 1) : Nat) : Int)] 150 (0, 0))] := H34.as kr
  clear H34
  refine rL [.v, .v] HL14 kr fun gs35 w35 H35 => ?_
  clear HL14
  show WPL _ _ _ _ _ _
  refine g_next ?_
  refine rS [.v] H35 kr fun gs36 w36 H36 => ?_
  clear H35
  refine g_keep [0, 2, 3, 4, 5, 6] fun ρ6 => ?_
  have HK15 := H36.keep
  clear H36
  refine g_seq kr ?_
  refine g_cond_f kr kr ?_
  refine g_exit 0 kr ?_
  show WP _ _ _ _ _ _
  have HL16 : St w.heap.size w w36 [((gs2 0).b, Obj.cells #[.int .u8 ((BitVec.toNat (dgB n 72057594037927936) : Nat) : Int), .int .u8 ((BitVec.toNat (dgB n 281474976710656) : Nat) : Int), .int .u8 ((BitVec.toNat (dgB n 1099511627776) : Nat) : Int), .int .u8 ((BitVec.toNat (dgB n 4294967296) : Nat) : Int), .int .u8 ((BitVec.toNat (dgB n 16777216) : Nat) : Int), .int .u8 ((BitVec.toNat (dgB n 65536) : Nat) : Int), .int .u8 ((BitVec.toNat (dgB n 256) : Nat) : Int), .int .u8 ((BitVec.toNat (dgB n 1) : Nat) : Int)] 150 (0, 0))] := HK15.as kr
  clear HK15
  have hz_1 : ∀ (ρ : Env) (o : Oper) (w : World), o.op = .slice 150 (.tmp 3) none none none → Ins (ev ρ) [((.tmp 3), .pointer (some ⟨(gs2 0).b, 0, none⟩))] → (execOp (ev ρ) o).run Tryz.prog w = .ok (.value (.slice (some ⟨(gs2 0).b, 0, none⟩) 8 8)) w := (fun ρ o w ho hi => slArr_run (t := 150) (n := 8) (e := 5) (z := 1) kr kr (x := (.tmp 3)) ((gs2 0).b) ho hi.1 w)
  refine rS [.o hz_1, .x (op := .convert 88 9 (.tmp 17)) (ins := [((.tmp 17), .slice (some ⟨(gs2 0).b, 0, none⟩) 8 8)]) [(0, ((gs2 0).b, Obj.cells #[.int .u8 ((BitVec.toNat (dgB n 72057594037927936) : Nat) : Int), .int .u8 ((BitVec.toNat (dgB n 281474976710656) : Nat) : Int), .int .u8 ((BitVec.toNat (dgB n 1099511627776) : Nat) : Int), .int .u8 ((BitVec.toNat (dgB n 4294967296) : Nat) : Int), .int .u8 ((BitVec.toNat (dgB n 16777216) : Nat) : Int), .int .u8 ((BitVec.toNat (dgB n 65536) : Nat) : Int), .int .u8 ((BitVec.toNat (dgB n 256) : Nat) : Int), .int .u8 ((BitVec.toNat (dgB n 1) : Nat) : Int)] 150 (0, 0)))] (bytesX (t := 88) (t' := 9) (e := 5) [((BitVec.toNat (dgB n 72057594037927936) : Nat) : Int), ((BitVec.toNat (dgB n 281474976710656) : Nat) : Int), ((BitVec.toNat (dgB n 1099511627776) : Nat) : Int), ((BitVec.toNat (dgB n 4294967296) : Nat) : Int), ((BitVec.toNat (dgB n 16777216) : Nat) : Int), ((BitVec.toNat (dgB n 65536) : Nat) : Int), ((BitVec.toNat (dgB n 256) : Nat) : Int), ((BitVec.toNat (dgB n 1) : Nat) : Int)] kr kr kr (Rw.lit #[.int .u8 ((BitVec.toNat (dgB n 72057594037927936) : Nat) : Int), .int .u8 ((BitVec.toNat (dgB n 281474976710656) : Nat) : Int), .int .u8 ((BitVec.toNat (dgB n 1099511627776) : Nat) : Int), .int .u8 ((BitVec.toNat (dgB n 4294967296) : Nat) : Int), .int .u8 ((BitVec.toNat (dgB n 16777216) : Nat) : Int), .int .u8 ((BitVec.toNat (dgB n 65536) : Nat) : Int), .int .u8 ((BitVec.toNat (dgB n 256) : Nat) : Int), .int .u8 ((BitVec.toNat (dgB n 1) : Nat) : Int)] 8 (by rfl) (by unfold maxLen; omega))), .c (trim_fn (strOfNums ([((BitVec.toNat (dgB n 72057594037927936) : Nat) : Int), ((BitVec.toNat (dgB n 281474976710656) : Nat) : Int), ((BitVec.toNat (dgB n 1099511627776) : Nat) : Int), ((BitVec.toNat (dgB n 4294967296) : Nat) : Int), ((BitVec.toNat (dgB n 16777216) : Nat) : Int), ((BitVec.toNat (dgB n 65536) : Nat) : Int), ((BitVec.toNat (dgB n 256) : Nat) : Int), ((BitVec.toNat (dgB n 1) : Nat) : Int)])) (by rw [strOfNums_size]; show 8 ≤ 140737488355328; omega)), .v] HL16 kr fun gs37 w37 H37 => ?_
  clear HL16
  refine g_ret kr ?_
  show ∃ vs, Res _ _ _ _ vs ∧ _
  refine ⟨[.string (strB ((tl (strOfNums ([((BitVec.toNat (dgB n 72057594037927936) : Nat) : Int), ((BitVec.toNat (dgB n 281474976710656) : Nat) : Int), ((BitVec.toNat (dgB n 1099511627776) : Nat) : Int), ((BitVec.toNat (dgB n 4294967296) : Nat) : Int), ((BitVec.toNat (dgB n 16777216) : Nat) : Int), ((BitVec.toNat (dgB n 65536) : Nat) : Int), ((BitVec.toNat (dgB n 256) : Nat) : Int), ((BitVec.toNat (dgB n 1) : Nat) : Int)]))).dropWhile (· == 0)))], (.tmp (.string (strB ((tl (strOfNums ([((BitVec.toNat (dgB n 72057594037927936) : Nat) : Int), ((BitVec.toNat (dgB n 281474976710656) : Nat) : Int), ((BitVec.toNat (dgB n 1099511627776) : Nat) : Int), ((BitVec.toNat (dgB n 4294967296) : Nat) : Int), ((BitVec.toNat (dgB n 16777216) : Nat) : Int), ((BitVec.toNat (dgB n 65536) : Nat) : Int), ((BitVec.toNat (dgB n 256) : Nat) : Int), ((BitVec.toNat (dgB n 1) : Nat) : Int)]))).dropWhile (· == 0)))) kr .nil), ?_, H37.below⟩
  exact congrArg Value.string (congrArg strB (be_drop n hn))
set_option maxRecDepth 100000 in
set_option maxHeartbeats 2000000 in
theorem head_fn (l : Bool) (s : ByteArray) (p : Option Addr) (n c m : Nat) (hm : m < 18446744073709551616) : Fn Tryz.prog 74 #[.agg #[.bool l, .string s, .slice p n c], .int .u64 ((m : Nat) : Int)] (.string (strB (hd (frm l) m))) := by
  refine Fn.intro (c := codeOf Tryz.f74) [.tmp 4] 29 Tryz.func74 kr kr kr fun w => ?_
  have H0 := St.start w
  refine rS [.b, .v] H0 kr fun gs1 w1 H1 => ?_
  clear H0
  refine rS [.v] H1 kr fun gs2 w2 H2 => ?_
  clear H1
  refine g_seq kr ?_
  refine rS [.v, .l 0] H2 kr fun gs3 w3 H3 => ?_
  clear H2
  refine Or.elim (Bool.eq_false_or_eq_true (l)).symm (fun hq1 => ?_) (fun hq1 => ?_)
  · skip
    refine g_now 8 (v := .bool l) (v' := .bool false) (bool_eq hq1) kr ?_
    refine g_cond_f kr kr ?_
    refine g_skip kr ?_
    show WP _ _ _ _ _ _
    refine g_seq kr ?_
    refine g_sreg [0, 1] kr kr ?_
    refine rp [.v] H3 kr fun gs4 w4 H4 => ?_
    show WPs _ _ _ _ [1] _ _
    clear H3
    by_cases hc1 : (m : Nat) ≤ 55
    · skip
      refine rp [.e (v := .bool (decide (((m : Nat) : Int) ≤ 55))) (v' := .bool true) (bool_eq (decide_eq_true (by omega)))] H4 kr fun gs5 w5 H5 => ?_
      show WPs _ _ _ _ [] _ _
      clear H4
      refine s_nil ?_
      refine g_cond_t kr kr ?_
      refine rS [.v, .v, .e (v := .int .u8 (IntKind.u8.wrap (((m : Nat) : Int)))) (v' := .int .u8 ((BitVec.toNat (BitVec.ofNat 8 m) : Nat) : Int)) (bv_ofNat_u8 m), .e (v := .int .u8 (IntKind.u8.wrap ((128) + (((BitVec.toNat (BitVec.ofNat 8 m) : Nat) : Int))))) (v' := .int .u8 ((BitVec.toNat ((128 : BitVec 8) + (BitVec.ofNat 8 m)) : Nat) : Int)) (bv_add_u8 (128 : BitVec 8) (BitVec.ofNat 8 m)), .nw (fun b => .slice (some ⟨b, 0, none⟩) 1 1) #[.int .u8 ((BitVec.toNat ((128 : BitVec 8) + (BitVec.ofNat 8 m)) : Nat) : Int)] 5, .w fun nn => .x (op := .convert 88 9 (.tmp 15)) (ins := [((.tmp 15), .slice (some ⟨(nn 1), 0, none⟩) 1 1)]) [(1, ((nn 1), Obj.cells #[.int .u8 ((BitVec.toNat ((128 : BitVec 8) + (BitVec.ofNat 8 m)) : Nat) : Int)] 5 (0, 0)))] (bytesX (t := 88) (t' := 9) (e := 5) [((BitVec.toNat ((128 : BitVec 8) + (BitVec.ofNat 8 m)) : Nat) : Int)] kr kr kr (Rw.lit #[.int .u8 ((BitVec.toNat ((128 : BitVec 8) + (BitVec.ofNat 8 m)) : Nat) : Int)] 1 (by rfl) (by unfold maxLen; omega))), .v] H5 kr fun gs6 w6 H6 => ?_
      clear H5
      refine g_ret kr ?_
      show ∃ vs, Res _ _ _ _ vs ∧ _
      refine ⟨[.string (strOfNums ([((BitVec.toNat ((128 : BitVec 8) + (BitVec.ofNat 8 m)) : Nat) : Int)]))], (.tmp (.string (strOfNums ([((BitVec.toNat ((128 : BitVec 8) + (BitVec.ofNat 8 m)) : Nat) : Int)]))) kr .nil), ?_, H6.below⟩
      exact congrArg Value.string (hd_small (f := frm l) _ (by rw [hq1]; rfl) m (by omega) (by rw [hq1]; decide))
    · skip
      refine rp [.e (v := .bool (decide (((m : Nat) : Int) ≤ 55))) (v' := .bool false) (bool_eq (decide_eq_false (by omega)))] H4 kr fun gs7 w7 H7 => ?_
      show WPs _ _ _ _ [] _ _
      clear H4
      refine s_nil ?_
      refine g_cond_f kr kr ?_
      refine g_skip kr ?_
      show WP _ _ _ _ _ _
      refine rS [.v, .c (digits_fn m (by omega)), .v] H7 kr fun gs8 w8 H8 => ?_
      clear H7
      refine rS [.v, .v, .v, .v, .e (v := .int .u8 (IntKind.u8.wrap (((ByteArray.size (strB (dg m)) : Nat) : Int)))) (v' := .int .u8 ((BitVec.toNat (BitVec.ofNat 8 (ByteArray.size (strB (dg m)))) : Nat) : Int)) (bv_ofNat_u8 (ByteArray.size (strB (dg m)))), .e (v := .int .u8 (IntKind.u8.wrap ((183) + (((BitVec.toNat (BitVec.ofNat 8 (ByteArray.size (strB (dg m)))) : Nat) : Int))))) (v' := .int .u8 ((BitVec.toNat ((183 : BitVec 8) + (BitVec.ofNat 8 (ByteArray.size (strB (dg m))))) : Nat) : Int)) (bv_add_u8 (183 : BitVec 8) (BitVec.ofNat 8 (ByteArray.size (strB (dg m))))), .nw (fun b => .slice (some ⟨b, 0, none⟩) 1 1) #[.int .u8 ((BitVec.toNat ((183 : BitVec 8) + (BitVec.ofNat 8 (ByteArray.size (strB (dg m))))) : Nat) : Int)] 5, .w fun nn => .x (op := .convert 88 9 (.tmp 25)) (ins := [((.tmp 25), .slice (some ⟨(nn 1), 0, none⟩) 1 1)]) [(1, ((nn 1), Obj.cells #[.int .u8 ((BitVec.toNat ((183 : BitVec 8) + (BitVec.ofNat 8 (ByteArray.size (strB (dg m))))) : Nat) : Int)] 5 (0, 0)))] (bytesX (t := 88) (t' := 9) (e := 5) [((BitVec.toNat ((183 : BitVec 8) + (BitVec.ofNat 8 (ByteArray.size (strB (dg m))))) : Nat) : Int)] kr kr kr (Rw.lit #[.int .u8 ((BitVec.toNat ((183 : BitVec 8) + (BitVec.ofNat 8 (ByteArray.size (strB (dg m))))) : Nat) : Int)] 1 (by rfl) (by unfold maxLen; omega))), .v, .o (ins := [((.tmp 26), .string (strOfNums ([((BitVec.toNat ((183 : BitVec 8) + (BitVec.ofNat 8 (ByteArray.size (strB (dg m))))) : Nat) : Int)]))), ((.tmp 27), .string (strB (dg m)))]) (v := .string ((strOfNums ([((BitVec.toNat ((183 : BitVec 8) + (BitVec.ofNat 8 (ByteArray.size (strB (dg m))))) : Nat) : Int)])) ++ (strB (dg m)))) (fun ρ o w ho hi => sadd_run (t := 9) (t' := 9) (x := (.tmp 26)) (y := (.tmp 27)) (strOfNums ([((BitVec.toNat ((183 : BitVec 8) + (BitVec.ofNat 8 (ByteArray.size (strB (dg m))))) : Nat) : Int)])) (strB (dg m)) w ho hi.1 hi.2.1 (by rw [strOfNums_size, strB_size]; have := dg_len m; show 1 + _ ≤ _; omega)), .v] H8 kr fun gs9 w9 H9 => ?_
      clear H8
      refine g_ret kr ?_
      show ∃ vs, Res _ _ _ _ vs ∧ _
      refine ⟨[.string ((strOfNums ([((BitVec.toNat ((183 : BitVec 8) + (BitVec.ofNat 8 (ByteArray.size (strB (dg m))))) : Nat) : Int)])) ++ (strB (dg m)))], (.tmp (.string ((strOfNums ([((BitVec.toNat ((183 : BitVec 8) + (BitVec.ofNat 8 (ByteArray.size (strB (dg m))))) : Nat) : Int)])) ++ (strB (dg m)))) kr .nil), ?_, H9.below⟩
      exact congrArg Value.string (hd_big (f := frm l) _ (by rw [hq1]; rfl) m (by omega) (by rw [hq1]; decide))
  · skip
    refine g_now 8 (v := .bool l) (v' := .bool true) (bool_eq hq1) kr ?_
    refine g_cond_t kr kr ?_
    refine rL [.v] H3 kr fun gs10 w10 H10 => ?_
    clear H3
    show WP _ _ _ _ _ _
    refine g_seq kr ?_
    refine g_sreg [0, 1] kr kr ?_
    refine rp [.v] H10 kr fun gs11 w11 H11 => ?_
    show WPs _ _ _ _ [1] _ _
    clear H10
    by_cases hc2 : (m : Nat) ≤ 55
    · skip
      refine rp [.e (v := .bool (decide (((m : Nat) : Int) ≤ 55))) (v' := .bool true) (bool_eq (decide_eq_true (by omega)))] H11 kr fun gs12 w12 H12 => ?_
      show WPs _ _ _ _ [] _ _
      clear H11
      refine s_nil ?_
      refine g_cond_t kr kr ?_
      refine rS [.v, .v, .e (v := .int .u8 (IntKind.u8.wrap (((m : Nat) : Int)))) (v' := .int .u8 ((BitVec.toNat (BitVec.ofNat 8 m) : Nat) : Int)) (bv_ofNat_u8 m), .e (v := .int .u8 (IntKind.u8.wrap ((192) + (((BitVec.toNat (BitVec.ofNat 8 m) : Nat) : Int))))) (v' := .int .u8 ((BitVec.toNat ((192 : BitVec 8) + (BitVec.ofNat 8 m)) : Nat) : Int)) (bv_add_u8 (192 : BitVec 8) (BitVec.ofNat 8 m)), .nw (fun b => .slice (some ⟨b, 0, none⟩) 1 1) #[.int .u8 ((BitVec.toNat ((192 : BitVec 8) + (BitVec.ofNat 8 m)) : Nat) : Int)] 5, .w fun nn => .x (op := .convert 88 9 (.tmp 15)) (ins := [((.tmp 15), .slice (some ⟨(nn 1), 0, none⟩) 1 1)]) [(1, ((nn 1), Obj.cells #[.int .u8 ((BitVec.toNat ((192 : BitVec 8) + (BitVec.ofNat 8 m)) : Nat) : Int)] 5 (0, 0)))] (bytesX (t := 88) (t' := 9) (e := 5) [((BitVec.toNat ((192 : BitVec 8) + (BitVec.ofNat 8 m)) : Nat) : Int)] kr kr kr (Rw.lit #[.int .u8 ((BitVec.toNat ((192 : BitVec 8) + (BitVec.ofNat 8 m)) : Nat) : Int)] 1 (by rfl) (by unfold maxLen; omega))), .v] H12 kr fun gs13 w13 H13 => ?_
      clear H12
      refine g_ret kr ?_
      show ∃ vs, Res _ _ _ _ vs ∧ _
      refine ⟨[.string (strOfNums ([((BitVec.toNat ((192 : BitVec 8) + (BitVec.ofNat 8 m)) : Nat) : Int)]))], (.tmp (.string (strOfNums ([((BitVec.toNat ((192 : BitVec 8) + (BitVec.ofNat 8 m)) : Nat) : Int)]))) kr .nil), ?_, H13.below⟩
      exact congrArg Value.string (hd_small (f := frm l) _ (by rw [hq1]; rfl) m (by omega) (by rw [hq1]; decide))
    · skip
      refine rp [.e (v := .bool (decide (((m : Nat) : Int) ≤ 55))) (v' := .bool false) (bool_eq (decide_eq_false (by omega)))] H11 kr fun gs14 w14 H14 => ?_
      show WPs _ _ _ _ [] _ _
      clear H11
      refine s_nil ?_
      refine g_cond_f kr kr ?_
      refine g_skip kr ?_
      show WP _ _ _ _ _ _
      refine rS [.v, .c (digits_fn m (by omega)), .v] H14 kr fun gs15 w15 H15 => ?_
      clear H14
      refine rS [.v, .v, .v, .v, .e (v := .int .u8 (IntKind.u8.wrap (((ByteArray.size (strB (dg m)) : Nat) : Int)))) (v' := .int .u8 ((BitVec.toNat (BitVec.ofNat 8 (ByteArray.size (strB (dg m)))) : Nat) : Int)) (bv_ofNat_u8 (ByteArray.size (strB (dg m)))), .e (v := .int .u8 (IntKind.u8.wrap ((247) + (((BitVec.toNat (BitVec.ofNat 8 (ByteArray.size (strB (dg m)))) : Nat) : Int))))) (v' := .int .u8 ((BitVec.toNat ((247 : BitVec 8) + (BitVec.ofNat 8 (ByteArray.size (strB (dg m))))) : Nat) : Int)) (bv_add_u8 (247 : BitVec 8) (BitVec.ofNat 8 (ByteArray.size (strB (dg m))))), .nw (fun b => .slice (some ⟨b, 0, none⟩) 1 1) #[.int .u8 ((BitVec.toNat ((247 : BitVec 8) + (BitVec.ofNat 8 (ByteArray.size (strB (dg m))))) : Nat) : Int)] 5, .w fun nn => .x (op := .convert 88 9 (.tmp 25)) (ins := [((.tmp 25), .slice (some ⟨(nn 1), 0, none⟩) 1 1)]) [(1, ((nn 1), Obj.cells #[.int .u8 ((BitVec.toNat ((247 : BitVec 8) + (BitVec.ofNat 8 (ByteArray.size (strB (dg m))))) : Nat) : Int)] 5 (0, 0)))] (bytesX (t := 88) (t' := 9) (e := 5) [((BitVec.toNat ((247 : BitVec 8) + (BitVec.ofNat 8 (ByteArray.size (strB (dg m))))) : Nat) : Int)] kr kr kr (Rw.lit #[.int .u8 ((BitVec.toNat ((247 : BitVec 8) + (BitVec.ofNat 8 (ByteArray.size (strB (dg m))))) : Nat) : Int)] 1 (by rfl) (by unfold maxLen; omega))), .v, .o (ins := [((.tmp 26), .string (strOfNums ([((BitVec.toNat ((247 : BitVec 8) + (BitVec.ofNat 8 (ByteArray.size (strB (dg m))))) : Nat) : Int)]))), ((.tmp 27), .string (strB (dg m)))]) (v := .string ((strOfNums ([((BitVec.toNat ((247 : BitVec 8) + (BitVec.ofNat 8 (ByteArray.size (strB (dg m))))) : Nat) : Int)])) ++ (strB (dg m)))) (fun ρ o w ho hi => sadd_run (t := 9) (t' := 9) (x := (.tmp 26)) (y := (.tmp 27)) (strOfNums ([((BitVec.toNat ((247 : BitVec 8) + (BitVec.ofNat 8 (ByteArray.size (strB (dg m))))) : Nat) : Int)])) (strB (dg m)) w ho hi.1 hi.2.1 (by rw [strOfNums_size, strB_size]; have := dg_len m; show 1 + _ ≤ _; omega)), .v] H15 kr fun gs16 w16 H16 => ?_
      clear H15
      refine g_ret kr ?_
      show ∃ vs, Res _ _ _ _ vs ∧ _
      refine ⟨[.string ((strOfNums ([((BitVec.toNat ((247 : BitVec 8) + (BitVec.ofNat 8 (ByteArray.size (strB (dg m))))) : Nat) : Int)])) ++ (strB (dg m)))], (.tmp (.string ((strOfNums ([((BitVec.toNat ((247 : BitVec 8) + (BitVec.ofNat 8 (ByteArray.size (strB (dg m))))) : Nat) : Int)])) ++ (strB (dg m)))) kr .nil), ?_, H16.below⟩
      exact congrArg Value.string (hd_big (f := frm l) _ (by rw [hq1]; rfl) m (by omega) (by rw [hq1]; decide))
set_option maxRecDepth 100000 in
set_option maxHeartbeats 2000000 in
theorem inside_step (m : Nat) (ih : ∀ (l : Bool) (s : ByteArray) (p : Option Addr) (n c : Nat) (k : Fo), s.size ≤ 140737488355328 → s.size + wtF k ≤ 4611686018427387904 → k.cnt < m → FnP Tryz.prog 48 #[.agg #[.bool l, .string s, .slice p n c]] (fun w => SlAt w.heap.size w p n k) (.int .u64 ((sz1 l s (szF k) : Nat) : Int))) (l : Bool) (s : ByteArray) (p : Option Addr) (n c : Nat) (k : Fo) (hs : s.size ≤ 140737488355328) (hw : s.size + wtF k ≤ 4611686018427387904) (hkm : k.cnt < m + 1) : FnP Tryz.prog 73 #[.agg #[.bool l, .string s, .slice p n c]] (fun w => SlAt w.heap.size w p n k) (.int .u64 ((ByteArray.size s + szF k : Nat) : Int)) := by
  refine FnP.intro (c := codeOf Tryz.f73) [.tmp 2] 23 Tryz.func73 kr kr kr fun w hpre => ?_
  have H0 := St.start w
  have hn := hpre.1
  have hnm := hpre.2.1
  refine rS [.b, .v] H0 kr fun gs1 w1 H1 => ?_
  clear H0
  refine rS [.v, .l 0, .v, .e (v := .int .u64 (IntKind.u64.wrap (((ByteArray.size s : Nat) : Int)))) (v' := .int .u64 ((ByteArray.size s : Nat) : Int)) (int_eq (wrapN_u64 (a := ByteArray.size s) (by omega))), .v] H1 kr fun gs2 w2 H2 => ?_
  clear H1
  refine g_seq kr ?_
  refine rS [.v, .l 0, .v, .v] H2 kr fun gs3 w3 H3 => ?_
  clear H2
  refine g_block 0 kr ?_
  have HL1 : St w.heap.size w w3 [((gs1 0).b, Obj.cells #[.bool l, .string s, .slice p n c] 68 (0, 0))] := H3.as kr
  clear H3
  have HD2 : St w.heap.size w w3 [] := HL1.sub (List.Sublist.cons _ List.Sublist.slnil)
  refine g_loop kr (fun mz ρ ww => ∃ (i : Nat) (r : Fo) (a : Nat), n - i = mz ∧ (FoR w.heap.size w p i r) ∧ (i + Fo.len r = n) ∧ (Fo.cnt r ≤ Fo.cnt k) ∧ (a + wtF r ≤ 4611686018427387904) ∧ (s.size + szF k = a + szF r) ∧ St w.heap.size w ww [] ∧ Is [(0, .agg #[.bool l, .string s, .slice p n c]), (1, .pointer (some ⟨(gs1 0).b, 0, none⟩)), (2, .int .u64 0), (3, .int .u64 ((a : Nat) : Int)), (11, .slice p n c), (12, .int .i64 ((n : Nat) : Int)), (13, .int .i64 ((i : Nat) : Int))] ρ) (n - 0) ⟨0, k, (ByteArray.size s), rfl, (SlAt.start hpre), (by have hn0 := (hpre).1; omega), (Nat.le_refl _), hw, rfl, HD2, (Is.of ⟨kr, kr, kr, kr, kr, kr, kr, trivial⟩)⟩ ?_
  clear HD2
  rintro _ _ w4 ⟨i, r, a, rfl, hR, hN, hcn, hwt, hd, H4, _, rfl⟩
  by_cases hc3 : (i : Nat) < n
  · skip
    refine rS [.e (v := .bool (decide (((i : Nat) : Int) < ((n : Nat) : Int)))) (v' := .bool true) (bool_eq (decide_eq_true (by omega)))] H4 kr fun gs5 w5 H5 => ?_
    clear H4
    refine g_seq kr ?_
    refine g_cond_t kr kr ?_
    refine g_skip kr ?_
    show WP _ _ _ _ _ _
    refine g_seq kr ?_
    refine g_block 1 kr ?_
    obtain ⟨l1, s1, k1, r1, b1, off1, C1, T1, fz1, p1, n1, c1, hr1, hp1, hb1, hh1, hs1, hx1, hz1, hk1, hR1, hN1⟩ := FoR.open hR hN (by omega)
    refine rS [.o (ins := [((.tmp 11), .slice p n c), ((.tmp 13), .int .i64 ((i : Nat) : Int))]) (v := .pointer (some ⟨b1, off1 + i * 3, none⟩)) (fun ρ o w ho hi => idxO_run (kd := .i64) (t := 66) (e := 68) (bytes := 48) kr (x := (.tmp 11)) (y := (.tmp 13)) b1 off1 n c i hp1 ho hi.1 hi.2.1 (by omega) w), .fp (off := off1 + i * 3) (n := 3) (W := #[.bool l1, .string s1, .slice p1 n1 c1]) hh1 hb1 hs1 hx1, .a, .s 0] H5 kr fun gs6 w6 H6 => ?_
    clear H5
    have hcn1 := hcn
    rw [hr1] at hcn1
    simp only [Fo.cnt] at hcn1
    have hwt1 := hwt
    rw [hr1] at hwt1
    simp only [wtF] at hwt1
    have hsl1 := szF_le k1
    have hsm1 := sz1_le l1 s1 (szF k1)
    refine rL [.v, .l 0, .cp (pre := fun w => SlAt w.heap.size w p1 n1 k1) (ih l1 s1 p1 n1 c1 k1 hz1 (by omega) (by omega)) [] (fun w hb hd => (SlAt.call hk1 hb)), .e (v := .int .u64 (IntKind.u64.wrap (((a : Nat) : Int) + ((sz1 l1 s1 (szF k1) : Nat) : Int)))) (v' := .int .u64 ((a + (sz1 l1 s1 (szF k1)) : Nat) : Int)) (int_eq (wrapAdd_u64 (a := a) (b := sz1 l1 s1 (szF k1)) (by omega))), .v] H6 kr fun gs7 w7 H7 => ?_
    clear H6
    show WP _ _ _ _ _ _
    refine g_keep [0, 1, 2, 3, 5, 11, 12, 13, 14] fun ρ1 => ?_
    have HK4 := H7.keep
    clear H7
    refine rL [.e (v := .int .i64 (IntKind.i64.wrap (((i : Nat) : Int) + 1))) (v' := .int .i64 ((i + 1 : Nat) : Int)) (int_eq (wrapAdd_i64 (a := i) (b := 1) (by omega))), .v] HK4 kr fun gs8 w8 H8 => ?_
    clear HK4
    have HL5 : St w.heap.size w w8 [((gs6 2).b, Obj.cells #[.bool l1, .string s1, .slice p1 n1 c1] 68 (0, 0))] := H8.as kr
    clear H8
    have HD6 : St w.heap.size w w8 [] := HL5.sub (List.Sublist.cons _ List.Sublist.slnil)
    show ∃ m, _ ∧ _
    exact ⟨_, (by omega), (i + 1), r1, (a + sz1 l1 s1 (szF k1)), rfl, hR1, hN1, (by omega), (by omega), (by rw [hd, hr1]; simp only [szF]; omega), HD6, (Is.of ⟨kr, kr, kr, kr, kr, kr, kr, trivial⟩)⟩
  · skip
    refine rS [.e (v := .bool (decide (((i : Nat) : Int) < ((n : Nat) : Int)))) (v' := .bool false) (bool_eq (decide_eq_false (by omega)))] H4 kr fun gs9 w9 H9 => ?_
    clear H4
    refine g_seq kr ?_
    refine g_cond_f kr kr ?_
    refine g_exit 0 kr ?_
    show WP _ _ _ _ _ _
    refine rS [.v, .v] H9 kr fun gs10 w10 H10 => ?_
    clear H9
    refine g_ret kr ?_
    show ∃ vs, Res _ _ _ _ vs ∧ _
    refine ⟨[.int .u64 ((a : Nat) : Int)], (.tmp (.int .u64 ((a : Nat) : Int)) kr .nil), ?_, H10.below⟩
    refine int_eq ?_
    rw [hd, FoR.done hN (by omega)]; rfl
set_option maxRecDepth 100000 in
set_option maxHeartbeats 2000000 in
theorem size_step (m : Nat) (ih : ∀ (l : Bool) (s : ByteArray) (p : Option Addr) (n c : Nat) (k : Fo), s.size ≤ 140737488355328 → s.size + wtF k ≤ 4611686018427387904 → k.cnt < m → FnP Tryz.prog 48 #[.agg #[.bool l, .string s, .slice p n c]] (fun w => SlAt w.heap.size w p n k) (.int .u64 ((sz1 l s (szF k) : Nat) : Int))) (l : Bool) (s : ByteArray) (p : Option Addr) (n c : Nat) (k : Fo) (hs : s.size ≤ 140737488355328) (hw : s.size + wtF k ≤ 4611686018427387904) (hkm : k.cnt < m + 1) : FnP Tryz.prog 48 #[.agg #[.bool l, .string s, .slice p n c]] (fun w => SlAt w.heap.size w p n k) (.int .u64 ((sz1 l s (szF k) : Nat) : Int)) := by
  refine FnP.intro (c := codeOf Tryz.f48) [.tmp 2] 16 Tryz.func48 kr kr kr fun w hpre => ?_
  have H0 := St.start w
  have hn := hpre.1
  have hnm := hpre.2.1
  refine rS [.b, .v] H0 kr fun gs1 w1 H1 => ?_
  clear H0
  refine g_seq kr ?_
  refine rS [.v, .l 0, .c (single_fn s)] H1 kr fun gs2 w2 H2 => ?_
  clear H1
  refine Or.elim (Bool.eq_false_or_eq_true (single s)).symm (fun hq1 => ?_) (fun hq1 => ?_)
  · skip
    refine g_now 6 (v := .bool (single s)) (v' := .bool false) (bool_eq hq1) kr ?_
    refine g_cond_f kr kr ?_
    refine g_skip kr ?_
    show WP _ _ _ _ _ _
    refine rS [.l 0, .cp (pre := fun w => SlAt w.heap.size w p n k) (inside_step m ih l s p n c k (by omega) (by omega) (by omega)) [] (fun w hb hd => (SlAt.call hpre hb)), .v] H2 kr fun gs3 w3 H3 => ?_
    clear H2
    have hhl := hd_len (frm l) (ByteArray.size s + szF k)
    have hsz := szF_le k
    have hhs : ByteArray.size (strB (hd (frm l) (ByteArray.size s + szF k))) ≤ 9 := hhl.2
    refine rS [.l 0, .v, .c (head_fn l s p n c (ByteArray.size s + szF k) (by omega)), .v, .e (v := .int .u64 (IntKind.u64.wrap (((ByteArray.size (strB (hd (frm l) (ByteArray.size s + szF k))) : Nat) : Int)))) (v' := .int .u64 ((ByteArray.size (strB (hd (frm l) (ByteArray.size s + szF k))) : Nat) : Int)) (int_eq (wrapN_u64 (a := ByteArray.size (strB (hd (frm l) (ByteArray.size s + szF k)))) (by omega))), .v, .e (v := .int .u64 (IntKind.u64.wrap (((ByteArray.size (strB (hd (frm l) (ByteArray.size s + szF k))) : Nat) : Int) + ((ByteArray.size s + szF k : Nat) : Int)))) (v' := .int .u64 (((ByteArray.size (strB (hd (frm l) (ByteArray.size s + szF k)))) + (ByteArray.size s + szF k) : Nat) : Int)) (int_eq (wrapAdd_u64 (a := ByteArray.size (strB (hd (frm l) (ByteArray.size s + szF k)))) (b := ByteArray.size s + szF k) (by omega))), .v] H3 kr fun gs4 w4 H4 => ?_
    clear H3
    refine g_ret kr ?_
    show ∃ vs, Res _ _ _ _ vs ∧ _
    refine ⟨[.int .u64 (((ByteArray.size (strB (hd (frm l) (ByteArray.size s + szF k)))) + (ByteArray.size s + szF k) : Nat) : Int)], (.tmp (.int .u64 (((ByteArray.size (strB (hd (frm l) (ByteArray.size s + szF k)))) + (ByteArray.size s + szF k) : Nat) : Int)) kr .nil), ?_, H4.below⟩
    refine int_eq ?_
    unfold sz1; rw [if_neg (by rw [hq1]; decide)]; rfl
  · skip
    refine g_now 6 (v := .bool (single s)) (v' := .bool true) (bool_eq hq1) kr ?_
    refine g_cond_t kr kr ?_
    refine rS [.v] H2 kr fun gs5 w5 H5 => ?_
    clear H2
    refine g_ret kr ?_
    show ∃ vs, Res _ _ _ _ vs ∧ _
    refine ⟨[.int .u64 1], (.tmp (.int .u64 1) kr .nil), ?_, H5.below⟩
    refine int_eq ?_
    unfold sz1; rw [if_pos hq1]; rfl
theorem size_fn (l : Bool) (s : ByteArray) (p : Option Addr) (n c : Nat) (k : Fo) (hs : s.size ≤ 140737488355328) (hw : s.size + wtF k ≤ 4611686018427387904) : FnP Tryz.prog 48 #[.agg #[.bool l, .string s, .slice p n c]] (fun w => SlAt w.heap.size w p n k) (.int .u64 ((sz1 l s (szF k) : Nat) : Int)) := by
  have key : ∀ (m : Nat) (l : Bool) (s : ByteArray) (p : Option Addr) (n c : Nat) (k : Fo), s.size ≤ 140737488355328 → s.size + wtF k ≤ 4611686018427387904 → k.cnt < m → FnP Tryz.prog 48 #[.agg #[.bool l, .string s, .slice p n c]] (fun w => SlAt w.heap.size w p n k) (.int .u64 ((sz1 l s (szF k) : Nat) : Int)) := by
    intro m
    induction m with
    | zero => intros; omega
    | succ m ih => intro l s p n c k hs hw hkm; exact size_step m ih l s p n c k hs hw hkm
  exact key (k.cnt + 1) l s p n c k hs hw (by omega)
theorem inside_fn (l : Bool) (s : ByteArray) (p : Option Addr) (n c : Nat) (k : Fo) (hs : s.size ≤ 140737488355328) (hw : s.size + wtF k ≤ 4611686018427387904) : FnP Tryz.prog 73 #[.agg #[.bool l, .string s, .slice p n c]] (fun w => SlAt w.heap.size w p n k) (.int .u64 ((ByteArray.size s + szF k : Nat) : Int)) := inside_step k.cnt (fun l s p n c k hs hw _ => size_fn l s p n c k hs hw) l s p n c k hs hw (by omega)
end Go.Proofs.YtmiachbcihalpaaGreatDoor

namespace Go.Proofs.YtmiachbcihalpaaGreatDoor
open Go Go.RowKit
set_option linter.unusedVariables false
/-- The builder in block p (of type T, its bytes of type e) holds out. -/
inductive BE (p : Nat) (T e : TypeId) : List UInt8 → List (Nat × Obj) → Prop
  | nil (a : Option Addr) : a = none ∨ a = some ⟨p, 0, none⟩ → BE p T e [] [(p, .cells #[.pointer a, .slice none 0 0] T (0, 0))]
  | row (a : Option Addr) (b n cap : Nat) (cur : Array Value) (out : List UInt8) : a = none ∨ a = some ⟨p, 0, none⟩ → n = out.length → Rw 1 cur cap n (cellsB out) →
      BE p T e out [(b, .cells cur e (0, 0)), (p, .cells #[.pointer a, .slice (some ⟨b, 0, none⟩) n cap] T (0, 0))]
/-- A call that writes from out to out' into a builder. -/
def FnB (P : Program) (f : Nat) (args : Array Value) (v : Value) (p : Nat) (T e : TypeId) (out out' : List UInt8) (pre : World → Prop) : Prop :=
  ∀ (w0 w : World) (L E : List (Nat × Obj)), BE p T e out E → pre w0 → St w0.heap.size w0 w (E ++ L) → Calls P f args w fun r w' => ∃ E', r = .returned v ∧ BE p T e out' E' ∧ St w0.heap.size w0 w' (E' ++ L)
/-- The same, where nothing lies beside it. -/
def FnB0 (P : Program) (f : Nat) (args : Array Value) (v : Value) (p : Nat) (T e : TypeId) (out out' : List UInt8) (pre : World → Prop) : Prop :=
  ∀ (w0 w : World) (E : List (Nat × Obj)), BE p T e out E → pre w0 → St w0.heap.size w0 w E → Calls P f args w fun r w' => ∃ E', r = .returned v ∧ BE p T e out' E' ∧ St w0.heap.size w0 w' E'
section
variable {P : Program} {N : Nat} {ops : Array Oper} {i : Nat} {r : List Nat} {K : Env → World → Prop} {ρ : Env} {w : World} {w0 : World} {l E : List (Nat × Obj)}
theorem s_callB (HS : St w0.heap.size w0 w (l ++ E)) {p : Nat} {T e : TypeId} {out : List UInt8} (hE : BE p T e out E) (d : Option Nat) (f : Nat) (args : Array Value) (v : Value) (out' : List UInt8) (pre : World → Prop) (hc : FnB P f args v p T e out out' pre) (hp : pre w0)
    (h : opv P ops i ρ w = some (d, true, .ok (.enter f args) w)) (hd : dOK d N = true)
    (kk : ∀ E' w', BE p T e out' E' → St w0.heap.size w0 w' (l ++ E') → WPs P N ops K r (updO ρ d v) w') : WPs P N ops K (i :: r) ρ w := by
  obtain ⟨o, ho, rfl, hw, hr⟩ := opv_some h
  refine WPo.run ho hw fun a ha => ?_
  rw [hr, Oper.upon_enter]
  refine (hc w0 w l E hE hp (HS.perm List.perm_append_comm)).mono ?_
  rintro _ w' ⟨E', rfl, hE', HS'⟩
  exact ⟨_, ha.put _ (dOK_lt hd) v, kk E' w' hE' (HS'.perm List.perm_append_comm)⟩
theorem s_callB0 (HS : St w0.heap.size w0 w E) {p : Nat} {T e : TypeId} {out : List UInt8} (hE : BE p T e out E) (d : Option Nat) (f : Nat) (args : Array Value) (v : Value) (out' : List UInt8) (pre : World → Prop) (hc : FnB0 P f args v p T e out out' pre) (hp : pre w0)
    (h : opv P ops i ρ w = some (d, true, .ok (.enter f args) w)) (hd : dOK d N = true)
    (kk : ∀ E' w', BE p T e out' E' → St w0.heap.size w0 w' E' → WPs P N ops K r (updO ρ d v) w') : WPs P N ops K (i :: r) ρ w := by
  obtain ⟨o, ho, rfl, hw, hr⟩ := opv_some h
  refine WPo.run ho hw fun a ha => ?_
  rw [hr, Oper.upon_enter]
  refine (hc w0 w E hE hp HS).mono ?_
  rintro _ w' ⟨E', rfl, hE', HS'⟩
  exact ⟨_, ha.put _ (dOK_lt hd) v, kk E' w' hE' HS'⟩
theorem FnB.intro {f : Nat} {fn : Func} {c : Code} (rs : List ResultVar) (N : Nat) {args : Array Value} {v : Value} {p : Nat} {T e : TypeId} {out out' : List UInt8} {pre : World → Prop} (hf : P.funcs[f]? = some fn) (hb : fn.body = some c) (hr : fn.results.toList = rs) (hn : args.size + (fn.ntmps - args.size) = N)
    (h : ∀ w0 w L E, BE p T e out E → pre w0 → St w0.heap.size w0 w (E ++ L) → WP P N c (ends P rs fun v' w' => v' = v ∧ ∃ E', BE p T e out' E' ∧ St w0.heap.size w0 w' (E' ++ L)) (ini args) w) : FnB P f args v p T e out out' pre := fun w0 w L E hE hp HS =>
  (calls_intro hf hb hr hn (h w0 w L E hE hp HS)).mono fun _ w' ⟨v', he, hv, E', h1, h2⟩ => ⟨E', by rw [he, hv], h1, h2⟩
theorem FnB0.intro {f : Nat} {fn : Func} {c : Code} (rs : List ResultVar) (N : Nat) {args : Array Value} {v : Value} {p : Nat} {T e : TypeId} {out out' : List UInt8} {pre : World → Prop} (hf : P.funcs[f]? = some fn) (hb : fn.body = some c) (hr : fn.results.toList = rs) (hn : args.size + (fn.ntmps - args.size) = N)
    (h : ∀ w0 w E, BE p T e out E → pre w0 → St w0.heap.size w0 w E → WP P N c (ends P rs fun v' w' => v' = v ∧ ∃ E', BE p T e out' E' ∧ St w0.heap.size w0 w' E') (ini args) w) : FnB0 P f args v p T e out out' pre := fun w0 w E hE hp HS =>
  (calls_intro hf hb hr hn (h w0 w E hE hp HS)).mono fun _ w' ⟨v', he, hv, E', h1, h2⟩ => ⟨E', by rw [he, hv], h1, h2⟩
def appendOp2 (t u : TypeId) (s x : Operand) : Op := .call { callee := .builtin .append, args := #[s, x], argTypes := #[t, u] }
theorem append2_ex {P : Program} {ρ : Env} {w w' : World} {o : Oper} {t u : TypeId} {s x : Operand} {vs v' : Value} {tx : ByteArray} (hop : o.op = appendOp2 t u s x) (hs : ev ρ s = vs) (hx : ev ρ x = .string tx)
    (hrun : (Builtin.append_ #[t, u] o.type #[vs, .string tx]).run P w = .ok v' w') : (execOp (ev ρ) o).run P w = .ok (.value v') w' := by
  unfold execOp
  simp only [hop, appendOp2, resolve, invoke, builtin, Sem.run_bind, Sem.run_pure, Result.andThen_ok, List.map_toArray, List.map_cons, List.map_nil, hs, hx, hrun]
/-- 'append(b, s...)', of a text, to a row. -/
theorem s_appendStr (HS : St w0.heap.size w0 w l) (d : Option Nat) (t u e : TypeId) (s x : Operand) (j b n cap : Nat) (cur : Array Value) (xs : List UInt8) (tx : ByteArray) (l' : Nat → Array Value → List (Nat × Obj))
    (h : opk ops i ρ = some (d, true, appendOp2 t u s x)) (hd : dOK d N = true) (ht : sliceOf P t = some (e, 1, 1)) (hu' : P.underlying u = some .string)
    (hs : ev ρ s = .slice (some ⟨b, 0, none⟩) n cap) (hj : l[j]? = some (b, .cells cur e (0, 0))) (hr : Rw 1 cur cap n (cellsB xs)) (hx : ev ρ x = .string tx) (hm : n + tx.size ≤ 140737488355328)
    (hl' : ∀ b' cur', l.set j (b', .cells cur' e (0, 0)) = l' b' cur')
    (kk : ∀ b' cap' cur' w', St w0.heap.size w0 w' (l' b' cur') → Rw 1 cur' cap' (n + tx.size) (cellsB (xs ++ tl tx)) → WPs P N ops K r (updO ρ d (.slice (some ⟨b', 0, none⟩) (n + tx.size) cap')) w') : WPs P N ops K (i :: r) ρ w := by
  obtain ⟨o, ho, rfl, hw, hop⟩ := opk_some h
  obtain ⟨it, z, hu, hi, hz, hsz, hby, hzs, h0⟩ := sliceOf_spec ht
  have hg := HS.get j hj
  have hcx : Lib.strCells tx = cellsB (tl tx) := rfl
  have hxn : xs.length = n := by have := hr.len; rw [cellsB_len] at this; omega
  have hlen : (cellsB (xs ++ tl tx)).length = (n + tx.size) * 1 := by rw [cellsB_len, List.length_append, tl_len]; omega
  have hcsz := hr.sz
  by_cases hroom : n + tx.size ≤ cap
  · have hrun := Lib.run_append_room_string (P := P) w t u o.type e it hu hu' hi hsz b n cap cur hg tx hroom (by omega)
    refine WPo.run ho hw fun a ha => ?_
    have hex : (execOp (ev ρ) o).run P w = .ok (.value (.slice (some ⟨b, 0, none⟩) (n + tx.size) cap)) (w.setRow b (cur.toList.take n ++ Lib.strCells tx ++ cur.toList.drop (n + tx.size)).toArray) := by
      unfold execOp
      simp only [hop, appendOp2, resolve, invoke, builtin, Sem.run_bind, Sem.run_pure, Result.andThen_ok, List.map_toArray, List.map_cons, List.map_nil, hs, hx, hrun]
    rw [hex, Oper.upon_value]
    have HS' := HS.store j (C' := (cur.toList.take n ++ Lib.strCells tx ++ cur.toList.drop (n + tx.size)).toArray) hj
    rw [hl'] at HS'
    refine ⟨_, ha.put _ (dOK_lt hd) _, kk b cap _ _ HS' ⟨hlen, hroom, hr.max, ?_, ?_⟩⟩
    · have h1 : cur.toList.take n = cellsB xs := by have := hr.take; rwa [Nat.mul_one] at this
      rw [h1, hcx, ← cellsB_append, ← hlen]
      exact List.take_left
    · simp only [List.size_toArray, List.length_append, List.length_take, List.length_drop, Array.length_toList, Lib.strCells_length]
      omega
  · have holds : ∀ q v, (cellsB xs)[q]? = some v → w.cell? ((⟨b, 0, none⟩ : Addr).add q) = some v := fun q v hq => by
      have hql : q < n := by rw [← hxn, ← cellsB_len]; exact (List.getElem?_eq_some_iff.1 hq).1
      rw [addr_add, Nat.zero_add]
      simp [World.cell?, hg, hr.get q (by omega), hq]
    have hrun := Lib.run_append_grow_string (P := P) w t u o.type e it z hu hu' hi hz ⟨b, 0, none⟩ n cap (cellsB xs) (by rw [cellsB_len, hsz]; omega) holds tx (by omega) (by omega) (by rw [hby]; exact growslice_fits (by omega) (by omega))
    refine WPo.run ho hw fun a ha => ?_
    rw [append2_ex hop hs hx hrun, Oper.upon_value]
    have hgr : w.grownBy (w.drew.alloc (.cells ((cellsB xs).toArray ++ (Lib.strCells tx).toArray ++ Builtin.zeroCells z.cells (grownCap w (n + tx.size) cap e - (n + tx.size))) e)) (some b) :=
      ⟨rfl, rfl, rfl, by simp, fun k hk _ => Go.heap_alloc_old w.drew _ hk⟩
    have HS' := HS.grown j hj hgr (.inr rfl) (heap_alloc_new w.drew _)
    rw [hl'] at HS'
    have hge := grownCap_ge w (n + tx.size) cap e
    refine ⟨_, ha.put _ (dOK_lt hd) _, kk _ (grownCap w (n + tx.size) cap e) _ _ HS' ⟨hlen, hge, grownCap_le_maxLen w (n + tx.size) cap e (by unfold maxLen; omega), ?_, ?_⟩⟩
    · simp only [Array.toList_append]
      rw [hcx]
      show List.take _ (cellsB xs ++ cellsB (tl tx) ++ _) = _
      rw [← cellsB_append, ← hlen]
      exact List.take_left
    · simp only [Array.size_append, List.size_toArray, size_zeroCells, hzs, cellsB_len, Lib.strCells_length]
      omega
/-- To none. -/
theorem s_appendStrNil (HS : St w0.heap.size w0 w l) (d : Option Nat) (t u e : TypeId) (s x : Operand) (tx : ByteArray)
    (h : opk ops i ρ = some (d, true, appendOp2 t u s x)) (hd : dOK d N = true) (ht : sliceOf P t = some (e, 1, 1)) (hu' : P.underlying u = some .string)
    (hs : ev ρ s = .slice none 0 0) (hx : ev ρ x = .string tx) (h0 : 0 < tx.size) (hm : tx.size ≤ 140737488355328)
    (kk : ∀ b' cap' cur' w', St w0.heap.size w0 w' ((b', .cells cur' e (0, 0)) :: l) → Rw 1 cur' cap' tx.size (cellsB (tl tx)) → WPs P N ops K r (updO ρ d (.slice (some ⟨b', 0, none⟩) tx.size cap')) w') : WPs P N ops K (i :: r) ρ w := by
  obtain ⟨o, ho, rfl, hw, hop⟩ := opk_some h
  obtain ⟨it, z, hu, hi, hz, hsz, hby, hzs, h0'⟩ := sliceOf_spec ht
  have hcx : Lib.strCells tx = cellsB (tl tx) := rfl
  have hrun := Go.run_append_nil_string (P := P) w t u o.type e it z hu hu' hi hz tx h0 (by omega) (by rw [hby]; omega)
  refine WPo.run ho hw fun a ha => ?_
  rw [append2_ex hop hs hx hrun, Oper.upon_value]
  have hge := grownCap_ge w tx.size 0 e
  have e1 : (tx.data.map (fun b => Value.int .u8 b.toNat) ++ Builtin.zeroCells z.cells (grownCap w tx.size 0 e - tx.size)).toList = cellsB (tl tx) ++ (Builtin.zeroCells z.cells (grownCap w tx.size 0 e - tx.size)).toList := by
    unfold cellsB tl; simp
  refine ⟨_, ha.put _ (dOK_lt hd) _, kk _ (grownCap w tx.size 0 e) _ _ (HS.drew.alloc _) ⟨by rw [cellsB_len, tl_len, Nat.mul_one], hge, grownCap_le_maxLen w tx.size 0 e (by unfold maxLen; omega), ?_, ?_⟩⟩
  · rw [e1, Nat.mul_one, List.take_append_of_le_length (by rw [cellsB_len, tl_len]; exact Nat.le_refl _), List.take_of_length_le (by rw [cellsB_len, tl_len]; exact Nat.le_refl _)]
  · rw [← Array.length_toList, e1, List.length_append, cellsB_len, tl_len, Array.length_toList, size_zeroCells, hzs]; omega
/-- A pointer to a block of the list as an unsafe one, and back. -/
theorem s_toU {B : Nat} (HS : St B w0 w l) (d : Option Nat) (t t' tp : TypeId) (x : Operand) (j b : Nat) (C : Array Value) (T : TypeId) (h : opk ops i ρ = some (d, true, .convert t t' x)) (hd : dOK d N = true) (hx : ev ρ x = .pointer (some ⟨b, 0, none⟩)) (hj : l[j]? = some (b, .cells C T (0, 0)))
    (ht : P.underlying t = some (.pointer tp)) (ht' : P.underlying t' = some .unsafePointer) (hz : ((P.info? tp).map fun i => Nat.blt 0 i.size) = some true) (hC : 0 < C.size) (kk : WPs P N ops K r (updO ρ d (.pointer (some ⟨b, 0, none⟩))) w) : WPs P N ops K (i :: r) ρ w :=
  s_genw d _ _ w h hd (fun o ho => by
    obtain ⟨it, hi, hs⟩ := Option.map_eq_some_iff.1 hz
    have hsh : w.shape? b = some (T, C.size) := by unfold World.shape?; rw [HS.get j hj]
    have := Lib.run_to_unsafe (P := P) w (src := t) (dst := t') ⟨b, 0, none⟩ ht ht' hi (by have := Nat.le_of_ble_eq_true hs; omega) hsh hC
    unfold execOp
    simp only [ho, hx, Sem.run_bind, this, Result.andThen_ok]; rfl) kk
theorem s_fromU {B : Nat} (HS : St B w0 w l) (d : Option Nat) (t t' tp : TypeId) (x : Operand) (j b : Nat) (C : Array Value) (T : TypeId) (h : opk ops i ρ = some (d, true, .convert t t' x)) (hd : dOK d N = true) (hx : ev ρ x = .pointer (some ⟨b, 0, none⟩)) (hj : l[j]? = some (b, .cells C T (0, 0)))
    (ht : P.underlying t = some .unsafePointer) (ht' : P.underlying t' = some (.pointer tp)) (hz : (P.info? tp).isSome = true) (hl : liesAt P P.depth T (C.size / P.cellsOf T) 0 tp 1 = true) (kk : WPs P N ops K r (updO ρ d (.pointer (some ⟨b, 0, none⟩))) w) : WPs P N ops K (i :: r) ρ w :=
  s_genw d _ _ w h hd (fun o ho => by
    obtain ⟨it, hi⟩ := Option.isSome_iff_exists.1 hz
    have hsh : w.shape? b = some (T, C.size) := by unfold World.shape?; rw [HS.get j hj]
    have := Lib.run_from_unsafe (P := P) w (src := t) (dst := t') ⟨b, 0, none⟩ ht ht' hi hsh hl
    unfold execOp
    simp only [ho, hx, Sem.run_bind, this, Result.andThen_ok]; rfl) kk
theorem neqP_run {t tp t' : TypeId} (ht : P.underlying t = some (.pointer tp)) (hz : (P.info? tp).isSome = true) {x y : Operand} {o : Oper} (a : Addr) (ho : o.op = .binOp .neq t x y t') (hx : ev ρ x = .pointer (some a)) (hy : ev ρ y = .pointer (some a)) :
    ∀ w, (execOp (ev ρ) o).run P w = .ok (.value (.bool false)) w := fun w => by
  obtain ⟨it, hi⟩ := Option.isSome_iff_exists.1 hz
  have := Lib.run_neq_ptr_same (P := P) w a ht hi
  unfold execOp
  simp [ho, hx, hy, eqGuard, this]
def noEscOp (f : Nat) (t : TypeId) (x : Operand) : Op := .call { callee := .value (.func f), args := #[x], argTypes := #[t] }
end
/-- A region that draws its order, whose operation q writes into the builder, behind all others; bx lies beside it. -/
def PreB (w0 : World) (p : Nat) (T e : TypeId) (out' : List UInt8) (bx : Nat × Obj) (E : List (Nat × Obj)) (q : Nat) : (Nat → Bool) → (Nat → D2.Gh) → World → Prop := fun L _ w =>
  bif L q then (∃ E', BE p T e out' E' ∧ St w0.heap.size w0 w ([bx] ++ E')) else St w0.heap.size w0 w ([bx] ++ E)
section
variable {P : Program} {ops : Array Oper} {R : (Nat → D2.Gh) → Env} {i : Nat} {d : Option Nat} {w0 : World} {p : Nat} {T e : TypeId} {out' : List UInt8} {bx : Nat × Obj} {E : List (Nat × Obj)} {q : Nat}
theorem putB_ne {L : Nat → Bool} (h : Nat.beq q i = false) : D2.put1 L i q = L q := by unfold D2.put1; rw [h]; rfl
theorem PreB.keep (h : Nat.beq q i = false) {L : Nat → Bool} {g g' : Nat → D2.Gh} {w : World} (hp : PreB w0 p T e out' bx E q L g w) : PreB w0 p T e out' bx E q (D2.put1 L i) g' w := by
  unfold PreB at hp ⊢; rw [putB_ne h]; exact hp
theorem PreB.cases {L : Nat → Bool} {g : Nat → D2.Gh} {w : World} (hp : PreB w0 p T e out' bx E q L g w) : ∃ E', St w0.heap.size w0 w ([bx] ++ E') ∧ ((∀ w', St w0.heap.size w0 w' ([bx] ++ E') → PreB w0 p T e out' bx E q L g w')) := by
  unfold PreB at hp ⊢
  cases hl : L q with
  | false => rw [hl] at hp; exact ⟨E, hp, fun w' h => h⟩
  | true => rw [hl] at hp; obtain ⟨E', h1, h2⟩ := hp; exact ⟨E', h2, fun w' h => ⟨E', h1, h⟩⟩
theorem gvB_val {V : Value} (hq : Nat.beq q i = false) (h : ∀ g w, opv P ops i (R g) w = some (d, true, .ok (.value V) w)) : D2.Gives P ops R (PreB w0 p T e out' bx E q) i d (fun _ => V) := D2.gv_val (fun _ _ _ hp => hp.keep hq) h
theorem gvB_load {C : Array Value} {T' : TypeId} {t : TypeId} {x : Operand} (hq : Nat.beq q i = false) (h : ∀ g, opk ops i (R g) = some (d, true, .load t x)) (hx : ∀ g, ev (R g) x = .pointer (some ⟨bx.1, 0, none⟩)) (hb : bx.2 = .cells C T' (0, 0)) (ht : aggSize P t = some C.size) : D2.Gives P ops R (PreB w0 p T e out' bx E q) i d (fun _ => .agg C) := D2.gives_of fun L g w hp hN => by
  obtain ⟨o, ho, hd, hw, hop⟩ := opk_some (h g)
  obtain ⟨E', hS, _⟩ := hp.cases
  have hh : w.heap[bx.1]? = some (.cells C T' (0, 0)) := by rw [← hb]; exact hS.get 0 rfl
  have := load_agg (P := P) (w := w) (off := 0) ht hh (by omega)
  have e1 : C.extract 0 (0 + C.size) = C := by simp
  rw [e1] at this
  have e2 : (execOp (ev (R g)) o).run P w = .ok (.value (.agg C)) w := by simp [execOp, hop, Instr.loadAt, Instr.sureAddr, hx g, this]
  exact ⟨o, ho, hd, .inr ⟨hw, by rw [e2]; exact ⟨g i, rfl, by rw [D2.setN_self]; exact hp.keep hq⟩⟩⟩
theorem gvB_callP {V : Value} {f : Nat} {args : Array Value} {pr : World → Prop} (hq : Nat.beq q i = false) (hc : FnP P f args pr V) (hpr : ∀ w, Below w0.heap.size w0 w → pr w) (h : ∀ g w, opv P ops i (R g) w = some (d, true, .ok (.enter f args) w)) : D2.Gives P ops R (PreB w0 p T e out' bx E q) i d (fun _ => V) := D2.gives_of fun L g w hp hN => by
  obtain ⟨o, ho, hd, hw, hr⟩ := opv_some (h g w)
  obtain ⟨E', hS, hk⟩ := hp.cases
  exact ⟨o, ho, hd, .inr ⟨hw, by rw [hr]; exact (hc w (hpr w hS.below)).mono fun e w' ⟨he, hb⟩ => ⟨V, he, g i, rfl, by rw [D2.setN_self]; exact (hk w' (hS.call hb)).keep hq⟩⟩⟩
theorem gvB_call {V : Value} {f : Nat} {args : Array Value} (hq : Nat.beq q i = false) (hc : Fn P f args V) (h : ∀ g w, opv P ops i (R g) w = some (d, true, .ok (.enter f args) w)) : D2.Gives P ops R (PreB w0 p T e out' bx E q) i d (fun _ => V) :=
  gvB_callP (pr := fun _ => True) hq (fun w _ => hc w) (fun _ _ => trivial) h
theorem gvB_eff {V : Value} {f : Nat} {args : Array Value} {out : List UInt8} (hq : q = i) (hE : BE p T e out E) (hc : FnB P f args V p T e out out' (fun _ => True)) (h : ∀ g w, opv P ops i (R g) w = some (d, true, .ok (.enter f args) w)) : D2.Gives P ops R (PreB w0 p T e out' bx E q) i d (fun _ => V) := D2.gives_of fun L g w hp hN => by
  subst hq
  obtain ⟨o, ho, hd, hw, hr⟩ := opv_some (h g w)
  have hS : St w0.heap.size w0 w ([bx] ++ E) := by unfold PreB at hp; rw [hN.1] at hp; exact hp
  refine ⟨o, ho, hd, .inr ⟨hw, ?_⟩⟩
  rw [hr]
  refine (hc w0 w [bx] E hE trivial (hS.perm List.perm_append_comm)).mono ?_
  rintro _ w' ⟨E', rfl, hE', hS'⟩
  refine ⟨V, rfl, g q, rfl, ?_⟩
  unfold PreB
  rw [show D2.put1 L q q = true from D2.put1_self L q]
  exact ⟨E', hE', hS'.perm List.perm_append_comm⟩
theorem PreB.done {L : Nat → Bool} {g : Nat → D2.Gh} {w : World} (hp : PreB w0 p T e out' bx E q L g w) (h : L q = true) : ∃ E', BE p T e out' E' ∧ St w0.heap.size w0 w ([bx] ++ E') := by
  unfold PreB at hp; rw [h] at hp; exact hp
end
/-- A region whose operation q takes all that was known of the blocks. -/
def PreS (w0 : World) (l : List (Nat × Obj)) (q : Nat) : (Nat → Bool) → (Nat → D2.Gh) → World → Prop := fun L _ w => bif L q then St w0.heap.size w0 w [] else St w0.heap.size w0 w l
section
variable {P : Program} {ops : Array Oper} {R : (Nat → D2.Gh) → Env} {i : Nat} {d : Option Nat} {w0 : World} {l : List (Nat × Obj)} {q : Nat}
theorem PreS.keep (h : Nat.beq q i = false) {L : Nat → Bool} {g g' : Nat → D2.Gh} {w : World} (hp : PreS w0 l q L g w) : PreS w0 l q (D2.put1 L i) g' w := by
  unfold PreS at hp ⊢; rw [putB_ne h]; exact hp
theorem gvS_val {V : Value} (hq : Nat.beq q i = false) (h : ∀ g w, opv P ops i (R g) w = some (d, true, .ok (.value V) w)) : D2.Gives P ops R (PreS w0 l q) i d (fun _ => V) := D2.gv_val (fun _ _ _ hp => hp.keep hq) h
/-- An operation ahead of q, of a known run where the blocks lie so. -/
theorem gvS_op {V : Value} (hq : Nat.beq q i = false) (hb : ∀ L, D2.Now ops i L → L q = false) (op : Op) (h : ∀ g, opk ops i (R g) = some (d, true, op)) (hr : ∀ g w (o : Oper), St w0.heap.size w0 w l → o.op = op → (execOp (ev (R g)) o).run P w = .ok (.value V) w) : D2.Gives P ops R (PreS w0 l q) i d (fun _ => V) := D2.gives_of fun L g w hp hN => by
  obtain ⟨o, ho, hd, hw, hop⟩ := opk_some (h g)
  have hS : St w0.heap.size w0 w l := by have h9 := hp; unfold PreS at h9; rw [hb L hN] at h9; exact h9
  exact ⟨o, ho, hd, .inr ⟨hw, by rw [hr g w o hS hop]; exact ⟨g i, rfl, by rw [D2.setN_self]; exact hp.keep hq⟩⟩⟩
theorem gvS_eff {V : Value} (hq : q = i) (op : Op) (h : ∀ g, opk ops i (R g) = some (d, true, op)) (hr : ∀ g w (o : Oper), St w0.heap.size w0 w l → o.op = op → ∃ w', (execOp (ev (R g)) o).run P w = .ok (.value V) w' ∧ St w0.heap.size w0 w' []) : D2.Gives P ops R (PreS w0 l q) i d (fun _ => V) := D2.gives_of fun L g w hp hN => by
  subst hq
  obtain ⟨o, ho, hd, hw, hop⟩ := opk_some (h g)
  have hS : St w0.heap.size w0 w l := by have h9 := hp; unfold PreS at h9; rw [hN.1] at h9; exact h9
  obtain ⟨w', h1, h2⟩ := hr g w o hS hop
  exact ⟨o, ho, hd, .inr ⟨hw, by rw [h1]; exact ⟨g q, rfl, by unfold PreS; rw [show D2.put1 L q q = true from D2.put1_self L q]; exact h2⟩⟩⟩
end
def sliceDataOp (t : TypeId) (x : Operand) : Op := .call { callee := .builtin .unsafeSliceData, args := #[x], argTypes := #[t] }
theorem sliceData_run {P : Program} {ρ : Env} {w : World} {t : TypeId} {x : Operand} {a : Addr} {n c : Nat} (hx : ev ρ x = .slice (some a) n c) (hc : c ≠ 0) (o : Oper) (ho : o.op = sliceDataOp t x) : (execOp (ev ρ) o).run P w = .ok (.value (.pointer (some a))) w := by
  have := Lib.run_unsafeSliceData_row (P := P) (w := w) #[t] o.type a n c hc
  unfold execOp
  simp only [ho, sliceDataOp, resolve, invoke, builtin, Sem.run_bind, Sem.run_pure, Result.andThen_ok, List.map_toArray, List.map_cons, List.map_nil, hx, this]
theorem unsafeStr_run {P : Program} {ρ : Env} {w w0 : World} {l : List (Nat × Obj)} {j b n cap : Nat} {C : Array Value} {t t' e : TypeId} {x y : Operand} {xs : List UInt8} (HS : St w0.heap.size w0 w l) (hj : l[j]? = some (b, .cells C e (0, 0))) (ht : P.underlying t = some (.pointer e)) (hc : P.cellsOf e = 1)
    (hx : ev ρ x = .pointer (some ⟨b, 0, none⟩)) (hy : ev ρ y = .int .i64 (n : Int)) (hr : Rw 1 C cap n (cellsB xs)) (h0 : 0 < n) (hm : n ≤ 9223372036854775807) (o : Oper) (hop : o.op = unsafeOp t t' x y) :
    ∃ w', (execOp (ev ρ) o).run P w = .ok (.value (.string (strB xs))) w' ∧ St w0.heap.size w0 w' [] := by
  have hb := HS.get j hj
  have hB := HS.ge j hj
  have hlen : xs.length = n := by have := hr.len; rw [cellsB_len] at this; omega
  have hsz := hr.sz
  have hle := hr.le
  have hrun := Lib.run_unsafeString_row (P := P) w t t' o.type e ht hc b C.size (by unfold World.shape?; rw [hb]) xs (by intro e; subst e; simp at hlen; omega) (by omega) (by omega) (fun j u hj => by
    have hjl : j < xs.length := (List.getElem?_eq_some_iff.1 hj).1
    have h2 := hr.get j (by omega)
    rw [addr_add, Nat.zero_add]
    have h3 : (cellsB xs)[j]? = some (.int .u8 ((u.toNat : Nat) : Int)) := by unfold cellsB; rw [List.getElem?_map, hj]; rfl
    simp [World.cell?, hb, h2, h3])
  rw [hlen] at hrun
  refine ⟨w.freeze ⟨b, 0, none⟩ n, ?_, ?_⟩
  · unfold execOp
    simp only [hop, unsafeOp, resolve, invoke, builtin, Sem.run_bind, Sem.run_pure, Result.andThen_ok, List.map_toArray, List.map_cons, List.map_nil, hx, hy, hrun]
    rfl
  · have hbel := Lib.below_freeze HS.below (p := ⟨b, 0, none⟩) hB n
    refine ⟨hbel, Nat.le_trans HS.le ?_, (fun e he => nomatch he), List.nodup_nil⟩
    unfold World.freeze
    split <;> simp
theorem St.load1_run {P : Program} {ρ : Env} {w w0 : World} {l : List (Nat × Obj)} {j b off : Nat} {C : Array Value} {T t : TypeId} {x : Operand} {v : Value} (HS : St w0.heap.size w0 w l) (hj : l[j]? = some (b, .cells C T (0, 0))) (ht : oneCell P t = true) (hx : ev ρ x = .pointer (some ⟨b, off, none⟩)) (hv : C[off]? = some v) (o : Oper) (ho : o.op = .load t x) :
    (execOp (ev ρ) o).run P w = .ok (.value v) w := by
  have := load_one (P := P) (w := w) ht (HS.get j hj) hv
  simp [execOp, ho, Instr.loadAt, Instr.sureAddr, hx, this]
end Go.Proofs.YtmiachbcihalpaaGreatDoor

namespace Go.Proofs.YtmiachbcihalpaaGreatDoor
open Go Go.RowKit
set_option linter.unusedVariables false
set_option maxRecDepth 100000 in
set_option maxHeartbeats 2000000 in
theorem copyCheck_nil_none  (p : Nat) (w0 w : World) (L : List (Nat × Obj)) (H0 : St w0.heap.size w0 w ([(p, Obj.cells #[.pointer none, .slice none 0 0] 90 (0, 0))] ++ L)) : WP Tryz.prog 20 (codeOf Tryz.f94) (ends Tryz.prog [] fun v' w' => v' = .tuple #[] ∧ ∃ E', BE p 90 5 ([]) E' ∧ St w0.heap.size w0 w' (E' ++ L)) (ini #[.pointer (some ⟨p, 0, none⟩)]) w := by
  refine g_sreg [0, 1, 2, 3, 4] kr kr ?_
  refine s_val (some 2) (.pointer (some ⟨p, 0, none⟩)) (fun w => by kernel_rfl) kr ?_
  refine s_val (some 3) (.pointer (some ⟨p, 0, none⟩)) (fun w => by kernel_rfl) kr ?_
  refine s_val (some 4) (.pointer (some ⟨p, 0, none⟩)) (fun w => by kernel_rfl) kr ?_
  refine s_load1 H0 (some 5) 87 (.tmp 4) 0 p 0 #[.pointer none, .slice none 0 0] 90 (0, 0) (.pointer none) kr kr kr kr kr kr ?_
  refine s_val (some 6) (.bool true) (fun w => by kernel_rfl) kr ?_
  refine s_nil ?_
  refine g_cond_t kr kr ?_
  refine g_reg0 [0, 1, 2, 3, 4, 5, 6, 7] kr ?_
  refine s_val (some 7) (.pointer (some ⟨p, 0, none⟩)) (fun w => by kernel_rfl) kr ?_
  refine s_val (some 8) (.pointer (some ⟨p, 0, none⟩)) (fun w => by kernel_rfl) kr ?_
  refine s_toU H0 (some 9) 87 152 90 (.tmp 8) 0 p #[.pointer none, .slice none 0 0] 90 kr kr kr kr kr kr kr (by show 0 < 2; omega) ?_
  refine s_val (some 10) (.pointer (some ⟨p, 0, none⟩)) (fun w => by kernel_rfl) kr ?_
  refine s_fromU H0 (some 11) 152 87 90 (.tmp 10) 0 p #[.pointer none, .slice none 0 0] 90 kr kr kr kr kr kr kr kr ?_
  refine s_val (some 12) (.pointer (some ⟨p, 0, none⟩)) (fun w => by kernel_rfl) kr ?_
  refine s_val (some 13) (.pointer (some ⟨p, 0, none⟩)) (fun w => by kernel_rfl) kr ?_
  refine s_store H0 0 ([(p, Obj.cells #[.pointer (some ⟨p, 0, none⟩), .slice none 0 0] 90 (0, 0))] ++ L) 87 (.tmp 13) (.tmp 11) p (0) #[.pointer none, .slice none 0 0] #[.pointer (some ⟨p, 0, none⟩), .slice none 0 0] 90 (.pointer (some ⟨p, 0, none⟩)) kr kr kr kr kr kr (of_decide_eq_true kr) kr kr ?_
  intro w1 H1; clear H0
  refine s_nil ?_
  show ∃ vs, Res _ _ _ _ vs ∧ _
  exact ⟨[], .nil, rfl, _, (BE.nil (some ⟨p, 0, none⟩) (Or.inr rfl)), H1⟩
set_option maxRecDepth 100000 in
set_option maxHeartbeats 2000000 in
theorem copyCheck_nil_self  (p : Nat) (w0 w : World) (L : List (Nat × Obj)) (H0 : St w0.heap.size w0 w ([(p, Obj.cells #[.pointer (some ⟨p, 0, none⟩), .slice none 0 0] 90 (0, 0))] ++ L)) : WP Tryz.prog 20 (codeOf Tryz.f94) (ends Tryz.prog [] fun v' w' => v' = .tuple #[] ∧ ∃ E', BE p 90 5 ([]) E' ∧ St w0.heap.size w0 w' (E' ++ L)) (ini #[.pointer (some ⟨p, 0, none⟩)]) w := by
  refine g_sreg [0, 1, 2, 3, 4] kr kr ?_
  refine s_val (some 2) (.pointer (some ⟨p, 0, none⟩)) (fun w => by kernel_rfl) kr ?_
  refine s_val (some 3) (.pointer (some ⟨p, 0, none⟩)) (fun w => by kernel_rfl) kr ?_
  refine s_val (some 4) (.pointer (some ⟨p, 0, none⟩)) (fun w => by kernel_rfl) kr ?_
  refine s_load1 H0 (some 5) 87 (.tmp 4) 0 p 0 #[.pointer (some ⟨p, 0, none⟩), .slice none 0 0] 90 (0, 0) (.pointer (some ⟨p, 0, none⟩)) kr kr kr kr kr kr ?_
  refine s_val (some 6) (.bool false) (fun w => by kernel_rfl) kr ?_
  refine s_nil ?_
  refine g_cond_f kr kr ?_
  refine g_sreg [0, 1, 2, 3, 4, 5] kr kr ?_
  refine s_val (some 14) (.pointer (some ⟨p, 0, none⟩)) (fun w => by kernel_rfl) kr ?_
  refine s_val (some 15) (.pointer (some ⟨p, 0, none⟩)) (fun w => by kernel_rfl) kr ?_
  refine s_val (some 16) (.pointer (some ⟨p, 0, none⟩)) (fun w => by kernel_rfl) kr ?_
  refine s_load1 H0 (some 17) 87 (.tmp 16) 0 p 0 #[.pointer (some ⟨p, 0, none⟩), .slice none 0 0] 90 (0, 0) (.pointer (some ⟨p, 0, none⟩)) kr kr kr kr kr kr ?_
  refine s_val (some 18) (.pointer (some ⟨p, 0, none⟩)) (fun w => by kernel_rfl) kr ?_
  refine s_op (some 19) _ (.bool false) kr kr (fun o w ho => neqP_run (t := 87) (tp := 90) (t' := 87) kr kr (x := (.tmp 17)) (y := (.tmp 18)) ⟨p, 0, none⟩ ho kr kr w) ?_
  refine s_nil ?_
  refine g_cond_f kr kr ?_
  refine g_skip kr ?_
  show ∃ vs, Res _ _ _ _ vs ∧ _
  exact ⟨[], .nil, rfl, _, (BE.nil (some ⟨p, 0, none⟩) (Or.inr rfl)), H0⟩
set_option maxRecDepth 100000 in
set_option maxHeartbeats 2000000 in
theorem copyCheck_row_none  (p : Nat) (b n cap : Nat) (cur : Array Value) (out : List UInt8) (hn : n = out.length) (hr : Rw 1 cur cap n (cellsB out)) (w0 w : World) (L : List (Nat × Obj)) (H0 : St w0.heap.size w0 w ([(b, Obj.cells cur 5 (0, 0)), (p, Obj.cells #[.pointer none, .slice (some ⟨b, 0, none⟩) n cap] 90 (0, 0))] ++ L)) : WP Tryz.prog 20 (codeOf Tryz.f94) (ends Tryz.prog [] fun v' w' => v' = .tuple #[] ∧ ∃ E', BE p 90 5 out E' ∧ St w0.heap.size w0 w' (E' ++ L)) (ini #[.pointer (some ⟨p, 0, none⟩)]) w := by
  refine g_sreg [0, 1, 2, 3, 4] kr kr ?_
  refine s_val (some 2) (.pointer (some ⟨p, 0, none⟩)) (fun w => by kernel_rfl) kr ?_
  refine s_val (some 3) (.pointer (some ⟨p, 0, none⟩)) (fun w => by kernel_rfl) kr ?_
  refine s_val (some 4) (.pointer (some ⟨p, 0, none⟩)) (fun w => by kernel_rfl) kr ?_
  refine s_load1 H0 (some 5) 87 (.tmp 4) 1 p 0 #[.pointer none, .slice (some ⟨b, 0, none⟩) n cap] 90 (0, 0) (.pointer none) kr kr kr kr kr kr ?_
  refine s_val (some 6) (.bool true) (fun w => by kernel_rfl) kr ?_
  refine s_nil ?_
  refine g_cond_t kr kr ?_
  refine g_reg0 [0, 1, 2, 3, 4, 5, 6, 7] kr ?_
  refine s_val (some 7) (.pointer (some ⟨p, 0, none⟩)) (fun w => by kernel_rfl) kr ?_
  refine s_val (some 8) (.pointer (some ⟨p, 0, none⟩)) (fun w => by kernel_rfl) kr ?_
  refine s_toU H0 (some 9) 87 152 90 (.tmp 8) 1 p #[.pointer none, .slice (some ⟨b, 0, none⟩) n cap] 90 kr kr kr kr kr kr kr (by show 0 < 2; omega) ?_
  refine s_val (some 10) (.pointer (some ⟨p, 0, none⟩)) (fun w => by kernel_rfl) kr ?_
  refine s_fromU H0 (some 11) 152 87 90 (.tmp 10) 1 p #[.pointer none, .slice (some ⟨b, 0, none⟩) n cap] 90 kr kr kr kr kr kr kr kr ?_
  refine s_val (some 12) (.pointer (some ⟨p, 0, none⟩)) (fun w => by kernel_rfl) kr ?_
  refine s_val (some 13) (.pointer (some ⟨p, 0, none⟩)) (fun w => by kernel_rfl) kr ?_
  refine s_store H0 1 ([(b, Obj.cells cur 5 (0, 0)), (p, Obj.cells #[.pointer (some ⟨p, 0, none⟩), .slice (some ⟨b, 0, none⟩) n cap] 90 (0, 0))] ++ L) 87 (.tmp 13) (.tmp 11) p (0) #[.pointer none, .slice (some ⟨b, 0, none⟩) n cap] #[.pointer (some ⟨p, 0, none⟩), .slice (some ⟨b, 0, none⟩) n cap] 90 (.pointer (some ⟨p, 0, none⟩)) kr kr kr kr kr kr (of_decide_eq_true kr) kr kr ?_
  intro w1 H1; clear H0
  refine s_nil ?_
  show ∃ vs, Res _ _ _ _ vs ∧ _
  exact ⟨[], .nil, rfl, _, (BE.row (some ⟨p, 0, none⟩) b n cap cur out (Or.inr rfl) hn hr), H1⟩
set_option maxRecDepth 100000 in
set_option maxHeartbeats 2000000 in
theorem copyCheck_row_self  (p : Nat) (b n cap : Nat) (cur : Array Value) (out : List UInt8) (hn : n = out.length) (hr : Rw 1 cur cap n (cellsB out)) (w0 w : World) (L : List (Nat × Obj)) (H0 : St w0.heap.size w0 w ([(b, Obj.cells cur 5 (0, 0)), (p, Obj.cells #[.pointer (some ⟨p, 0, none⟩), .slice (some ⟨b, 0, none⟩) n cap] 90 (0, 0))] ++ L)) : WP Tryz.prog 20 (codeOf Tryz.f94) (ends Tryz.prog [] fun v' w' => v' = .tuple #[] ∧ ∃ E', BE p 90 5 out E' ∧ St w0.heap.size w0 w' (E' ++ L)) (ini #[.pointer (some ⟨p, 0, none⟩)]) w := by
  refine g_sreg [0, 1, 2, 3, 4] kr kr ?_
  refine s_val (some 2) (.pointer (some ⟨p, 0, none⟩)) (fun w => by kernel_rfl) kr ?_
  refine s_val (some 3) (.pointer (some ⟨p, 0, none⟩)) (fun w => by kernel_rfl) kr ?_
  refine s_val (some 4) (.pointer (some ⟨p, 0, none⟩)) (fun w => by kernel_rfl) kr ?_
  refine s_load1 H0 (some 5) 87 (.tmp 4) 1 p 0 #[.pointer (some ⟨p, 0, none⟩), .slice (some ⟨b, 0, none⟩) n cap] 90 (0, 0) (.pointer (some ⟨p, 0, none⟩)) kr kr kr kr kr kr ?_
  refine s_val (some 6) (.bool false) (fun w => by kernel_rfl) kr ?_
  refine s_nil ?_
  refine g_cond_f kr kr ?_
  refine g_sreg [0, 1, 2, 3, 4, 5] kr kr ?_
  refine s_val (some 14) (.pointer (some ⟨p, 0, none⟩)) (fun w => by kernel_rfl) kr ?_
  refine s_val (some 15) (.pointer (some ⟨p, 0, none⟩)) (fun w => by kernel_rfl) kr ?_
  refine s_val (some 16) (.pointer (some ⟨p, 0, none⟩)) (fun w => by kernel_rfl) kr ?_
  refine s_load1 H0 (some 17) 87 (.tmp 16) 1 p 0 #[.pointer (some ⟨p, 0, none⟩), .slice (some ⟨b, 0, none⟩) n cap] 90 (0, 0) (.pointer (some ⟨p, 0, none⟩)) kr kr kr kr kr kr ?_
  refine s_val (some 18) (.pointer (some ⟨p, 0, none⟩)) (fun w => by kernel_rfl) kr ?_
  refine s_op (some 19) _ (.bool false) kr kr (fun o w ho => neqP_run (t := 87) (tp := 90) (t' := 87) kr kr (x := (.tmp 17)) (y := (.tmp 18)) ⟨p, 0, none⟩ ho kr kr w) ?_
  refine s_nil ?_
  refine g_cond_f kr kr ?_
  refine g_skip kr ?_
  show ∃ vs, Res _ _ _ _ vs ∧ _
  exact ⟨[], .nil, rfl, _, (BE.row (some ⟨p, 0, none⟩) b n cap cur out (Or.inr rfl) hn hr), H0⟩
theorem copyCheck_fn (p : Nat) (out : List UInt8) : FnB Tryz.prog 94 #[.pointer (some ⟨p, 0, none⟩)] (.tuple #[]) p 90 5 out out (fun _ => True) :=
  FnB.intro (c := codeOf Tryz.f94) [] 20 Tryz.func94 kr kr kr fun w0 w L E hE _ HS => by
    rcases hE with ⟨a, rfl | rfl⟩ | ⟨a, b, n, cap, cur, _, rfl | rfl, hn, hr⟩
    · exact copyCheck_nil_none p w0 w L HS
    · exact copyCheck_nil_self p w0 w L HS
    · exact copyCheck_row_none p b n cap cur out hn hr w0 w L HS
    · exact copyCheck_row_self p b n cap cur out hn hr w0 w L HS
set_option maxRecDepth 100000 in
set_option maxHeartbeats 2000000 in
theorem writeString_fn (p : Nat) (out : List UInt8) (s : ByteArray) (h0 : 0 < s.size ∨ out ≠ []) (hm : out.length + s.size ≤ 140737488355328) : FnB Tryz.prog 75 #[.pointer (some ⟨p, 0, none⟩), .string s] (.tuple #[.int .i64 ((ByteArray.size s : Nat) : Int), .nilIface]) p 90 5 out (out ++ tl s) (fun _ => True) := by
  refine FnB.intro (c := codeOf Tryz.f75) [.tmp 4, .tmp 5] 19 Tryz.func75 kr kr kr fun w0 w L E hE _ HS => ?_
  have H0 : St w0.heap.size w0 w (L ++ E) := HS.perm List.perm_append_comm
  refine g_sreg [0, 1] kr kr ?_
  refine s_val (some 4) (.int .i64 0) (fun w => by kernel_rfl) kr ?_
  refine s_val (some 5) (.nilIface) (fun w => by kernel_rfl) kr ?_
  refine s_nil ?_
  refine g_sreg [0, 1] kr kr ?_
  refine s_val (some 6) (.pointer (some ⟨p, 0, none⟩)) (fun w => by kernel_rfl) kr ?_
  refine s_callB (l := L) H0 hE (some 7) 94 #[.pointer (some ⟨p, 0, none⟩)] (.tuple #[]) out (fun _ => True) (copyCheck_fn p out) trivial kr kr ?_
  intro E1 w1 hE1 H1; clear H0
  rcases hE1 with ⟨a, ha⟩ | ⟨a, b, n, cap, cur, _, ha, hn, hr⟩
  · skip
    have h0' : 0 < ByteArray.size s := h0.resolve_right (fun h => h rfl)
    simp only [List.length_nil] at hm
    have HP : St w0.heap.size w0 w1 ([(p, Obj.cells #[.pointer a, .slice none 0 0] 90 (0, 0))] ++ L) := H1.perm List.perm_append_comm
    refine s_nil ?_
    refine g_sreg [0, 1, 2, 3, 4, 5, 6, 7, 8, 9] kr kr ?_
    refine s_val (some 8) (.pointer (some ⟨p, 0, none⟩)) (fun w => by kernel_rfl) kr ?_
    refine s_val (some 9) (.pointer (some ⟨p, 0, none⟩)) (fun w => by kernel_rfl) kr ?_
    refine s_val (some 10) (.pointer (some ⟨p, 0, none⟩)) (fun w => by kernel_rfl) kr ?_
    refine s_val (some 11) (.pointer (some ⟨p, 1, none⟩)) (fun w => by kernel_rfl) kr ?_
    refine s_load1 HP (some 12) 88 (.tmp 11) 0 p 1 #[.pointer a, .slice none 0 0] 90 (0, 0) (.slice none 0 0) kr kr kr kr kr kr ?_
    refine s_val (some 13) (.string s) (fun w => by kernel_rfl) kr ?_
    refine s_appendStrNil HP (some 14) 88 9 5 (.tmp 12) (.tmp 13) s kr kr kr kr kr kr (by omega) (by omega) ?_
    intro b_1 cap_2 cur_3 w2 H2 hr_4; clear HP
    refine s_val (some 15) (.pointer (some ⟨p, 0, none⟩)) (fun w => by kernel_rfl) kr ?_
    refine s_val (some 16) (.pointer (some ⟨p, 1, none⟩)) (fun w => by kernel_rfl) kr ?_
    refine s_store H2 1 ([(b_1, Obj.cells cur_3 5 (0, 0)), (p, Obj.cells #[.pointer a, .slice (some ⟨b_1, 0, none⟩) (ByteArray.size s) cap_2] 90 (0, 0))] ++ L) 88 (.tmp 16) (.tmp 14) p (1) #[.pointer a, .slice none 0 0] #[.pointer a, .slice (some ⟨b_1, 0, none⟩) (ByteArray.size s) cap_2] 90 (.slice (some ⟨b_1, 0, none⟩) (ByteArray.size s) cap_2) kr kr kr kr kr kr (of_decide_eq_true kr) kr kr ?_
    intro w3 H3; clear H2
    refine s_nil ?_
    refine g_sreg [0, 1, 2, 3] kr kr ?_
    refine s_val (some 17) (.string s) (fun w => by kernel_rfl) kr ?_
    refine s_val (some 18) (.int .i64 ((ByteArray.size s : Nat) : Int)) (fun w => by kernel_rfl) kr ?_
    refine s_val (some 4) (.int .i64 ((ByteArray.size s : Nat) : Int)) (fun w => by kernel_rfl) kr ?_
    refine s_val (some 5) (.nilIface) (fun w => by kernel_rfl) kr ?_
    refine s_nil ?_
    refine g_ret kr ?_
    show ∃ vs, Res _ _ _ _ vs ∧ _
    exact ⟨[.int .i64 ((ByteArray.size s : Nat) : Int), .nilIface], (.tmp (.int .i64 ((ByteArray.size s : Nat) : Int)) kr (.tmp (.nilIface) kr .nil)), rfl, _, (BE.row a b_1 (ByteArray.size s) cap_2 cur_3 (tl s) ha rfl hr_4), H3⟩
  · skip
    have HP : St w0.heap.size w0 w1 ([(b, Obj.cells cur 5 (0, 0)), (p, Obj.cells #[.pointer a, .slice (some ⟨b, 0, none⟩) n cap] 90 (0, 0))] ++ L) := H1.perm List.perm_append_comm
    refine s_nil ?_
    refine g_sreg [0, 1, 2, 3, 4, 5, 6, 7, 8, 9] kr kr ?_
    refine s_val (some 8) (.pointer (some ⟨p, 0, none⟩)) (fun w => by kernel_rfl) kr ?_
    refine s_val (some 9) (.pointer (some ⟨p, 0, none⟩)) (fun w => by kernel_rfl) kr ?_
    refine s_val (some 10) (.pointer (some ⟨p, 0, none⟩)) (fun w => by kernel_rfl) kr ?_
    refine s_val (some 11) (.pointer (some ⟨p, 1, none⟩)) (fun w => by kernel_rfl) kr ?_
    refine s_load1 HP (some 12) 88 (.tmp 11) 1 p 1 #[.pointer a, .slice (some ⟨b, 0, none⟩) n cap] 90 (0, 0) (.slice (some ⟨b, 0, none⟩) n cap) kr kr kr kr kr kr ?_
    refine s_val (some 13) (.string s) (fun w => by kernel_rfl) kr ?_
    refine s_appendStr HP (some 14) 88 9 5 (.tmp 12) (.tmp 13) 0 b n cap cur out s (fun b_5 cur_7 => ([(b_5, Obj.cells cur_7 5 (0, 0)), (p, Obj.cells #[.pointer a, .slice (some ⟨b, 0, none⟩) n cap] 90 (0, 0))] ++ L)) kr kr kr kr kr kr hr kr (by omega) (fun _ _ => by kernel_rfl) ?_
    intro b_5 cap_6 cur_7 w4 H4 hr_8; clear HP
    refine s_val (some 15) (.pointer (some ⟨p, 0, none⟩)) (fun w => by kernel_rfl) kr ?_
    refine s_val (some 16) (.pointer (some ⟨p, 1, none⟩)) (fun w => by kernel_rfl) kr ?_
    refine s_store H4 1 ([(b_5, Obj.cells cur_7 5 (0, 0)), (p, Obj.cells #[.pointer a, .slice (some ⟨b_5, 0, none⟩) (n + ByteArray.size s) cap_6] 90 (0, 0))] ++ L) 88 (.tmp 16) (.tmp 14) p (1) #[.pointer a, .slice (some ⟨b, 0, none⟩) n cap] #[.pointer a, .slice (some ⟨b_5, 0, none⟩) (n + ByteArray.size s) cap_6] 90 (.slice (some ⟨b_5, 0, none⟩) (n + ByteArray.size s) cap_6) kr kr kr kr kr kr (of_decide_eq_true kr) kr kr ?_
    intro w5 H5; clear H4
    refine s_nil ?_
    refine g_sreg [0, 1, 2, 3] kr kr ?_
    refine s_val (some 17) (.string s) (fun w => by kernel_rfl) kr ?_
    refine s_val (some 18) (.int .i64 ((ByteArray.size s : Nat) : Int)) (fun w => by kernel_rfl) kr ?_
    refine s_val (some 4) (.int .i64 ((ByteArray.size s : Nat) : Int)) (fun w => by kernel_rfl) kr ?_
    refine s_val (some 5) (.nilIface) (fun w => by kernel_rfl) kr ?_
    refine s_nil ?_
    refine g_ret kr ?_
    show ∃ vs, Res _ _ _ _ vs ∧ _
    exact ⟨[.int .i64 ((ByteArray.size s : Nat) : Int), .nilIface], (.tmp (.int .i64 ((ByteArray.size s : Nat) : Int)) kr (.tmp (.nilIface) kr .nil)), rfl, _, (BE.row a b_5 (n + ByteArray.size s) cap_6 cur_7 (out ++ tl s) ha (by rw [List.length_append, tl_len, hn]) hr_8), H5⟩
end Go.Proofs.YtmiachbcihalpaaGreatDoor

namespace Go.Proofs.YtmiachbcihalpaaGreatDoor
open Go Go.RowKit
set_option linter.unusedVariables false
set_option maxRecDepth 100000 in
set_option maxHeartbeats 2000000 in
theorem write_step (pb m : Nat) (ih : ∀ (out : List UInt8) (l : Bool) (s : ByteArray) (p : Option Addr) (n c : Nat) (k : Fo), s.size ≤ 140737488355328 → List.length out + 9 + ByteArray.size s + wtF k ≤ 140737488355328 → k.cnt < m → FnB0 Tryz.prog 49 #[.pointer (some ⟨pb, 0, none⟩), .agg #[.bool l, .string s, .slice p n c]] (.tuple #[]) pb 90 5 out (out ++ wr1 l s (szF k) (wrF k)) (fun w => SlAt w.heap.size w p n k)) (out : List UInt8) (l : Bool) (s : ByteArray) (p : Option Addr) (n c : Nat) (k : Fo) (hs : s.size ≤ 140737488355328) (hw : List.length out + 9 + ByteArray.size s + wtF k ≤ 140737488355328) (hkm : k.cnt < m + 1) : FnB0 Tryz.prog 49 #[.pointer (some ⟨pb, 0, none⟩), .agg #[.bool l, .string s, .slice p n c]] (.tuple #[]) pb 90 5 out (out ++ wr1 l s (szF k) (wrF k)) (fun w => SlAt w.heap.size w p n k) := by
  refine FnB0.intro (c := codeOf Tryz.f49) [] 31 Tryz.func49 kr kr kr fun w0 w E0 hE0 hpre H0 => ?_
  have hn := hpre.1
  have hnm := hpre.2.1
  refine g_sreg [0] kr kr ?_
  refine s_box H0 (some 3) 68 (.tmp 1) (.agg #[.bool l, .string s, .slice p n c]) kr kr kr ?_
  intro b1 w1 H1; clear H0
  refine s_nil ?_
  refine g_seq kr ?_
  refine g_sreg [0, 1, 2, 3] kr kr ?_
  refine s_val (some 6) (.pointer (some ⟨b1, 1, none⟩)) (fun w => by kernel_rfl) kr ?_
  refine s_load1 H1 (some 7) 9 (.tmp 6) 0 b1 1 #[.bool l, .string s, .slice p n c] 68 (0, 0) (.string s) kr kr kr kr kr kr ?_
  refine s_call H1 (some 8) 72 #[.string s] (.bool (single s)) (single_fn s) (fun w => by kernel_rfl) kr ?_
  intro w2 H2; clear H1
  cases hq1 : single s
  · skip
    refine s_val (some 9) (.bool true) (fun w => by kernel_rfl) kr ?_
    refine s_nil ?_
    refine g_cond_t kr kr ?_
    have hsl := szF_le k
    have hhl := hd_len (frm l) (ByteArray.size s + szF k)
    refine D2.g_draw0 [0, 1, 2, 3, 4, 5] [(some 10, fun _ => .pointer (some ⟨pb, 0, none⟩)), (some 11, fun _ => .agg #[.bool l, .string s, .slice p n c]), (some 12, fun _ => .agg #[.bool l, .string s, .slice p n c]), (some 13, fun _ => .int .u64 ((ByteArray.size s + szF k : Nat) : Int)), (some 14, fun _ => .string (strB (hd (frm l) (ByteArray.size s + szF k)))), (some 15, fun _ => .tuple #[.int .i64 ((ByteArray.size (strB (hd (frm l) (ByteArray.size s + szF k))) : Nat) : Int), .nilIface])] (PreB w0 pb 90 5 (out ++ tl (strB (hd (frm l) (ByteArray.size s + szF k)))) (b1, Obj.cells #[.bool l, .string s, .slice p n c] 68 (0, 0)) E0 5) kr kr kr H2.drew ⟨?_, ?_, ?_, ?_, ?_, ?_, trivial⟩ ?_
    · exact gvB_val rfl (fun g w => by kernel_rfl)
    · exact gvB_load (C := #[.bool l, .string s, .slice p n c]) (T' := 68) (t := 68) (x := (.tmp 3)) rfl (fun g => by kernel_rfl) (fun g => by kernel_rfl) rfl kr
    · exact gvB_load (C := #[.bool l, .string s, .slice p n c]) (T' := 68) (t := 68) (x := (.tmp 3)) rfl (fun g => by kernel_rfl) (fun g => by kernel_rfl) rfl kr
    · exact gvB_callP (f := 73) (args := #[.agg #[.bool l, .string s, .slice p n c]]) rfl (inside_fn l s p n c k hs (by omega)) (fun w hb => SlAt.call hpre hb) (fun g w => by kernel_rfl)
    · exact gvB_call (f := 74) (args := #[.agg #[.bool l, .string s, .slice p n c], .int .u64 ((ByteArray.size s + szF k : Nat) : Int)]) rfl (head_fn l s p n c (ByteArray.size s + szF k) (by omega)) (fun g w => by kernel_rfl)
    · exact gvB_eff (f := 75) (args := #[.pointer (some ⟨pb, 0, none⟩), .string (strB (hd (frm l) (ByteArray.size s + szF k)))]) rfl hE0 (writeString_fn pb out (strB (hd (frm l) (ByteArray.size s + szF k))) (Or.inl (by rw [strB_size]; exact hhl.1)) (by rw [strB_size]; omega)) (fun g w => by kernel_rfl)
    intro L0 G0 w3 hall HL; clear H2
    obtain ⟨E1, hE1, H3⟩ := HL.done (hall 5 (Nat.le_of_ble_eq_true kr))
    show WP _ _ _ _ _ _
    refine g_sreg [0, 1, 2, 3] kr kr ?_
    have hl0 : (out ++ tl (strB (hd (frm l) (ByteArray.size s + szF k)))).length = out.length + (hd (frm l) (ByteArray.size s + szF k)).length := by rw [List.length_append, tl_strB]
    have hw1 : out ++ wr1 l s (szF k) (wrF k) = (out ++ tl (strB (hd (frm l) (ByteArray.size s + szF k))) ++ tl s) ++ wrF k := by unfold wr1; rw [if_neg (by rw [hq1]; decide), tl_strB]; simp only [List.append_assoc]
    have hl1 : (out ++ tl (strB (hd (frm l) (ByteArray.size s + szF k))) ++ tl s).length = out.length + (hd (frm l) (ByteArray.size s + szF k)).length + ByteArray.size s := by rw [List.length_append, hl0, tl_len]
    refine s_val (some 16) (.pointer (some ⟨pb, 0, none⟩)) (fun w => by kernel_rfl) kr ?_
    refine s_val (some 17) (.pointer (some ⟨b1, 1, none⟩)) (fun w => by kernel_rfl) kr ?_
    refine s_load1 H3 (some 18) 9 (.tmp 17) 0 b1 1 #[.bool l, .string s, .slice p n c] 68 (0, 0) (.string s) kr kr kr kr kr kr ?_
    refine s_callB (l := [(b1, Obj.cells #[.bool l, .string s, .slice p n c] 68 (0, 0))]) H3 hE1 (some 19) 75 #[.pointer (some ⟨pb, 0, none⟩), .string s] (.tuple #[.int .i64 ((ByteArray.size s : Nat) : Int), .nilIface]) ((out ++ tl (strB (hd (frm l) (ByteArray.size s + szF k)))) ++ tl s) (fun _ => True) (writeString_fn pb (out ++ tl (strB (hd (frm l) (ByteArray.size s + szF k)))) s (Or.inr (by intro q; have h9 := congrArg List.length q; rw [hl0] at h9; simp only [List.length_nil] at h9; omega)) (by rw [hl0]; omega)) trivial kr kr ?_
    intro E2 w4 hE2 H4; clear H3
    refine s_nil ?_
    refine g_sreg [0, 1, 2, 3] kr kr ?_
    refine s_val (some 20) (.pointer (some ⟨b1, 2, none⟩)) (fun w => by kernel_rfl) kr ?_
    refine s_load1 H4 (some 21) 66 (.tmp 20) 0 b1 2 #[.bool l, .string s, .slice p n c] 68 (0, 0) (.slice p n c) kr kr kr kr kr kr ?_
    refine s_val (some 22) (.int .i64 ((n : Nat) : Int)) (fun w => by kernel_rfl) kr ?_
    refine s_val (some 23) (.int .i64 0) (fun w => by kernel_rfl) kr ?_
    refine s_nil ?_
    refine g_block 0 kr ?_
    have HD1 : St w0.heap.size w0 w4 ([] ++ E2) := H4.sub (List.Sublist.cons _ (List.Sublist.refl E2))
    refine g_loop kr (fun mz ρ ww => ∃ (i : Nat) (r : Fo) (o : List UInt8) (Ez : List (Nat × Obj)), n - i = mz ∧ (FoR w0.heap.size w0 p i r) ∧ (i + Fo.len r = n) ∧ (Fo.cnt r ≤ Fo.cnt k) ∧ (List.length o + wtF r ≤ 140737488355328) ∧ (out ++ wr1 l s (szF k) (wrF k) = o ++ wrF r) ∧ (BE pb 90 5 o Ez) ∧ St w0.heap.size w0 ww ([] ++ Ez) ∧ Is [(0, .pointer (some ⟨pb, 0, none⟩)), (1, .agg #[.bool l, .string s, .slice p n c]), (3, .pointer (some ⟨b1, 0, none⟩)), (9, .bool true), (21, .slice p n c), (22, .int .i64 ((n : Nat) : Int)), (23, .int .i64 ((i : Nat) : Int))] ρ) (n - 0) ⟨0, k, ((out ++ tl (strB (hd (frm l) (ByteArray.size s + szF k)))) ++ tl s), E2, rfl, (SlAt.start hpre), (by have hn0 := (hpre).1; omega), (Nat.le_refl _), (by rw [hl1]; omega), hw1, hE2, HD1, (Is.of ⟨kr, kr, kr, kr, kr, kr, kr, trivial⟩)⟩ ?_
    clear HD1
    rintro _ _ w5 ⟨i, r, o, Ez, rfl, hR, hN, hcn, hwt, hout, hEz, H5, _, rfl⟩
    refine g_sreg [0] kr kr ?_
    by_cases hc2 : (i : Nat) < n
    · skip
      refine s_valE (some 24) (.bool (decide (((i : Nat) : Int) < ((n : Nat) : Int)))) (.bool true) (fun w => by kernel_rfl) (bool_eq (decide_eq_true (by omega))) kr ?_
      refine s_nil ?_
      refine g_seq kr ?_
      refine g_cond_t kr kr ?_
      refine g_skip kr ?_
      show WP _ _ _ _ _ _
      refine g_seq kr ?_
      refine g_block 1 kr ?_
      refine g_sreg [0, 1, 2, 3] kr kr ?_
      obtain ⟨l1, s1, k1, r1, b1, off1, C1, T1, fz1, p1, n1, c1, hr1, hp1, hb1, hh1, hs1, hx1, hz1, hk1, hR1, hN1⟩ := FoR.open hR hN (by omega)
      refine s_op (some 25) _ (.pointer (some ⟨b1, off1 + i * 3, none⟩)) kr kr (fun o w ho => idxO_run (kd := .i64) (t := 66) (e := 68) (bytes := 48) kr (x := (.tmp 21)) (y := (.tmp 23)) b1 off1 n c i hp1 ho kr kr (by omega) w) ?_
      refine s_loadpF H5 (some 26) 68 (.tmp 25) b1 (off1 + i * 3) 3 C1 #[.bool l1, .string s1, .slice p1 n1 c1] T1 fz1 kr kr kr hh1 hb1 kr hs1 hx1 ?_
      refine s_alloc H5 (some 5) 68 (.agg #[.bool false, .string (⟨#[]⟩), .slice none 0 0]) kr kr kr ?_
      intro b2 w6 H6; clear H5
      refine s_store H6 0 ([(b2, Obj.cells #[.bool l1, .string s1, .slice p1 n1 c1] 68 (0, 0))] ++ Ez) 68 (.tmp 5) (.tmp 26) b2 (0) (#[.bool false, .string (⟨#[]⟩), .slice none 0 0]) #[.bool l1, .string s1, .slice p1 n1 c1] 68 (.agg #[.bool l1, .string s1, .slice p1 n1 c1]) kr kr kr kr kr kr (of_decide_eq_true kr) kr kr ?_
      intro w7 H7; clear H6
      refine s_nil ?_
      refine g_reg0 [0, 1, 2] kr ?_
      have hcn1 := hcn
      rw [hr1] at hcn1
      simp only [Fo.cnt] at hcn1
      have hwt1 := hwt
      rw [hr1] at hwt1
      simp only [wtF] at hwt1
      have hwl1 : (wr1 l1 s1 (szF k1) (wrF k1)).length ≤ 9 + ByteArray.size s1 + wtF k1 := by have h9 := wrF_len (.cons l1 s1 k1 .nil); simp only [wrF, wtF, List.append_nil, Nat.add_zero] at h9; exact h9
      refine s_val (some 27) (.pointer (some ⟨pb, 0, none⟩)) (fun w => by kernel_rfl) kr ?_
      refine s_load H7 (some 28) 68 (.tmp 5) 0 b2 #[.bool l1, .string s1, .slice p1 n1 c1] 68 (0, 0) kr kr kr kr kr ?_
      have HD3 : St w0.heap.size w0 w7 ([] ++ Ez) := H7.sub (List.Sublist.cons _ (List.Sublist.refl Ez))
      refine s_callB0 HD3 hEz (some 29) 49 #[.pointer (some ⟨pb, 0, none⟩), .agg #[.bool l1, .string s1, .slice p1 n1 c1]] (.tuple #[]) (o ++ wr1 l1 s1 (szF k1) (wrF k1)) (fun w => SlAt w.heap.size w p1 n1 k1) (ih o l1 s1 p1 n1 c1 k1 hz1 (by omega) (by omega)) hk1 kr kr ?_
      intro E3 w8 hE3 H8; clear HD3
      refine s_nil ?_
      show WP _ _ _ _ _ _
      refine g_reg0 [0, 1] kr ?_
      refine s_valE (some 30) (.int .i64 (IntKind.i64.wrap (((i : Nat) : Int) + 1))) (.int .i64 ((i + 1 : Nat) : Int)) (fun w => by kernel_rfl) (int_eq (wrapAdd_i64 (a := i) (b := 1) (by omega))) kr ?_
      refine s_val (some 23) (.int .i64 ((i + 1 : Nat) : Int)) (fun w => by kernel_rfl) kr ?_
      refine s_nil ?_
      show ∃ m, _ ∧ _
      exact ⟨_, (by omega), (i + 1), r1, (o ++ wr1 l1 s1 (szF k1) (wrF k1)), E3, rfl, hR1, hN1, (by omega), (by rw [List.length_append]; omega), (by rw [hout, hr1]; simp only [wrF, List.append_assoc]), hE3, H8, (Is.of ⟨kr, kr, kr, kr, kr, kr, kr, trivial⟩)⟩
    · skip
      refine s_valE (some 24) (.bool (decide (((i : Nat) : Int) < ((n : Nat) : Int)))) (.bool false) (fun w => by kernel_rfl) (bool_eq (decide_eq_false (by omega))) kr ?_
      refine s_nil ?_
      refine g_seq kr ?_
      refine g_cond_f kr kr ?_
      refine g_exit 0 kr ?_
      show ∃ vs, Res _ _ _ _ vs ∧ _
      have hdn := FoR.done hN (by omega)
      rw [hdn] at hout
      exact ⟨[], .nil, rfl, _, (by rw [hout, show wrF Fo.nil = [] from rfl, List.append_nil]; exact hEz), H5⟩
  · skip
    refine s_val (some 9) (.bool false) (fun w => by kernel_rfl) kr ?_
    refine s_nil ?_
    refine g_cond_f kr kr ?_
    refine g_skip kr ?_
    show WP _ _ _ _ _ _
    refine g_sreg [0, 1, 2, 3] kr kr ?_
    have hsz1 := single_size hq1
    have hw1 : out ++ wr1 l s (szF k) (wrF k) = (out ++ tl s) ++ wrF k := by unfold wr1; rw [if_pos hq1, List.nil_append, List.append_assoc]
    have hl1 : (out ++ tl s).length = out.length + ByteArray.size s := by rw [List.length_append, tl_len]
    refine s_val (some 16) (.pointer (some ⟨pb, 0, none⟩)) (fun w => by kernel_rfl) kr ?_
    refine s_val (some 17) (.pointer (some ⟨b1, 1, none⟩)) (fun w => by kernel_rfl) kr ?_
    refine s_load1 H2 (some 18) 9 (.tmp 17) 0 b1 1 #[.bool l, .string s, .slice p n c] 68 (0, 0) (.string s) kr kr kr kr kr kr ?_
    refine s_callB (l := [(b1, Obj.cells #[.bool l, .string s, .slice p n c] 68 (0, 0))]) H2 hE0 (some 19) 75 #[.pointer (some ⟨pb, 0, none⟩), .string s] (.tuple #[.int .i64 ((ByteArray.size s : Nat) : Int), .nilIface]) (out ++ tl s) (fun _ => True) (writeString_fn pb out s (Or.inl (by omega)) (by omega)) trivial kr kr ?_
    intro E4 w9 hE4 H9; clear H2
    refine s_nil ?_
    refine g_sreg [0, 1, 2, 3] kr kr ?_
    refine s_val (some 20) (.pointer (some ⟨b1, 2, none⟩)) (fun w => by kernel_rfl) kr ?_
    refine s_load1 H9 (some 21) 66 (.tmp 20) 0 b1 2 #[.bool l, .string s, .slice p n c] 68 (0, 0) (.slice p n c) kr kr kr kr kr kr ?_
    refine s_val (some 22) (.int .i64 ((n : Nat) : Int)) (fun w => by kernel_rfl) kr ?_
    refine s_val (some 23) (.int .i64 0) (fun w => by kernel_rfl) kr ?_
    refine s_nil ?_
    refine g_block 0 kr ?_
    have HD4 : St w0.heap.size w0 w9 ([] ++ E4) := H9.sub (List.Sublist.cons _ (List.Sublist.refl E4))
    refine g_loop kr (fun mz ρ ww => ∃ (i : Nat) (r : Fo) (o : List UInt8) (Ez : List (Nat × Obj)), n - i = mz ∧ (FoR w0.heap.size w0 p i r) ∧ (i + Fo.len r = n) ∧ (Fo.cnt r ≤ Fo.cnt k) ∧ (List.length o + wtF r ≤ 140737488355328) ∧ (out ++ wr1 l s (szF k) (wrF k) = o ++ wrF r) ∧ (BE pb 90 5 o Ez) ∧ St w0.heap.size w0 ww ([] ++ Ez) ∧ Is [(0, .pointer (some ⟨pb, 0, none⟩)), (1, .agg #[.bool l, .string s, .slice p n c]), (3, .pointer (some ⟨b1, 0, none⟩)), (9, .bool false), (21, .slice p n c), (22, .int .i64 ((n : Nat) : Int)), (23, .int .i64 ((i : Nat) : Int))] ρ) (n - 0) ⟨0, k, (out ++ tl s), E4, rfl, (SlAt.start hpre), (by have hn0 := (hpre).1; omega), (Nat.le_refl _), (by rw [hl1]; omega), hw1, hE4, HD4, (Is.of ⟨kr, kr, kr, kr, kr, kr, kr, trivial⟩)⟩ ?_
    clear HD4
    rintro _ _ w10 ⟨i, r, o, Ez, rfl, hR, hN, hcn, hwt, hout, hEz, H10, _, rfl⟩
    refine g_sreg [0] kr kr ?_
    by_cases hc5 : (i : Nat) < n
    · skip
      refine s_valE (some 24) (.bool (decide (((i : Nat) : Int) < ((n : Nat) : Int)))) (.bool true) (fun w => by kernel_rfl) (bool_eq (decide_eq_true (by omega))) kr ?_
      refine s_nil ?_
      refine g_seq kr ?_
      refine g_cond_t kr kr ?_
      refine g_skip kr ?_
      show WP _ _ _ _ _ _
      refine g_seq kr ?_
      refine g_block 1 kr ?_
      refine g_sreg [0, 1, 2, 3] kr kr ?_
      obtain ⟨l2, s2, k2, r2, b2, off2, C2, T2, fz2, p2, n2, c2, hr2, hp2, hb2, hh2, hs2, hx2, hz2, hk2, hR2, hN2⟩ := FoR.open hR hN (by omega)
      refine s_op (some 25) _ (.pointer (some ⟨b2, off2 + i * 3, none⟩)) kr kr (fun o w ho => idxO_run (kd := .i64) (t := 66) (e := 68) (bytes := 48) kr (x := (.tmp 21)) (y := (.tmp 23)) b2 off2 n c i hp2 ho kr kr (by omega) w) ?_
      refine s_loadpF H10 (some 26) 68 (.tmp 25) b2 (off2 + i * 3) 3 C2 #[.bool l2, .string s2, .slice p2 n2 c2] T2 fz2 kr kr kr hh2 hb2 kr hs2 hx2 ?_
      refine s_alloc H10 (some 5) 68 (.agg #[.bool false, .string (⟨#[]⟩), .slice none 0 0]) kr kr kr ?_
      intro b3 w11 H11; clear H10
      refine s_store H11 0 ([(b3, Obj.cells #[.bool l2, .string s2, .slice p2 n2 c2] 68 (0, 0))] ++ Ez) 68 (.tmp 5) (.tmp 26) b3 (0) (#[.bool false, .string (⟨#[]⟩), .slice none 0 0]) #[.bool l2, .string s2, .slice p2 n2 c2] 68 (.agg #[.bool l2, .string s2, .slice p2 n2 c2]) kr kr kr kr kr kr (of_decide_eq_true kr) kr kr ?_
      intro w12 H12; clear H11
      refine s_nil ?_
      refine g_reg0 [0, 1, 2] kr ?_
      have hcn2 := hcn
      rw [hr2] at hcn2
      simp only [Fo.cnt] at hcn2
      have hwt2 := hwt
      rw [hr2] at hwt2
      simp only [wtF] at hwt2
      have hwl2 : (wr1 l2 s2 (szF k2) (wrF k2)).length ≤ 9 + ByteArray.size s2 + wtF k2 := by have h9 := wrF_len (.cons l2 s2 k2 .nil); simp only [wrF, wtF, List.append_nil, Nat.add_zero] at h9; exact h9
      refine s_val (some 27) (.pointer (some ⟨pb, 0, none⟩)) (fun w => by kernel_rfl) kr ?_
      refine s_load H12 (some 28) 68 (.tmp 5) 0 b3 #[.bool l2, .string s2, .slice p2 n2 c2] 68 (0, 0) kr kr kr kr kr ?_
      have HD6 : St w0.heap.size w0 w12 ([] ++ Ez) := H12.sub (List.Sublist.cons _ (List.Sublist.refl Ez))
      refine s_callB0 HD6 hEz (some 29) 49 #[.pointer (some ⟨pb, 0, none⟩), .agg #[.bool l2, .string s2, .slice p2 n2 c2]] (.tuple #[]) (o ++ wr1 l2 s2 (szF k2) (wrF k2)) (fun w => SlAt w.heap.size w p2 n2 k2) (ih o l2 s2 p2 n2 c2 k2 hz2 (by omega) (by omega)) hk2 kr kr ?_
      intro E5 w13 hE5 H13; clear HD6
      refine s_nil ?_
      show WP _ _ _ _ _ _
      refine g_reg0 [0, 1] kr ?_
      refine s_valE (some 30) (.int .i64 (IntKind.i64.wrap (((i : Nat) : Int) + 1))) (.int .i64 ((i + 1 : Nat) : Int)) (fun w => by kernel_rfl) (int_eq (wrapAdd_i64 (a := i) (b := 1) (by omega))) kr ?_
      refine s_val (some 23) (.int .i64 ((i + 1 : Nat) : Int)) (fun w => by kernel_rfl) kr ?_
      refine s_nil ?_
      show ∃ m, _ ∧ _
      exact ⟨_, (by omega), (i + 1), r2, (o ++ wr1 l2 s2 (szF k2) (wrF k2)), E5, rfl, hR2, hN2, (by omega), (by rw [List.length_append]; omega), (by rw [hout, hr2]; simp only [wrF, List.append_assoc]), hE5, H13, (Is.of ⟨kr, kr, kr, kr, kr, kr, kr, trivial⟩)⟩
    · skip
      refine s_valE (some 24) (.bool (decide (((i : Nat) : Int) < ((n : Nat) : Int)))) (.bool false) (fun w => by kernel_rfl) (bool_eq (decide_eq_false (by omega))) kr ?_
      refine s_nil ?_
      refine g_seq kr ?_
      refine g_cond_f kr kr ?_
      refine g_exit 0 kr ?_
      show ∃ vs, Res _ _ _ _ vs ∧ _
      have hdn := FoR.done hN (by omega)
      rw [hdn] at hout
      exact ⟨[], .nil, rfl, _, (by rw [hout, show wrF Fo.nil = [] from rfl, List.append_nil]; exact hEz), H10⟩
theorem write_fn (pb : Nat) (out : List UInt8) (l : Bool) (s : ByteArray) (p : Option Addr) (n c : Nat) (k : Fo) (hs : s.size ≤ 140737488355328) (hw : List.length out + 9 + ByteArray.size s + wtF k ≤ 140737488355328) : FnB0 Tryz.prog 49 #[.pointer (some ⟨pb, 0, none⟩), .agg #[.bool l, .string s, .slice p n c]] (.tuple #[]) pb 90 5 out (out ++ wr1 l s (szF k) (wrF k)) (fun w => SlAt w.heap.size w p n k) := by
  have key : ∀ (m : Nat) (out : List UInt8) (l : Bool) (s : ByteArray) (p : Option Addr) (n c : Nat) (k : Fo), s.size ≤ 140737488355328 → List.length out + 9 + ByteArray.size s + wtF k ≤ 140737488355328 → k.cnt < m → FnB0 Tryz.prog 49 #[.pointer (some ⟨pb, 0, none⟩), .agg #[.bool l, .string s, .slice p n c]] (.tuple #[]) pb 90 5 out (out ++ wr1 l s (szF k) (wrF k)) (fun w => SlAt w.heap.size w p n k) := by
    intro m
    induction m with
    | zero => intros; omega
    | succ m ih => intro out l s p n c k hs hw hkm; exact write_step pb m ih out l s p n c k hs hw hkm
  exact key (k.cnt + 1) out l s p n c k hs hw (by omega)
end Go.Proofs.YtmiachbcihalpaaGreatDoor

namespace Go.Proofs.YtmiachbcihalpaaGreatDoor
open Go Go.RowKit
set_option linter.unusedVariables false
/-- A call that reads the builder out. -/
def FnO (P : Program) (f : Nat) (args : Array Value) (v : Value) (p : Nat) (T e : TypeId) (out : List UInt8) : Prop :=
  ∀ (w0 w : World) (E : List (Nat × Obj)), BE p T e out E → St w0.heap.size w0 w E → Calls P f args w fun r w' => r = .returned v ∧ St w0.heap.size w0 w' []
theorem s_callO {P : Program} {N : Nat} {ops : Array Oper} {i : Nat} {r : List Nat} {K : Env → World → Prop} {ρ : Env} {w : World} {w0 : World} {E : List (Nat × Obj)} (HS : St w0.heap.size w0 w E) {p : Nat} {T e : TypeId} {out : List UInt8} (hE : BE p T e out E) (d : Option Nat) (f : Nat) (args : Array Value) (v : Value) (hc : FnO P f args v p T e out)
    (h : opv P ops i ρ w = some (d, true, .ok (.enter f args) w)) (hd : dOK d N = true) (kk : ∀ w', St w0.heap.size w0 w' [] → WPs P N ops K r (updO ρ d v) w') : WPs P N ops K (i :: r) ρ w := by
  obtain ⟨o, ho, rfl, hw, hr⟩ := opv_some h
  refine WPo.run ho hw fun a ha => ?_
  rw [hr, Oper.upon_enter]
  refine (hc w0 w E hE HS).mono ?_
  rintro _ w' ⟨rfl, hS⟩
  exact ⟨_, ha.put _ (dOK_lt hd) v, kk w' hS⟩
set_option maxRecDepth 100000 in
set_option maxHeartbeats 2000000 in
theorem string_st (pb b n cap : Nat) (cur : Array Value) (out : List UInt8) (a : Option Addr) (hn : n = out.length) (hr : Rw 1 cur cap n (cellsB out)) (h0 : 0 < n) (hm : n ≤ 140737488355328) (hcap : cap ≠ 0) (w0 w : World) (H0 : St w0.heap.size w0 w [(b, Obj.cells cur 5 (0, 0)), (pb, Obj.cells #[.pointer a, .slice (some ⟨b, 0, none⟩) n cap] 90 (0, 0))]) : WP Tryz.prog 14 (codeOf Tryz.f50) (ends Tryz.prog [.tmp 2] fun v' w' => v' = .string (strB out) ∧ St w0.heap.size w0 w' []) (ini #[.pointer (some ⟨pb, 0, none⟩)]) w := by
  refine g_sreg [0] kr kr ?_
  refine s_val (some 2) (.string (⟨#[]⟩)) (fun w => by kernel_rfl) kr ?_
  refine s_nil ?_
  refine D2.g_sdraw [0, 1, 2, 3, 4, 5, 6, 7, 8, 9, 10, 11] [(some 3, fun _ => .pointer (some ⟨pb, 0, none⟩)), (some 4, fun _ => .pointer (some ⟨pb, 0, none⟩)), (some 5, fun _ => .pointer (some ⟨pb, 1, none⟩)), (some 6, fun _ => .slice (some ⟨b, 0, none⟩) n cap), (some 7, fun _ => .pointer (some ⟨b, 0, none⟩)), (some 8, fun _ => .pointer (some ⟨pb, 0, none⟩)), (some 9, fun _ => .pointer (some ⟨pb, 0, none⟩)), (some 10, fun _ => .pointer (some ⟨pb, 1, none⟩)), (some 11, fun _ => .slice (some ⟨b, 0, none⟩) n cap), (some 12, fun _ => .int .i64 ((n : Nat) : Int)), (some 13, fun _ => .string (strB out)), (some 2, fun _ => .string (strB out))] (PreS w0 [(b, Obj.cells cur 5 (0, 0)), (pb, Obj.cells #[.pointer a, .slice (some ⟨b, 0, none⟩) n cap] 90 (0, 0))] 10) kr kr kr kr H0.drew ⟨?_, ?_, ?_, ?_, ?_, ?_, ?_, ?_, ?_, ?_, ?_, ?_, trivial⟩ ?_
  · exact gvS_val rfl (fun g w => by kernel_rfl)
  · exact gvS_val rfl (fun g w => by kernel_rfl)
  · exact gvS_val rfl (fun g w => by kernel_rfl)
  · exact gvS_op rfl (fun L hN => (hN.2.2.no 4 10 kr (hN.post 4 kr))) (.load 88 (.tmp 5)) (fun g => by kernel_rfl) (fun g w o hS ho => hS.load1_run (j := 1) (b := pb) (off := 1) (C := #[.pointer a, .slice (some ⟨b, 0, none⟩) n cap]) (T := 90) kr kr kr kr o ho)
  · exact gvS_op rfl (fun L hN => (hN.post 10 kr)) (sliceDataOp 88 (.tmp 6)) (fun g => by kernel_rfl) (fun g w o hS ho => sliceData_run (a := ⟨b, 0, none⟩) (n := n) (c := cap) kr (by omega) o ho)
  · exact gvS_val rfl (fun g w => by kernel_rfl)
  · exact gvS_val rfl (fun g w => by kernel_rfl)
  · exact gvS_val rfl (fun g w => by kernel_rfl)
  · exact gvS_op rfl (fun L hN => (hN.2.2.no 9 10 kr (hN.post 9 kr))) (.load 88 (.tmp 10)) (fun g => by kernel_rfl) (fun g w o hS ho => hS.load1_run (j := 1) (b := pb) (off := 1) (C := #[.pointer a, .slice (some ⟨b, 0, none⟩) n cap]) (T := 90) kr kr kr kr o ho)
  · exact gvS_val rfl (fun g w => by kernel_rfl)
  · exact gvS_eff rfl (unsafeOp 116 3 (.tmp 7) (.tmp 12)) (fun g => by kernel_rfl) (fun g w o hS ho => unsafeStr_run (j := 0) (b := b) (n := n) (cap := cap) (C := cur) (e := 5) hS kr kr kr kr kr hr (by omega) (by omega) o ho)
  · exact gvS_val rfl (fun g w => by kernel_rfl)
  intro L0 G0 w1 hall HL; clear H0
  have H1 : St w0.heap.size w0 w1 [] := by unfold PreS at HL; rw [hall 10 (Nat.le_of_ble_eq_true kr)] at HL; exact HL
  refine g_ret kr ?_
  show ∃ vs, Res _ _ _ _ vs ∧ _
  exact ⟨[.string (strB out)], .tmp _ kr .nil, rfl, H1⟩
theorem string_fn (pb : Nat) (out : List UInt8) (h0 : 0 < out.length) (hm : out.length ≤ 140737488355328) : FnO Tryz.prog 50 #[.pointer (some ⟨pb, 0, none⟩)] (.string (strB out)) pb 90 5 out := fun w0 w E hE HS => by
  rcases hE with ⟨a, ha⟩ | ⟨a, b, n, cap, cur, _, ha, hn, hr⟩
  · simp at h0
  · have h9 : Calls Tryz.prog 50 #[.pointer (some ⟨pb, 0, none⟩)] w fun r w' => ∃ v', r = .returned v' ∧ (v' = .string (strB out) ∧ St w0.heap.size w0 w' []) :=
      calls_intro (c := codeOf Tryz.f50) (rs := [.tmp 2]) (N := 14) Tryz.func50 kr kr kr (string_st pb b n cap cur out a hn hr (by omega) (by omega) (by have := hr.le; omega) w0 w HS)
    refine h9.mono ?_
    rintro _ w' ⟨v', he, hv, hS⟩
    exact ⟨by rw [he, hv], hS⟩
set_option maxRecDepth 100000 in
set_option maxHeartbeats 2000000 in
theorem encode_fn (l : Bool) (s : ByteArray) (p : Option Addr) (n c : Nat) (k : Fo) (hs : s.size ≤ 140737488355328) : FnP Tryz.prog 27 #[.agg #[.bool l, .string s, .slice p n c]] (fun w => SlAt w.heap.size w p n k) (encV (encS l s n k)) := by
  refine FnP.intro (c := codeOf Tryz.f27) [.tmp 2, .tmp 3] 20 Tryz.func27 kr kr kr fun w hpre => ?_
  have H0 := St.start w
  have hn := hpre.1
  have hnm := hpre.2.1
  have hdl := dpF_le k
  refine g_sreg [0, 1, 2] kr kr ?_
  refine s_box H0 (some 1) 68 (.tmp 0) (.agg #[.bool l, .string s, .slice p n c]) kr kr kr ?_
  intro b1 w1 H1; clear H0
  refine s_val (some 2) (.string (⟨#[]⟩)) (fun w => by kernel_rfl) kr ?_
  refine s_val (some 3) (.int .i64 0) (fun w => by kernel_rfl) kr ?_
  refine s_nil ?_
  refine g_seq kr ?_
  refine g_block 0 kr ?_
  refine g_sreg [0, 1, 2, 3] kr kr ?_
  refine s_load H1 (some 6) 68 (.tmp 1) 0 b1 #[.bool l, .string s, .slice p n c] 68 (0, 0) kr kr kr kr kr ?_
  refine s_callP H1 (some 7) 46 #[.agg #[.bool l, .string s, .slice p n c], .int .i64 4000] (fun w => SlAt w.heap.size w p n k) (.int .i64 (lfV (lf1 l s n (lfF k) 4000))) (left_fn l s p n c k (by omega) 4000 (by omega)) (SlAt.call hpre H1.below) (fun w => by kernel_rfl) kr ?_
  intro w2 H2; clear H1
  rcases opt_cases (lf1 l s n (lfF k) 4000) with hv1 | ⟨y, hv1⟩
  · skip
    refine s_now 7 (v := .int .i64 (lfV (lf1 l s n (lfF k) 4000))) (v' := .int .i64 (-1)) (int_eq (by rw [hv1]; rfl)) kr ?_
    refine s_val (some 8) (.bool true) (fun w => by kernel_rfl) kr ?_
    refine s_val (some 5) (.bool true) (fun w => by kernel_rfl) kr ?_
    refine s_nil ?_
    refine g_cond_t kr kr ?_
    refine g_sreg [0, 1] kr kr ?_
    refine s_val (some 2) (.string (⟨#[]⟩)) (fun w => by kernel_rfl) kr ?_
    refine s_val (some 3) (.int .i64 1) (fun w => by kernel_rfl) kr ?_
    refine s_nil ?_
    refine g_ret kr ?_
    show ∃ vs, Res _ _ _ _ vs ∧ _
    exact ⟨[.string (⟨#[]⟩), .int .i64 1], (.tmp (.string (⟨#[]⟩)) kr (.tmp (.int .i64 1) kr .nil)), (encS_1 hv1).symm, H2.below⟩
  · skip
    refine s_now 7 (v := .int .i64 (lfV (lf1 l s n (lfF k) 4000))) (v' := .int .i64 ((y : Nat) : Int)) (int_eq (by rw [hv1]; rfl)) kr ?_
    have hok := lf1_some hv1
    have hcn : k.cnt < 4000 := hok.2.2
    have hwt := hpre.wt
    refine s_valE (some 8) (.bool (decide (((y : Nat) : Int) < 0))) (.bool false) (fun w => by kernel_rfl) (bool_eq (decide_eq_false (by omega))) kr ?_
    refine s_val (some 5) (.bool false) (fun w => by kernel_rfl) kr ?_
    refine s_nil ?_
    refine g_cond_f kr kr ?_
    refine g_sreg [0, 1, 2, 3] kr kr ?_
    refine s_load H2 (some 10) 68 (.tmp 1) 0 b1 #[.bool l, .string s, .slice p n c] 68 (0, 0) kr kr kr kr kr ?_
    refine s_callP H2 (some 11) 47 #[.agg #[.bool l, .string s, .slice p n c]] (fun w => SlAt w.heap.size w p n k) (.int .i64 ((dp1 l (dpF k) : Nat) : Int)) (depth_fn l s p n c k (by omega) (by omega)) (SlAt.call hpre H2.below) (fun w => by kernel_rfl) kr ?_
    intro w3 H3; clear H2
    by_cases hc1 : (dp1 l (dpF k) : Nat) > 8
    · skip
      refine s_valE (some 12) (.bool (decide (8 < ((dp1 l (dpF k) : Nat) : Int)))) (.bool true) (fun w => by kernel_rfl) (bool_eq (decide_eq_true (by omega))) kr ?_
      refine s_val (some 9) (.bool true) (fun w => by kernel_rfl) kr ?_
      refine s_nil ?_
      refine g_cond_t kr kr ?_
      refine g_sreg [0, 1] kr kr ?_
      refine s_val (some 2) (.string (⟨#[]⟩)) (fun w => by kernel_rfl) kr ?_
      refine s_val (some 3) (.int .i64 5) (fun w => by kernel_rfl) kr ?_
      refine s_nil ?_
      refine g_ret kr ?_
      show ∃ vs, Res _ _ _ _ vs ∧ _
      exact ⟨[.string (⟨#[]⟩), .int .i64 5], (.tmp (.string (⟨#[]⟩)) kr (.tmp (.int .i64 5) kr .nil)), (encS_5 hv1 (by omega)).symm, H3.below⟩
    · skip
      refine s_valE (some 12) (.bool (decide (8 < ((dp1 l (dpF k) : Nat) : Int)))) (.bool false) (fun w => by kernel_rfl) (bool_eq (decide_eq_false (by omega))) kr ?_
      refine s_val (some 9) (.bool false) (fun w => by kernel_rfl) kr ?_
      refine s_nil ?_
      refine g_cond_f kr kr ?_
      refine g_sreg [0, 1, 2, 3] kr kr ?_
      refine s_load H3 (some 14) 68 (.tmp 1) 0 b1 #[.bool l, .string s, .slice p n c] 68 (0, 0) kr kr kr kr kr ?_
      refine s_callP H3 (some 15) 48 #[.agg #[.bool l, .string s, .slice p n c]] (fun w => SlAt w.heap.size w p n k) (.int .u64 ((sz1 l s (szF k) : Nat) : Int)) (size_fn l s p n c k (by omega) (by omega)) (SlAt.call hpre H3.below) (fun w => by kernel_rfl) kr ?_
      intro w4 H4; clear H3
      by_cases hc2 : (sz1 l s (szF k) : Nat) > 4000
      · skip
        refine s_valE (some 16) (.bool (decide (4000 < ((sz1 l s (szF k) : Nat) : Int)))) (.bool true) (fun w => by kernel_rfl) (bool_eq (decide_eq_true (by omega))) kr ?_
        refine s_val (some 13) (.bool true) (fun w => by kernel_rfl) kr ?_
        refine s_nil ?_
        refine g_cond_t kr kr ?_
        refine g_sreg [0, 1] kr kr ?_
        refine s_val (some 2) (.string (⟨#[]⟩)) (fun w => by kernel_rfl) kr ?_
        refine s_val (some 3) (.int .i64 2) (fun w => by kernel_rfl) kr ?_
        refine s_nil ?_
        refine g_ret kr ?_
        show ∃ vs, Res _ _ _ _ vs ∧ _
        exact ⟨[.string (⟨#[]⟩), .int .i64 2], (.tmp (.string (⟨#[]⟩)) kr (.tmp (.int .i64 2) kr .nil)), (encS_2 hv1 (by omega) (by omega)).symm, H4.below⟩
      · skip
        refine s_valE (some 16) (.bool (decide (4000 < ((sz1 l s (szF k) : Nat) : Int)))) (.bool false) (fun w => by kernel_rfl) (bool_eq (decide_eq_false (by omega))) kr ?_
        refine s_val (some 13) (.bool false) (fun w => by kernel_rfl) kr ?_
        refine s_nil ?_
        refine g_cond_f kr kr ?_
        refine g_skip kr ?_
        show WP _ _ _ _ _ _
        refine g_sreg [0] kr kr ?_
        have hpw := pure_wt1 hok.1 hok.2.1 (show sz1 l s (szF k) ≤ 4000 by omega) (by omega)
        refine s_alloc H4 (some 4) 90 (.agg #[.pointer none, .slice none 0 0]) kr kr kr ?_
        intro b2 w5 H5; clear H4
        refine s_nil ?_
        refine g_sreg [0, 1] kr kr ?_
        refine s_load H5 (some 17) 68 (.tmp 1) 1 b1 #[.bool l, .string s, .slice p n c] 68 (0, 0) kr kr kr kr kr ?_
        have HD3 : St w.heap.size w w5 [(b2, Obj.cells #[.pointer none, .slice none 0 0] 90 (0, 0))] := H5.sub (List.Sublist.cons_cons _ (List.Sublist.cons _ List.Sublist.slnil))
        have hE0 : BE b2 90 5 [] [(b2, Obj.cells #[.pointer none, .slice none 0 0] 90 (0, 0))] := BE.nil none (Or.inl rfl)
        refine s_callB0 HD3 hE0 (some 18) 49 #[.pointer (some ⟨b2, 0, none⟩), .agg #[.bool l, .string s, .slice p n c]] (.tuple #[]) ([] ++ wr1 l s (szF k) (wrF k)) (fun w => SlAt w.heap.size w p n k) (write_fn b2 [] l s p n c k hs (by simp only [List.length_nil]; omega)) hpre kr kr ?_
        intro E1 w6 hE1 H6; clear HD3
        refine s_nil ?_
        refine g_sreg [0, 1, 2] kr kr ?_
        rw [List.nil_append] at hE1
        refine s_callO H6 hE1 (some 19) 50 #[.pointer (some ⟨b2, 0, none⟩)] (.string (strB (wr1 l s (szF k) (wrF k)))) (string_fn b2 (wr1 l s (szF k) (wrF k)) (wr1_len hok.1 hok.2.1 (by omega)).1 (by have h9 := (wr1_len hok.1 hok.2.1 (by omega)).2; omega)) kr kr ?_
        intro w7 H7; clear H6
        refine s_val (some 2) (.string (strB (wr1 l s (szF k) (wrF k)))) (fun w => by kernel_rfl) kr ?_
        refine s_val (some 3) (.int .i64 0) (fun w => by kernel_rfl) kr ?_
        refine s_nil ?_
        refine g_ret kr ?_
        show ∃ vs, Res _ _ _ _ vs ∧ _
        exact ⟨[.string (strB (wr1 l s (szF k) (wrF k))), .int .i64 0], (.tmp (.string (strB (wr1 l s (szF k) (wrF k)))) kr (.tmp (.int .i64 0) kr .nil)), (encS_0 hv1 (by omega) (by omega)).symm, H7.below⟩
end Go.Proofs.YtmiachbcihalpaaGreatDoor

namespace Go.Proofs.YtmiachbcihalpaaGreatDoor
open Go Go.RowKit
set_option linter.unusedVariables false
theorem marks_call {w w' : World} (h : Ke.Marks w) (hb : Below w.heap.size w w') : Ke.Marks w' := by
  obtain ⟨T, fz, h⟩ := h
  exact ⟨T, fz, by rw [hb.block 0 (lt_of_heap h)]; exact h⟩
theorem sumT_fn (s : ByteArray) (hs : s.size < 4611686018427387904) : FnP Tryz.prog 29 #[.string s] Ke.Marks (.string (strB (Kec.sumB (tl s)))) := by
  refine FnP.intro (c := codeOf Tryz.f29) [.tmp 2] 6 Tryz.func29 kr kr kr fun w hM => ?_
  have H0 := St.start w
  refine rS [.v] H0 kr fun gs1 w1 H1 => ?_
  refine g_sreg [0, 1, 2, 3] kr kr ?_
  refine rp [.v, .nw (fun b => .slice (some ⟨b, 0, none⟩) 1 1) #[.string s] 9] H1 kr fun gs2 w2 H2 => ?_
  show WPs _ _ _ _ [2, 3] _ _
  have H3 : St w.heap.size w w2 [((gs2 1).b, .cells #[.string s] 9 (0, 0))] := H2.as kr
  refine s_callP H3 (some 5) 53 #[.slice (some ⟨(gs2 1).b, 0, none⟩) 1 1] _ _ (Ke.of_fn1 (gs2 1).b s hs) ⟨marks_call hM H3.below, H3.get 0 rfl⟩ (fun w => by kernel_rfl) kr ?_
  intro w3 H4
  refine rp [.v] H4 kr fun gs3 w4 H5 => ?_
  show WPs _ _ _ _ [] _ _
  refine s_nil ?_
  exact rR [.tmp 2] [] (.string (strB (Kec.sumB (tl s)))) H5 kr
theorem topmost_fn (p : Option Addr) (c : Nat) : Fn Tryz.prog 28 #[.slice p 0 c] (.agg #[.bool false, .string ⟨#[]⟩, .slice none 0 0]) := by
  refine Fn.intro (c := codeOf Tryz.f28) [.cell 2 68] 23 Tryz.func28 kr kr kr fun w => ?_
  have H0 := St.start w
  refine rS [.a] H0 kr fun gs1 w1 H1 => ?_
  refine rS [.a] H1 kr fun gs2 w2 H2 => ?_
  refine rS [.v] H2 kr fun gs3 w3 H3 => ?_
  refine g_seq kr ?_
  refine rS [.v, .v, .v] H3 kr fun gs4 w4 H4 => ?_
  refine g_block 0 kr ?_
  refine g_first kr ?_
  refine rS [.v] H4 kr fun gs5 w5 H5 => ?_
  refine g_seq kr ?_
  refine g_cond_f kr kr ?_
  refine g_exit 0 kr ?_
  show WP _ _ _ _ _ _
  refine rS [.l 1, .s 0] H5 kr fun gs6 w6 H6 => ?_
  exact rR [.cell 2 68] [0] (.agg #[.bool false, .string ⟨#[]⟩, .slice none 0 0]) H6 kr
set_option maxRecDepth 100000 in
set_option maxHeartbeats 4000000 in
theorem root_ref (p : Option Addr) (n c : Nat) (root : Int) (A : List Nd) (hA : ∀ x ∈ A, x.part.size ≤ 140737488355328) (hAl : A.length ≤ 1000000000000) (hr : readM A root = none) :
    FnP Tryz.prog 11 #[.agg #[.slice p n c, .int .i64 root]] (fun w => NdAt w p n A) (.tuple #[.string ⟨#[]⟩, .int .i64 1]) := by
  refine FnP.intro (c := codeOf Tryz.f11) [.tmp 2, .tmp 3] 18 Tryz.func11 kr kr kr fun w hN => ?_
  have H0 := St.start w
  have hri := right_fn p n c root A hA hAl
  rw [hr] at hri
  refine rS [.b, .v, .v] H0 kr fun gs1 w1 H1 => ?_
  refine g_seq kr ?_
  refine rS [.l 0, .cp (pre := fun w => NdAt w p n A) hri [] (fun w hb hd => hN.call hb), .v] H1 kr fun gs2 w2 H2 => ?_
  refine g_cond_t kr kr ?_
  refine rS [.v, .v] H2 kr fun gs3 w3 H3 => ?_
  exact rR [.tmp 2, .tmp 3] [] (.tuple #[.string ⟨#[]⟩, .int .i64 1]) H3 kr
set_option maxRecDepth 100000 in
set_option maxHeartbeats 4000000 in
theorem root_none (p : Option Addr) (c : Nat) : FnP Tryz.prog 11 #[.agg #[.slice p 0 c, .int .i64 (-1)]] (fun w => NdAt w p 0 [] ∧ Ke.Marks w) (.tuple #[.string (strB (Kec.sumB [128])), .int .i64 0]) := by
  refine FnP.intro (c := codeOf Tryz.f11) [.tmp 2, .tmp 3] 18 Tryz.func11 kr kr kr fun w hN => ?_
  obtain ⟨hN, hM⟩ := hN
  have H0 := St.start w
  have hri := right_fn p 0 c (-1) [] (fun _ h => by simp at h) (by decide)
  rw [show (readM [] (-1)).isSome = true by decide +kernel] at hri
  have henc := encode_fn false ⟨#[]⟩ none 0 0 .nil (by decide)
  rw [show encV (encS false ⟨#[]⟩ 0 .nil) = .tuple #[.string (strB [128]), .int .i64 0] by kernel_rfl] at henc
  have hsum := sumT_fn (strB [128]) (by decide)
  rw [tl_strB] at hsum
  refine rS [.b, .v, .v] H0 kr fun gs1 w1 H1 => ?_
  refine g_seq kr ?_
  refine rS [.l 0, .cp (pre := fun w => NdAt w p 0 []) hri [] (fun w hb hd => hN.call hb), .v] H1 kr fun gs2 w2 H2 => ?_
  refine g_cond_f kr kr ?_
  refine g_skip kr ?_
  show WP _ _ _ _ _ _
  refine rS [.v, .l 0, .c (topmost_fn p c), .cp henc [] (fun w hb hd => ⟨rfl, Nat.zero_le _, .inl rfl⟩), .v, .v, .v, .v, .v] H2 kr fun gs3 w3 H3 => ?_
  refine rS [.v, .cp hsum [] (fun w hb hd => marks_call hM hb), .v, .v] H3 kr fun gs4 w4 H4 => ?_
  exact rR [.tmp 2, .tmp 3] [] (.tuple #[.string (strB (Kec.sumB [128])), .int .i64 0]) H4 kr
end Go.Proofs.YtmiachbcihalpaaGreatDoor

namespace Go.Proofs.YtmiachbcihalpaaGreatDoor
open Go Go.RowKit
set_option linter.unusedVariables false
def sum80 : List UInt8 := [0x56, 0xe8, 0x1f, 0x17, 0x1b, 0xcc, 0x55, 0xa6, 0xff, 0x83, 0x45, 0xe6, 0x92, 0xc0, 0xf8, 0x6e, 0x5b, 0x48, 0xe0, 0x1b, 0x99, 0x6c, 0xad, 0xc0, 0x01, 0x62, 0x2f, 0xb5, 0xe3, 0x63, 0xb4, 0x21]
theorem sum80_is : Kec.sumB [128] = sum80 := by decide +kernel
def kA : ByteArray := strB [97]
def vB : ByteArray := strB [98]
def leafA : List Nd := [⟨1, strB [6, 1], vB, aloneL⟩]
theorem put_ab : layM 65 (entsOf ([] ++ [(kA, vB)])) [] = (leafA, 0) := kr
theorem new_none : layM 65 (entsOf []) [] = ([], -1) := rfl
theorem read_none : readM [] (-1) = some [] := by decide +kernel
theorem read_leaf : readM leafA 0 = some [(kA, vB)] := by decide +kernel
theorem RowF.ndAt {ty : TypeId} {p : Option Addr} {n c : Nat} {row : List (Nat × Obj)} {A : List Nd} (h : RowF nS ty p n c row A) {B : Nat} {w0 w : World} {l : List (Nat × Obj)} (hS : St B w0 w l) (hl : ∀ e ∈ row, e ∈ l) : NdAt w p n A := NdS.own h w l hS hl
set_option maxRecDepth 100000 in
set_option maxHeartbeats 8000000 in
theorem alive_fn : FnP Tryz.prog 12 #[] Ke.Marks (.bool true) := by
  refine FnP.intro (c := codeOf Tryz.f12) [.tmp 0] 45 Tryz.func12 kr kr kr fun w hM => ?_
  have H0 := St.start w
  refine rS [.v] H0 kr fun gs1 w1 H1 => ?_
  have H1 : St w.heap.size w w1 [] := H1.as kr
  refine g_sreg [0, 1, 2, 3, 4, 5, 6, 7] kr kr ?_
  refine s_callFT H1 (some 8) 19 #[] new_fn trivial kr kr ?_
  rintro _ T1 w2 ⟨p1, n1, c1, hrow1, rfl⟩ H2
  rw [new_none] at hrow1
  have hn1 := hrow1.len
  have hN1 := hrow1.ndAt H2 fun e he => List.mem_append_left _ he
  have hput := put_end p1 n1 c1 (-1) [] (fun _ h => by simp at h) (by decide) kA vB (L := []) read_none (by decide +kernel) rfl (by decide)
  refine s_callFT H2 (some 9) 16 #[.agg #[.slice p1 n1 c1, .int .i64 (-1)], .string kA, .string vB] hput hN1 kr kr ?_
  rintro _ T2 w3 ⟨p2, n2, c2, hrow2, rfl⟩ H3
  rw [put_ab] at hrow2
  rw [put_ab]
  have H4 : St w.heap.size w w3 T2 := H3.sub (List.sublist_append_left ..)
  refine rp [.v, .v, .v] H4 kr fun gs2 w4 H5 => ?_
  show WPs _ _ _ _ [5, 6, 7] _ _
  have H6 : St w.heap.size w w4 T2 := H5.as kr
  refine s_alloc H6 (some 1) 26 (.agg #[.slice none 0 0, .int .i64 0]) kr kr kr ?_
  intro b1 w5 H7
  refine rp [.s 0, .v] H7 kr fun gs3 w6 H8 => ?_
  show WPs _ _ _ _ [] _ _
  refine s_nil ?_
  have H9 : St w.heap.size w w6 ((b1, boT p2 n2 c2 0) :: T2) := H8.as kr
  have hget := get_fn p2 n2 c2 0 leafA (by decide +kernel) (by decide) kA
  rw [read_leaf, show getM (some [(kA, vB)]) kA = (vB, true) by decide +kernel] at hget
  refine g_sreg [0, 1, 2, 3, 4, 5, 6] kr kr ?_
  refine rp [.l 0] H9 kr fun gs4 w7 H10 => ?_
  show WPs _ _ _ _ [1, 2, 3, 4, 5, 6] _ _
  have H11 : St w.heap.size w w7 ((b1, boT p2 n2 c2 0) :: T2) := H10.as kr
  refine s_callP H11 (some 14) 15 #[.agg #[.slice p2 n2 c2, .int .i64 0], .string kA] _ _ hget (hrow2.ndAt H11 fun e he => List.mem_cons_of_mem _ he) (fun w => by kernel_rfl) kr ?_
  intro w8 H12
  refine rp [.v, .v, .v, .v, .v] (H12.sub (List.nil_sublist _)) kr fun gs5 w9 H13 => ?_
  show WPs _ _ _ _ [] _ _
  refine s_nil ?_
  have H14 : St w.heap.size w w9 [] := H13.as kr
  refine g_sreg [0, 1, 2, 3, 4, 5, 6] kr kr ?_
  refine s_callFT H14 (some 18) 19 #[] new_fn trivial kr kr ?_
  rintro _ T3 w10 ⟨p3, n3, c3, hrow3, rfl⟩ H15
  rw [new_none] at hrow3
  have hn3 := hrow3.len
  simp only [List.length_nil] at hn3
  subst hn3
  have hN3 := hrow3.ndAt H15 fun e he => List.mem_append_left _ he
  have hroot := root_none p3 c3
  rw [sum80_is] at hroot
  refine s_callP H15 (some 19) 11 #[.agg #[.slice p3 0 c3, .int .i64 (-1)]] _ _ hroot ⟨hN3, marks_call hM H15.below⟩ (fun w => by kernel_rfl) kr ?_
  intro w11 H16
  refine rp [.v, .v, .v, .v, .v] (H16.sub (List.nil_sublist _)) kr fun gs6 w12 H17 => ?_
  show WPs _ _ _ _ [] _ _
  refine s_nil ?_
  refine rS [.v, .v, .v, .v, .v, .v, .v, .v, .v, .v, .v, .e (v := .bool (vB.toList == (strB [98]).toList)) (v' := .bool true) (bool_eq (str_same _ _ rfl)), .v, .v, .v, .v, .v, .v, .v, .v, .v, .e (v := .bool (((strB sum80).extract 0 4).toList == (strB [86, 232, 31, 23]).toList)) (v' := .bool true) (bool_eq (str_same _ _ (by decide +kernel))), .v, .v] H17 kr fun gs7 w13 H18 => ?_
  exact rRe [.tmp 0] [] (v := .bool true) (v' := .bool true) H18 rfl kr
end Go.Proofs.YtmiachbcihalpaaGreatDoor

namespace Go.Proofs.YtmiachbcihalpaaGreatDoor
open Go Go.RowKit
set_option linter.unusedVariables false
theorem ndB_comm (x y : Nd) : ndB x y = ndB y x := by
  unfold ndB
  rw [BEq.comm (a := x.kind), BEq.comm (a := x.part.toList), BEq.comm (a := x.value.toList)]
  congr 3
  exact congrArg (fun f => (List.range 16).all f) (funext fun i => BEq.comm)
theorem ndsB_comm : ∀ a b : List Nd, ndsB a b = ndsB b a
  | [], [] => rfl
  | [], _ :: _ => rfl
  | _ :: _, [] => rfl
  | x :: a, y :: b => by unfold ndsB; rw [ndB_comm x y, ndsB_comm a b]
theorem readM_same {A : List Nd} {root : Int} {L : List Pr} (h : readM A root = some L) : (decide (root = (layM 65 (entsOf L) []).2) && ndsB A (layM 65 (entsOf L) []).1) = true := by
  unfold readM at h
  split at h
  · rename_i hc
    cases h
    have h3 := hc.2.2
    unfold builtM at h3
    rw [Bool.and_eq_true, decide_eq_true_iff] at h3 ⊢
    exact ⟨h3.1.symm, by rw [ndsB_comm]; exact h3.2⟩
  · cases h
set_option maxRecDepth 100000 in
set_option maxHeartbeats 8000000 in
theorem wild_fn (p : Option Addr) (n c : Nat) (root : Int) (A : List Nd) (hA : ∀ x ∈ A, x.part.size ≤ 140737488355328) (key value : ByteArray) (hk : key.size ≤ 9223372036854775807) (hv : value.size ≤ 9223372036854775807) :
    FnP Tryz.prog 4 #[.agg #[.slice p n c, .int .i64 root], .string key, .string value] (fun w => NdAt w p n A ∧ Ke.Marks w) (.bool true) := by
  refine FnP.intro (c := codeOf Tryz.f4) [.tmp 6] 125 Tryz.func4 kr kr kr fun w hN => ?_
  obtain ⟨hN, hM⟩ := hN
  have hn := hN.1
  have H0 := St.start w
  refine rS [.b, .v] H0 kr fun gs1 w1 H1 => ?_
  refine g_seq kr ?_
  by_cases h2 : n ≤ 200
  · refine rS [.v, .l 0, .v, .e (v := .bool (decide ((200 : Int) < ((n : Nat) : Int)))) (v' := .bool false) (bool_eq (decide_eq_false (by omega)))] H1 kr fun gs2 w2 H2 => ?_
    have hAl : A.length ≤ 1000000000000 := by omega
    refine g_cond_f kr kr ?_
    refine g_skip kr ?_
    show WP _ _ _ _ _ _
    refine dS [.v, .v, .v, .e (v := .int .i64 (if (40 : Int) < (((ByteArray.size key : Nat) : Int) : Int) then (40 : Int) else (((ByteArray.size key : Nat) : Int) : Int))) (v' := .int .i64 ((min (ByteArray.size key) 40 : Nat) : Int)) (int_eq (minN (ByteArray.size key) 40)), .o (ins := [((.tmp 23), .string key), ((.tmp 26), .int .i64 ((min (ByteArray.size key) 40 : Nat) : Int))]) (v := .string (ByteArray.extract key 0 (min (ByteArray.size key) 40))) (fun ρ o w ho hi => scut_run (t := 9) (kd := .i64) kr (x := (.tmp 23)) (y := (.tmp 26)) key _ ho hi.1 hi.2.1 (by omega) w),
      .v, .v, .v, .e (v := .int .i64 (if (600 : Int) < (((ByteArray.size value : Nat) : Int) : Int) then (600 : Int) else (((ByteArray.size value : Nat) : Int) : Int))) (v' := .int .i64 ((min (ByteArray.size value) 600 : Nat) : Int)) (int_eq (minN (ByteArray.size value) 600)), .o (ins := [((.tmp 28), .string value), ((.tmp 31), .int .i64 ((min (ByteArray.size value) 600 : Nat) : Int))]) (v := .string (ByteArray.extract value 0 (min (ByteArray.size value) 600))) (fun ρ o w ho hi => scut_run (t := 9) (kd := .i64) kr (x := (.tmp 28)) (y := (.tmp 31)) value _ ho hi.1 hi.2.1 (by omega) w), .v, .v] H2 kr fun w3 H3 => ?_
    obtain ⟨ks, hks⟩ : ∃ f, (ByteArray.extract key 0 (min (ByteArray.size key) 40)) = f := ⟨_, rfl⟩
    obtain ⟨vs, hvs⟩ : ∃ t, (ByteArray.extract value 0 (min (ByteArray.size value) 600)) = t := ⟨_, rfl⟩
    refine g_now 1 (v := .string (ByteArray.extract key 0 (min (ByteArray.size key) 40))) (v' := .string ks) (by rw [hks]) kr ?_
    refine g_now 2 (v := .string (ByteArray.extract value 0 (min (ByteArray.size value) 600))) (v' := .string vs) (by rw [hvs]) kr ?_
    refine g_is [(1, .string ks), (2, .string vs), (3, .pointer (some ⟨(gs1 0).b, 0, none⟩))] kr fun ρ1 => ?_
    have H4 : St w.heap.size w w3 [((gs1 0).b, boT p n c root)] := H3.as kr
    clear H0 H1 H2 H3
    refine g_sreg [0, 1, 2, 3, 4, 5, 6] kr kr ?_
    refine rp [.l 0] H4 kr fun gs2 w4 H5 => ?_
    show WPs _ _ _ _ [1, 2, 3, 4, 5, 6] _ _
    have H6 : St w.heap.size w w4 [((gs1 0).b, boT p n c root)] := H5.as kr
    refine s_callFT H6 (some 35) 10 #[.agg #[.slice p n c, .int .i64 root]] (pairs_fn p n c root A hA hAl) (hN.call H6.below) kr kr ?_
    intro v T w5 hok H7
    have hri := right_fn p n c root A hA hAl
    cases hr : readM A root with
    | some L =>
      rw [hr] at hok hri
      obtain ⟨q, m, k, rfl, hrow⟩ := hok
      have hlen := hrow.len
      have hl64 := readM_len hr
      have hmay := readM_may hr
      have H8 := H7.perm (List.perm_append_comm (l₁ := [((gs1 0).b, boT p n c root)]) (l₂ := T))
      refine rp [.v, .v, .v, .v, .v] H8 kr fun gs3 w6 H9 => ?_
      show WPs _ _ _ _ [] _ _
      refine s_nil ?_
      refine rS [.l 0, .cp (pre := fun w => NdAt w p n A) hri [] (fun w hb hd => hN.call hb), .v] H9 kr fun gs4 w7 H10 => ?_
      refine g_seq kr ?_
      refine rS [.v] H10 kr fun gs5 w8 H11 => ?_
      refine g_cond_t kr kr ?_
      have H12 : St w.heap.size w w8 (((gs1 0).b, boT p n c root) :: T) := H11.as kr
      have hlike := readM_same hr
      refine g_seq kr ?_
      refine D2.g_draw0 [0, 1, 2, 3, 4, 5, 6, 7, 8, 9, 10, 11, 12, 13, 14, 15, 16] [(some 41, fun _ => .bool true), (some 42, fun _ => .bool true), (some 43, fun _ => .int .i64 0), (some 44, fun _ => .bool true), (some 45, fun _ => .bool true), (some 46, fun _ => .bool true), (some 47, fun _ => .slice q m k), (some 48, fun _ => iN m), (some 49, fun _ => .bool true), (some 50, fun _ => .bool true), (some 51, fun _ => .bool true), (some 52, fun _ => .agg #[.slice p n c, .int .i64 root]), (some 53, fun _ => .slice q m k), (some 54, fun y => .agg #[.slice (pG y) y.n y.cap, .int .i64 (layM 65 (entsOf L) []).2]), (some 55, fun _ => .bool true), (some 56, fun _ => .bool true), (some 6, fun _ => .bool true)]
        (D2.two 13 (fun ww => St w.heap.size w ww (((gs1 0).b, boT p n c root) :: T)) (fun y ww => ∃ T2, RowF nS 58 (pG y) y.n y.cap T2 (layM 65 (entsOf L) []).1 ∧ St w.heap.size w ww (((gs1 0).b, boT p n c root) :: (T ++ T2)))) kr kr kr H12.drew ⟨?_, ?_, ?_, ?_, ?_, ?_, ?_, ?_, ?_, ?_, ?_, ?_, ?_, ?_, ?_, ?_, ?_, trivial⟩ ?_
      · exact D2.gv_cpW (fun _ _ _ h => h) 12 #[] alive_fn (fun L g w hN hp => hp.get (fun h => marks_call hM h.below) (fun _ ⟨_, _, h⟩ => marks_call hM h.below)) (fun L g w w' hN hp hb => hp.call (fun h => h.call hb) (fun _ ⟨T, h1, h2⟩ => ⟨T, h1, h2.call hb⟩)) (fun g w => by kernel_rfl)
      · exact D2.gv_val (fun _ _ _ h => h) (fun g w => by kernel_rfl)
      · exact D2.gv_val (fun _ _ _ h => h) (fun g w => by kernel_rfl)
      · exact D2.gv_val (fun _ _ _ h => h) (fun g w => by kernel_rfl)
      · exact D2.gv_val (fun _ _ _ h => h) (fun g w => by kernel_rfl)
      · exact D2.gv_val (fun _ _ _ h => h) (fun g w => by kernel_rfl)
      · exact D2.gv_val (fun _ _ _ h => h) (fun g w => by kernel_rfl)
      · exact D2.gv_val (fun _ _ _ h => h) (fun g w => by kernel_rfl)
      · exact D2.gv_valE (fun _ _ _ h => h) (fun g w => by kernel_rfl) (bool_eq (decide_eq_true (p := ((m : Nat) : Int) ≤ (64 : Int)) (by omega)))
      · exact D2.gv_val (fun _ _ _ h => h) (fun g w => by kernel_rfl)
      · exact D2.gv_val (fun _ _ _ h => h) (fun g w => by kernel_rfl)
      · exact D2.gv_ld (fun _ _ _ h => h) 26 (.tmp 3) (fun _ => (gs1 0).b) 0 #[.slice p n c, .int .i64 root] 26 (0, 0) (fun g => by kernel_rfl) (fun g => by kernel_rfl) (fun L g w hN hp => hp.get (fun h => St.get h 0 kr) (fun _ ⟨_, _, h⟩ => St.get h 0 kr)) kr kr
      · exact D2.gv_val (fun _ _ _ h => h) (fun g w => by kernel_rfl)
      · refine D2.gv_ft 8 #[.slice q m k] (ofT_fn q m k L (by omega) (fun x hx => (may_size (hmay x hx)).1.2)) (fun L g w hN hp => hrow.prAt (hp.bef hN.1) fun e he => List.mem_cons_of_mem _ he) (fun L1 g ww v T2 w' hN hp hok hT => ?_) (fun g w => by kernel_rfl)
        obtain ⟨p3, n3, c3, hr3, rfl⟩ := hok
        have hS := (St.addAll (hp.bef hN.1) hT).perm (List.perm_append_comm (l₁ := ((gs1 0).b, boT p n c root) :: T) (l₂ := T2))
        rcases hr3 with ⟨rfl, rfl, rfl, rfl, hA0⟩ | ⟨b3, cur3, rfl, rfl, hr4⟩
        · exact ⟨{ n := 0, cap := 0 }, rfl, D2.two.to ⟨[], .inl ⟨rfl, rfl, rfl, rfl, hA0⟩, hS⟩⟩
        · exact ⟨{ b := b3, n := n3, cap := c3, l := [1] }, rfl, D2.two.to ⟨[_], .inr ⟨b3, cur3, rfl, rfl, hr4⟩, hS⟩⟩
      · refine D2.gives_of fun L1 gg ww hp hN1 => ?_
        have h13 := hN1.bef 13 kr
        obtain ⟨T2, hr3, hS⟩ := hp.aft h13
        obtain ⟨o, ho, hd, hw, hrun⟩ := opv_some (show opv _ _ 14 _ ww = some (some 55, true, .ok (.enter 7 #[.agg #[.slice p n c, .int .i64 root], .agg #[.slice (pG (gg 13)) (gg 13).n (gg 13).cap, .int .i64 (layM 65 (entsOf L) []).2]]) ww) by kernel_rfl)
        refine ⟨o, ho, hd, .inr ⟨hw, ?_⟩⟩
        rw [hrun]
        refine Calls.mono (like_fn p n c root A (pG (gg 13)) (gg 13).n (gg 13).cap (layM 65 (entsOf L) []).2 (layM 65 (entsOf L) []).1 hAl ww ⟨hN.call hS.below, NdS.own hr3 ww _ hS fun e he => List.mem_cons_of_mem _ (List.mem_append_right _ he)⟩) ?_
        rintro e w' ⟨rfl, hb⟩
        rw [hlike]
        refine ⟨_, rfl, gg 14, rfl, ?_⟩
        rw [D2.setN_self]
        unfold D2.two
        rw [show D2.put1 L1 14 13 = true from h13]
        exact ⟨T2, hr3, hS.call hb⟩
      · exact D2.gv_val (fun _ _ _ h => h) (fun g w => by kernel_rfl)
      · exact D2.gv_val (fun _ _ _ h => h) (fun g w => by kernel_rfl)
      · intro L1 gg w9 hall hp
        obtain ⟨T2, _, H13⟩ := hp.aft (hall 13 (Nat.le_of_ble_eq_true kr))
        show WP _ _ _ _ _ _
        exact rRe [.tmp 6] [] (v := .bool true) (v' := .bool true) H13 rfl kr
    | none =>
      rw [hr] at hok hri
      have hok : v = .tuple #[.slice none 0 0, .int .i64 1] := hok
      subst hok
      have hget := get_fn p n c root A hA hAl ks
      rw [hr] at hget
      have H8 := H7.sub (List.sublist_append_right ..)
      refine rp [.v, .v, .v, .v, .v] H8 kr fun gs3 w6 H9 => ?_
      show WPs _ _ _ _ [] _ _
      refine s_nil ?_
      refine rS [.l 0, .cp (pre := fun w => NdAt w p n A) hri [] (fun w hb hd => hN.call hb), .v] H9 kr fun gs4 w7 H10 => ?_
      refine g_seq kr ?_
      refine rS [.v] H10 kr fun gs5 w8 H11 => ?_
      refine g_cond_f kr kr ?_
      refine g_skip kr ?_
      show WP _ _ _ _ _ _
      refine rS [.l 0, .v, .cp (pre := fun w => NdAt w p n A) hget [] (fun w hb hd => hN.call hb), .v, .v, .v, .v, .v] H11 kr fun gs6 w9 H12 => ?_
      refine rS [.l 0, .v, .v, .cp (pre := fun w => NdAt w p n A) (put_ref p n c root A hA hAl ks vs hr) [] (fun w hb hd => hN.call hb), .v, .v, .v, .a, .s 1, .v] H12 kr fun gs7 w10 H13 => ?_
      refine rS [.l 0, .v, .cp (pre := fun w => NdAt w p n A) (delete_ref p n c root A hA hAl ks hr) [] (fun w hb hd => hN.call hb), .v, .v, .v, .a, .s 2, .v] H13 kr fun gs8 w11 H14 => ?_
      refine rS [.l 0, .cp (pre := fun w => NdAt w p n A) (root_ref p n c root A hA hAl hr) [] (fun w hb hd => hN.call hb), .v, .v, .v, .v, .v] H14 kr fun gs9 w12 H15 => ?_
      refine rS [.cp alive_fn [] (fun w hb hd => marks_call hM hb), .v, .v, .v, .v, .v, .v, .v, .v, .v, .v, .v, .v, .v, .v, .v, .e (v := .bool ((⟨#[]⟩ : ByteArray).toList == (⟨#[]⟩ : ByteArray).toList)) (v' := .bool true) (bool_eq (str_same _ _ rfl)), .v, .v, .v, .v, .v, .v, .v, .v, .v, .v, .v, .v, .v, .v, .v, .e (v := .bool ((⟨#[]⟩ : ByteArray).toList == (⟨#[]⟩ : ByteArray).toList)) (v' := .bool true) (bool_eq (str_same _ _ rfl)), .v, .v, .l 1, .v, .cp (pre := fun w => NdAt w none 0 [] ∧ NdAt w none 0 []) (like_fn none 0 0 0 [] none 0 0 0 [] (by decide)) [] (fun w hb hd => ⟨⟨rfl, .inl rfl⟩, ⟨rfl, .inl rfl⟩⟩), .v, .v, .l 2, .v, .cp (pre := fun w => NdAt w none 0 [] ∧ NdAt w none 0 []) (like_fn none 0 0 0 [] none 0 0 0 [] (by decide)) [] (fun w hb hd => ⟨⟨rfl, .inl rfl⟩, ⟨rfl, .inl rfl⟩⟩), .v, .v] H15 kr fun gs10 w13 H16 => ?_
      exact rRe [.tmp 6] [] (v := .bool true) (v' := .bool true) H16 rfl kr
  · refine rS [.v, .l 0, .v, .e (v := .bool (decide ((200 : Int) < ((n : Nat) : Int)))) (v' := .bool true) (bool_eq (decide_eq_true (by omega)))] H1 kr fun gs2 w2 H2 => ?_
    refine g_cond_t kr kr ?_
    refine rS [.cp alive_fn [] (fun w hb hd => marks_call hM hb), .v] H2 kr fun gs3 w3 H3 => ?_
    exact rRe [.tmp 6] [] (v := .bool true) (v' := .bool true) H3 rfl kr
end Go.Proofs.YtmiachbcihalpaaGreatDoor

namespace Go.Proofs.YtmiachbcihalpaaGreatDoor
open Go Go.ChangeShapes Go.WideShapes Go.ChangeAt Go.RowKit
set_option linter.unusedVariables false
set_option maxRecDepth 100000
theorem cellsNd : Tryz.prog.cellsOf 58 = 19 := kr
theorem cellsIn : Tryz.prog.cellsOf 3 = 1 := kr
theorem cellsSt : Tryz.prog.cellsOf 9 = 1 := kr
theorem cellsKd : Tryz.prog.cellsOf 56 = 16 := kr
theorem cellsNs : Tryz.prog.cellsOf 24 = 1 := kr
theorem wE {H : Type} {P : Program} {t : TypeId} {ts : List TypeId} {d : DataW H} {r : List (DataW H)} : DataW.weightsEach P (t :: ts) (d :: r) = d.weights P t ++ DataW.weightsEach P ts r := by simp [DataW.weightsEach]
theorem weightsAll_mem {H : Type} {P : Program} {e : TypeId} : ∀ {l : List (DataW H)} {d : DataW H} {n : Nat}, d ∈ l → n ∈ d.weights P e → n ∈ DataW.weightsAll P e l
  | [], _, _, h, _ => nomatch h
  | x :: r, d, n, h, hn => by
    unfold DataW.weightsAll
    rcases List.mem_cons.1 h with rfl | h
    · exact List.mem_append_left _ hn
    · exact List.mem_append_right _ (weightsAll_mem h hn)
theorem extract_of {C : Array Value} {o m : Nat} {l : List Value} (hl : l.length = m) (hm : 0 < m) (h : ∀ j, j < m → C[o + j]? = l[j]?) : o + m ≤ C.size ∧ C.extract o (o + m) = l.toArray := by
  have hs : o + m ≤ C.size := by
    have h1 := h (m - 1) (by omega)
    rw [List.getElem?_eq_getElem (by omega)] at h1
    have := (Array.getElem?_eq_some_iff.1 h1).1
    omega
  refine ⟨hs, ?_⟩
  apply Array.toList_inj.1
  apply List.ext_getElem?
  intro i
  rw [Array.getElem?_toList, Array.getElem?_extract, List.toList_toArray]
  by_cases hi : i < m
  · rw [if_pos (by omega), h i hi]
  · rw [if_neg (by omega), List.getElem?_eq_none (by omega)]
section
variable {H : Type} {enc : TypeId × Value → H} {W : World} {sp : Nat → Bool} {held : Bool}
theorem spot_none {a : Addr} {v : Value} (h : W.cell? a = some v) : a = ⟨a.block, a.off, none⟩ ∧ ∃ C T fz, W.heap[a.block]? = some (.cells C T fz) ∧ C[a.off]? = some v := by
  obtain ⟨b, o, sp⟩ := a
  unfold World.cell? at h
  split at h
  · rename_i C T fz hh
    cases sp with
    | none => simp at h; exact ⟨rfl, C, T, fz, hh, h⟩
    | some x => simp at h
  · cases h
theorem cell_at {b o : Nat} {C : Array Value} {T : TypeId} {fz : Nat × Nat} {v : Option Value} (hh : W.heap[b]? = some (.cells C T fz)) (h : W.cell? ⟨b, o, none⟩ = v) : C[o]? = v := by
  unfold World.cell? at h; simp only [hh] at h; simpa using h
def zOf : Value → Int
  | .int _ z => z
  | _ => 0
theorem kids_of {l : List Value} (hl : l.length = 16) (h : ∀ i, i < 16 → ∃ z, l[i]? = some (.int .i64 z)) : l = kidC (l.map zOf) := by
  apply List.ext_getElem?
  intro i
  unfold kidC
  by_cases hi : i < 16
  · obtain ⟨z, hz⟩ := h i hi
    rw [List.getElem?_map, List.getElem?_range hi, Option.map_some, hz, List.getD_eq_getElem?_getD, List.getElem?_map, hz]; rfl
  · rw [List.getElem?_eq_none (by omega), List.getElem?_eq_none (by simp; omega)]
theorem trod_node (fuel : Nat) (cs : List Value) (x : DataW H × List MemPlace) (h : DataW.trod enc Tryz.prog W 0 sp held fuel 58 cs = some x) (hw : ∀ n ∈ x.1.weights Tryz.prog 58, n ≤ 140737488355328) :
    ∃ nd : Nd, cs = nS.cs nd ∧ nd.part.size ≤ 140737488355328 := by
  obtain ⟨xs, m, rfl, rfl, hl, hlen, hf⟩ := DataW.trod_struct Tryz.underlying58 h
  rw [cellsNd] at hl
  obtain ⟨c0, c1, c2, r, rfl⟩ : ∃ c0 c1 c2 r, cs = c0 :: c1 :: c2 :: r := by
    match cs, hl with
    | c0 :: c1 :: c2 :: r, _ => exact ⟨c0, c1, c2, r, rfl⟩
  have hrl : r.length = 16 := by simpa using hl
  obtain ⟨y0, y1, y2, y3, rfl⟩ : ∃ y0 y1 y2 y3, xs = [y0, y1, y2, y3] := by
    match xs, hlen with
    | [y0, y1, y2, y3], _ => exact ⟨y0, y1, y2, y3, rfl⟩
  have g0 := hf 0 _ rfl
  have g1 := hf 1 _ rfl
  have g2 := hf 2 _ rfl
  have g3 := hf 3 _ rfl
  change DataW.trod enc Tryz.prog W 0 sp held m 3 (((c0 :: c1 :: c2 :: r).drop 0).take (Tryz.prog.cellsOf 3)) = some y0 at g0
  change DataW.trod enc Tryz.prog W 0 sp held m 9 (((c0 :: c1 :: c2 :: r).drop 1).take (Tryz.prog.cellsOf 9)) = some y1 at g1
  change DataW.trod enc Tryz.prog W 0 sp held m 9 (((c0 :: c1 :: c2 :: r).drop 2).take (Tryz.prog.cellsOf 9)) = some y2 at g2
  change DataW.trod enc Tryz.prog W 0 sp held m 56 (((c0 :: c1 :: c2 :: r).drop 3).take (Tryz.prog.cellsOf 56)) = some y3 at g3
  rw [cellsIn] at g0
  rw [cellsSt] at g1 g2
  rw [cellsKd] at g3
  obtain ⟨z, e0, e0', wf0⟩ := DataW.trod_int Tryz.underlying3 (show DataW.trod enc Tryz.prog W 0 sp held m 3 [c0] = some y0 from g0)
  obtain ⟨s, e1, rfl, hsz⟩ := DataW.trod_string Tryz.underlying9 (show DataW.trod enc Tryz.prog W 0 sp held m 9 [c1] = some y1 from g1)
  obtain ⟨v, e2, rfl, hvz⟩ := DataW.trod_string Tryz.underlying9 (show DataW.trod enc Tryz.prog W 0 sp held m 9 [c2] = some y2 from g2)
  obtain rfl : c0 = .int .i64 z := by simpa using e0
  obtain rfl : c1 = .string s := by simpa using e1
  obtain rfl : c2 = .string v := by simpa using e2
  rw [show (((Value.int .i64 z) :: (.string s) :: (.string v) :: r).drop 3).take 16 = r by simp [List.take_of_length_le (Nat.le_of_eq hrl)]] at g3
  obtain ⟨zs, m', rfl, rfl, _, hzl, hz⟩ := DataW.trod_array Tryz.underlying56 g3
  have hkids : r = kidC (r.map zOf) := kids_of hrl fun i hi => by
    have h1 := hz i hi
    rw [cellsIn, Nat.mul_one, List.getElem?_eq_getElem (by omega)] at h1
    obtain ⟨c, hc⟩ : ∃ c, r[i]? = some c := ⟨_, List.getElem?_eq_getElem (by omega)⟩
    have e9 : (r.drop i).take 1 = [c] := by
      rw [drop_one hc]; rfl
    rw [e9] at h1
    obtain ⟨z', e', _, _⟩ := DataW.trod_int Tryz.underlying3 h1
    exact ⟨z', by rw [hc]; simpa using e'⟩
  refine ⟨⟨z, s, v, r.map zOf⟩, ?_, ?_⟩
  · show _ = [Value.int .i64 z, .string s, .string v] ++ kidC (r.map zOf)
    rw [← hkids]; rfl
  · refine hw s.data.toList.length ?_
    show _ ∈ DataW.weights Tryz.prog 58 (.agg [y0.1, .lit (.string s.data.toList), .lit (.string v.data.toList), .agg (zs.map (·.1))])
    unfold DataW.weights
    rw [Tryz.underlying58]
    simp [DataW.weightsEach, DataW.weights]
theorem trod_nodes (m : Nat) (cs : List Value) (y2 : DataW H × List MemPlace) (h : DataW.trod enc Tryz.prog W 0 sp held m 24 cs = some y2) (hwL : ∀ n ∈ y2.1.weights Tryz.prog 24, n ≤ 140737488355328) :
    ∃ (p : Option Addr) (n c : Nat) (A : List Nd), cs = [.slice p n c] ∧ (∀ x ∈ A, x.part.size ≤ 140737488355328) ∧ NdAt W p n A := by
  rcases DataW.trod_slice Tryz.underlying24 h with ⟨hc, hx⟩ | ⟨a, len, cap, elems, rest, n', rfl, hc, hx, _, hlc, hcm, hel, hels, _, _⟩
  · exact ⟨none, 0, 0, [], hc, (fun _ h => by simp at h), rfl, .inl rfl⟩
  · rw [hx] at hwL
    have hwe : ∀ (i : Nat) y, elems[i]? = some y → ∀ n ∈ y.1.weights Tryz.prog 58, n ≤ 140737488355328 := fun i y hy n hn => by
      refine hwL n ?_
      unfold DataW.weights; rw [Tryz.underlying24]
      refine List.mem_cons_of_mem _ (List.mem_append_left _ ?_)
      exact weightsAll_mem (List.mem_map.2 ⟨y, List.mem_of_getElem? hy, rfl⟩) hn
    have rows : ∀ q, q ≤ len → ∃ L : List Nd, L.length = q ∧ (∀ x ∈ L, x.part.size ≤ 140737488355328) ∧ ∀ (i : Nat) (z : Nd), L[i]? = some z → W.cells? 0 (a.add (i * 19)) 19 = some (nS.cs z) := by
      intro q
      induction q with
      | zero => exact fun _ => ⟨[], rfl, (fun _ h => by simp at h), fun i z h => by simp at h⟩
      | succ q ihq =>
        intro hq
        obtain ⟨L, hL, hA, hc⟩ := ihq (by omega)
        have hi := hels q (by omega)
        rw [cellsNd] at hi
        have hlt : q < elems.length := by omega
        rw [List.getElem?_eq_getElem hlt] at hi
        obtain ⟨cs', hcs, ht⟩ := Option.bind_eq_some_iff.1 hi
        obtain ⟨nd, rfl, hnd⟩ := trod_node n' cs' _ ht (hwe q _ (List.getElem?_eq_getElem hlt))
        refine ⟨L ++ [nd], by simp [hL], (fun x hx => by
          rcases List.mem_append.1 hx with h | h
          · exact hA x h
          · obtain rfl := List.mem_singleton.1 h; exact hnd), fun i z hz => ?_⟩
        by_cases hiq : i < L.length
        · rw [List.getElem?_append_left hiq] at hz; exact hc i z hz
        · rw [List.getElem?_append_right (by omega)] at hz
          have : i - L.length = 0 := by
            have := (List.getElem?_eq_some_iff.1 hz).1; simp at this; omega
          rw [this] at hz
          simp at hz; subst hz
          obtain rfl : i = q := by omega
          exact hcs
    obtain ⟨L, hL, hA, hcl⟩ := rows len (Nat.le_refl _)
    refine ⟨some a, len, cap, L, hc, hA, hL.symm, ?_⟩
    cases L with
    | nil => exact .inl rfl
    | cons z0 L0 =>
      have f0 := (World.cells?_some (hcl 0 z0 rfl)).2.2 0 (by omega)
      rw [Nat.zero_mul] at f0
      have e0 : (a.add 0).add 0 = a := rfl
      rw [e0] at f0
      obtain ⟨ea, C, T, fz, hh, hC0⟩ := spot_none (v := .int .i64 z0.kind) (by rw [f0]; rfl)
      refine .inr ⟨a.block, a.off, C, T, fz, congrArg some ea, hh, fun i z hz => ?_⟩
      refine extract_of (nS.len z) (by decide) fun j hj => ?_
      have h9 := (World.cells?_some (hcl i z hz)).2.2 j hj
      rw [ea, addr_add, addr_add] at h9
      exact cell_at hh h9
theorem openTrie {v : Value} {d : DataW H} {p : List MemPlace} {base : Nat} (hv : Value.okWide Tryz.prog W .any base 26 v) (h : DataW.Trod enc Tryz.prog W 0 sp held 26 v d p) (hw : ∀ n ∈ d.weights Tryz.prog 26, n ≤ 140737488355328) :
    ∃ (p : Option Addr) (n c : Nat) (r : Int) (A : List Nd), v = .agg #[.slice p n c, .int .i64 r] ∧ (∀ x ∈ A, x.part.size ≤ 140737488355328) ∧ NdAt W p n A := by
  obtain ⟨cs, rfl, hsz, _⟩ : ∃ cs, v = .agg cs ∧ cs.size = Tryz.prog.cellsOf 26 ∧ Row.okWide Tryz.prog W .any base 26 cs := by
    simpa [Value.okWide, Tryz.underlying26] using hv
  rw [show Tryz.prog.cellsOf 26 = 2 by kernel_rfl] at hsz
  obtain ⟨l⟩ := cs
  obtain ⟨c0, c1, rfl⟩ : ∃ c0 c1, l = [c0, c1] := by
    match l, hsz with
    | [c0, c1], _ => exact ⟨c0, c1, rfl⟩
  obtain ⟨fuel, hf⟩ := h
  obtain ⟨xs, m, rfl, hx, _, hlen, hfs⟩ := DataW.trod_struct Tryz.underlying26 hf
  obtain ⟨y0, y1, rfl⟩ : ∃ y0 y1, xs = [y0, y1] := by
    match xs, hlen with
    | [y0, y1], _ => exact ⟨y0, y1, rfl⟩
  obtain rfl : d = .agg [y0.1, y1.1] := (Prod.mk.inj hx).1
  have g0 := hfs 0 _ rfl
  have g1 := hfs 1 _ rfl
  change DataW.trod enc Tryz.prog W 0 sp held m 24 (([c0, c1].drop 0).take (Tryz.prog.cellsOf 24)) = some y0 at g0
  change DataW.trod enc Tryz.prog W 0 sp held m 3 (([c0, c1].drop 1).take (Tryz.prog.cellsOf 3)) = some y1 at g1
  rw [cellsNs] at g0
  rw [cellsIn] at g1
  obtain ⟨p, n, c, A, e0, hA, hN⟩ := trod_nodes m [c0] y0 g0 fun n hn => by
    refine hw n ?_
    unfold DataW.weights
    rw [Tryz.underlying26]
    simp [DataW.weightsEach, hn]
  obtain ⟨z, e1, _, _⟩ := DataW.trod_int Tryz.underlying3 (show DataW.trod enc Tryz.prog W 0 sp held m 3 [c1] = some y1 from g1)
  obtain rfl : c0 = .slice p n c := by simpa using e0
  obtain rfl : c1 = .int .i64 z := by simpa using e1
  exact ⟨p, n, c, z, A, rfl, hA, hN⟩
end
def marksL : List Int := [1, 32898, 9223372036854808714, 9223372039002292224, 32907, 2147483649, 9223372039002292353, 9223372036854808585, 138, 136, 2147516425, 2147483658, 2147516555, 9223372036854775947, 9223372036854808713, 9223372036854808579, 9223372036854808578, 9223372036854775936, 32778, 9223372039002259466, 9223372039002292353, 9223372036854808704, 2147483649, 9223372039002292232]
theorem marksC_eq : Ke.marksC = (marksL.map (Value.int .u64)).toArray := kr
theorem gMarks : Tryz.prog.globalNamed "ecclesia/keccak.marks" = some 0 := kr
abbrev laidL : List (String × DataW Unit) := [("ecclesia/keccak.marks", Rows.laid_ecclesia_keccak_marks), ("unicode/utf8.acceptRanges", Rows.laid_unicode_utf8_acceptRanges), ("unicode/utf8.first", Rows.laid_unicode_utf8_first)]
theorem marks_of_laid {W : World} (h : laidMetH Tryz.prog [("ecclesia/keccak.marks", Rows.laid_ecclesia_keccak_marks), ("unicode/utf8.acceptRanges", Rows.laid_unicode_utf8_acceptRanges), ("unicode/utf8.first", Rows.laid_unicode_utf8_first)] W) : Ke.Marks W := by
  rw [MakeChecks.laidMetH_plain _ _ _ kr] at h
  have t := Lib.tabIs_of_head (k := .u64) (zs := marksL) gMarks (show (Tryz.prog.globals[0]?).map (·.type) = some 140 by kernel_rfl) Tryz.underlying140 Tryz.underlying85 kr kr h
  unfold Lib.TabIs World.var? at t
  rw [gMarks] at t
  simp only [Option.bind_some] at t
  split at t
  · rename_i cs T fz hh
    exact ⟨T, fz, by rw [hh, marksC_eq]; exact congrArg (fun c => some (Obj.cells c T fz)) (Option.some.inj t)⟩
  · cases t
def firstC : Array Value := (Go.Pinned.utf8FirstZ.map fun n => Value.int .u8 ((n : Nat) : Int)).toArray
def rangesC : Array Value := #[.int .u8 128, .int .u8 191, .int .u8 160, .int .u8 191, .int .u8 128, .int .u8 159, .int .u8 144, .int .u8 191, .int .u8 128, .int .u8 143, .int .u8 0, .int .u8 0, .int .u8 0, .int .u8 0, .int .u8 0, .int .u8 0, .int .u8 0, .int .u8 0, .int .u8 0, .int .u8 0, .int .u8 0, .int .u8 0, .int .u8 0, .int .u8 0, .int .u8 0, .int .u8 0, .int .u8 0, .int .u8 0, .int .u8 0, .int .u8 0, .int .u8 0, .int .u8 0]
/-- The settled world, the tables laid. -/
noncomputable def laidWorld (os : Os) : World :=
  let w0 := World.holding Tryz.prog os ⟨#[], #[], []⟩
  { w0 with heap := ((w0.heap.modify 0 fun
      | .cells _ t frozen => .cells (marksL.map (Value.int .u64)).toArray t frozen
      | o => o).modify 2 fun
      | .cells _ t frozen => .cells firstC t frozen
      | o => o).modify 3 fun
      | .cells _ t frozen => .cells rangesC t frozen
      | o => o }
theorem laidWorld_met (os : Os) (args : Array Value) : laidMetH Tryz.prog [("ecclesia/keccak.marks", Rows.laid_ecclesia_keccak_marks), ("unicode/utf8.acceptRanges", Rows.laid_unicode_utf8_acceptRanges), ("unicode/utf8.first", Rows.laid_unicode_utf8_first)] ((laidWorld os).forCall (fun _ _ => 0) ⟨#[], args, []⟩).memory := by
  rw [MakeChecks.laidMetH_plain _ _ _ kr]
  exact laidMet_of_run' 8 kr kr
theorem wild_at (p : Option Addr) (n c : Nat) (root : Int) (A : List Nd) (hA : ∀ x ∈ A, x.part.size ≤ 140737488355328) (key : ByteArray) (hk : key.size ≤ 9223372036854775807) (value : ByteArray) (hv : value.size ≤ 9223372036854775807) :
    FnP Tryz.prog 4 #[.agg #[.slice p n c, .int .i64 root], .string key, .string value] (fun w => NdAt w p n A ∧ Ke.Marks w) (.bool true) := wild_fn p n c root A hA key value hk hv
end Go.Proofs.YtmiachbcihalpaaGreatDoor
