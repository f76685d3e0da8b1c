/-
  Sums of 32 bytes: the words' mathematics.
-/
import Derived.Test.YtjhldipeicpoeaaDoorArr
namespace Go.Proofs.Sha
open Go Go.Proofs.YtjhldipeicpoeaaDoor
set_option linter.unusedVariables false
abbrev W := BitVec 32
def nth (s : List W) (i : Nat) : W := s.getD i 0
def rr (x : W) (n : Nat) : W := x <<< (32 - n) ||| x >>> n
def tri (x : W) (i j k : Nat) : W := rr x i ^^^ rr x j ^^^ rr x k
def mov (x : W) (i j k : Nat) : W := rr x i ^^^ rr x j ^^^ x >>> k
def nxt (l : List W) (t : Nat) : W := nth l (t - 16) + mov (nth l (t - 15)) 7 18 3 + nth l (t - 7) + mov (nth l (t - 2)) 17 19 10
def fix (n : Nat) (f : Nat → W) : List W := (List.range n).map f
theorem fix_len (n : Nat) (f : Nat → W) : (fix n f).length = n := by unfold fix; simp
theorem nth_fix {n : Nat} {f : Nat → W} (j : Nat) : nth (fix n f) j = if j < n then f j else 0 := by
  unfold nth fix
  rw [List.getD_eq_getElem?_getD, List.getElem?_map]
  by_cases h : j < n
  · simp [h]
  · simp [h, List.getElem?_eq_none (show (List.range n).length ≤ j by simp; omega)]
def grow (b : List W) : Nat → List W
  | 0 => fix 16 (nth b)
  | k + 1 => grow b k ++ [nxt (grow b k) (16 + k)]
theorem grow_len (b : List W) : ∀ k, (grow b k).length = 16 + k
  | 0 => fix_len _ _
  | k + 1 => by unfold grow; rw [List.length_append, grow_len b k]; rfl
theorem nth_snoc (l : List W) (x : W) (j : Nat) : nth (l ++ [x]) j = if j = l.length then x else nth l j := by
  unfold nth
  rw [List.getD_eq_getElem?_getD, List.getD_eq_getElem?_getD]
  rcases Nat.lt_trichotomy j l.length with h | h | h
  · rw [List.getElem?_append_left h, if_neg (by omega)]
  · subst h; simp
  · rw [if_neg (by omega), List.getElem?_eq_none (by simp; omega), List.getElem?_eq_none (by omega)]
theorem nth_grow (b : List W) (k j : Nat) : nth (grow b (k + 1)) j = if j = 16 + k then nxt (grow b k) (16 + k) else nth (grow b k) j := by
  show nth (grow b k ++ [_]) j = _
  rw [nth_snoc, grow_len]
theorem nth_grow0 (b : List W) (j : Nat) : nth (grow b 0) j = if j < 16 then nth b j else 0 := nth_fix j
structure S8 where
  (a b c d e f g h : W)
def t1 (q : S8) (k w : W) : W := q.h + tri q.e 6 11 25 + (q.e &&& q.f ||| ~~~q.e &&& q.g) + k + w
def t2 (q : S8) : W := tri q.a 2 13 22 + (q.a &&& q.b ||| q.a &&& q.c ||| q.b &&& q.c)
def stp (q : S8) (k w : W) : S8 := ⟨t1 q k w + t2 q, q.a, q.b, q.c, q.d + t1 q k w, q.e, q.f, q.g⟩
def roots : List W := [0x428A2F98, 0x71374491, 0xB5C0FBCF, 0xE9B5DBA5, 0x3956C25B, 0x59F111F1, 0x923F82A4, 0xAB1C5ED5, 0xD807AA98, 0x12835B01, 0x243185BE, 0x550C7DC3, 0x72BE5D74, 0x80DEB1FE, 0x9BDC06A7, 0xC19BF174, 0xE49B69C1, 0xEFBE4786, 0x0FC19DC6, 0x240CA1CC, 0x2DE92C6F, 0x4A7484AA, 0x5CB0A9DC, 0x76F988DA, 0x983E5152, 0xA831C66D, 0xB00327C8, 0xBF597FC7, 0xC6E00BF3, 0xD5A79147, 0x06CA6351, 0x14292967, 0x27B70A85, 0x2E1B2138, 0x4D2C6DFC, 0x53380D13, 0x650A7354, 0x766A0ABB, 0x81C2C92E, 0x92722C85, 0xA2BFE8A1, 0xA81A664B, 0xC24B8B70, 0xC76C51A3, 0xD192E819, 0xD6990624, 0xF40E3585, 0x106AA070, 0x19A4C116, 0x1E376C08, 0x2748774C, 0x34B0BCB5, 0x391C0CB3, 0x4ED8AA4A, 0x5B9CCA4F, 0x682E6FF3, 0x748F82EE, 0x78A5636F, 0x84C87814, 0x8CC70208, 0x90BEFFFA, 0xA4506CEB, 0xBEF9A3F7, 0xC67178F2]
def run (ks ws : List W) (q : S8) : Nat → S8
  | 0 => q
  | t + 1 => stp (run ks ws q t) (nth ks t) (nth ws t)
def of8 (s : List W) : S8 := ⟨nth s 0, nth s 1, nth s 2, nth s 3, nth s 4, nth s 5, nth s 6, nth s 7⟩
def list8 (q : S8) : List W := [q.a, q.b, q.c, q.d, q.e, q.f, q.g, q.h]
def become (s b : List W) : List W := fix 8 fun i => nth s i + nth (list8 (run roots (grow b 48) (of8 s) 64)) i
def put (b : List W) (k : Nat) (x : W) : List W := fix 16 fun j => if j = k then x else nth b j
theorem nth_put (b : List W) (k : Nat) (x : W) (j : Nat) (hj : j < 16) : nth (put b k x) j = if j = k then x else nth b j := by
  unfold put; rw [nth_fix, if_pos hj]
def layW (b : List W) (a : Nat) (v : Nat) : W := nth b (a / 4) ||| BitVec.ofNat 32 v <<< (8 * (3 - a % 4))
def lay (b : List W) (a : Nat) (v : Nat) : List W := put b (a / 4) (layW b a v)
structure Pd where
  s : List W
  b : List W
  n : Nat
def step1 (p : Pd) (v : UInt8) : Pd :=
  if (p.n + 1) % 64 = 0 then ⟨become p.s (lay p.b (p.n % 64) v.toNat), [], p.n + 1⟩ else ⟨p.s, lay p.b (p.n % 64) v.toNat, p.n + 1⟩
def takeB (p : Pd) (l : List UInt8) : Pd := l.foldl step1 p
theorem takeB_append (p : Pd) (a b : List UInt8) : takeB p (a ++ b) = takeB (takeB p a) b := List.foldl_append
theorem step1_n (p : Pd) (v : UInt8) : (step1 p v).n = p.n + 1 := by unfold step1; split <;> rfl
theorem takeB_n : ∀ (l : List UInt8) (p : Pd), (takeB p l).n = p.n + l.length
  | [], p => rfl
  | v :: l, p => by
    show (takeB (step1 p v) l).n = _
    rw [takeB_n l, step1_n, List.length_cons]; omega
theorem takeB_bd {p : Pd} {l : List UInt8} {a b : Nat} (h1 : p.n ≤ a) (h2 : l.length ≤ b) : (takeB p l).n ≤ a + b := by rw [takeB_n]; omega
def beg : Pd := ⟨[0x6A09E667, 0xBB67AE85, 0x3C6EF372, 0xA54FF53A, 0x510E527F, 0x9B05688C, 0x1F83D9AB, 0x5BE0CD19], [], 0⟩
def tailB (n : Nat) : List UInt8 := 128 :: (List.replicate (63 - (n + 8) % 64) 0 ++ (List.range 8).map fun i => UInt8.ofNat (8 * n / 2 ^ (8 * (7 - i))))
theorem tailB_len (n : Nat) : (tailB n).length ≤ 72 := by unfold tailB; simp <;> omega
def obyte (s : List W) (i : Nat) : BitVec 8 := BitVec.setWidth 8 (nth s (i / 4) >>> (8 * (3 - i % 4)))
def outB (s : List W) : List UInt8 := (List.range 32).map fun i => UInt8.ofBitVec (obyte s i)
theorem outB_len (s : List W) : (outB s).length = 32 := by unfold outB; simp
def endB (p : Pd) : List UInt8 := outB (takeB p (tailB p.n)).s
theorem endB_len (p : Pd) : (endB p).length = 32 := outB_len _
def sumB (l : List UInt8) : List UInt8 := endB (takeB beg l)
theorem sumB_len (l : List UInt8) : (sumB l).length = 32 := outB_len _
def maskB (key : List UInt8) (m : BitVec 8) : List UInt8 := (List.range 64).map fun i => UInt8.ofBitVec ((key.getD i 0).toBitVec ^^^ m)
theorem maskB_len (key : List UInt8) (m : BitVec 8) : (maskB key m).length = 64 := by unfold maskB; simp
def keyB (key : List UInt8) : List UInt8 := if key.length > 64 then sumB key else key
theorem keyB_len (key : List UInt8) : (keyB key).length ≤ 64 := by unfold keyB; split <;> first | omega | (rw [sumB_len]; omega)
def mac64 (k l : List UInt8) : List UInt8 := endB (takeB (takeB beg (maskB k 92)) (endB (takeB (takeB beg (maskB k 54)) l)))
def macB (key l : List UInt8) : List UInt8 := mac64 (keyB key) l
theorem macB_len (key l : List UInt8) : (macB key l).length = 32 := outB_len _
/-- Zero bytes behind a key, up to 64, change nothing. -/
theorem maskB_zeros (key : List UInt8) (z : Nat) (m : BitVec 8) : maskB (key ++ List.replicate z 0) m = maskB key m := by
  unfold maskB
  refine List.map_congr_left fun i hi => ?_
  congr 3
  rw [List.getD_eq_getElem?_getD, List.getD_eq_getElem?_getD]
  rcases Nat.lt_or_ge i key.length with h | h
  · rw [List.getElem?_append_left h]
  · rw [List.getElem?_append_right h, List.getElem?_eq_none h, List.getElem?_replicate]
    split <;> rfl
theorem macB_zeros (key l : List UInt8) (z : Nat) (h : key.length + z ≤ 64) : macB (key ++ List.replicate z 0) l = macB key l := by
  unfold macB keyB
  rw [if_neg (by simp; omega), if_neg (by omega)]
  unfold mac64
  rw [maskB_zeros, maskB_zeros]
theorem macB_long (key l : List UInt8) (h : key.length > 64) : macB (sumB key) l = macB key l := by
  unfold macB keyB
  rw [if_pos h, if_neg (by rw [sumB_len]; omega)]
end Go.Proofs.Sha
