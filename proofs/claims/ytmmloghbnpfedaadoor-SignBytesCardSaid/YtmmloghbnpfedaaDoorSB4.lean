/-
  Texts of the proof, part 4.
-/
import Derived.Below
import Derived.Test.YtmmloghbnpfedaaDoorProg
import Derived.Laws.Bits64b
import Derived.Lib.Hide
import Derived.Test.YtmmloghbnpfedaaDoorChecked
import Derived.Laws.IdiomArrays
import Derived.Deep.Strs
import Derived.Test.YtmmloghbnpfedaaDoorRows
import Derived.Lib.LaidTab
import Derived.MakeChecks
import Derived.LaidLaws
import Derived.LaidHandle
import Derived.ProofKit
import Derived.Test.YtmmloghbnpfedaaDoorSB1
import Derived.Test.YtmmloghbnpfedaaDoorSB2
import Derived.Test.YtmmloghbnpfedaaDoorSB3

namespace Go.Proofs.Kec
set_option linter.unusedVariables false
set_option maxRecDepth 10000
abbrev B64 := BitVec 64
def nth (s : List B64) (k : Nat) : B64 := s.getD k 0
def rl (x : B64) (n : Nat) : B64 := x.rotateLeft n
def rowX (v w x : B64) : B64 := v ^^^ (x &&& ~~~ w)
def cC (s : List B64) (x : Nat) : B64 := nth s x ^^^ nth s (x + 5) ^^^ nth s (x + 10) ^^^ nth s (x + 15) ^^^ nth s (x + 20)
def dD (c : Nat → B64) (x : Nat) : B64 := c ((x + 4) % 5) ^^^ rl (c ((x + 1) % 5)) 1
def srcT : List Nat := [0,6,12,18,24, 3,9,10,16,22, 1,7,13,19,20, 4,5,11,17,23, 2,8,14,15,21]
def rotT : List Nat := [0,44,43,21,14, 28,20,3,45,61, 1,6,25,8,18, 27,36,10,15,56, 62,55,39,41,2]
def th (s : List B64) (i : Nat) : B64 := nth s i ^^^ dD (cC s) (i % 5)
def pI (s : List B64) (k : Nat) : B64 := rl (th s (srcT.getD k 0)) (rotT.getD k 0)
def xI (b : Nat → B64) (k : Nat) : B64 := rowX (b k) (b (k / 5 * 5 + (k % 5 + 1) % 5)) (b (k / 5 * 5 + (k % 5 + 2) % 5))
def rnd (s : List B64) : List B64 := (List.range 25).map (xI (pI s))
/-! ### turning -/
theorem rl_bit (a : B64) (n i : Nat) (hi : i < 64) : (rl a n).getLsbD i = a.getLsbD ((i + 64 - n % 64) % 64) := by
  unfold rl
  rw [BitVec.getLsbD_rotateLeft]
  by_cases h : i < n % 64
  · rw [decide_eq_true h, cond_true]; congr 1; omega
  · rw [decide_eq_false h, cond_false, decide_eq_true hi, Bool.true_and]; congr 1; omega
theorem rl_xor (a b : B64) (n : Nat) : rl (a ^^^ b) n = rl a n ^^^ rl b n := by
  apply BitVec.eq_of_getLsbD_eq
  intro i hi
  rw [BitVec.getLsbD_xor, rl_bit _ _ _ hi, rl_bit _ _ _ hi, rl_bit _ _ _ hi, BitVec.getLsbD_xor]
theorem rl_rl (a : B64) (m n : Nat) : rl (rl a m) n = rl a (m + n) := by
  apply BitVec.eq_of_getLsbD_eq
  intro i hi
  rw [rl_bit _ _ _ hi, rl_bit _ _ _ (by omega), rl_bit _ _ _ hi]
  congr 1; omega
theorem rl_64 (a : B64) : rl a 64 = a := by
  apply BitVec.eq_of_getLsbD_eq
  intro i hi
  rw [rl_bit _ _ _ hi]
  congr 1; omega
theorem rl_inj {a b : B64} {n : Nat} (h : rl a n = rl b n) : a = b := by
  have h2 : rl (rl a n) (64 - n % 64) = rl (rl b n) (64 - n % 64) := by rw [h]
  have k : ∀ c : B64, rl (rl c n) (64 - n % 64) = c := fun c => by
    rw [rl_rl]
    apply BitVec.eq_of_getLsbD_eq
    intro i hi
    rw [rl_bit _ _ _ hi]
    congr 1; omega
  rwa [k, k] at h2
/-! ### bits that cancel -/
theorem x9 (a b c d e f : B64) : (a ^^^ b ^^^ c) ^^^ (b ^^^ d ^^^ e) ^^^ (c ^^^ e ^^^ f) = a ^^^ d ^^^ f := by
  apply BitVec.eq_of_getLsbD_eq
  intro i hi
  simp only [BitVec.getLsbD_xor]
  generalize a.getLsbD i = a, b.getLsbD i = b, c.getLsbD i = c, d.getLsbD i = d, e.getLsbD i = e, f.getLsbD i = f
  revert a b c d e f; decide
def L (j : Nat) (c : Nat → B64) (x : Nat) : B64 := c x ^^^ c ((x + 4 * j) % 5) ^^^ rl (c ((x + j) % 5)) j
theorem L_double (j : Nat) (c : Nat → B64) (x : Nat) (hx : x < 5) : L (2 * j) c x = L j c x ^^^ L j c ((x + 4 * j) % 5) ^^^ rl (L j c ((x + j) % 5)) j := by
  unfold L
  rw [rl_xor, rl_xor, rl_rl]
  rw [show ((x + 4 * j) % 5 + j) % 5 = x by omega, show ((x + j) % 5 + 4 * j) % 5 = x by omega, show ((x + 4 * j) % 5 + 4 * j) % 5 = (x + 4 * (2 * j)) % 5 by omega,
    show ((x + j) % 5 + j) % 5 = (x + 2 * j) % 5 by omega, show j + j = 2 * j by omega, x9]
theorem L_step {j : Nat} {c c' : Nat → B64} (h : ∀ x, x < 5 → L j c x = L j c' x) : ∀ x, x < 5 → L (2 * j) c x = L (2 * j) c' x := fun x hx => by
  rw [L_double _ _ _ hx, L_double _ _ _ hx, h x hx, h _ (Nat.mod_lt _ (by decide)), h _ (Nat.mod_lt _ (by decide))]
theorem x27 (a b c d e : B64) :
    ((a ^^^ b ^^^ e) ^^^ (b ^^^ c ^^^ a) ^^^ (e ^^^ a ^^^ d)) ^^^ ((b ^^^ c ^^^ a) ^^^ (c ^^^ d ^^^ b) ^^^ (a ^^^ b ^^^ e)) ^^^ ((e ^^^ a ^^^ d) ^^^ (a ^^^ b ^^^ e) ^^^ (d ^^^ e ^^^ c)) = a := by
  apply BitVec.eq_of_getLsbD_eq
  intro i hi
  simp only [BitVec.getLsbD_xor]
  generalize a.getLsbD i = a, b.getLsbD i = b, c.getLsbD i = c, d.getLsbD i = d, e.getLsbD i = e
  revert a b c d e; decide
def M (c : Nat → B64) (x : Nat) : B64 := c x ^^^ c ((x + 1) % 5) ^^^ c ((x + 4) % 5)
theorem M3 (c : Nat → B64) (x : Nat) (hx : x < 5) : M (M (M c)) x = c x := by
  unfold M
  have e : x = 0 ∨ x = 1 ∨ x = 2 ∨ x = 3 ∨ x = 4 := by omega
  rcases e with rfl | rfl | rfl | rfl | rfl <;> exact x27 _ _ _ _ _
theorem L64 (c : Nat → B64) (x : Nat) (hx : x < 5) : L 64 c x = M c x := by
  unfold L M
  rw [rl_64]
  have e : x = 0 ∨ x = 1 ∨ x = 2 ∨ x = 3 ∨ x = 4 := by omega
  rcases e with rfl | rfl | rfl | rfl | rfl <;> rfl
theorem M_cong {c c' : Nat → B64} (h : ∀ x, x < 5 → c x = c' x) : ∀ x, x < 5 → M c x = M c' x := fun x hx => by
  unfold M
  rw [h x hx, h _ (Nat.mod_lt _ (by decide)), h _ (Nat.mod_lt _ (by decide))]
theorem L_inj {c c' : Nat → B64} (h : ∀ x, x < 5 → L 1 c x = L 1 c' x) : ∀ x, x < 5 → c x = c' x := by
  have h64 : ∀ x, x < 5 → L 64 c x = L 64 c' x := L_step (j := 32) (L_step (j := 16) (L_step (j := 8) (L_step (j := 4) (L_step (j := 2) (L_step (j := 1) h)))))
  have hm : ∀ x, x < 5 → M c x = M c' x := fun x hx => by rw [← L64 c x hx, ← L64 c' x hx, h64 x hx]
  intro x hx
  rw [← M3 c x hx, ← M3 c' x hx]
  exact M_cong (M_cong hm) x hx
/-! ### a row -/
theorem row_bits : ∀ a b c d e a' b' c' d' e' : Bool, (a ^^ (c && !b)) = (a' ^^ (c' && !b')) → (b ^^ (d && !c)) = (b' ^^ (d' && !c')) → (c ^^ (e && !d)) = (c' ^^ (e' && !d')) → (d ^^ (a && !e)) = (d' ^^ (a' && !e')) → (e ^^ (b && !a)) = (e' ^^ (b' && !a')) →
    a = a' ∧ b = b' ∧ c = c' ∧ d = d' ∧ e = e' := by
  intro a b c d e a' b' c' d' e'
  cases a <;> cases b <;> cases c <;> cases d <;> cases e <;> revert a' b' c' d' e' <;> decide
theorem rowX_bit (v w x : B64) (i : Nat) (hi : i < 64) : (rowX v w x).getLsbD i = (v.getLsbD i ^^ (x.getLsbD i && !w.getLsbD i)) := by
  unfold rowX; simp [hi]
theorem row_inj {a b c d e a' b' c' d' e' : B64} (h0 : rowX a b c = rowX a' b' c') (h1 : rowX b c d = rowX b' c' d') (h2 : rowX c d e = rowX c' d' e') (h3 : rowX d e a = rowX d' e' a') (h4 : rowX e a b = rowX e' a' b') :
    a = a' ∧ b = b' ∧ c = c' ∧ d = d' ∧ e = e' := by
  have key : ∀ i, i < 64 → a.getLsbD i = a'.getLsbD i ∧ b.getLsbD i = b'.getLsbD i ∧ c.getLsbD i = c'.getLsbD i ∧ d.getLsbD i = d'.getLsbD i ∧ e.getLsbD i = e'.getLsbD i := fun i hi => by
    have g : ∀ {x y : B64}, x = y → x.getLsbD i = y.getLsbD i := fun h => by rw [h]
    have k0 := g h0; have k1 := g h1; have k2 := g h2; have k3 := g h3; have k4 := g h4
    rw [rowX_bit _ _ _ _ hi, rowX_bit _ _ _ _ hi] at k0 k1 k2 k3 k4
    exact row_bits _ _ _ _ _ _ _ _ _ _ k0 k1 k2 k3 k4
  exact ⟨BitVec.eq_of_getLsbD_eq fun i hi => (key i hi).1, BitVec.eq_of_getLsbD_eq fun i hi => (key i hi).2.1, BitVec.eq_of_getLsbD_eq fun i hi => (key i hi).2.2.1,
    BitVec.eq_of_getLsbD_eq fun i hi => (key i hi).2.2.2.1, BitVec.eq_of_getLsbD_eq fun i hi => (key i hi).2.2.2.2⟩
theorem xI_inj {b b' : Nat → B64} (h : ∀ k, k < 25 → xI b k = xI b' k) : ∀ k, k < 25 → b k = b' k := by
  have row : ∀ y, y < 5 → b (y * 5) = b' (y * 5) ∧ b (y * 5 + 1) = b' (y * 5 + 1) ∧ b (y * 5 + 2) = b' (y * 5 + 2) ∧ b (y * 5 + 3) = b' (y * 5 + 3) ∧ b (y * 5 + 4) = b' (y * 5 + 4) := fun y hy => by
    have e : ∀ (c : Nat → B64) x, x < 5 → xI c (y * 5 + x) = rowX (c (y * 5 + x)) (c (y * 5 + (x + 1) % 5)) (c (y * 5 + (x + 2) % 5)) := fun c x hx => by
      unfold xI; rw [show (y * 5 + x) / 5 * 5 = y * 5 by omega, show (y * 5 + x) % 5 = x by omega]
    have k : ∀ x, x < 5 → rowX (b (y * 5 + x)) (b (y * 5 + (x + 1) % 5)) (b (y * 5 + (x + 2) % 5)) = rowX (b' (y * 5 + x)) (b' (y * 5 + (x + 1) % 5)) (b' (y * 5 + (x + 2) % 5)) := fun x hx => by
      rw [← e b x hx, ← e b' x hx]; exact h _ (by omega)
    exact row_inj (k 0 (by decide)) (k 1 (by decide)) (k 2 (by decide)) (k 3 (by decide)) (k 4 (by decide))
  intro k hk
  have r := row (k / 5) (by omega)
  have e : k % 5 = 0 ∨ k % 5 = 1 ∨ k % 5 = 2 ∨ k % 5 = 3 ∨ k % 5 = 4 := by omega
  rcases e with e | e | e | e | e
  · rw [show k = k / 5 * 5 by omega]; exact r.1
  · rw [show k = k / 5 * 5 + 1 by omega]; exact r.2.1
  · rw [show k = k / 5 * 5 + 2 by omega]; exact r.2.2.1
  · rw [show k = k / 5 * 5 + 3 by omega]; exact r.2.2.2.1
  · rw [show k = k / 5 * 5 + 4 by omega]; exact r.2.2.2.2
/-! ### a round -/
theorem x_col (a b c d e f : B64) : (a ^^^ f) ^^^ (b ^^^ f) ^^^ (c ^^^ f) ^^^ (d ^^^ f) ^^^ (e ^^^ f) = (a ^^^ b ^^^ c ^^^ d ^^^ e) ^^^ f := by
  apply BitVec.eq_of_getLsbD_eq
  intro i hi
  simp only [BitVec.getLsbD_xor]
  generalize a.getLsbD i = a, b.getLsbD i = b, c.getLsbD i = c, d.getLsbD i = d, e.getLsbD i = e, f.getLsbD i = f
  revert a b c d e f; decide
theorem th_col (s : List B64) (x : Nat) (hx : x < 5) : th s x ^^^ th s (x + 5) ^^^ th s (x + 10) ^^^ th s (x + 15) ^^^ th s (x + 20) = L 1 (cC s) x := by
  unfold th
  rw [show (x + 5) % 5 = x % 5 by omega, show (x + 10) % 5 = x % 5 by omega, show (x + 15) % 5 = x % 5 by omega, show (x + 20) % 5 = x % 5 by omega, x_col, show x % 5 = x by omega]
  show cC s x ^^^ dD (cC s) x = _
  unfold dD L
  rw [BitVec.xor_assoc]
theorem src_all : ∀ j, j < 25 → ∃ k, k < 25 ∧ srcT.getD k 0 = j := by
  have : ∀ j : Fin 25, ∃ k : Fin 25, srcT.getD k 0 = j := by decide
  intro j hj
  obtain ⟨k, hk⟩ := this ⟨j, hj⟩
  exact ⟨k, k.2, hk⟩
theorem xor_right_inj {a b c : B64} (h : a ^^^ c = b ^^^ c) : a = b := by
  have : (a ^^^ c) ^^^ c = (b ^^^ c) ^^^ c := by rw [h]
  rwa [BitVec.xor_assoc, BitVec.xor_assoc, BitVec.xor_self, BitVec.xor_zero, BitVec.xor_zero] at this
theorem rnd_get (s : List B64) (k : Nat) (hk : k < 25) : (rnd s)[k]? = some (xI (pI s) k) := by
  unfold rnd; simp [hk]
theorem rnd_len (s : List B64) : (rnd s).length = 25 := by unfold rnd; simp
theorem rnd_inj {s t : List B64} (hs : s.length = 25) (ht : t.length = 25) (h : rnd s = rnd t) : s = t := by
  have hx : ∀ k, k < 25 → xI (pI s) k = xI (pI t) k := fun k hk => by
    have e1 := rnd_get s k hk
    rw [h, rnd_get t k hk] at e1
    exact (Option.some.inj e1).symm
  have hp := xI_inj hx
  have hth : ∀ j, j < 25 → th s j = th t j := fun j hj => by
    obtain ⟨k, hk, rfl⟩ := src_all j hj
    exact rl_inj (hp k hk)
  have hc : ∀ x, x < 5 → cC s x = cC t x := L_inj fun x hx => by
    rw [← th_col s x hx, ← th_col t x hx, hth x (by omega), hth (x + 5) (by omega), hth (x + 10) (by omega), hth (x + 15) (by omega), hth (x + 20) (by omega)]
  have hd : ∀ x, x < 5 → dD (cC s) x = dD (cC t) x := fun x hx => by
    unfold dD; rw [hc _ (Nat.mod_lt _ (by decide)), hc _ (Nat.mod_lt _ (by decide))]
  apply List.ext_getElem (by rw [hs, ht])
  intro j h1 h2
  have e := hth j (by omega)
  unfold th at e
  rw [hd _ (Nat.mod_lt _ (by decide))] at e
  have := xor_right_inj e
  simpa [nth, h1, h2] using this
/-! ### all rounds -/
def markX (m : B64) (s : List B64) : List B64 := (nth s 0 ^^^ m) :: s.drop 1
def rm (s : List B64) (m : B64) : List B64 := markX m (rnd s)
def marks : List B64 := [0x0000000000000001, 0x0000000000008082, 0x800000000000808A, 0x8000000080008000,
  0x000000000000808B, 0x0000000080000001, 0x8000000080008081, 0x8000000000008009,
  0x000000000000008A, 0x0000000000000088, 0x0000000080008009, 0x000000008000000A,
  0x000000008000808B, 0x800000000000008B, 0x8000000000008089, 0x8000000000008003,
  0x8000000000008002, 0x8000000000000080, 0x000000000000800A, 0x800000008000000A,
  0x8000000080008081, 0x8000000000008080, 0x0000000080000001, 0x8000000080008008]
def mix (s : List B64) : List B64 := marks.foldl rm s
theorem markX_len (m : B64) {s : List B64} (h : s.length = 25) : (markX m s).length = 25 := by unfold markX; simp [h]
theorem markX_inj {m : B64} {s t : List B64} (hs : s.length = 25) (ht : t.length = 25) (h : markX m s = markX m t) : s = t := by
  match s, t, hs, ht with
  | a :: s, b :: t, _, _ =>
    unfold markX nth at h
    simp at h
    obtain ⟨h1, h2⟩ := h
    rw [h1, h2]
theorem rm_len (s : List B64) (m : B64) : (rm s m).length = 25 := markX_len m (rnd_len s)
theorem foldl_rm_len : ∀ (ms : List B64) {s : List B64}, s.length = 25 → (ms.foldl rm s).length = 25
  | [], _, h => h
  | m :: ms, s, _ => foldl_rm_len ms (rm_len s m)
theorem mix_len {s : List B64} (h : s.length = 25) : (mix s).length = 25 := foldl_rm_len _ h
theorem foldl_rm_inj : ∀ (ms : List B64) {s t : List B64}, s.length = 25 → t.length = 25 → ms.foldl rm s = ms.foldl rm t → s = t
  | [], _, _, _, _, h => h
  | m :: ms, s, t, hs, ht, h => rnd_inj hs ht (markX_inj (rnd_len s) (rnd_len t) (foldl_rm_inj ms (rm_len s m) (rm_len t m) h))
/-! ### sums -/
def byteB (b : UInt8) : B64 := BitVec.ofNat 64 b.toNat
def liftB (b : B64) (i : Nat) : B64 := b <<< (i % 8 * 8)
/-- The state with a byte laid at a place. -/
def lay (s : List B64) (n : Nat) (b : B64) : List B64 := s.set (n / 8) (nth s (n / 8) ^^^ liftB b n)
def step1 (st : List B64 × Nat) (b : UInt8) : List B64 × Nat :=
  if st.2 + 1 = 136 then (mix (lay st.1 st.2 (byteB b)), 0) else (lay st.1 st.2 (byteB b), st.2 + 1)
def takeB (st : List B64 × Nat) (l : List UInt8) : List B64 × Nat := l.foldl step1 st
def endB (st : List B64 × Nat) : List B64 := lay (lay st.1 st.2 1) 135 0x80
def firstB (s : List B64) : List UInt8 := (List.range 32).map fun i => UInt8.ofNat ((nth s (i / 8)).toNat / 2 ^ (i % 8 * 8))
def zeroS : List B64 := List.replicate 25 0
def sumB (l : List UInt8) : List UInt8 := firstB (mix (endB (takeB (zeroS, 0) l)))
theorem lay_len {s : List B64} (n : Nat) (b : B64) (h : s.length = 25) : (lay s n b).length = 25 := by unfold lay; simp [h]
structure StOK (st : List B64 × Nat) : Prop where
  len : st.1.length = 25
  lt : st.2 < 136
theorem step1_ok {st : List B64 × Nat} (b : UInt8) (h : StOK st) : StOK (step1 st b) := by
  unfold step1
  split
  · exact ⟨mix_len (lay_len _ _ h.len), (by decide : 0 < 136)⟩
  · exact ⟨lay_len _ _ h.len, by have := h.lt; simp only; omega⟩
theorem takeB_ok : ∀ (l : List UInt8) {st : List B64 × Nat}, StOK st → StOK (takeB st l)
  | [], _, h => h
  | b :: l, st, h => takeB_ok l (step1_ok b h)
theorem takeB_append (st : List B64 × Nat) (l m : List UInt8) : takeB st (l ++ m) = takeB (takeB st l) m := by unfold takeB; exact List.foldl_append
theorem takeB_snoc (st : List B64 × Nat) (l : List UInt8) (b : UInt8) : takeB st (l ++ [b]) = step1 (takeB st l) b := by rw [takeB_append]; rfl
theorem zero_ok : StOK (zeroS, 0) := ⟨by decide, by decide⟩
theorem firstB_len (s : List B64) : (firstB s).length = 32 := by unfold firstB; simp
theorem sumB_len (l : List UInt8) : (sumB l).length = 32 := firstB_len _
end Go.Proofs.Kec

namespace Go.Proofs.YtmmloghbnpfedaaDoor.Ke
open Go Go.RowKit Go.Proofs.Kec
set_option linter.unusedVariables false
theorem rl_of (x : BitVec 64) (n : Nat) (h : n < 64) : x <<< n ||| x >>> (64 - n) = rl x n := by
  unfold rl BitVec.rotateLeft BitVec.rotateLeftAux; rw [Nat.mod_eq_of_lt h]
theorem and63 (n : Nat) (h : n < 64) : Value.int .u64 (Go.bits .and .u64 ((n : Nat) : Int) 63) = .int .u64 ((n : Nat) : Int) := by
  rw [show (63 : Int) = ((63 : Nat) : Int) from rfl, u64_and_nat n 63 (by omega) (by omega), show (63 : Nat) = 2 ^ 6 - 1 from rfl, Nat.and_two_pow_sub_one_eq_mod, Nat.mod_eq_of_lt (by omega)]
set_option maxRecDepth 100000 in
set_option maxHeartbeats 2000000 in
theorem rotl_fn (x : BitVec 64) (n : Nat) (hn : n < 64) : Fn Tryd.prog 103 #[.int .u64 ((BitVec.toNat x : Nat) : Int), .int .i64 ((n : Nat) : Int)] (.int .u64 ((BitVec.toNat (rl x n) : Nat) : Int)) := by
  refine Fn.intro (c := codeOf Tryd.f103) [.tmp 4] 17 Tryd.func103 kr kr kr fun w => ?_
  have H0 := St.start w
  refine rS [.v] H0 kr fun gs1 w1 H1 => ?_
  clear H0
  refine rS [.v, .e (v := .int .u64 (IntKind.u64.wrap (((n : Nat) : Int)))) (v' := .int .u64 ((n : Nat) : Int)) (int_eq (wrapN_u64 (a := n) (by omega))), .e (v := .int .u64 (Go.bits .and .u64 ((n : Nat) : Int) 63)) (v' := .int .u64 ((n : Nat) : Int)) (and63 n hn), .v] H1 kr fun gs2 w2 H2 => ?_
  clear H1
  refine rS [.v, .v, .e (v := .int .u64 (IntKind.u64.wrap ((((BitVec.toNat x : Nat) : Int)) * 2 ^ (min n 64)))) (v' := .int .u64 ((BitVec.toNat (x <<< n) : Nat) : Int)) (bv_shl_u64 x n), .v, .v, .e (v := .int .u64 (IntKind.u64.wrap (64 - ((n : Nat) : Int)))) (v' := .int .u64 ((64 - n : Nat) : Int)) (int_eq (wrapSub_u64 (a := 64) (b := n) (by omega))), .e (v := .int .u64 (Int.fdiv (((BitVec.toNat x : Nat) : Int)) (2 ^ (min (64 - n) 64)))) (v' := .int .u64 ((BitVec.toNat (x >>> (64 - n)) : Nat) : Int)) (bv_shr_u64 x (64 - n)), .e (v := .int .u64 (Go.bits .or .u64 (((BitVec.toNat (x <<< n) : Nat) : Int)) (((BitVec.toNat (x >>> (64 - n)) : Nat) : Int)))) (v' := .int .u64 ((BitVec.toNat ((x <<< n) ||| (x >>> (64 - n))) : Nat) : Int)) (bv_or_u64 (x <<< n) (x >>> (64 - n))), .v] H2 kr fun gs3 w3 H3 => ?_
  clear H2
  refine g_ret kr ?_
  show ∃ vs, Res _ _ _ _ vs ∧ _
  refine ⟨[.int .u64 ((BitVec.toNat ((x <<< n) ||| (x >>> (64 - n))) : Nat) : Int)], (.tmp (.int .u64 ((BitVec.toNat ((x <<< n) ||| (x >>> (64 - n))) : Nat) : Int)) kr .nil), ?_, H3.below⟩
  rw [← rl_of x n hn]; rfl
set_option maxRecDepth 100000 in
set_option maxHeartbeats 2000000 in
theorem turn_fn (x : BitVec 64) (n : Nat) (hn : n < 64) : Fn Tryd.prog 97 #[.int .u64 ((BitVec.toNat x : Nat) : Int), .int .i64 ((n : Nat) : Int)] (.int .u64 ((BitVec.toNat (rl x n) : Nat) : Int)) := by
  refine Fn.intro (c := codeOf Tryd.f97) [.tmp 4] 8 Tryd.func97 kr kr kr fun w => ?_
  have H0 := St.start w
  refine rS [.v] H0 kr fun gs1 w1 H1 => ?_
  clear H0
  refine rS [.v, .v, .c (rotl_fn x n (by omega)), .v] H1 kr fun gs2 w2 H2 => ?_
  clear H1
  refine g_ret kr ?_
  show ∃ vs, Res _ _ _ _ vs ∧ _
  refine ⟨[.int .u64 ((BitVec.toNat (rl x n) : Nat) : Int)], (.tmp (.int .u64 ((BitVec.toNat (rl x n) : Nat) : Int)) kr .nil), ?_, H2.below⟩
  rfl
set_option maxRecDepth 100000 in
set_option maxHeartbeats 2000000 in
theorem row_fn (xa xb xc xd xe : BitVec 64) : Fn Tryd.prog 98 #[.int .u64 ((BitVec.toNat xa : Nat) : Int), .int .u64 ((BitVec.toNat xb : Nat) : Int), .int .u64 ((BitVec.toNat xc : Nat) : Int), .int .u64 ((BitVec.toNat xd : Nat) : Int), .int .u64 ((BitVec.toNat xe : Nat) : Int)] (.tuple #[.int .u64 ((BitVec.toNat (rowX xa xb xc) : Nat) : Int), .int .u64 ((BitVec.toNat (rowX xb xc xd) : Nat) : Int), .int .u64 ((BitVec.toNat (rowX xc xd xe) : Nat) : Int), .int .u64 ((BitVec.toNat (rowX xd xe xa) : Nat) : Int), .int .u64 ((BitVec.toNat (rowX xe xa xb) : Nat) : Int)]) := by
  refine Fn.intro (c := codeOf Tryd.f98) [.tmp 10, .tmp 11, .tmp 12, .tmp 13, .tmp 14] 40 Tryd.func98 kr kr kr fun w => ?_
  have H0 := St.start w
  refine rS [.v, .v, .v, .v, .v] H0 kr fun gs1 w1 H1 => ?_
  clear H0
  refine rS [.v, .v, .v, .e (v := .int .u64 (Go.bits .andNot .u64 (((BitVec.toNat xc : Nat) : Int)) (((BitVec.toNat xb : Nat) : Int)))) (v' := .int .u64 ((BitVec.toNat (xc &&& ~~~xb) : Nat) : Int)) (bv_andNot_u64 xc xb), .e (v := .int .u64 (Go.bits .xor .u64 (((BitVec.toNat xa : Nat) : Int)) (((BitVec.toNat (xc &&& ~~~xb) : Nat) : Int)))) (v' := .int .u64 ((BitVec.toNat (xa ^^^ (xc &&& ~~~xb)) : Nat) : Int)) (bv_xor_u64 xa (xc &&& ~~~xb)), .v, .v, .v, .e (v := .int .u64 (Go.bits .andNot .u64 (((BitVec.toNat xd : Nat) : Int)) (((BitVec.toNat xc : Nat) : Int)))) (v' := .int .u64 ((BitVec.toNat (xd &&& ~~~xc) : Nat) : Int)) (bv_andNot_u64 xd xc), .e (v := .int .u64 (Go.bits .xor .u64 (((BitVec.toNat xb : Nat) : Int)) (((BitVec.toNat (xd &&& ~~~xc) : Nat) : Int)))) (v' := .int .u64 ((BitVec.toNat (xb ^^^ (xd &&& ~~~xc)) : Nat) : Int)) (bv_xor_u64 xb (xd &&& ~~~xc)), .v, .v, .v, .e (v := .int .u64 (Go.bits .andNot .u64 (((BitVec.toNat xe : Nat) : Int)) (((BitVec.toNat xd : Nat) : Int)))) (v' := .int .u64 ((BitVec.toNat (xe &&& ~~~xd) : Nat) : Int)) (bv_andNot_u64 xe xd), .e (v := .int .u64 (Go.bits .xor .u64 (((BitVec.toNat xc : Nat) : Int)) (((BitVec.toNat (xe &&& ~~~xd) : Nat) : Int)))) (v' := .int .u64 ((BitVec.toNat (xc ^^^ (xe &&& ~~~xd)) : Nat) : Int)) (bv_xor_u64 xc (xe &&& ~~~xd)), .v, .v, .v, .e (v := .int .u64 (Go.bits .andNot .u64 (((BitVec.toNat xa : Nat) : Int)) (((BitVec.toNat xe : Nat) : Int)))) (v' := .int .u64 ((BitVec.toNat (xa &&& ~~~xe) : Nat) : Int)) (bv_andNot_u64 xa xe), .e (v := .int .u64 (Go.bits .xor .u64 (((BitVec.toNat xd : Nat) : Int)) (((BitVec.toNat (xa &&& ~~~xe) : Nat) : Int)))) (v' := .int .u64 ((BitVec.toNat (xd ^^^ (xa &&& ~~~xe)) : Nat) : Int)) (bv_xor_u64 xd (xa &&& ~~~xe)), .v, .v, .v, .e (v := .int .u64 (Go.bits .andNot .u64 (((BitVec.toNat xb : Nat) : Int)) (((BitVec.toNat xa : Nat) : Int)))) (v' := .int .u64 ((BitVec.toNat (xb &&& ~~~xa) : Nat) : Int)) (bv_andNot_u64 xb xa), .e (v := .int .u64 (Go.bits .xor .u64 (((BitVec.toNat xe : Nat) : Int)) (((BitVec.toNat (xb &&& ~~~xa) : Nat) : Int)))) (v' := .int .u64 ((BitVec.toNat (xe ^^^ (xb &&& ~~~xa)) : Nat) : Int)) (bv_xor_u64 xe (xb &&& ~~~xa)), .v, .v, .v, .v, .v] H1 kr fun gs2 w2 H2 => ?_
  clear H1
  refine g_ret kr ?_
  show ∃ vs, Res _ _ _ _ vs ∧ _
  refine ⟨[.int .u64 ((BitVec.toNat (xa ^^^ (xc &&& ~~~xb)) : Nat) : Int), .int .u64 ((BitVec.toNat (xb ^^^ (xd &&& ~~~xc)) : Nat) : Int), .int .u64 ((BitVec.toNat (xc ^^^ (xe &&& ~~~xd)) : Nat) : Int), .int .u64 ((BitVec.toNat (xd ^^^ (xa &&& ~~~xe)) : Nat) : Int), .int .u64 ((BitVec.toNat (xe ^^^ (xb &&& ~~~xa)) : Nat) : Int)], (.tmp (.int .u64 ((BitVec.toNat (xa ^^^ (xc &&& ~~~xb)) : Nat) : Int)) kr (.tmp (.int .u64 ((BitVec.toNat (xb ^^^ (xd &&& ~~~xc)) : Nat) : Int)) kr (.tmp (.int .u64 ((BitVec.toNat (xc ^^^ (xe &&& ~~~xd)) : Nat) : Int)) kr (.tmp (.int .u64 ((BitVec.toNat (xd ^^^ (xa &&& ~~~xe)) : Nat) : Int)) kr (.tmp (.int .u64 ((BitVec.toNat (xe ^^^ (xb &&& ~~~xa)) : Nat) : Int)) kr .nil))))), ?_, H2.below⟩
  rfl
def svn (s : List (BitVec 64)) : Value := .agg #[.int .u64 ((BitVec.toNat (nth s 0) : Nat) : Int), .int .u64 ((BitVec.toNat (nth s 1) : Nat) : Int), .int .u64 ((BitVec.toNat (nth s 2) : Nat) : Int), .int .u64 ((BitVec.toNat (nth s 3) : Nat) : Int), .int .u64 ((BitVec.toNat (nth s 4) : Nat) : Int), .int .u64 ((BitVec.toNat (nth s 5) : Nat) : Int), .int .u64 ((BitVec.toNat (nth s 6) : Nat) : Int), .int .u64 ((BitVec.toNat (nth s 7) : Nat) : Int), .int .u64 ((BitVec.toNat (nth s 8) : Nat) : Int), .int .u64 ((BitVec.toNat (nth s 9) : Nat) : Int), .int .u64 ((BitVec.toNat (nth s 10) : Nat) : Int), .int .u64 ((BitVec.toNat (nth s 11) : Nat) : Int), .int .u64 ((BitVec.toNat (nth s 12) : Nat) : Int), .int .u64 ((BitVec.toNat (nth s 13) : Nat) : Int), .int .u64 ((BitVec.toNat (nth s 14) : Nat) : Int), .int .u64 ((BitVec.toNat (nth s 15) : Nat) : Int), .int .u64 ((BitVec.toNat (nth s 16) : Nat) : Int), .int .u64 ((BitVec.toNat (nth s 17) : Nat) : Int), .int .u64 ((BitVec.toNat (nth s 18) : Nat) : Int), .int .u64 ((BitVec.toNat (nth s 19) : Nat) : Int), .int .u64 ((BitVec.toNat (nth s 20) : Nat) : Int), .int .u64 ((BitVec.toNat (nth s 21) : Nat) : Int), .int .u64 ((BitVec.toNat (nth s 22) : Nat) : Int), .int .u64 ((BitVec.toNat (nth s 23) : Nat) : Int), .int .u64 ((BitVec.toNat (nth s 24) : Nat) : Int)]
theorem rl0 (x : BitVec 64) : rl x 0 = x := by
  apply BitVec.eq_of_getLsbD_eq
  intro i hi
  rw [rl_bit _ _ _ hi]; congr 1; omega
theorem pI0 (s : List (BitVec 64)) : pI s 0 = th s 0 := rl0 _
theorem row0_fn (s : List (BitVec 64)) : Fn Tryd.prog 98 #[.int .u64 ((BitVec.toNat (th s 0) : Nat) : Int), .int .u64 ((BitVec.toNat (pI s 1) : Nat) : Int), .int .u64 ((BitVec.toNat (pI s 2) : Nat) : Int), .int .u64 ((BitVec.toNat (pI s 3) : Nat) : Int), .int .u64 ((BitVec.toNat (pI s 4) : Nat) : Int)] (.tuple #[.int .u64 ((BitVec.toNat (xI (pI s) 0) : Nat) : Int), .int .u64 ((BitVec.toNat (xI (pI s) 1) : Nat) : Int), .int .u64 ((BitVec.toNat (xI (pI s) 2) : Nat) : Int), .int .u64 ((BitVec.toNat (xI (pI s) 3) : Nat) : Int), .int .u64 ((BitVec.toNat (xI (pI s) 4) : Nat) : Int)]) := by
  rw [← pI0 s]; exact row_fn (pI s 0) (pI s 1) (pI s 2) (pI s 3) (pI s 4)
set_option maxRecDepth 100000 in
set_option maxHeartbeats 2000000 in
theorem round_fn (s : List (BitVec 64)) : Fn Tryd.prog 90 #[svn s] (svn (rnd s)) := by
  refine Fn.intro (c := codeOf Tryd.f90) [.cell 2 84] 288 Tryd.func90 kr kr kr fun w => ?_
  have H0 := St.start w
  refine rS [.b, .a] H0 kr fun gs1 w1 H1 => ?_
  clear H0
  refine rS [.v, .l 0, .v, .l 0, .e (v := .int .u64 (Go.bits .xor .u64 (((BitVec.toNat (nth s 0) : Nat) : Int)) (((BitVec.toNat (nth s 5) : Nat) : Int)))) (v' := .int .u64 ((BitVec.toNat ((nth s 0) ^^^ (nth s 5)) : Nat) : Int)) (bv_xor_u64 (nth s 0) (nth s 5)), .v, .l 0, .e (v := .int .u64 (Go.bits .xor .u64 (((BitVec.toNat ((nth s 0) ^^^ (nth s 5)) : Nat) : Int)) (((BitVec.toNat (nth s 10) : Nat) : Int)))) (v' := .int .u64 ((BitVec.toNat (((nth s 0) ^^^ (nth s 5)) ^^^ (nth s 10)) : Nat) : Int)) (bv_xor_u64 ((nth s 0) ^^^ (nth s 5)) (nth s 10)), .v, .l 0, .e (v := .int .u64 (Go.bits .xor .u64 (((BitVec.toNat (((nth s 0) ^^^ (nth s 5)) ^^^ (nth s 10)) : Nat) : Int)) (((BitVec.toNat (nth s 15) : Nat) : Int)))) (v' := .int .u64 ((BitVec.toNat ((((nth s 0) ^^^ (nth s 5)) ^^^ (nth s 10)) ^^^ (nth s 15)) : Nat) : Int)) (bv_xor_u64 (((nth s 0) ^^^ (nth s 5)) ^^^ (nth s 10)) (nth s 15)), .v, .l 0, .e (v := .int .u64 (Go.bits .xor .u64 (((BitVec.toNat ((((nth s 0) ^^^ (nth s 5)) ^^^ (nth s 10)) ^^^ (nth s 15)) : Nat) : Int)) (((BitVec.toNat (nth s 20) : Nat) : Int)))) (v' := .int .u64 ((BitVec.toNat (cC s 0) : Nat) : Int)) (bv_xor_u64 ((((nth s 0) ^^^ (nth s 5)) ^^^ (nth s 10)) ^^^ (nth s 15)) (nth s 20)), .v] H1 kr fun gs2 w2 H2 => ?_
  clear H1
  refine g_keep [0, 1, 2, 3] fun ρ1 => ?_
  have HK1 := H2.keep
  clear H2
  refine rS [.v, .l 0, .v, .l 0, .e (v := .int .u64 (Go.bits .xor .u64 (((BitVec.toNat (nth s 1) : Nat) : Int)) (((BitVec.toNat (nth s 6) : Nat) : Int)))) (v' := .int .u64 ((BitVec.toNat ((nth s 1) ^^^ (nth s 6)) : Nat) : Int)) (bv_xor_u64 (nth s 1) (nth s 6)), .v, .l 0, .e (v := .int .u64 (Go.bits .xor .u64 (((BitVec.toNat ((nth s 1) ^^^ (nth s 6)) : Nat) : Int)) (((BitVec.toNat (nth s 11) : Nat) : Int)))) (v' := .int .u64 ((BitVec.toNat (((nth s 1) ^^^ (nth s 6)) ^^^ (nth s 11)) : Nat) : Int)) (bv_xor_u64 ((nth s 1) ^^^ (nth s 6)) (nth s 11)), .v, .l 0, .e (v := .int .u64 (Go.bits .xor .u64 (((BitVec.toNat (((nth s 1) ^^^ (nth s 6)) ^^^ (nth s 11)) : Nat) : Int)) (((BitVec.toNat (nth s 16) : Nat) : Int)))) (v' := .int .u64 ((BitVec.toNat ((((nth s 1) ^^^ (nth s 6)) ^^^ (nth s 11)) ^^^ (nth s 16)) : Nat) : Int)) (bv_xor_u64 (((nth s 1) ^^^ (nth s 6)) ^^^ (nth s 11)) (nth s 16)), .v, .l 0, .e (v := .int .u64 (Go.bits .xor .u64 (((BitVec.toNat ((((nth s 1) ^^^ (nth s 6)) ^^^ (nth s 11)) ^^^ (nth s 16)) : Nat) : Int)) (((BitVec.toNat (nth s 21) : Nat) : Int)))) (v' := .int .u64 ((BitVec.toNat (cC s 1) : Nat) : Int)) (bv_xor_u64 ((((nth s 1) ^^^ (nth s 6)) ^^^ (nth s 11)) ^^^ (nth s 16)) (nth s 21)), .v] HK1 kr fun gs3 w3 H3 => ?_
  clear HK1
  refine rS [.v, .l 0, .v, .l 0, .e (v := .int .u64 (Go.bits .xor .u64 (((BitVec.toNat (nth s 2) : Nat) : Int)) (((BitVec.toNat (nth s 7) : Nat) : Int)))) (v' := .int .u64 ((BitVec.toNat ((nth s 2) ^^^ (nth s 7)) : Nat) : Int)) (bv_xor_u64 (nth s 2) (nth s 7)), .v, .l 0, .e (v := .int .u64 (Go.bits .xor .u64 (((BitVec.toNat ((nth s 2) ^^^ (nth s 7)) : Nat) : Int)) (((BitVec.toNat (nth s 12) : Nat) : Int)))) (v' := .int .u64 ((BitVec.toNat (((nth s 2) ^^^ (nth s 7)) ^^^ (nth s 12)) : Nat) : Int)) (bv_xor_u64 ((nth s 2) ^^^ (nth s 7)) (nth s 12)), .v, .l 0, .e (v := .int .u64 (Go.bits .xor .u64 (((BitVec.toNat (((nth s 2) ^^^ (nth s 7)) ^^^ (nth s 12)) : Nat) : Int)) (((BitVec.toNat (nth s 17) : Nat) : Int)))) (v' := .int .u64 ((BitVec.toNat ((((nth s 2) ^^^ (nth s 7)) ^^^ (nth s 12)) ^^^ (nth s 17)) : Nat) : Int)) (bv_xor_u64 (((nth s 2) ^^^ (nth s 7)) ^^^ (nth s 12)) (nth s 17)), .v, .l 0, .e (v := .int .u64 (Go.bits .xor .u64 (((BitVec.toNat ((((nth s 2) ^^^ (nth s 7)) ^^^ (nth s 12)) ^^^ (nth s 17)) : Nat) : Int)) (((BitVec.toNat (nth s 22) : Nat) : Int)))) (v' := .int .u64 ((BitVec.toNat (cC s 2) : Nat) : Int)) (bv_xor_u64 ((((nth s 2) ^^^ (nth s 7)) ^^^ (nth s 12)) ^^^ (nth s 17)) (nth s 22)), .v] H3 kr fun gs4 w4 H4 => ?_
  clear H3
  refine g_keep [0, 1, 2, 3, 4, 5] fun ρ2 => ?_
  have HK2 := H4.keep
  clear H4
  refine rS [.v, .l 0, .v, .l 0, .e (v := .int .u64 (Go.bits .xor .u64 (((BitVec.toNat (nth s 3) : Nat) : Int)) (((BitVec.toNat (nth s 8) : Nat) : Int)))) (v' := .int .u64 ((BitVec.toNat ((nth s 3) ^^^ (nth s 8)) : Nat) : Int)) (bv_xor_u64 (nth s 3) (nth s 8)), .v, .l 0, .e (v := .int .u64 (Go.bits .xor .u64 (((BitVec.toNat ((nth s 3) ^^^ (nth s 8)) : Nat) : Int)) (((BitVec.toNat (nth s 13) : Nat) : Int)))) (v' := .int .u64 ((BitVec.toNat (((nth s 3) ^^^ (nth s 8)) ^^^ (nth s 13)) : Nat) : Int)) (bv_xor_u64 ((nth s 3) ^^^ (nth s 8)) (nth s 13)), .v, .l 0, .e (v := .int .u64 (Go.bits .xor .u64 (((BitVec.toNat (((nth s 3) ^^^ (nth s 8)) ^^^ (nth s 13)) : Nat) : Int)) (((BitVec.toNat (nth s 18) : Nat) : Int)))) (v' := .int .u64 ((BitVec.toNat ((((nth s 3) ^^^ (nth s 8)) ^^^ (nth s 13)) ^^^ (nth s 18)) : Nat) : Int)) (bv_xor_u64 (((nth s 3) ^^^ (nth s 8)) ^^^ (nth s 13)) (nth s 18)), .v, .l 0, .e (v := .int .u64 (Go.bits .xor .u64 (((BitVec.toNat ((((nth s 3) ^^^ (nth s 8)) ^^^ (nth s 13)) ^^^ (nth s 18)) : Nat) : Int)) (((BitVec.toNat (nth s 23) : Nat) : Int)))) (v' := .int .u64 ((BitVec.toNat (cC s 3) : Nat) : Int)) (bv_xor_u64 ((((nth s 3) ^^^ (nth s 8)) ^^^ (nth s 13)) ^^^ (nth s 18)) (nth s 23)), .v] HK2 kr fun gs5 w5 H5 => ?_
  clear HK2
  refine rS [.v, .l 0, .v, .l 0, .e (v := .int .u64 (Go.bits .xor .u64 (((BitVec.toNat (nth s 4) : Nat) : Int)) (((BitVec.toNat (nth s 9) : Nat) : Int)))) (v' := .int .u64 ((BitVec.toNat ((nth s 4) ^^^ (nth s 9)) : Nat) : Int)) (bv_xor_u64 (nth s 4) (nth s 9)), .v, .l 0, .e (v := .int .u64 (Go.bits .xor .u64 (((BitVec.toNat ((nth s 4) ^^^ (nth s 9)) : Nat) : Int)) (((BitVec.toNat (nth s 14) : Nat) : Int)))) (v' := .int .u64 ((BitVec.toNat (((nth s 4) ^^^ (nth s 9)) ^^^ (nth s 14)) : Nat) : Int)) (bv_xor_u64 ((nth s 4) ^^^ (nth s 9)) (nth s 14)), .v, .l 0, .e (v := .int .u64 (Go.bits .xor .u64 (((BitVec.toNat (((nth s 4) ^^^ (nth s 9)) ^^^ (nth s 14)) : Nat) : Int)) (((BitVec.toNat (nth s 19) : Nat) : Int)))) (v' := .int .u64 ((BitVec.toNat ((((nth s 4) ^^^ (nth s 9)) ^^^ (nth s 14)) ^^^ (nth s 19)) : Nat) : Int)) (bv_xor_u64 (((nth s 4) ^^^ (nth s 9)) ^^^ (nth s 14)) (nth s 19)), .v, .l 0, .e (v := .int .u64 (Go.bits .xor .u64 (((BitVec.toNat ((((nth s 4) ^^^ (nth s 9)) ^^^ (nth s 14)) ^^^ (nth s 19)) : Nat) : Int)) (((BitVec.toNat (nth s 24) : Nat) : Int)))) (v' := .int .u64 ((BitVec.toNat (cC s 4) : Nat) : Int)) (bv_xor_u64 ((((nth s 4) ^^^ (nth s 9)) ^^^ (nth s 14)) ^^^ (nth s 19)) (nth s 24)), .v] H5 kr fun gs6 w6 H6 => ?_
  clear H5
  refine g_keep [0, 1, 2, 3, 4, 5, 6, 7] fun ρ3 => ?_
  have HK3 := H6.keep
  clear H6
  refine rS [.v, .v, .c (turn_fn (cC s 1) 1 (by omega)), .e (v := .int .u64 (Go.bits .xor .u64 (((BitVec.toNat (cC s 4) : Nat) : Int)) (((BitVec.toNat (rl (cC s 1) 1) : Nat) : Int)))) (v' := .int .u64 ((BitVec.toNat (dD (cC s) 0) : Nat) : Int)) (bv_xor_u64 (cC s 4) (rl (cC s 1) 1)), .v] HK3 kr fun gs7 w7 H7 => ?_
  clear HK3
  refine rS [.v, .v, .c (turn_fn (cC s 2) 1 (by omega)), .e (v := .int .u64 (Go.bits .xor .u64 (((BitVec.toNat (cC s 0) : Nat) : Int)) (((BitVec.toNat (rl (cC s 2) 1) : Nat) : Int)))) (v' := .int .u64 ((BitVec.toNat (dD (cC s) 1) : Nat) : Int)) (bv_xor_u64 (cC s 0) (rl (cC s 2) 1)), .v] H7 kr fun gs8 w8 H8 => ?_
  clear H7
  refine rS [.v, .v, .c (turn_fn (cC s 3) 1 (by omega)), .e (v := .int .u64 (Go.bits .xor .u64 (((BitVec.toNat (cC s 1) : Nat) : Int)) (((BitVec.toNat (rl (cC s 3) 1) : Nat) : Int)))) (v' := .int .u64 ((BitVec.toNat (dD (cC s) 2) : Nat) : Int)) (bv_xor_u64 (cC s 1) (rl (cC s 3) 1)), .v] H8 kr fun gs9 w9 H9 => ?_
  clear H8
  refine rS [.v, .v, .c (turn_fn (cC s 4) 1 (by omega)), .e (v := .int .u64 (Go.bits .xor .u64 (((BitVec.toNat (cC s 2) : Nat) : Int)) (((BitVec.toNat (rl (cC s 4) 1) : Nat) : Int)))) (v' := .int .u64 ((BitVec.toNat (dD (cC s) 3) : Nat) : Int)) (bv_xor_u64 (cC s 2) (rl (cC s 4) 1)), .v] H9 kr fun gs10 w10 H10 => ?_
  clear H9
  refine g_keep [0, 1, 2, 3, 4, 5, 6, 7, 8, 9, 10, 11] fun ρ4 => ?_
  have HK4 := H10.keep
  clear H10
  refine rS [.v, .v, .c (turn_fn (cC s 0) 1 (by omega)), .e (v := .int .u64 (Go.bits .xor .u64 (((BitVec.toNat (cC s 3) : Nat) : Int)) (((BitVec.toNat (rl (cC s 0) 1) : Nat) : Int)))) (v' := .int .u64 ((BitVec.toNat (dD (cC s) 4) : Nat) : Int)) (bv_xor_u64 (cC s 3) (rl (cC s 0) 1)), .v] HK4 kr fun gs11 w11 H11 => ?_
  clear HK4
  refine dS [.v, .l 0, .v, .e (v := .int .u64 (Go.bits .xor .u64 (((BitVec.toNat (nth s 0) : Nat) : Int)) (((BitVec.toNat (dD (cC s) 0) : Nat) : Int)))) (v' := .int .u64 ((BitVec.toNat (th s 0) : Nat) : Int)) (bv_xor_u64 (nth s 0) (dD (cC s) 0)), .v, .l 0, .v, .e (v := .int .u64 (Go.bits .xor .u64 (((BitVec.toNat (nth s 6) : Nat) : Int)) (((BitVec.toNat (dD (cC s) 1) : Nat) : Int)))) (v' := .int .u64 ((BitVec.toNat (th s 6) : Nat) : Int)) (bv_xor_u64 (nth s 6) (dD (cC s) 1)), .c (turn_fn (th s 6) 44 (by omega)), .v, .l 0, .v, .e (v := .int .u64 (Go.bits .xor .u64 (((BitVec.toNat (nth s 12) : Nat) : Int)) (((BitVec.toNat (dD (cC s) 2) : Nat) : Int)))) (v' := .int .u64 ((BitVec.toNat (th s 12) : Nat) : Int)) (bv_xor_u64 (nth s 12) (dD (cC s) 2)), .c (turn_fn (th s 12) 43 (by omega)), .v, .l 0, .v, .e (v := .int .u64 (Go.bits .xor .u64 (((BitVec.toNat (nth s 18) : Nat) : Int)) (((BitVec.toNat (dD (cC s) 3) : Nat) : Int)))) (v' := .int .u64 ((BitVec.toNat (th s 18) : Nat) : Int)) (bv_xor_u64 (nth s 18) (dD (cC s) 3)), .c (turn_fn (th s 18) 21 (by omega)), .v, .l 0, .v, .e (v := .int .u64 (Go.bits .xor .u64 (((BitVec.toNat (nth s 24) : Nat) : Int)) (((BitVec.toNat (dD (cC s) 4) : Nat) : Int)))) (v' := .int .u64 ((BitVec.toNat (th s 24) : Nat) : Int)) (bv_xor_u64 (nth s 24) (dD (cC s) 4)), .c (turn_fn (th s 24) 14 (by omega)), .c (row0_fn s), .v, .v, .v, .v, .v, .v, .v, .s 1, .v, .s 1, .v, .s 1, .v, .s 1, .v, .s 1] H11 kr fun w12 H12 => ?_
  clear H11
  refine g_keep [0, 1, 2, 3, 4, 5, 6, 7, 8, 9, 10, 11, 12] fun ρ5 => ?_
  have HK5 := H12.keep
  clear H12
  refine dS [.v, .l 0, .v, .e (v := .int .u64 (Go.bits .xor .u64 (((BitVec.toNat (nth s 3) : Nat) : Int)) (((BitVec.toNat (dD (cC s) 3) : Nat) : Int)))) (v' := .int .u64 ((BitVec.toNat (th s 3) : Nat) : Int)) (bv_xor_u64 (nth s 3) (dD (cC s) 3)), .c (turn_fn (th s 3) 28 (by omega)), .v, .l 0, .v, .e (v := .int .u64 (Go.bits .xor .u64 (((BitVec.toNat (nth s 9) : Nat) : Int)) (((BitVec.toNat (dD (cC s) 4) : Nat) : Int)))) (v' := .int .u64 ((BitVec.toNat (th s 9) : Nat) : Int)) (bv_xor_u64 (nth s 9) (dD (cC s) 4)), .c (turn_fn (th s 9) 20 (by omega)), .v, .l 0, .v, .e (v := .int .u64 (Go.bits .xor .u64 (((BitVec.toNat (nth s 10) : Nat) : Int)) (((BitVec.toNat (dD (cC s) 0) : Nat) : Int)))) (v' := .int .u64 ((BitVec.toNat (th s 10) : Nat) : Int)) (bv_xor_u64 (nth s 10) (dD (cC s) 0)), .c (turn_fn (th s 10) 3 (by omega)), .v, .l 0, .v, .e (v := .int .u64 (Go.bits .xor .u64 (((BitVec.toNat (nth s 16) : Nat) : Int)) (((BitVec.toNat (dD (cC s) 1) : Nat) : Int)))) (v' := .int .u64 ((BitVec.toNat (th s 16) : Nat) : Int)) (bv_xor_u64 (nth s 16) (dD (cC s) 1)), .c (turn_fn (th s 16) 45 (by omega)), .v, .l 0, .v, .e (v := .int .u64 (Go.bits .xor .u64 (((BitVec.toNat (nth s 22) : Nat) : Int)) (((BitVec.toNat (dD (cC s) 2) : Nat) : Int)))) (v' := .int .u64 ((BitVec.toNat (th s 22) : Nat) : Int)) (bv_xor_u64 (nth s 22) (dD (cC s) 2)), .c (turn_fn (th s 22) 61 (by omega)), .c (row_fn (pI s 5) (pI s 6) (pI s 7) (pI s 8) (pI s 9)), .v, .v, .v, .v, .v, .v, .v, .s 1, .v, .s 1, .v, .s 1, .v, .s 1, .v, .s 1] HK5 kr fun w13 H13 => ?_
  clear HK5
  refine g_keep [0, 1, 2, 3, 4, 5, 6, 7, 8, 9, 10, 11, 12] fun ρ6 => ?_
  have HK6 := H13.keep
  clear H13
  refine dS [.v, .l 0, .v, .e (v := .int .u64 (Go.bits .xor .u64 (((BitVec.toNat (nth s 1) : Nat) : Int)) (((BitVec.toNat (dD (cC s) 1) : Nat) : Int)))) (v' := .int .u64 ((BitVec.toNat (th s 1) : Nat) : Int)) (bv_xor_u64 (nth s 1) (dD (cC s) 1)), .c (turn_fn (th s 1) 1 (by omega)), .v, .l 0, .v, .e (v := .int .u64 (Go.bits .xor .u64 (((BitVec.toNat (nth s 7) : Nat) : Int)) (((BitVec.toNat (dD (cC s) 2) : Nat) : Int)))) (v' := .int .u64 ((BitVec.toNat (th s 7) : Nat) : Int)) (bv_xor_u64 (nth s 7) (dD (cC s) 2)), .c (turn_fn (th s 7) 6 (by omega)), .v, .l 0, .v, .e (v := .int .u64 (Go.bits .xor .u64 (((BitVec.toNat (nth s 13) : Nat) : Int)) (((BitVec.toNat (dD (cC s) 3) : Nat) : Int)))) (v' := .int .u64 ((BitVec.toNat (th s 13) : Nat) : Int)) (bv_xor_u64 (nth s 13) (dD (cC s) 3)), .c (turn_fn (th s 13) 25 (by omega)), .v, .l 0, .v, .e (v := .int .u64 (Go.bits .xor .u64 (((BitVec.toNat (nth s 19) : Nat) : Int)) (((BitVec.toNat (dD (cC s) 4) : Nat) : Int)))) (v' := .int .u64 ((BitVec.toNat (th s 19) : Nat) : Int)) (bv_xor_u64 (nth s 19) (dD (cC s) 4)), .c (turn_fn (th s 19) 8 (by omega)), .v, .l 0, .v, .e (v := .int .u64 (Go.bits .xor .u64 (((BitVec.toNat (nth s 20) : Nat) : Int)) (((BitVec.toNat (dD (cC s) 0) : Nat) : Int)))) (v' := .int .u64 ((BitVec.toNat (th s 20) : Nat) : Int)) (bv_xor_u64 (nth s 20) (dD (cC s) 0)), .c (turn_fn (th s 20) 18 (by omega)), .c (row_fn (pI s 10) (pI s 11) (pI s 12) (pI s 13) (pI s 14)), .v, .v, .v, .v, .v, .v, .v, .s 1, .v, .s 1, .v, .s 1, .v, .s 1, .v, .s 1] HK6 kr fun w14 H14 => ?_
  clear HK6
  refine g_keep [0, 1, 2, 3, 4, 5, 6, 7, 8, 9, 10, 11, 12] fun ρ7 => ?_
  have HK7 := H14.keep
  clear H14
  refine dS [.v, .l 0, .v, .e (v := .int .u64 (Go.bits .xor .u64 (((BitVec.toNat (nth s 4) : Nat) : Int)) (((BitVec.toNat (dD (cC s) 4) : Nat) : Int)))) (v' := .int .u64 ((BitVec.toNat (th s 4) : Nat) : Int)) (bv_xor_u64 (nth s 4) (dD (cC s) 4)), .c (turn_fn (th s 4) 27 (by omega)), .v, .l 0, .v, .e (v := .int .u64 (Go.bits .xor .u64 (((BitVec.toNat (nth s 5) : Nat) : Int)) (((BitVec.toNat (dD (cC s) 0) : Nat) : Int)))) (v' := .int .u64 ((BitVec.toNat (th s 5) : Nat) : Int)) (bv_xor_u64 (nth s 5) (dD (cC s) 0)), .c (turn_fn (th s 5) 36 (by omega)), .v, .l 0, .v, .e (v := .int .u64 (Go.bits .xor .u64 (((BitVec.toNat (nth s 11) : Nat) : Int)) (((BitVec.toNat (dD (cC s) 1) : Nat) : Int)))) (v' := .int .u64 ((BitVec.toNat (th s 11) : Nat) : Int)) (bv_xor_u64 (nth s 11) (dD (cC s) 1)), .c (turn_fn (th s 11) 10 (by omega)), .v, .l 0, .v, .e (v := .int .u64 (Go.bits .xor .u64 (((BitVec.toNat (nth s 17) : Nat) : Int)) (((BitVec.toNat (dD (cC s) 2) : Nat) : Int)))) (v' := .int .u64 ((BitVec.toNat (th s 17) : Nat) : Int)) (bv_xor_u64 (nth s 17) (dD (cC s) 2)), .c (turn_fn (th s 17) 15 (by omega)), .v, .l 0, .v, .e (v := .int .u64 (Go.bits .xor .u64 (((BitVec.toNat (nth s 23) : Nat) : Int)) (((BitVec.toNat (dD (cC s) 3) : Nat) : Int)))) (v' := .int .u64 ((BitVec.toNat (th s 23) : Nat) : Int)) (bv_xor_u64 (nth s 23) (dD (cC s) 3)), .c (turn_fn (th s 23) 56 (by omega)), .c (row_fn (pI s 15) (pI s 16) (pI s 17) (pI s 18) (pI s 19)), .v, .v, .v, .v, .v, .v, .v, .s 1, .v, .s 1, .v, .s 1, .v, .s 1, .v, .s 1] HK7 kr fun w15 H15 => ?_
  clear HK7
  refine g_keep [0, 1, 2, 3, 4, 5, 6, 7, 8, 9, 10, 11, 12] fun ρ8 => ?_
  have HK8 := H15.keep
  clear H15
  refine dS [.v, .l 0, .v, .e (v := .int .u64 (Go.bits .xor .u64 (((BitVec.toNat (nth s 2) : Nat) : Int)) (((BitVec.toNat (dD (cC s) 2) : Nat) : Int)))) (v' := .int .u64 ((BitVec.toNat (th s 2) : Nat) : Int)) (bv_xor_u64 (nth s 2) (dD (cC s) 2)), .c (turn_fn (th s 2) 62 (by omega)), .v, .l 0, .v, .e (v := .int .u64 (Go.bits .xor .u64 (((BitVec.toNat (nth s 8) : Nat) : Int)) (((BitVec.toNat (dD (cC s) 3) : Nat) : Int)))) (v' := .int .u64 ((BitVec.toNat (th s 8) : Nat) : Int)) (bv_xor_u64 (nth s 8) (dD (cC s) 3)), .c (turn_fn (th s 8) 55 (by omega)), .v, .l 0, .v, .e (v := .int .u64 (Go.bits .xor .u64 (((BitVec.toNat (nth s 14) : Nat) : Int)) (((BitVec.toNat (dD (cC s) 4) : Nat) : Int)))) (v' := .int .u64 ((BitVec.toNat (th s 14) : Nat) : Int)) (bv_xor_u64 (nth s 14) (dD (cC s) 4)), .c (turn_fn (th s 14) 39 (by omega)), .v, .l 0, .v, .e (v := .int .u64 (Go.bits .xor .u64 (((BitVec.toNat (nth s 15) : Nat) : Int)) (((BitVec.toNat (dD (cC s) 0) : Nat) : Int)))) (v' := .int .u64 ((BitVec.toNat (th s 15) : Nat) : Int)) (bv_xor_u64 (nth s 15) (dD (cC s) 0)), .c (turn_fn (th s 15) 41 (by omega)), .v, .l 0, .v, .e (v := .int .u64 (Go.bits .xor .u64 (((BitVec.toNat (nth s 21) : Nat) : Int)) (((BitVec.toNat (dD (cC s) 1) : Nat) : Int)))) (v' := .int .u64 ((BitVec.toNat (th s 21) : Nat) : Int)) (bv_xor_u64 (nth s 21) (dD (cC s) 1)), .c (turn_fn (th s 21) 2 (by omega)), .c (row_fn (pI s 20) (pI s 21) (pI s 22) (pI s 23) (pI s 24)), .v, .v, .v, .v, .v, .v, .v, .s 1, .v, .s 1, .v, .s 1, .v, .s 1, .v, .s 1] HK8 kr fun w16 H16 => ?_
  clear HK8
  refine g_keep [0, 1, 2, 3, 4, 5, 6, 7, 8, 9, 10, 11, 12] fun ρ9 => ?_
  have HK9 := H16.keep
  clear H16
  refine rS [.l 1, .s 1] HK9 kr fun gs17 w17 H17 => ?_
  clear HK9
  refine g_ret kr ?_
  show ∃ vs, Res _ _ _ _ vs ∧ _
  refine ⟨[.agg #[.int .u64 ((BitVec.toNat (xI (pI s) 0) : Nat) : Int), .int .u64 ((BitVec.toNat (xI (pI s) 1) : Nat) : Int), .int .u64 ((BitVec.toNat (xI (pI s) 2) : Nat) : Int), .int .u64 ((BitVec.toNat (xI (pI s) 3) : Nat) : Int), .int .u64 ((BitVec.toNat (xI (pI s) 4) : Nat) : Int), .int .u64 ((BitVec.toNat (xI (pI s) 5) : Nat) : Int), .int .u64 ((BitVec.toNat (xI (pI s) 6) : Nat) : Int), .int .u64 ((BitVec.toNat (xI (pI s) 7) : Nat) : Int), .int .u64 ((BitVec.toNat (xI (pI s) 8) : Nat) : Int), .int .u64 ((BitVec.toNat (xI (pI s) 9) : Nat) : Int), .int .u64 ((BitVec.toNat (xI (pI s) 10) : Nat) : Int), .int .u64 ((BitVec.toNat (xI (pI s) 11) : Nat) : Int), .int .u64 ((BitVec.toNat (xI (pI s) 12) : Nat) : Int), .int .u64 ((BitVec.toNat (xI (pI s) 13) : Nat) : Int), .int .u64 ((BitVec.toNat (xI (pI s) 14) : Nat) : Int), .int .u64 ((BitVec.toNat (xI (pI s) 15) : Nat) : Int), .int .u64 ((BitVec.toNat (xI (pI s) 16) : Nat) : Int), .int .u64 ((BitVec.toNat (xI (pI s) 17) : Nat) : Int), .int .u64 ((BitVec.toNat (xI (pI s) 18) : Nat) : Int), .int .u64 ((BitVec.toNat (xI (pI s) 19) : Nat) : Int), .int .u64 ((BitVec.toNat (xI (pI s) 20) : Nat) : Int), .int .u64 ((BitVec.toNat (xI (pI s) 21) : Nat) : Int), .int .u64 ((BitVec.toNat (xI (pI s) 22) : Nat) : Int), .int .u64 ((BitVec.toNat (xI (pI s) 23) : Nat) : Int), .int .u64 ((BitVec.toNat (xI (pI s) 24) : Nat) : Int)]], (.agg (b := (gs1 1).b) #[.int .u64 ((BitVec.toNat (xI (pI s) 0) : Nat) : Int), .int .u64 ((BitVec.toNat (xI (pI s) 1) : Nat) : Int), .int .u64 ((BitVec.toNat (xI (pI s) 2) : Nat) : Int), .int .u64 ((BitVec.toNat (xI (pI s) 3) : Nat) : Int), .int .u64 ((BitVec.toNat (xI (pI s) 4) : Nat) : Int), .int .u64 ((BitVec.toNat (xI (pI s) 5) : Nat) : Int), .int .u64 ((BitVec.toNat (xI (pI s) 6) : Nat) : Int), .int .u64 ((BitVec.toNat (xI (pI s) 7) : Nat) : Int), .int .u64 ((BitVec.toNat (xI (pI s) 8) : Nat) : Int), .int .u64 ((BitVec.toNat (xI (pI s) 9) : Nat) : Int), .int .u64 ((BitVec.toNat (xI (pI s) 10) : Nat) : Int), .int .u64 ((BitVec.toNat (xI (pI s) 11) : Nat) : Int), .int .u64 ((BitVec.toNat (xI (pI s) 12) : Nat) : Int), .int .u64 ((BitVec.toNat (xI (pI s) 13) : Nat) : Int), .int .u64 ((BitVec.toNat (xI (pI s) 14) : Nat) : Int), .int .u64 ((BitVec.toNat (xI (pI s) 15) : Nat) : Int), .int .u64 ((BitVec.toNat (xI (pI s) 16) : Nat) : Int), .int .u64 ((BitVec.toNat (xI (pI s) 17) : Nat) : Int), .int .u64 ((BitVec.toNat (xI (pI s) 18) : Nat) : Int), .int .u64 ((BitVec.toNat (xI (pI s) 19) : Nat) : Int), .int .u64 ((BitVec.toNat (xI (pI s) 20) : Nat) : Int), .int .u64 ((BitVec.toNat (xI (pI s) 21) : Nat) : Int), .int .u64 ((BitVec.toNat (xI (pI s) 22) : Nat) : Int), .int .u64 ((BitVec.toNat (xI (pI s) 23) : Nat) : Int), .int .u64 ((BitVec.toNat (xI (pI s) 24) : Nat) : Int)] 84 (0, 0) kr (H17.get 1 kr) kr .nil), ?_, H17.below⟩
  rfl
end Go.Proofs.YtmmloghbnpfedaaDoor.Ke

namespace Go.Proofs.YtmmloghbnpfedaaDoor.Ke
open Go Go.RowKit Go.Proofs.Kec
set_option linter.unusedVariables false
def marksC : Array Value := (Kec.marks.map fun m => Value.int .u64 ((BitVec.toNat m : Nat) : Int)).toArray
def Marks (w : World) : Prop := ∃ T fz, w.heap[0]? = some (.cells marksC T fz)
theorem marks_at (k q : Nat) (hq : q = k) (h : k < 24) : marksC[q]? = some (Value.int .u64 ((BitVec.toNat (Kec.marks.getD k 0) : Nat) : Int)) := by
  subst hq
  have hl : Kec.marks.length = 24 := rfl
  unfold marksC; simp [hl, h]
def mixK (s : List (BitVec 64)) (j : Nat) : List (BitVec 64) := (Kec.marks.take j).foldl rm s
theorem mixK_succ (s : List (BitVec 64)) (j : Nat) (h : j < 24) : mixK s (j + 1) = rm (mixK s j) (Kec.marks.getD j 0) := by
  have hl : Kec.marks.length = 24 := rfl
  unfold mixK
  rw [List.take_add_one, List.foldl_append, List.getElem?_eq_getElem (by omega)]
  simp [hl, h]
theorem mixK_all (s : List (BitVec 64)) : mixK s 24 = mix s := by
  unfold mixK mix; rw [List.take_of_length_le (by decide)]
theorem nth_rmS (s : List (BitVec 64)) (m : BitVec 64) (k : Nat) : nth (rm s m) (k + 1) = nth (rnd s) (k + 1) := by
  unfold rm markX nth; simp
theorem svn_rm (s : List (BitVec 64)) (m : BitVec 64) : ((Value.cells (svn (rnd s))).toList.take 0 ++ (Value.cells (.int .u64 ((BitVec.toNat (nth (rnd s) 0 ^^^ m) : Nat) : Int))).toList ++ (Value.cells (svn (rnd s))).toList.drop (0 + 1)).toArray = Value.cells (svn (rm s m)) := by
  have e1 : nth (rm s m) 1 = nth (rnd s) 1 := nth_rmS s m 0
  have e2 : nth (rm s m) 2 = nth (rnd s) 2 := nth_rmS s m 1
  have e3 : nth (rm s m) 3 = nth (rnd s) 3 := nth_rmS s m 2
  have e4 : nth (rm s m) 4 = nth (rnd s) 4 := nth_rmS s m 3
  have e5 : nth (rm s m) 5 = nth (rnd s) 5 := nth_rmS s m 4
  have e6 : nth (rm s m) 6 = nth (rnd s) 6 := nth_rmS s m 5
  have e7 : nth (rm s m) 7 = nth (rnd s) 7 := nth_rmS s m 6
  have e8 : nth (rm s m) 8 = nth (rnd s) 8 := nth_rmS s m 7
  have e9 : nth (rm s m) 9 = nth (rnd s) 9 := nth_rmS s m 8
  have e10 : nth (rm s m) 10 = nth (rnd s) 10 := nth_rmS s m 9
  have e11 : nth (rm s m) 11 = nth (rnd s) 11 := nth_rmS s m 10
  have e12 : nth (rm s m) 12 = nth (rnd s) 12 := nth_rmS s m 11
  have e13 : nth (rm s m) 13 = nth (rnd s) 13 := nth_rmS s m 12
  have e14 : nth (rm s m) 14 = nth (rnd s) 14 := nth_rmS s m 13
  have e15 : nth (rm s m) 15 = nth (rnd s) 15 := nth_rmS s m 14
  have e16 : nth (rm s m) 16 = nth (rnd s) 16 := nth_rmS s m 15
  have e17 : nth (rm s m) 17 = nth (rnd s) 17 := nth_rmS s m 16
  have e18 : nth (rm s m) 18 = nth (rnd s) 18 := nth_rmS s m 17
  have e19 : nth (rm s m) 19 = nth (rnd s) 19 := nth_rmS s m 18
  have e20 : nth (rm s m) 20 = nth (rnd s) 20 := nth_rmS s m 19
  have e21 : nth (rm s m) 21 = nth (rnd s) 21 := nth_rmS s m 20
  have e22 : nth (rm s m) 22 = nth (rnd s) 22 := nth_rmS s m 21
  have e23 : nth (rm s m) 23 = nth (rnd s) 23 := nth_rmS s m 22
  have e24 : nth (rm s m) 24 = nth (rnd s) 24 := nth_rmS s m 23
  have e0 : nth (rm s m) 0 = nth (rnd s) 0 ^^^ m := rfl
  unfold svn
  rw [e0, e1, e2, e3, e4, e5, e6, e7, e8, e9, e10, e11, e12, e13, e14, e15, e16, e17, e18, e19, e20, e21, e22, e23, e24]; rfl
set_option maxRecDepth 100000 in
set_option maxHeartbeats 2000000 in
theorem mix_fnT (s : List (BitVec 64)) (T : TypeId) (fz : Nat × Nat) : FnP Tryd.prog 66 #[svn s] (fun w => w.heap[0]? = some (.cells marksC T fz)) (svn (mix s)) := by
  refine FnP.intro (c := codeOf Tryd.f66) [.cell 2 84] 18 Tryd.func66 kr kr kr fun w hpre => ?_
  have H0 := St.start w
  refine rS [.b, .a] H0 kr fun gs1 w1 H1 => ?_
  clear H0
  refine g_seq kr ?_
  refine rS [.f hpre (lt_of_heap hpre), .v] H1 kr fun gs2 w2 H2 => ?_
  clear H1
  refine g_block 0 kr ?_
  have HL1 : St w.heap.size w w2 [((gs1 0).b, Obj.cells (Value.cells (svn s)) 84 (0, 0)), ((gs1 1).b, Obj.cells #[.int .u64 0, .int .u64 0, .int .u64 0, .int .u64 0, .int .u64 0, .int .u64 0, .int .u64 0, .int .u64 0, .int .u64 0, .int .u64 0, .int .u64 0, .int .u64 0, .int .u64 0, .int .u64 0, .int .u64 0, .int .u64 0, .int .u64 0, .int .u64 0, .int .u64 0, .int .u64 0, .int .u64 0, .int .u64 0, .int .u64 0, .int .u64 0, .int .u64 0] 84 (0, 0))] := H2.as kr
  clear H2
  have HM2 : St w.heap.size w w2 [((gs1 0).b, Obj.cells (Value.cells (svn (mixK s 0))) 84 (0, 0)), ((gs1 1).b, Obj.cells #[.int .u64 0, .int .u64 0, .int .u64 0, .int .u64 0, .int .u64 0, .int .u64 0, .int .u64 0, .int .u64 0, .int .u64 0, .int .u64 0, .int .u64 0, .int .u64 0, .int .u64 0, .int .u64 0, .int .u64 0, .int .u64 0, .int .u64 0, .int .u64 0, .int .u64 0, .int .u64 0, .int .u64 0, .int .u64 0, .int .u64 0, .int .u64 0, .int .u64 0] 84 (0, 0))] := HL1
  refine g_loop kr (fun mz ρ ww => ∃ (j : Nat), 24 - j = mz ∧ (j ≤ 24) ∧ St w.heap.size w ww [((gs1 0).b, Obj.cells (Value.cells (svn (mixK s j))) 84 (0, 0)), ((gs1 1).b, Obj.cells #[.int .u64 0, .int .u64 0, .int .u64 0, .int .u64 0, .int .u64 0, .int .u64 0, .int .u64 0, .int .u64 0, .int .u64 0, .int .u64 0, .int .u64 0, .int .u64 0, .int .u64 0, .int .u64 0, .int .u64 0, .int .u64 0, .int .u64 0, .int .u64 0, .int .u64 0, .int .u64 0, .int .u64 0, .int .u64 0, .int .u64 0, .int .u64 0, .int .u64 0] 84 (0, 0))] ∧ Is [(0, svn s), (1, .pointer (some ⟨(gs1 0).b, 0, none⟩)), (2, .pointer (some ⟨(gs1 1).b, 0, none⟩)), (5, .agg marksC), (6, .int .i64 ((j : Nat) : Int))] ρ) (24 - 0) ⟨0, rfl, (by omega), HM2, (Is.of ⟨kr, kr, kr, kr, kr, trivial⟩)⟩ ?_
  clear HM2
  rintro _ _ w3 ⟨j, rfl, hj, H3, _, rfl⟩
  by_cases hc3 : (j : Nat) < 24
  · skip
    refine rS [.e (v := .bool (decide (((j : Nat) : Int) < 24))) (v' := .bool true) (bool_eq (decide_eq_true (by omega)))] H3 kr fun gs4 w4 H4 => ?_
    clear H3
    refine g_seq kr ?_
    refine g_cond_t kr kr ?_
    refine g_skip kr ?_
    show WP _ _ _ _ _ _
    refine g_seq kr ?_
    refine g_block 1 kr ?_
    refine rS [.o (ins := [((.tmp 5), .agg marksC), ((.tmp 6), .int .i64 ((j : Nat) : Int))]) (v := .int .u64 ((BitVec.toNat (List.getD Kec.marks j 0) : Nat) : Int)) (fun ρ o w ho hi => arr_index (t := 109) (e := 22) (kd := .i64) (n := 24) kr kr kr (x := (.tmp 5)) (y := (.tmp 6)) (Value.cells (.agg marksC)) j (.int .u64 ((BitVec.toNat (List.getD Kec.marks j 0) : Nat) : Int)) ho hi.1 hi.2.1 (by omega) (marks_at j _ (by omega) (by omega)) w), .v] H4 kr fun gs5 w5 H5 => ?_
    clear H4
    refine rS [.l 0, .c (round_fn (mixK s j)), .s 0] H5 kr fun gs6 w6 H6 => ?_
    clear H5
    refine rL [.v, .l 0, .v, .e (v := .int .u64 (Go.bits .xor .u64 (((BitVec.toNat (nth (rnd (mixK s j)) 0) : Nat) : Int)) (((BitVec.toNat (List.getD Kec.marks j 0) : Nat) : Int)))) (v' := .int .u64 ((BitVec.toNat ((nth (rnd (mixK s j)) 0) ^^^ (List.getD Kec.marks j 0)) : Nat) : Int)) (bv_xor_u64 (nth (rnd (mixK s j)) 0) (List.getD Kec.marks j 0)), .v, .se (C := (Value.cells (svn (rnd (mixK s j))))) (C' := (Value.cells (svn (rm (mixK s j) (List.getD Kec.marks j 0))))) (off := 0) (v := .int .u64 ((BitVec.toNat ((nth (rnd (mixK s j)) 0) ^^^ (List.getD Kec.marks j 0)) : Nat) : Int)) 0 (of_decide_eq_true kr) (svn_rm (mixK s j) (List.getD Kec.marks j 0))] H6 kr fun gs7 w7 H7 => ?_
    clear H6
    show WP _ _ _ _ _ _
    refine rL [.e (v := .int .i64 (IntKind.i64.wrap (((j : Nat) : Int) + 1))) (v' := .int .i64 ((j + 1 : Nat) : Int)) (int_eq (wrapAdd_i64 (a := j) (b := 1) (by omega))), .v] H7 kr fun gs8 w8 H8 => ?_
    clear H7
    have HL4 : St w.heap.size w w8 [((gs1 0).b, Obj.cells (Value.cells (svn (rm (mixK s j) (List.getD Kec.marks j 0)))) 84 (0, 0)), ((gs1 1).b, Obj.cells #[.int .u64 0, .int .u64 0, .int .u64 0, .int .u64 0, .int .u64 0, .int .u64 0, .int .u64 0, .int .u64 0, .int .u64 0, .int .u64 0, .int .u64 0, .int .u64 0, .int .u64 0, .int .u64 0, .int .u64 0, .int .u64 0, .int .u64 0, .int .u64 0, .int .u64 0, .int .u64 0, .int .u64 0, .int .u64 0, .int .u64 0, .int .u64 0, .int .u64 0] 84 (0, 0))] := H8.as kr
    clear H8
    have HM5 : St w.heap.size w w8 [((gs1 0).b, Obj.cells (Value.cells (svn (mixK s (j + 1)))) 84 (0, 0)), ((gs1 1).b, Obj.cells #[.int .u64 0, .int .u64 0, .int .u64 0, .int .u64 0, .int .u64 0, .int .u64 0, .int .u64 0, .int .u64 0, .int .u64 0, .int .u64 0, .int .u64 0, .int .u64 0, .int .u64 0, .int .u64 0, .int .u64 0, .int .u64 0, .int .u64 0, .int .u64 0, .int .u64 0, .int .u64 0, .int .u64 0, .int .u64 0, .int .u64 0, .int .u64 0, .int .u64 0] 84 (0, 0))] := by rw [mixK_succ s j (by omega)]; exact HL4
    show ∃ m, _ ∧ _
    exact ⟨_, (by omega), (j + 1), rfl, (by omega), HM5, (Is.of ⟨kr, kr, kr, kr, kr, trivial⟩)⟩
  · skip
    refine rS [.e (v := .bool (decide (((j : Nat) : Int) < 24))) (v' := .bool false) (bool_eq (decide_eq_false (by omega)))] H3 kr fun gs9 w9 H9 => ?_
    clear H3
    refine g_seq kr ?_
    refine g_cond_f kr kr ?_
    refine g_exit 0 kr ?_
    show WP _ _ _ _ _ _
    refine rS [.l 0, .s 1] H9 kr fun gs10 w10 H10 => ?_
    clear H9
    refine g_ret kr ?_
    show ∃ vs, Res _ _ _ _ vs ∧ _
    refine ⟨[svn (mixK s j)], (.agg (b := (gs1 1).b) (Value.cells (svn (mixK s j))) 84 (0, 0) kr (H10.get 1 kr) kr .nil), ?_, H10.below⟩
    obtain rfl : j = 24 := by omega
    exact congrArg svn (mixK_all s)
theorem mix_fn (s : List (BitVec 64)) : FnP Tryd.prog 66 #[svn s] Marks (svn (mix s)) := fun w ⟨T, fz, h⟩ => mix_fnT s T fz w h
end Go.Proofs.YtmmloghbnpfedaaDoor.Ke

namespace Go.Proofs.YtmmloghbnpfedaaDoor.Ke
open Go Go.RowKit Go.Proofs.Kec
set_option linter.unusedVariables false
theorem tcd {α : Type} (L : List α) (q : Nat) (x : α) (h : q < L.length) : L.take q ++ [x] ++ L.drop (q + 1) = L.set q x := by
  rw [List.set_eq_take_append_cons_drop, if_pos h, List.append_assoc]; rfl
theorem svn_list (s : List (BitVec 64)) : Value.cells (svn s) = ((List.range 25).map fun k => Value.int .u64 ((BitVec.toNat (nth s k) : Nat) : Int)).toArray := rfl
theorem svn_at (s : List (BitVec 64)) (k q : Nat) (hq : q = k) (hk : k < 25) : (Value.cells (svn s))[q]? = some (Value.int .u64 ((BitVec.toNat (nth s k) : Nat) : Int)) := by
  subst hq; rw [svn_list]; simp [hk]
theorem nth_set (s : List (BitVec 64)) (k j : Nat) (x : BitVec 64) (hk : k < s.length) : nth (s.set k x) j = if j = k then x else nth s j := by
  unfold nth
  rw [List.getD_eq_getElem?_getD, List.getD_eq_getElem?_getD, List.getElem?_set]
  by_cases h : k = j
  · subst h; simp [hk]
  · rw [if_neg h, if_neg (fun e => h e.symm)]
theorem svn_put (s : List (BitVec 64)) (k q : Nat) (x : BitVec 64) (hs : s.length = 25) (hq : q = k) (hk : k < 25) :
    ((Value.cells (svn s)).toList.take q ++ (Value.cells (.int .u64 ((BitVec.toNat x : Nat) : Int))).toList ++ (Value.cells (svn s)).toList.drop (q + (Value.cells (.int .u64 ((BitVec.toNat x : Nat) : Int))).size)).toArray = Value.cells (svn (s.set k x)) := by
  subst hq
  rw [svn_list, svn_list]
  congr 1
  show List.take q _ ++ [Value.int .u64 ((BitVec.toNat x : Nat) : Int)] ++ List.drop (q + 1) _ = _
  rw [tcd _ q _ (by simpa using hk)]
  apply List.ext_getElem?
  intro j
  rw [List.toList_toArray]
  rw [List.getElem?_set]
  by_cases h : q = j
  · subst h; simp [hk, nth_set s q q x (by omega)]
  · by_cases hj : j < 25
    · simp [h, hj, nth_set s q j x (by omega), show ¬ j = q from fun e => h e.symm]
    · simp [h, hj]
theorem Marks.old {B : Nat} {w0 w : World} {l : List (Nat × Obj)} (HS : St B w0 w l) (hB : B = w0.heap.size) (h : Marks w0) : Marks w := by
  obtain ⟨T, fz, h⟩ := h; exact ⟨T, fz, HS.old h (by rw [hB]; exact lt_of_heap h)⟩
theorem Marks.oldB {B : Nat} {w0 w : World} (HS : Below B w0 w) (hB : B = w0.heap.size) (h : Marks w0) : Marks w := by
  obtain ⟨T, fz, h⟩ := h; exact ⟨T, fz, by rw [HS.block 0 (by rw [hB]; exact lt_of_heap h)]; exact h⟩
theorem Marks.oldE {B : Nat} {w0 w : World} {E : List D2.Ent} (HS : D2.StE B w0 w E) (hB : B = w0.heap.size) (h : Marks w0) : Marks w := by
  obtain ⟨T, fz, h⟩ := h; exact ⟨T, fz, D2.StE.old HS h (by rw [hB]; exact lt_of_heap h)⟩
theorem take_step {s s1 : List (BitVec 64)} {n n1 k : Nat} {t : ByteArray} (h : takeB (s, n) ((tl t).take k) = (s1, n1)) (hk : k < ByteArray.size t) :
    takeB (s, n) ((tl t).take (k + 1)) = (if n1 + 1 = 136 then (mix (lay s1 n1 (BitVec.ofNat 64 (by_ t k))), 0) else (lay s1 n1 (BitVec.ofNat 64 (by_ t k)), n1 + 1)) := by
  have hk' : k < (tl t).length := hk
  rw [List.take_add_one, List.getElem?_eq_getElem hk', Option.toList_some, takeB_snoc, h]
  unfold step1 byteB by_
  rw [List.getD_eq_getElem?_getD, List.getElem?_eq_getElem hk', Option.getD_some]
set_option maxRecDepth 100000 in
set_option maxHeartbeats 2000000 in
theorem lift_fn (b i : Nat) (hi : i < 1000) : Fn Tryd.prog 89 #[.int .u8 ((b : Nat) : Int), .int .i64 ((i : Nat) : Int)] (.int .u64 ((BitVec.toNat (liftB (BitVec.ofNat 64 b) i) : Nat) : Int)) := by
  refine Fn.intro (c := codeOf Tryd.f89) [.tmp 4] 11 Tryd.func89 kr kr kr fun w => ?_
  have H0 := St.start w
  refine rS [.v] H0 kr fun gs1 w1 H1 => ?_
  clear H0
  refine rS [.v, .e (v := .int .u64 (IntKind.u64.wrap ((b : Nat) : Int))) (v' := .int .u64 ((BitVec.toNat (BitVec.ofNat 64 b) : Nat) : Int)) (bv_ofNat_u64 b), .v, .e (v := .int .i64 (Int.tmod ((i : Nat) : Int) 8)) (v' := .int .i64 ((i % 8 : Nat) : Int)) (int_eq (remN i 8)), .e (v := .int .i64 (IntKind.i64.wrap (((i % 8 : Nat) : Int) * 8))) (v' := .int .i64 (((i % 8) * 8 : Nat) : Int)) (int_eq (wrapMul_i64 (a := i % 8) (b := 8) (by omega))), .e (v := .int .u64 (IntKind.u64.wrap ((((BitVec.toNat (BitVec.ofNat 64 b) : Nat) : Int)) * 2 ^ (min ((i % 8) * 8) 64)))) (v' := .int .u64 ((BitVec.toNat ((BitVec.ofNat 64 b) <<< ((i % 8) * 8)) : Nat) : Int)) (bv_shl_u64 (BitVec.ofNat 64 b) ((i % 8) * 8)), .v] H1 kr fun gs2 w2 H2 => ?_
  clear H1
  refine g_ret kr ?_
  show ∃ vs, Res _ _ _ _ vs ∧ _
  refine ⟨[.int .u64 ((BitVec.toNat ((BitVec.ofNat 64 b) <<< ((i % 8) * 8)) : Nat) : Int)], (.tmp (.int .u64 ((BitVec.toNat ((BitVec.ofNat 64 b) <<< ((i % 8) * 8)) : Nat) : Int)) kr .nil), ?_, H2.below⟩
  rfl
set_option maxRecDepth 100000 in
set_option maxHeartbeats 2000000 in
theorem take_fn (s : List (BitVec 64)) (n : Nat) (t : ByteArray) (hs : s.length = 25) (hn : n < 136) (ht : ByteArray.size t < 4611686018427387904) : FnP Tryd.prog 64 #[svn s, .int .i64 ((n : Nat) : Int), .string t] (Marks) (.tuple #[svn (takeB (s, n) (tl t)).1, .int .i64 (((takeB (s, n) (tl t)).2 : Nat) : Int)]) := by
  refine FnP.intro (c := codeOf Tryd.f64) [.cell 6 84, .tmp 7] 34 Tryd.func64 kr kr kr fun w hpre => ?_
  have H0 := St.start w
  refine rS [.b, .a, .v] H0 kr fun gs1 w1 H1 => ?_
  clear H0
  refine g_seq kr ?_
  refine rS [.v, .v, .v] H1 kr fun gs2 w2 H2 => ?_
  clear H1
  refine g_block 0 kr ?_
  have HL1 : St w.heap.size w w2 [((gs1 0).b, Obj.cells (Value.cells (svn s)) 84 (0, 0)), ((gs1 1).b, Obj.cells #[.int .u64 0, .int .u64 0, .int .u64 0, .int .u64 0, .int .u64 0, .int .u64 0, .int .u64 0, .int .u64 0, .int .u64 0, .int .u64 0, .int .u64 0, .int .u64 0, .int .u64 0, .int .u64 0, .int .u64 0, .int .u64 0, .int .u64 0, .int .u64 0, .int .u64 0, .int .u64 0, .int .u64 0, .int .u64 0, .int .u64 0, .int .u64 0, .int .u64 0] 84 (0, 0))] := H2.as kr
  clear H2
  refine g_loop kr (fun mz ρ ww => ∃ (s1 : List (BitVec 64)) (n1 : Nat) (k : Nat), ByteArray.size t - k = mz ∧ (s1.length = 25) ∧ (n1 < 136) ∧ (k ≤ ByteArray.size t) ∧ (takeB (s, n) ((tl t).take k) = (s1, n1)) ∧ St w.heap.size w ww [((gs1 0).b, Obj.cells (Value.cells (svn s1)) 84 (0, 0)), ((gs1 1).b, Obj.cells #[.int .u64 0, .int .u64 0, .int .u64 0, .int .u64 0, .int .u64 0, .int .u64 0, .int .u64 0, .int .u64 0, .int .u64 0, .int .u64 0, .int .u64 0, .int .u64 0, .int .u64 0, .int .u64 0, .int .u64 0, .int .u64 0, .int .u64 0, .int .u64 0, .int .u64 0, .int .u64 0, .int .u64 0, .int .u64 0, .int .u64 0, .int .u64 0, .int .u64 0] 84 (0, 0))] ∧ Is [(0, svn s), (1, .int .i64 ((n1 : Nat) : Int)), (2, .string t), (3, .pointer (some ⟨(gs1 0).b, 0, none⟩)), (6, .pointer (some ⟨(gs1 1).b, 0, none⟩)), (7, .int .i64 0), (10, .int .i64 ((ByteArray.size t : Nat) : Int)), (11, .int .i64 ((k : Nat) : Int))] ρ) (ByteArray.size t - 0) ⟨s, n, 0, rfl, hs, hn, (by omega), rfl, HL1, (Is.of ⟨kr, kr, kr, kr, kr, kr, kr, kr, trivial⟩)⟩ ?_
  clear HL1
  rintro _ _ w3 ⟨s1, n1, k, rfl, hs1, hn1, hk, htk, H3, _, rfl⟩
  have hbl := by_lt t k
  by_cases hc2 : (k : Nat) < ByteArray.size t
  · skip
    refine rS [.e (v := .bool (decide (((k : Nat) : Int) < ((ByteArray.size t : Nat) : Int)))) (v' := .bool true) (bool_eq (decide_eq_true (by omega)))] H3 kr fun gs4 w4 H4 => ?_
    clear H3
    refine g_seq kr ?_
    refine g_cond_t kr kr ?_
    refine g_skip kr ?_
    show WP _ _ _ _ _ _
    refine g_seq kr ?_
    refine g_block 1 kr ?_
    refine rS [.v, .v] H4 kr fun gs5 w5 H5 => ?_
    clear H4
    refine dS [.v, .e (v := .int .i64 (IntKind.i64.wrap (((n1 : Nat) : Int).tdiv 8))) (v' := .int .i64 ((n1 / 8 : Nat) : Int)) (int_eq (quoN_i64 (a := n1) (b := 8) (by omega))), .o (ins := [((.tmp 3), .pointer (some ⟨(gs1 0).b, 0, none⟩)), ((.tmp 15), .int .i64 ((n1 / 8 : Nat) : Int))]) (v := .pointer (some ⟨(gs1 0).b, 0 + (n1 / 8) * 1, none⟩)) (fun ρ o w ho hi => idxA_run (kd := .i64) (t := 84) (n := 25) (size := 1) kr (x := (.tmp 3)) (y := (.tmp 15)) (gs1 0).b 0 (n1 / 8) ho hi.1 hi.2.1 (by omega) w), .ls (C := (Value.cells (svn s1))) (off := 0 + (n1 / 8) * 1) (v := .int .u64 ((BitVec.toNat (nth s1 (n1 / 8)) : Nat) : Int)) 0 (svn_at s1 (n1 / 8) _ (by omega) (by omega)), .v, .v, .o (ins := [((.tmp 18), .string t), ((.tmp 19), .int .i64 ((k : Nat) : Int))]) (v := .int .u8 ((by_ t k : Nat) : Int)) (fun ρ o w ho hi => sindex_run (t := 9) (kd := .i64) kr (x := (.tmp 18)) (y := (.tmp 19)) t k ho hi.1 hi.2.1 (by omega) w), .v, .c (lift_fn (by_ t k) n1 (by omega)), .e (v := .int .u64 (Go.bits .xor .u64 (((BitVec.toNat (nth s1 (n1 / 8)) : Nat) : Int)) (((BitVec.toNat (liftB (BitVec.ofNat 64 (by_ t k)) n1) : Nat) : Int)))) (v' := .int .u64 ((BitVec.toNat ((nth s1 (n1 / 8)) ^^^ (liftB (BitVec.ofNat 64 (by_ t k)) n1)) : Nat) : Int)) (bv_xor_u64 (nth s1 (n1 / 8)) (liftB (BitVec.ofNat 64 (by_ t k)) n1)), .o (ins := [((.tmp 3), .pointer (some ⟨(gs1 0).b, 0, none⟩)), ((.tmp 15), .int .i64 ((n1 / 8 : Nat) : Int))]) (v := .pointer (some ⟨(gs1 0).b, 0 + (n1 / 8) * 1, none⟩)) (fun ρ o w ho hi => idxA_run (kd := .i64) (t := 84) (n := 25) (size := 1) kr (x := (.tmp 3)) (y := (.tmp 15)) (gs1 0).b 0 (n1 / 8) ho hi.1 hi.2.1 (by omega) w), .se (C := (Value.cells (svn s1))) (C' := (Value.cells (svn (lay s1 n1 (BitVec.ofNat 64 (by_ t k)))))) (off := 0 + (n1 / 8) * 1) (v := .int .u64 ((BitVec.toNat ((nth s1 (n1 / 8)) ^^^ (liftB (BitVec.ofNat 64 (by_ t k)) n1)) : Nat) : Int)) 0 (by show _ + 1 ≤ 25; omega) (svn_put s1 (n1 / 8) _ ((nth s1 (n1 / 8)) ^^^ (liftB (BitVec.ofNat 64 (by_ t k)) n1)) hs1 (by omega) (by omega))] H5 kr fun w6 H6 => ?_
    clear H5
    refine g_keep [0, 1, 2, 3, 6, 7, 8, 10, 11, 12] fun ρ1 => ?_
    have HK3 := H6.keep
    clear H6
    refine rS [.v, .e (v := .int .i64 (IntKind.i64.wrap (((n1 : Nat) : Int) + 1))) (v' := .int .i64 ((n1 + 1 : Nat) : Int)) (int_eq (wrapAdd_i64 (a := n1) (b := 1) (by omega))), .v] HK3 kr fun gs7 w7 H7 => ?_
    clear HK3
    refine g_sreg [0, 1] kr kr ?_
    refine rp [.v] H7 kr fun gs8 w8 H8 => ?_
    show WPs _ _ _ _ [1] _ _
    clear H7
    by_cases hc4 : (n1 + 1 : Nat) = 136
    · skip
      refine rp [.e (v := .bool (((n1 + 1 : Nat) : Int) == 136)) (v' := .bool true) (bool_eq (beq_iff_eq.2 (by omega)))] H8 kr fun gs9 w9 H9 => ?_
      show WPs _ _ _ _ [] _ _
      clear H8
      refine s_nil ?_
      refine g_cond_t kr kr ?_
      refine rL [.l 0, .cp (pre := Marks) (mix_fn (lay s1 n1 (BitVec.ofNat 64 (by_ t k)))) [] (fun w hb hd => (Marks.oldB hb rfl hpre)), .s 0, .v] H9 kr fun gs10 w10 H10 => ?_
      clear H9
      show WP _ _ _ _ _ _
      refine rL [.e (v := .int .i64 (IntKind.i64.wrap (((k : Nat) : Int) + 1))) (v' := .int .i64 ((k + 1 : Nat) : Int)) (int_eq (wrapAdd_i64 (a := k) (b := 1) (by omega))), .v] H10 kr fun gs11 w11 H11 => ?_
      clear H10
      have HL5 : St w.heap.size w w11 [((gs1 0).b, Obj.cells (Value.cells (svn (mix (lay s1 n1 (BitVec.ofNat 64 (by_ t k)))))) 84 (0, 0)), ((gs1 1).b, Obj.cells #[.int .u64 0, .int .u64 0, .int .u64 0, .int .u64 0, .int .u64 0, .int .u64 0, .int .u64 0, .int .u64 0, .int .u64 0, .int .u64 0, .int .u64 0, .int .u64 0, .int .u64 0, .int .u64 0, .int .u64 0, .int .u64 0, .int .u64 0, .int .u64 0, .int .u64 0, .int .u64 0, .int .u64 0, .int .u64 0, .int .u64 0, .int .u64 0, .int .u64 0] 84 (0, 0))] := H11.as kr
      clear H11
      show ∃ m, _ ∧ _
      exact ⟨_, (by omega), (mix (lay s1 n1 (BitVec.ofNat 64 (by_ t k)))), 0, (k + 1), rfl, (mix_len (lay_len _ _ hs1)), (by omega), (by omega), ((take_step htk (by omega)).trans (if_pos (by omega))), HL5, (Is.of ⟨kr, kr, kr, kr, kr, kr, kr, kr, trivial⟩)⟩
    · skip
      refine rp [.e (v := .bool (((n1 + 1 : Nat) : Int) == 136)) (v' := .bool false) (bool_eq (beq_eq_false_iff_ne.2 (by omega)))] H8 kr fun gs12 w12 H12 => ?_
      show WPs _ _ _ _ [] _ _
      clear H8
      refine s_nil ?_
      refine g_cond_f kr kr ?_
      refine g_skip kr ?_
      show WP _ _ _ _ _ _
      refine rL [.e (v := .int .i64 (IntKind.i64.wrap (((k : Nat) : Int) + 1))) (v' := .int .i64 ((k + 1 : Nat) : Int)) (int_eq (wrapAdd_i64 (a := k) (b := 1) (by omega))), .v] H12 kr fun gs13 w13 H13 => ?_
      clear H12
      have HL6 : St w.heap.size w w13 [((gs1 0).b, Obj.cells (Value.cells (svn (lay s1 n1 (BitVec.ofNat 64 (by_ t k))))) 84 (0, 0)), ((gs1 1).b, Obj.cells #[.int .u64 0, .int .u64 0, .int .u64 0, .int .u64 0, .int .u64 0, .int .u64 0, .int .u64 0, .int .u64 0, .int .u64 0, .int .u64 0, .int .u64 0, .int .u64 0, .int .u64 0, .int .u64 0, .int .u64 0, .int .u64 0, .int .u64 0, .int .u64 0, .int .u64 0, .int .u64 0, .int .u64 0, .int .u64 0, .int .u64 0, .int .u64 0, .int .u64 0] 84 (0, 0))] := H13.as kr
      clear H13
      show ∃ m, _ ∧ _
      exact ⟨_, (by omega), (lay s1 n1 (BitVec.ofNat 64 (by_ t k))), (n1 + 1), (k + 1), rfl, (lay_len _ _ hs1), (by omega), (by omega), ((take_step htk (by omega)).trans (if_neg (by omega))), HL6, (Is.of ⟨kr, kr, kr, kr, kr, kr, kr, kr, trivial⟩)⟩
  · skip
    refine rS [.e (v := .bool (decide (((k : Nat) : Int) < ((ByteArray.size t : Nat) : Int)))) (v' := .bool false) (bool_eq (decide_eq_false (by omega)))] H3 kr fun gs14 w14 H14 => ?_
    clear H3
    refine g_seq kr ?_
    refine g_cond_f kr kr ?_
    refine g_exit 0 kr ?_
    show WP _ _ _ _ _ _
    refine rS [.l 0, .v, .s 1, .v] H14 kr fun gs15 w15 H15 => ?_
    clear H14
    refine g_ret kr ?_
    show ∃ vs, Res _ _ _ _ vs ∧ _
    refine ⟨[svn s1, .int .i64 ((n1 : Nat) : Int)], (.agg (b := (gs1 1).b) (Value.cells (svn s1)) 84 (0, 0) kr (H15.get 1 kr) kr (.tmp (.int .i64 ((n1 : Nat) : Int)) kr .nil)), ?_, H15.below⟩
    rw [List.take_of_length_le (show (tl t).length ≤ k by rw [tl_len]; omega)] at htk; rw [htk]; rfl
set_option maxRecDepth 100000 in
set_option maxHeartbeats 2000000 in
theorem end_fn (s : List (BitVec 64)) (n : Nat) (hs : s.length = 25) (hn : n < 136) : Fn Tryd.prog 67 #[svn s, .int .i64 ((n : Nat) : Int)] (svn (endB (s, n))) := by
  refine Fn.intro (c := codeOf Tryd.f67) [.cell 4 84] 19 Tryd.func67 kr kr kr fun w => ?_
  have H0 := St.start w
  refine rS [.b, .a] H0 kr fun gs1 w1 H1 => ?_
  clear H0
  refine dS [.v, .e (v := .int .i64 (IntKind.i64.wrap (((n : Nat) : Int).tdiv 8))) (v' := .int .i64 ((n / 8 : Nat) : Int)) (int_eq (quoN_i64 (a := n) (b := 8) (by omega))), .o (ins := [((.tmp 2), .pointer (some ⟨(gs1 0).b, 0, none⟩)), ((.tmp 6), .int .i64 ((n / 8 : Nat) : Int))]) (v := .pointer (some ⟨(gs1 0).b, 0 + (n / 8) * 1, none⟩)) (fun ρ o w ho hi => idxA_run (kd := .i64) (t := 84) (n := 25) (size := 1) kr (x := (.tmp 2)) (y := (.tmp 6)) (gs1 0).b 0 (n / 8) ho hi.1 hi.2.1 (by omega) w), .ls (C := (Value.cells (svn s))) (off := 0 + (n / 8) * 1) (v := .int .u64 ((BitVec.toNat (nth s (n / 8)) : Nat) : Int)) 0 (svn_at s (n / 8) _ (by omega) (by omega)), .v, .c (lift_fn 1 n (by omega)), .e (v := .int .u64 (Go.bits .xor .u64 (((BitVec.toNat (nth s (n / 8)) : Nat) : Int)) (((BitVec.toNat (liftB (BitVec.ofNat 64 1) n) : Nat) : Int)))) (v' := .int .u64 ((BitVec.toNat ((nth s (n / 8)) ^^^ (liftB (BitVec.ofNat 64 1) n)) : Nat) : Int)) (bv_xor_u64 (nth s (n / 8)) (liftB (BitVec.ofNat 64 1) n)), .o (ins := [((.tmp 2), .pointer (some ⟨(gs1 0).b, 0, none⟩)), ((.tmp 6), .int .i64 ((n / 8 : Nat) : Int))]) (v := .pointer (some ⟨(gs1 0).b, 0 + (n / 8) * 1, none⟩)) (fun ρ o w ho hi => idxA_run (kd := .i64) (t := 84) (n := 25) (size := 1) kr (x := (.tmp 2)) (y := (.tmp 6)) (gs1 0).b 0 (n / 8) ho hi.1 hi.2.1 (by omega) w), .se (C := (Value.cells (svn s))) (C' := (Value.cells (svn (lay s n 1)))) (off := 0 + (n / 8) * 1) (v := .int .u64 ((BitVec.toNat ((nth s (n / 8)) ^^^ (liftB (BitVec.ofNat 64 1) n)) : Nat) : Int)) 0 (by show _ + 1 ≤ 25; omega) (svn_put s (n / 8) _ ((nth s (n / 8)) ^^^ (liftB (BitVec.ofNat 64 1) n)) hs (by omega) (by omega))] H1 kr fun w2 H2 => ?_
  clear H1
  refine dS [.v, .l 0, .c (lift_fn 128 135 (by omega)), .e (v := .int .u64 (Go.bits .xor .u64 (((BitVec.toNat (nth (lay s n 1) 16) : Nat) : Int)) (((BitVec.toNat (liftB (BitVec.ofNat 64 128) 135) : Nat) : Int)))) (v' := .int .u64 ((BitVec.toNat ((nth (lay s n 1) 16) ^^^ (liftB (BitVec.ofNat 64 128) 135)) : Nat) : Int)) (bv_xor_u64 (nth (lay s n 1) 16) (liftB (BitVec.ofNat 64 128) 135)), .v, .se (C := (Value.cells (svn (lay s n 1)))) (C' := (Value.cells (svn (lay (lay s n 1) 135 128)))) (off := 16) (v := .int .u64 ((BitVec.toNat ((nth (lay s n 1) 16) ^^^ (liftB (BitVec.ofNat 64 128) 135)) : Nat) : Int)) 0 (of_decide_eq_true kr) (svn_put (lay s n 1) 16 16 _ (lay_len _ _ hs) rfl (by omega))] H2 kr fun w3 H3 => ?_
  clear H2
  refine g_keep [0, 1, 2, 4] fun ρ1 => ?_
  have HK1 := H3.keep
  clear H3
  refine rS [.l 0, .s 1] HK1 kr fun gs4 w4 H4 => ?_
  clear HK1
  refine g_ret kr ?_
  show ∃ vs, Res _ _ _ _ vs ∧ _
  refine ⟨[svn (lay (lay s n 1) 135 128)], (.agg (b := (gs1 1).b) (Value.cells (svn (lay (lay s n 1) 135 128))) 84 (0, 0) kr (H4.get 1 kr) kr .nil), ?_, H4.below⟩
  rfl
end Go.Proofs.YtmmloghbnpfedaaDoor.Ke

namespace Go.Proofs.YtmmloghbnpfedaaDoor.Ke
open Go Go.RowKit Go.Proofs.Kec
set_option linter.unusedVariables false
theorem b8 (x : BitVec 64) (sh : Nat) : UInt8.ofNat (Int.toNat (((BitVec.toNat (BitVec.setWidth 8 (x >>> sh)) : Nat) : Int))) = UInt8.ofNat (BitVec.toNat x / 2 ^ sh) := by
  apply UInt8.toNat_inj.1
  rw [Int.toNat_natCast, BitVec.toNat_setWidth, BitVec.toNat_ushiftRight, Nat.shiftRight_eq_div_pow]
  simp
theorem take_fnq (q : List (BitVec 64) × Nat) (hq : StOK q) (t : ByteArray) (ht : ByteArray.size t < 4611686018427387904) :
    FnP Tryd.prog 64 #[svn q.1, .int .i64 ((q.2 : Nat) : Int), .string t] Marks (.tuple #[svn (takeB q (tl t)).1, .int .i64 (((takeB q (tl t)).2 : Nat) : Int)]) := take_fn q.1 q.2 t hq.len hq.lt ht
theorem end_fnq (q : List (BitVec 64) × Nat) (hq : StOK q) : Fn Tryd.prog 67 #[svn q.1, .int .i64 ((q.2 : Nat) : Int)] (svn (endB q)) := end_fn q.1 q.2 hq.len hq.lt
def kF (s : List (BitVec 64)) (i j : Nat) : BitVec 8 := if j < i then BitVec.setWidth 8 (nth s (j / 8) >>> (j % 8 * 8)) else 0
theorem kF_put (s : List (BitVec 64)) (i j : Nat) : kF s (i + 1) j = if j = i then BitVec.setWidth 8 (nth s (i / 8) >>> (i % 8 * 8)) else kF s i j := by
  unfold kF
  by_cases h : j = i
  · subst h; rw [if_pos (by omega), if_pos rfl]
  · rw [if_neg h]
    by_cases h2 : j < i
    · rw [if_pos (by omega), if_pos h2]
    · rw [if_neg (by omega), if_neg h2]
theorem kF_done (s : List (BitVec 64)) : ((List.range 32).map fun i => UInt8.ofBitVec (kF s 32 i)) = firstB s := by
  unfold firstB
  refine List.map_congr_left fun i hi => ?_
  unfold kF; rw [if_pos (by simpa using hi)]
  have h := b8 (nth s (i / 8)) (i % 8 * 8)
  rw [Int.toNat_natCast] at h
  rw [← h]
  apply UInt8.toNat_inj.1
  have := (BitVec.setWidth 8 (nth s (i / 8) >>> (i % 8 * 8))).isLt
  rw [UInt8.toNat_ofNat_of_lt' (by simpa using this)]; rfl
set_option maxRecDepth 100000 in
set_option maxHeartbeats 2000000 in
theorem first_fn (s : List (BitVec 64)) : Fn Tryd.prog 65 #[svn s] (.string (strB (firstB s))) := by
  refine Fn.intro (c := codeOf Tryd.f65) [.tmp 2] 22 Tryd.func65 kr kr kr fun w => ?_
  have H0 := St.start w
  refine rS [.b, .v] H0 kr fun gs1 w1 H1 => ?_
  clear H0
  refine rS [.a] H1 kr fun gs2 w2 H2 => ?_
  clear H1
  refine g_seq kr ?_
  refine rS [.v] H2 kr fun gs3 w3 H3 => ?_
  clear H2
  refine g_block 0 kr ?_
  have HL1 : St w.heap.size w w3 [((gs1 0).b, Obj.cells (Value.cells (svn s)) 84 (0, 0)), ((gs2 0).b, Obj.cells (Value.cells (zeroV .u8 32)) 90 (0, 0))] := H3.as kr
  clear H3
  have HM2 : St w.heap.size w w3 [((gs1 0).b, Obj.cells (Value.cells (svn s)) 84 (0, 0)), ((gs2 0).b, Obj.cells (Value.cells (arrB 32 (kF s 0))) 90 (0, 0))] := HL1
  refine g_loop kr (fun mz ρ ww => ∃ (i : Nat), 32 - i = mz ∧ (i ≤ 32) ∧ St w.heap.size w ww [((gs1 0).b, Obj.cells (Value.cells (svn s)) 84 (0, 0)), ((gs2 0).b, Obj.cells (Value.cells (arrB 32 (kF s i))) 90 (0, 0))] ∧ Is [(0, svn s), (1, .pointer (some ⟨(gs1 0).b, 0, none⟩)), (2, .string (⟨#[]⟩)), (3, .pointer (some ⟨(gs2 0).b, 0, none⟩)), (5, .int .i64 ((i : Nat) : Int))] ρ) (32 - 0) ⟨0, rfl, (by omega), HM2, (Is.of ⟨kr, kr, kr, kr, kr, trivial⟩)⟩ ?_
  clear HM2
  rintro _ _ w4 ⟨i, rfl, hi, H4, _, rfl⟩
  by_cases hc3 : (i : Nat) < 32
  · skip
    refine rS [.e (v := .bool (decide (((i : Nat) : Int) < 32))) (v' := .bool true) (bool_eq (decide_eq_true (by omega)))] H4 kr fun gs5 w5 H5 => ?_
    clear H4
    refine g_seq kr ?_
    refine g_cond_t kr kr ?_
    refine g_skip kr ?_
    show WP _ _ _ _ _ _
    refine g_seq kr ?_
    refine g_block 1 kr ?_
    refine rS [.v, .v] H5 kr fun gs6 w6 H6 => ?_
    clear H5
    refine rL [.v, .v, .e (v := .int .i64 (IntKind.i64.wrap (((i : Nat) : Int).tdiv 8))) (v' := .int .i64 ((i / 8 : Nat) : Int)) (int_eq (quoN_i64 (a := i) (b := 8) (by omega))), .o (ins := [((.tmp 1), .pointer (some ⟨(gs1 0).b, 0, none⟩)), ((.tmp 10), .int .i64 ((i / 8 : Nat) : Int))]) (v := .pointer (some ⟨(gs1 0).b, 0 + (i / 8) * 1, none⟩)) (fun ρ o w ho hi => idxA_run (kd := .i64) (t := 84) (n := 25) (size := 1) kr (x := (.tmp 1)) (y := (.tmp 10)) (gs1 0).b 0 (i / 8) ho hi.1 hi.2.1 (by omega) w), .ls (C := (Value.cells (svn s))) (off := 0 + (i / 8) * 1) (v := .int .u64 ((BitVec.toNat (nth s (i / 8)) : Nat) : Int)) 0 (svn_at s (i / 8) _ (by omega) (by omega)), .v, .e (v := .int .i64 (Int.tmod ((i : Nat) : Int) 8)) (v' := .int .i64 ((i % 8 : Nat) : Int)) (int_eq (remN i 8)), .e (v := .int .i64 (IntKind.i64.wrap (((i % 8 : Nat) : Int) * 8))) (v' := .int .i64 (((i % 8) * 8 : Nat) : Int)) (int_eq (wrapMul_i64 (a := i % 8) (b := 8) (by omega))), .e (v := .int .u64 (Int.fdiv (((BitVec.toNat (nth s (i / 8)) : Nat) : Int)) (2 ^ (min ((i % 8) * 8) 64)))) (v' := .int .u64 ((BitVec.toNat ((nth s (i / 8)) >>> ((i % 8) * 8)) : Nat) : Int)) (bv_shr_u64 (nth s (i / 8)) ((i % 8) * 8)), .e (v := .int .u8 (IntKind.u8.wrap (((BitVec.toNat ((nth s (i / 8)) >>> ((i % 8) * 8)) : Nat) : Int)))) (v' := .int .u8 ((BitVec.toNat (BitVec.setWidth 8 ((nth s (i / 8)) >>> ((i % 8) * 8))) : Nat) : Int)) (bv_conv_u8 ((nth s (i / 8)) >>> ((i % 8) * 8))), .o (ins := [((.tmp 3), .pointer (some ⟨(gs2 0).b, 0, none⟩)), ((.tmp 8), .int .i64 ((i : Nat) : Int))]) (v := .pointer (some ⟨(gs2 0).b, 0 + i * 1, none⟩)) (fun ρ o w ho hi => idxA_run (kd := .i64) (t := 90) (n := 32) (size := 1) kr (x := (.tmp 3)) (y := (.tmp 8)) (gs2 0).b 0 i ho hi.1 hi.2.1 (by omega) w), .se (C := (Value.cells (arrB 32 (kF s i)))) (C' := (Value.cells (arrB 32 (kF s (i + 1))))) (off := 0 + i * 1) (v := .int .u8 ((BitVec.toNat (BitVec.setWidth 8 ((nth s (i / 8)) >>> ((i % 8) * 8))) : Nat) : Int)) 1 (by show _ + 1 ≤ 32; omega) (arrB_put (k := i) (x := BitVec.setWidth 8 ((nth s (i / 8)) >>> ((i % 8) * 8))) (by omega) (by omega) (fun j _ => kF_put s i j))] H6 kr fun gs7 w7 H7 => ?_
    clear H6
    show WP _ _ _ _ _ _
    refine g_keep [0, 1, 2, 3, 4, 5, 6] fun ρ1 => ?_
    have HK4 := H7.keep
    clear H7
    refine rL [.e (v := .int .i64 (IntKind.i64.wrap (((i : Nat) : Int) + 1))) (v' := .int .i64 ((i + 1 : Nat) : Int)) (int_eq (wrapAdd_i64 (a := i) (b := 1) (by omega))), .v] HK4 kr fun gs8 w8 H8 => ?_
    clear HK4
    have HL5 : St w.heap.size w w8 [((gs1 0).b, Obj.cells (Value.cells (svn s)) 84 (0, 0)), ((gs2 0).b, Obj.cells (Value.cells (arrB 32 (kF s (i + 1)))) 90 (0, 0))] := H8.as kr
    clear H8
    show ∃ m, _ ∧ _
    exact ⟨_, (by omega), (i + 1), rfl, (by omega), HL5, (Is.of ⟨kr, kr, kr, kr, kr, trivial⟩)⟩
  · skip
    refine rS [.e (v := .bool (decide (((i : Nat) : Int) < 32))) (v' := .bool false) (bool_eq (decide_eq_false (by omega)))] H4 kr fun gs9 w9 H9 => ?_
    clear H4
    refine g_seq kr ?_
    refine g_cond_f kr kr ?_
    refine g_exit 0 kr ?_
    show WP _ _ _ _ _ _
    refine g_sreg [0, 1, 2] kr kr ?_
    refine rp [.o (ins := [((.tmp 3), .pointer (some ⟨(gs2 0).b, 0, none⟩))]) (v := .slice (some ⟨(gs2 0).b, 0, none⟩) 32 32) (fun ρ o w ho hi => slArr_run (t := 90) (n := 32) (e := 5) (z := 1) kr kr (x := (.tmp 3)) ((gs2 0).b) ho hi.1 w)] H9 kr fun gs10 w10 H10 => ?_
    show WPs _ _ _ _ [1, 2] _ _
    clear H9
    have hi32 : i = 32 := by omega
    have hrow := arrB_rw 32 (kF s i) (by unfold maxLen; omega)
    rw [show ((List.range 32).map fun j => UInt8.ofBitVec (kF s i j)) = firstB s by rw [hi32]; exact kF_done _] at hrow
    refine s_bytesStrB H10 (some 21) 69 9 5 (.tmp 20) 1 ((gs2 0).b) 32 32 (Value.cells (arrB 32 (kF s i))) 90 (0, 0) (firstB s) kr kr kr kr kr kr kr hrow ?_
    refine rp [.v] H10 kr fun gs11 w11 H11 => ?_
    show WPs _ _ _ _ [] _ _
    clear H10
    refine s_nil ?_
    refine g_ret kr ?_
    show ∃ vs, Res _ _ _ _ vs ∧ _
    refine ⟨[.string (strB (firstB s))], (.tmp (.string (strB (firstB s))) kr .nil), ?_, H11.below⟩
    rfl
set_option maxRecDepth 100000 in
set_option maxHeartbeats 2000000 in
theorem of_fn2 (b : Nat) (s1 s2 : ByteArray) (h1 : ByteArray.size s1 < 4611686018427387904) (h2 : ByteArray.size s2 < 4611686018427387904) : FnP Tryd.prog 28 #[.slice (some ⟨b, 0, none⟩) 2 2] (fun w => Marks w ∧ w.heap[b]? = some (.cells #[.string s1, .string s2] 9 (0, 0))) (.string (strB (sumB (tl s1 ++ tl s2)))) := by
  refine FnP.intro (c := codeOf Tryd.f28) [.tmp 2] 26 Tryd.func28 kr kr kr fun w hpre => ?_
  have H0 := St.start w
  refine rS [.v] H0 kr fun gs1 w1 H1 => ?_
  clear H0
  refine rS [.a] H1 kr fun gs2 w2 H2 => ?_
  clear H1
  refine rS [.v] H2 kr fun gs3 w3 H3 => ?_
  clear H2
  refine g_seq kr ?_
  refine rS [.v, .v, .v] H3 kr fun gs4 w4 H4 => ?_
  clear H3
  refine g_block 0 kr ?_
  have HL1 : St w.heap.size w w4 [((gs2 0).b, Obj.cells #[.int .u64 0, .int .u64 0, .int .u64 0, .int .u64 0, .int .u64 0, .int .u64 0, .int .u64 0, .int .u64 0, .int .u64 0, .int .u64 0, .int .u64 0, .int .u64 0, .int .u64 0, .int .u64 0, .int .u64 0, .int .u64 0, .int .u64 0, .int .u64 0, .int .u64 0, .int .u64 0, .int .u64 0, .int .u64 0, .int .u64 0, .int .u64 0, .int .u64 0] 84 (0, 0))] := H4.as kr
  clear H4
  refine g_first kr ?_
  refine rS [.v] HL1 kr fun gs5 w5 H5 => ?_
  clear HL1
  refine g_seq kr ?_
  refine g_cond_t kr kr ?_
  refine g_skip kr ?_
  show WP _ _ _ _ _ _
  refine g_seq kr ?_
  refine g_block 1 kr ?_
  refine rS [.o (ins := [((.tmp 7), .slice (some ⟨b, 0, none⟩) 2 2), ((.tmp 9), .int .i64 0)]) (v := .pointer (some ⟨b, 0 + 0 * 1, none⟩)) (fun ρ o w ho hi => idxS_run (kd := .i64) (t := 83) (e := 9) (size := 1) (bytes := 16) kr (x := (.tmp 7)) (y := (.tmp 9)) b 0 2 2 0 ho hi.1 hi.2.1 (by omega) w), .fs (off := 0 + 0 * 1) (v := .string s1) hpre.2 (lt_of_heap hpre.2) (by rfl), .v] H5 kr fun gs6 w6 H6 => ?_
  clear H5
  refine rL [.l 0, .v, .v, .cp (pre := Marks) (take_fnq (zeroS, 0) zero_ok s1 (by assumption)) [] (fun w hb hd => (Marks.oldB hb rfl hpre.1)), .v, .v, .v, .s 0, .v] H6 kr fun gs7 w7 H7 => ?_
  clear H6
  show WP _ _ _ _ _ _
  refine g_keep [0, 2, 3, 4, 6, 7, 8, 9, 10] fun ρ1 => ?_
  have HK2 := H7.keep
  clear H7
  refine rL [.v, .v] HK2 kr fun gs8 w8 H8 => ?_
  clear HK2
  show WPL _ _ _ _ _ _
  refine g_next ?_
  refine rS [.v] H8 kr fun gs9 w9 H9 => ?_
  clear H8
  refine g_seq kr ?_
  refine g_cond_t kr kr ?_
  refine g_skip kr ?_
  show WP _ _ _ _ _ _
  refine g_seq kr ?_
  refine g_block 1 kr ?_
  refine rS [.o (ins := [((.tmp 7), .slice (some ⟨b, 0, none⟩) 2 2), ((.tmp 9), .int .i64 1)]) (v := .pointer (some ⟨b, 0 + 1 * 1, none⟩)) (fun ρ o w ho hi => idxS_run (kd := .i64) (t := 83) (e := 9) (size := 1) (bytes := 16) kr (x := (.tmp 7)) (y := (.tmp 9)) b 0 2 2 1 ho hi.1 hi.2.1 (by omega) w), .fs (off := 0 + 1 * 1) (v := .string s2) hpre.2 (lt_of_heap hpre.2) (by rfl), .v] H9 kr fun gs10 w10 H10 => ?_
  clear H9
  refine rL [.l 0, .v, .v, .cp (pre := Marks) (take_fnq (takeB (zeroS, 0) (tl s1)) (takeB_ok _ zero_ok) s2 (by assumption)) [] (fun w hb hd => (Marks.oldB hb rfl hpre.1)), .v, .v, .v, .s 0, .v] H10 kr fun gs11 w11 H11 => ?_
  clear H10
  show WP _ _ _ _ _ _
  refine rL [.v, .v] H11 kr fun gs12 w12 H12 => ?_
  clear H11
  show WPL _ _ _ _ _ _
  refine g_next ?_
  refine g_keep [0, 2, 3, 4, 6, 7, 8, 9, 10] fun ρ2 => ?_
  have HK3 := H12.keep
  clear H12
  refine rS [.v] HK3 kr fun gs13 w13 H13 => ?_
  clear HK3
  refine g_seq kr ?_
  refine g_cond_f kr kr ?_
  refine g_exit 0 kr ?_
  show WP _ _ _ _ _ _
  refine rS [.l 0, .v, .c (end_fnq (takeB (takeB (zeroS, 0) (tl s1)) (tl s2)) (takeB_ok _ (takeB_ok _ zero_ok))), .cp (pre := Marks) (mix_fn (endB (takeB (takeB (zeroS, 0) (tl s1)) (tl s2)))) [] (fun w hb hd => (Marks.oldB hb rfl hpre.1)), .c (first_fn (mix (endB (takeB (takeB (zeroS, 0) (tl s1)) (tl s2))))), .v] H13 kr fun gs14 w14 H14 => ?_
  clear H13
  refine g_ret kr ?_
  show ∃ vs, Res _ _ _ _ vs ∧ _
  refine ⟨[.string (strB (firstB (mix (endB (takeB (takeB (zeroS, 0) (tl s1)) (tl s2))))))], (.tmp (.string (strB (firstB (mix (endB (takeB (takeB (zeroS, 0) (tl s1)) (tl s2))))))) kr .nil), ?_, H14.below⟩
  rw [show sumB (tl s1 ++ tl s2) = firstB (mix (endB (takeB (takeB (zeroS, 0) (tl s1)) (tl s2)))) by unfold sumB; rw [takeB_append]]; rfl
end Go.Proofs.YtmmloghbnpfedaaDoor.Ke

namespace Go.Proofs.YtmmloghbnpfedaaDoor
open Go.Proofs.Kec
set_option maxRecDepth 100000
def kg0 : List B64 := [12446784959294127737, 507648704348594261, 15647983601658403586, 10959500993137603161, 7333165478880885320, 12107946354257142877, 1825230698222721021, 13318288670677026716, 1, 0, 0, 0, 0, 0, 0, 0, 9223372036854775808, 0, 0, 0, 0, 0, 0, 0, 0]
def kg1 : List B64 := [6147971067010992689, 1876153753126214278, 11687062968877581082, 17750475127143040403, 1364682289028149339, 1027244746182266560, 3150245938057466390, 16886574177629905641, 6801149347803128144, 313691013372951397, 10719973574864325803, 16805296323909071301, 13468913885800402523, 8098377563087180416, 13179556767843239086, 15585664471952107018, 6407783409991285683, 3407303225009728413, 9827768119413240126, 1021865858411123001, 9652356509403333293, 11951718323505581892, 5540211513624755404, 3349618883719306652, 2245310120953577523]
def kg2 : List B64 := [9545368450931707425, 6103372658215168530, 7763591259973919506, 17848246576876516643, 12947006784223601021, 5505958432284116247, 2018212747768846420, 8447910178675968831, 15101621917694966059, 159939953062725845, 6064315107748091666, 9120501678261838620, 1651067134317061638, 11896695035590222660, 14673522992868187909, 11407096183005478742, 12687687913063921994, 6308545391313956332, 10294446521914786389, 8132747113889628817, 12665506115741070870, 5481670591257031969, 6959126744159306184, 16862145795090028173, 1693413769624635400]
def kg3 : List B64 := [4267680060616796381, 579814908073199446, 13791422340505577077, 4812296360446488545, 706710581062528071, 1271596614307356765, 11752830566704005059, 16762047622692872806, 5478091182564988854, 12300848449997010808, 5008977000257078002, 3871043231972770140, 7633546833167738716, 5532015364872513692, 7165461145452843687, 14083097586322905112, 484177406022666024, 3228067398285052987, 14623191040636660016, 17178877281466522028, 11173616120886968902, 12563382713311594488, 17422959636601913414, 748172302641650029, 6442387590352047615]
def kg4 : List B64 := [11837680179835353509, 13410646769476190334, 4952104528092970989, 1277989282364619929, 7047691804931419402, 5342080017024537996, 12493632100243897395, 11574884222087161430, 10055621988896330210, 18165963603145537309, 17487306100669846078, 18119694806115350196, 9618717773767475380, 12825705048106922506, 5527631064903321271, 9002700491634594573, 1303087153295520743, 14024905377583470358, 10187605913754835402, 14556652007414753711, 4021238888784077478, 10026775072947815113, 16782994756348503350, 4749223681402529788, 17593480719839225540]
def kg5 : List B64 := [15058388053019221123, 9974640622492302870, 8723369104006252492, 17886918876202208039, 14050617480229670164, 12483290973113457777, 15930457174237073020, 8551516979707312727, 2365711919889953607, 11109191870527486081, 14368473327293248273, 5587541537406898950, 3789619646445963886, 18394813622038995130, 11862182497780370241, 16555824809559328481, 5412517034377761979, 7838744382045772683, 17771373447938391051, 6694972750624542577, 3266019767555548540, 12208565774212995082, 15248425339155570907, 9452177465067154405, 12259306221190545071]
def kg6 : List B64 := [10013278077612867761, 1474259117612355964, 2879183728813378546, 4148321736889135143, 12626595382835406416, 9293618296869397405, 4938129218782373532, 16664402468043493161, 15681752965807490247, 10226721186221201007, 9743597131668940838, 1852918534640912642, 3450560585401044087, 1011300051746069993, 6899631175538953180, 16704795931792727434, 234975023581710291, 13825457614871906661, 11891675625821231111, 6058124696498741224, 5580821739077533620, 15813398562387544400, 15492403653148091095, 2606924993814857282, 18193002710699230399]
def kg7 : List B64 := [17827615796375011906, 15391292426169837866, 6249362430162252556, 9710251416279846582, 10105912379249709577, 2650823036450594119, 15664387409857930322, 1662177558731048463, 7334746813663443739, 5344349277605330821, 16404032918086284602, 2714828603363454990, 11511462880717494872, 9204587968020011070, 3039720999628762020, 9367911649924092033, 15015623358785985977, 14161256907096502116, 13580755754158028805, 6706815580275343004, 9092003422247875906, 4680058580954471423, 7166209016848120547, 7537872251933034799, 14960328169997702102]
def kg8 : List B64 := [4346157385650240285, 12747278687979473800, 3961466678184963067, 1226740751023409601, 17409835424652035951, 18118317986929652408, 2423471940579465391, 6193589401598264539, 14617452826383948483, 3011110326659342099, 15356859773637796445, 10332624466522692422, 13952365950720710612, 10772327730834177540, 6604526622933835094, 6572223820726321970, 12184520449208502169, 18342003984771950954, 11609127758758902949, 10944988614007186857, 10804558890251926615, 16572010099335580323, 11065538473118167171, 17148339691171097690, 18417427264340804677]
def kg9 : List B64 := [8311848369386851567, 3230369989570986678, 13081493150349318572, 7434478931272561067, 15369978940703765400, 3470470700861193646, 2249687778378918720, 9313084128945660265, 153966631549696496, 6118983537052511125, 14977980535898290196, 18177565235984922020, 14924189921399902730, 15876903356041657148, 7094217940934814543, 1583378852536698098, 16321296331298992044, 14177497292578464099, 16553325849587323095, 648459780626778444, 11254275351218238802, 17957596676216042993, 289859803151954995, 13895570894519165226, 16749880478013190335]
def kg10 : List B64 := [13273112571084993025, 9721218316213618435, 7824170422330108613, 8107343850455108834, 1032921731793673868, 18399178888865308163, 7934429767556016305, 2141953109194568018, 575593999526914918, 4397453199245880949, 1407101242017024730, 4760322799491398725, 7812580022732182880, 2803358680990760564, 11917978172376795409, 11125129958775343160, 14948216858779419195, 5040337628865093567, 3973591364729081967, 12893413016423199688, 17257522768735559333, 9664548231428163547, 9178157335604473256, 17125141530137873823, 3086001205950466466]
def kg11 : List B64 := [3558824827103517856, 11571718876325132530, 11622592850317408742, 11451969422274649614, 7748472094946007775, 11708971041613666165, 15194888609098468909, 356585898603786203, 1114503999738702362, 9862786600993572479, 1263754907628321736, 1074634268687110450, 9705722904114278002, 11178441218769045114, 4916578521287547311, 11727595293308849208, 1284664860691755635, 17780436577107051558, 8647777739289450528, 7116046839887150837, 8650581182815156850, 114598025308178617, 13787433734616184716, 11081932096594241469, 11662678542997502451]
def kg12 : List B64 := [14904032757431871081, 1833367409297251611, 10017274157448560410, 2565622001502473760, 14045034576029116318, 7915295257839387862, 8298107784104063204, 7015881885816143476, 9905722942461894066, 1344909847083554569, 1812622167082365918, 13635919833101455094, 6329735965916182372, 4775292262716237883, 4110210121577861853, 6413457930787679200, 12066042808624618022, 9140075296723726086, 3647307869590857955, 17027383216867295599, 9717427822941613517, 18083647396905638099, 15260861372150040278, 5366806573868552890, 4884586890848314528]
def kg13 : List B64 := [11525420944026756391, 18214196730449270852, 16800459377548193, 11560628052597248771, 6265811172570832472, 10533518685195787741, 7726347921332555985, 8102971164141328786, 14849296198520950841, 730792256244643001, 13519574209307208262, 17224902856140070007, 15990674751894835706, 14976057936773525297, 11246247402535995241, 5902052041245227697, 8934381382493077539, 12180751395560369125, 1916218345209719657, 4816456847919208520, 10281050804854773104, 12180863626829662534, 9754408195920163773, 11477169766461609764, 14546999400930527400]
def kg14 : List B64 := [19053535572813391, 3254051246563625587, 659083417359583494, 6811129456922046764, 3418024805626189822, 14100825555534820255, 12190553255631085462, 16427050095616155725, 869054706934327455, 16771147328648398294, 2368125158103282750, 9444193741055805136, 15316860623166084929, 12045208517887612069, 17521819835406632750, 7633891305081537305, 11005095080216094945, 9332182169786266629, 7619752011440268517, 17694609612799368934, 17951520926239439274, 4486714420226338035, 9066495453831349264, 4308744824697230123, 2001970315205741107]
def kg15 : List B64 := [652529623428270178, 17280104991395114182, 7007206083772549446, 7741229147703988740, 6448935170842353916, 11013809384219108563, 16400734725861116728, 10341095433006776725, 11058702026384810582, 12777209949380924920, 11951139618199245599, 17041423964292953794, 7216355067642355390, 207515968366616245, 1901061013279155703, 8599781125096371868, 15795751314943543212, 14138459405122963919, 3315967806219200930, 1398910219540554142, 4438407371450813028, 15250803631669692762, 11728431483141932951, 6413419354055774522, 11827282418758221653]
def kg16 : List B64 := [2094324497629059468, 18410952481960957365, 16998304749590217317, 10472165452090246182, 2957324439160666018, 11571218197299437198, 10884245048476333031, 14222447518032019201, 3951467359830295629, 5600569637552148405, 15218276486119930487, 3973585765572339826, 14890164401722076945, 1342608030262973757, 12623147848651941794, 3322497216572940071, 11951459963232749422, 12503682638979366249, 16300721124851136151, 13752709708348952717, 15247005133059479192, 5547289112688542651, 13306898888049496214, 6092884065202787358, 16049924118934415550]
def kg17 : List B64 := [8910310858846878695, 1336314419790737403, 10693316814692799935, 6542397894220716213, 13006074077733845705, 2259420849075044304, 5119086992943463354, 12576841053068198003, 17243829523025335896, 11612152736619845273, 383844063022455255, 4006692605074657292, 13728196051602548078, 3273366119087763354, 9906580987388778484, 1680054105485861071, 3453069422874564879, 2445652586356073816, 14164153117556706949, 8168539158903213924, 901711995758321870, 7316122978914772712, 17086048163525799525, 9605845784660679421, 13117633953147762592]
def kg18 : List B64 := [3928262691071299283, 1825779283928386589, 16117989046544885133, 3991199164750354166, 3467299420957931229, 4432177862723599763, 11358991721456225845, 9095440129232165448, 12060666814550608555, 1044957007450258942, 11814458915802680441, 12010980000818125249, 1655513237225870257, 11784137439362558749, 14110185025029303704, 17415060416690423902, 529664923344494531, 12450465908267372407, 11626351226785062331, 11834094352327133990, 16994420149643952424, 9271207796368776981, 15602893061487868717, 14641683616207151565, 4315750413167832587]
def kg19 : List B64 := [2104031709389910310, 14738801326702933344, 6802142155068579670, 7137316528851226856, 9086556789983446272, 11916693453768624479, 4881231900193264915, 9313447982761345159, 3394093884336321260, 10474177048825784559, 17371057877526256670, 4740340113041605954, 12216639345813621796, 15347236007256038288, 15444483364815817398, 4299768620770362377, 5023964618276179751, 9544900469916855909, 10207604521930120530, 10078274342904233802, 10481368004061407778, 5776659037760175816, 7134133881635865801, 14401152220392620418, 10763325800383934934]
def kg20 : List B64 := [612344474104722813, 11590833022060788176, 11072834976406496541, 9385776222077155930, 2141808173806412478, 11978092556803861355, 12570321765401777987, 9509547776701424480, 8280740594698023816, 11234988926224570323, 2408306135397045118, 14249712112678810543, 8764307970830112783, 7765937589232241792, 5245578492655674593, 16887635652617528453, 4357957631484519025, 15459167334733117100, 87758573240896788, 4907018245667702475, 579560492342551185, 1006755977026394382, 5304323144621126173, 6489373177897975058, 6339236642932280530]
def kg21 : List B64 := [11597546057742254830, 12005282741731989367, 195670314949206852, 6657866423513679341, 12256623533632225988, 16854991480178193290, 17982640710881986741, 14575357283352355434, 8795935212429922005, 16604140825544672254, 7545804711227691862, 16110388991371485924, 5225150021780061988, 11026287904518793994, 5800002214672294434, 14355833416585153643, 8315235467183314836, 13674218171206826069, 9821310629384017487, 14580916750094659268, 4520376952911183229, 3584425990944671759, 13135653121694848148, 2104640822699963469, 7289638768227246036]
def kg22 : List B64 := [6286240025342736281, 13745111842840629545, 7392041947598255469, 14890298487628900405, 9420990692771067897, 1479255071804271313, 5146600945701750318, 18141473291710640994, 17591338002926922935, 7442291661101979235, 5152579487721739168, 153165356671926743, 1692654426060755285, 4946229325953040208, 9574254826078407096, 3113411579334602112, 13778208479528151927, 13535202115647067203, 3133359169298806084, 286673899484045105, 15365947002241303175, 1152814135981554710, 6020169162900646241, 2274385874519417967, 18111774317694436075]
def kg23 : List B64 := [12985457897057534354, 266370476577644034, 16607233548730408584, 17765841099381523301, 12635634046860480280, 518019492209386289, 7793729894236376637, 4913239630937532274, 6762527185600229709, 2405973505345037220, 12815094650699368655, 4908010728896454485, 18390943308343599329, 5837469124899805113, 6612102576462588155, 3224490175415626262, 8093782937661960536, 15269540748214020566, 15504321565339717650, 13118621657035987053, 14884958655455242563, 11489967232403887828, 3609923983723131244, 2893145274369606729, 15406614195748271792]
def kg24 : List B64 := [12562634669738469056, 5928249483024958272, 13257574057394117129, 16094520544017629880, 14979511871581324652, 5658247198910444907, 12095304490324344827, 13371193797678042564, 3702659389917089387, 9131219029868206035, 1449777034409982508, 2025719396696261666, 6973059317260079475, 9387780226299198499, 14282461711030732716, 7462661846291167221, 13385766764523110248, 833643460064714359, 10464762274677988957, 15389302551230459728, 9816374635301549375, 17024903306643033914, 6080338986015629281, 14176032724109458222, 9088842648982976696]
theorem kg0_next : rm kg0 1 = kg1 := by decide +kernel
theorem kg1_next : rm kg1 32898 = kg2 := by decide +kernel
theorem kg2_next : rm kg2 9223372036854808714 = kg3 := by decide +kernel
theorem kg3_next : rm kg3 9223372039002292224 = kg4 := by decide +kernel
theorem kg4_next : rm kg4 32907 = kg5 := by decide +kernel
theorem kg5_next : rm kg5 2147483649 = kg6 := by decide +kernel
theorem kg6_next : rm kg6 9223372039002292353 = kg7 := by decide +kernel
theorem kg7_next : rm kg7 9223372036854808585 = kg8 := by decide +kernel
theorem kg8_next : rm kg8 138 = kg9 := by decide +kernel
theorem kg9_next : rm kg9 136 = kg10 := by decide +kernel
theorem kg10_next : rm kg10 2147516425 = kg11 := by decide +kernel
theorem kg11_next : rm kg11 2147483658 = kg12 := by decide +kernel
theorem kg12_next : rm kg12 2147516555 = kg13 := by decide +kernel
theorem kg13_next : rm kg13 9223372036854775947 = kg14 := by decide +kernel
theorem kg14_next : rm kg14 9223372036854808713 = kg15 := by decide +kernel
theorem kg15_next : rm kg15 9223372036854808579 = kg16 := by decide +kernel
theorem kg16_next : rm kg16 9223372036854808578 = kg17 := by decide +kernel
theorem kg17_next : rm kg17 9223372036854775936 = kg18 := by decide +kernel
theorem kg18_next : rm kg18 32778 = kg19 := by decide +kernel
theorem kg19_next : rm kg19 9223372039002259466 = kg20 := by decide +kernel
theorem kg20_next : rm kg20 9223372039002292353 = kg21 := by decide +kernel
theorem kg21_next : rm kg21 9223372036854808704 = kg22 := by decide +kernel
theorem kg22_next : rm kg22 2147483649 = kg23 := by decide +kernel
theorem kg23_next : rm kg23 9223372039002292232 = kg24 := by decide +kernel
theorem mix_kg : mix kg0 = kg24 := by
  show rm (rm (rm (rm (rm (rm (rm (rm (rm (rm (rm (rm (rm (rm (rm (rm (rm (rm (rm (rm (rm (rm (rm (rm kg0 1) 32898) 9223372036854808714) 9223372039002292224) 32907) 2147483649) 9223372039002292353) 9223372036854808585) 138) 136) 2147516425) 2147483658) 2147516555) 9223372036854775947) 9223372036854808713) 9223372036854808579) 9223372036854808578) 9223372036854775936) 32778) 9223372039002259466) 9223372039002292353) 9223372036854808704) 2147483649) 9223372039002292232 = kg24
  rw [kg0_next, kg1_next, kg2_next, kg3_next, kg4_next, kg5_next, kg6_next, kg7_next, kg8_next, kg9_next, kg10_next, kg11_next, kg12_next, kg13_next, kg14_next, kg15_next, kg16_next, kg17_next, kg18_next, kg19_next, kg20_next, kg21_next, kg22_next, kg23_next]
theorem end_kg : endB (takeB (zeroS, 0) (tl (bs Ec.gX) ++ tl (bs Ec.gY))) = kg0 := by decide +kernel
theorem sumG : ((sumB (tl (bs Ec.gX) ++ tl (bs Ec.gY))).drop 12).take 4 = [126, 95, 69, 82] := by
  show ((firstB (mix (endB (takeB (zeroS, 0) (tl (bs Ec.gX) ++ tl (bs Ec.gY)))))).drop 12).take 4 = _
  rw [end_kg, mix_kg]; decide +kernel
end Go.Proofs.YtmmloghbnpfedaaDoor

namespace Go.Proofs.YtmmloghbnpfedaaDoor
open Go Go.RowKit
set_option linter.unusedVariables false
open Go.Proofs.Kec Ke
theorem bytes_fn (A : Nat) (hA : A < big) : Fn Tryd.prog 29 #[uv A] (.string (bs A)) := bytes_any A hA
def adrB (X Y : Nat) : ByteArray := ByteArray.extract (strB (sumB (tl (bs X) ++ tl (bs Y)))) (ByteArray.size (strB (sumB (tl (bs X) ++ tl (bs Y)))) - 20) (ByteArray.size (strB (sumB (tl (bs X) ++ tl (bs Y)))))
theorem ksum_size (l : List UInt8) : ByteArray.size (strB (sumB l)) = 32 := sumB_len l
theorem inN_1 : inN 1 = true := by decide +kernel
theorem mulP1 : Ec.mulP Ec.G 1 = Ec.G := by
  have h := Ec.mulP_add Ec.good Ec.G_on 0 1
  first | rfl | (show Ec.Pt.add (Ec.mulP Ec.G 0) Ec.G = Ec.G; rw [Ec.mulP_zero0]; rfl)
set_option maxRecDepth 100000 in
set_option maxHeartbeats 2000000 in
theorem of_yes (X Y : Nat) (hX : X < big) (hY : Y < big) (h : Ec.onB (Ec.Pd.mk X Y false) = true) : FnP Tryd.prog 7 #[pv (Ec.Pd.mk X Y false)] (Marks) (.tuple #[.string (adrB X Y), .int .i64 0]) := by
  refine FnP.intro (c := codeOf Tryd.f7) [.tmp 2, .tmp 3] 25 Tryd.func7 kr kr kr fun w hpre => ?_
  have H0 := St.start w
  refine rS [.b, .v, .v] H0 kr fun gs1 w1 H1 => ?_
  clear H0
  refine g_seq kr ?_
  refine rS [.v, .l 0, .v, .l 0, .c (on_yes (Ec.Pd.mk X Y false) (Ec.Pd.Ok.mk (p := Ec.Pd.mk X Y false) hX hY) h), .v, .v] H1 kr fun gs2 w2 H2 => ?_
  clear H1
  refine g_cond_f kr kr ?_
  refine g_skip kr ?_
  show WP _ _ _ _ _ _
  refine dSg (fun gs3 => [.v, .l 0, .c (f := 29) (args := #[uv X]) (v := .string (bs X)) (bytes_fn X hX), .v, .l 0, .c (f := 29) (args := #[uv Y]) (v := .string (bs Y)) (bytes_fn Y hY), .nw (fun b => .slice (some ⟨b, 0, none⟩) 2 2) #[.string (bs X), .string (bs Y)] 9, .cp (pre := fun w => Marks w ∧ w.heap[(gs3 6).b]? = some (.cells #[.string (bs X), .string (bs Y)] 9 (0, 0))) (of_fn2 ((gs3 6).b) (bs X) (bs Y) (by rw [bs_size]; omega) (by rw [bs_size]; omega)) [(1, ((gs3 6).b, Obj.cells #[.string (bs X), .string (bs Y)] 9 (0, 0)))] (fun w hb hd => ⟨(Marks.oldB hb rfl hpre), hd.1⟩), .v]) H2 kr fun gs3 w3 H3 => ?_
  clear H2
  refine g_keep [0, 1, 2, 3, 4, 11] fun ρ1 => ?_
  have HK1 := H3.keep
  clear H3
  have hz := ksum_size (tl (bs X) ++ tl (bs Y))
  refine rS [.v, .v, .v, .e (v := .int .i64 (IntKind.i64.wrap (((ByteArray.size (strB (sumB (tl (bs X) ++ tl (bs Y)))) : Nat) : Int) - 20))) (v' := .int .i64 (((ByteArray.size (strB (sumB (tl (bs X) ++ tl (bs Y))))) - 20 : Nat) : Int)) (int_eq (wrapSub_i64 (a := ByteArray.size (strB (sumB (tl (bs X) ++ tl (bs Y))))) (b := 20) (by omega))), .o (ins := [((.tmp 20), .string (strB (sumB (tl (bs X) ++ tl (bs Y))))), ((.tmp 23), .int .i64 (((ByteArray.size (strB (sumB (tl (bs X) ++ tl (bs Y))))) - 20 : Nat) : Int))]) (v := .string (ByteArray.extract (strB (sumB (tl (bs X) ++ tl (bs Y)))) ((ByteArray.size (strB (sumB (tl (bs X) ++ tl (bs Y))))) - 20) (ByteArray.size (strB (sumB (tl (bs X) ++ tl (bs Y))))))) (fun ρ o w ho hi => scut3_run (t := 9) (kz := .i64) kr (x := (.tmp 20)) (z := (.tmp 23)) (strB (sumB (tl (bs X) ++ tl (bs Y)))) ((ByteArray.size (strB (sumB (tl (bs X) ++ tl (bs Y))))) - 20) ho hi.1 hi.2.1 (by omega) w), .v, .v] HK1 kr fun gs4 w4 H4 => ?_
  clear HK1
  refine g_ret kr ?_
  show ∃ vs, Res _ _ _ _ vs ∧ _
  refine ⟨[.string (ByteArray.extract (strB (sumB (tl (bs X) ++ tl (bs Y)))) ((ByteArray.size (strB (sumB (tl (bs X) ++ tl (bs Y))))) - 20) (ByteArray.size (strB (sumB (tl (bs X) ++ tl (bs Y)))))), .int .i64 0], (.tmp (.string (ByteArray.extract (strB (sumB (tl (bs X) ++ tl (bs Y)))) ((ByteArray.size (strB (sumB (tl (bs X) ++ tl (bs Y))))) - 20) (ByteArray.size (strB (sumB (tl (bs X) ++ tl (bs Y))))))) kr (.tmp (.int .i64 0) kr .nil)), ?_, H4.below⟩
  rfl
set_option maxRecDepth 100000 in
set_option maxHeartbeats 2000000 in
theorem address1_fn  : FnP Tryd.prog 6 #[uv 1] (Marks) (.tuple #[.string (adrB Ec.gX Ec.gY), .int .i64 0]) := by
  refine FnP.intro (c := codeOf Tryd.f6) [.tmp 2, .tmp 3] 19 Tryd.func6 kr kr kr fun w hpre => ?_
  have H0 := St.start w
  refine rS [.b, .v, .v] H0 kr fun gs1 w1 H1 => ?_
  clear H0
  refine g_seq kr ?_
  refine g_sreg [0, 1, 2] kr kr ?_
  refine rp [.l 0, .c (within_fn 1 (by unfold big; omega))] H1 kr fun gs2 w2 H2 => ?_
  show WPs _ _ _ _ [2] _ _
  clear H1
  refine s_now 7 (v := .bool (inN 1)) (v' := .bool true) (bool_eq inN_1) kr ?_
  refine rp [.v] H2 kr fun gs3 w3 H3 => ?_
  show WPs _ _ _ _ [] _ _
  clear H2
  refine s_nil ?_
  refine g_cond_f kr kr ?_
  refine g_skip kr ?_
  show WP _ _ _ _ _ _
  refine dSg (fun gs4 => [.c base_fn, .l 0, .c (f := 12) (args := #[pv (Ec.ofPt Ec.G), uv 1]) (v := .tuple #[pv (Ec.ofPt Ec.G), .int .i64 0]) (by have h9 := times_pt_fn Ec.G Ec.G_on 1 (by unfold big; omega); rw [mulP1] at h9; exact h9), .v, .v, .v, .a, .s 1, .v]) H3 kr fun gs4 w4 H4 => ?_
  clear H3
  refine rS [.l 1, .cp (pre := Marks) (of_yes Ec.gX Ec.gY (by decide +kernel) (by decide +kernel) (Ec.onB_pt Ec.G_on)) [] (fun w hb hd => (Marks.oldB hb rfl hpre)), .v, .v, .v, .v] H4 kr fun gs5 w5 H5 => ?_
  clear H4
  refine g_ret kr ?_
  show ∃ vs, Res _ _ _ _ vs ∧ _
  refine ⟨[.string (adrB Ec.gX Ec.gY), .int .i64 0], (.tmp (.string (adrB Ec.gX Ec.gY)) kr (.tmp (.int .i64 0) kr .nil)), ?_, H5.below⟩
  rfl
theorem adr_tl (X Y : Nat) : tl (adrB X Y) = (sumB (tl (bs X) ++ tl (bs Y))).drop 12 := by
  unfold adrB
  rw [tl_extract, ksum_size, tl_strB, List.take_of_length_le (Nat.le_of_eq (sumB_len _))]
theorem adr_size (X Y : Nat) : ByteArray.size (adrB X Y) = 20 := by rw [← tl_len, adr_tl, List.length_drop, sumB_len]
theorem aliveG : (ByteArray.toList (ByteArray.extract (adrB Ec.gX Ec.gY) 0 4) == ByteArray.toList ⟨#[126, 95, 69, 82]⟩) = true := by
  have h : ByteArray.extract (adrB Ec.gX Ec.gY) 0 4 = ⟨#[126, 95, 69, 82]⟩ := by
    rw [← strB_tl (ByteArray.extract _ _ _), tl_extract, List.drop_zero, adr_tl, sumG]; rfl
  rw [h]; exact str_self _
set_option maxRecDepth 100000 in
set_option maxHeartbeats 2000000 in
theorem alive7_fn  : FnP Tryd.prog 11 #[] (Marks) (.bool true) := by
  refine FnP.intro (c := codeOf Tryd.f11) [.tmp 0] 20 Tryd.func11 kr kr kr fun w hpre => ?_
  have H0 := St.start w
  refine rS [.v] H0 kr fun gs1 w1 H1 => ?_
  clear H0
  refine rS [.v, .cp (pre := Marks) address1_fn [] (fun w hb hd => (Marks.oldB hb rfl hpre)), .v, .v, .v, .v, .v] H1 kr fun gs2 w2 H2 => ?_
  clear H1
  have hz := (adr_size Ec.gX Ec.gY)
  refine rS [.v, .v, .v, .v, .v, .e (v := .bool (((ByteArray.size (adrB Ec.gX Ec.gY) : Nat) : Int) == 20)) (v' := .bool true) (bool_eq (beq_iff_eq.2 (by rw [adr_size]; rfl))), .v, .v, .v, .o (ins := [((.tmp 16), .string (adrB Ec.gX Ec.gY)), ((.const (.int .i64 4)), .int .i64 4)]) (v := .string (ByteArray.extract (adrB Ec.gX Ec.gY) 0 4)) (fun ρ o w ho hi => scut_run (t := 9) (kd := .i64) kr (x := (.tmp 16)) (y := (.const (.int .i64 4))) (adrB Ec.gX Ec.gY) 4 ho hi.1 hi.2.1 (by omega) w), .e (v := .bool (ByteArray.toList (ByteArray.extract (adrB Ec.gX Ec.gY) 0 4) == ByteArray.toList (⟨#[126, 95, 69, 82]⟩))) (v' := .bool true) (bool_eq aliveG), .v, .v] H2 kr fun gs3 w3 H3 => ?_
  clear H2
  refine g_ret kr ?_
  show ∃ vs, Res _ _ _ _ vs ∧ _
  refine ⟨[.bool true], (.tmp (.bool true) kr .nil), ?_, H3.below⟩
  rfl
end Go.Proofs.YtmmloghbnpfedaaDoor

namespace Go.Proofs.YtmmloghbnpfedaaDoor
open Go.RowKit
/-- The number that bytes make, the highest first. -/
def sv (l : List UInt8) : Nat := l.foldl (fun n b => 256 * n + b.toNat) 0
theorem sv_snoc (l : List UInt8) (b : UInt8) : sv (l ++ [b]) = 256 * sv l + b.toNat := by
  unfold sv; rw [List.foldl_append]; rfl
theorem foldl_lt : ∀ (l : List UInt8) (n : Nat), l.foldl (fun n b => 256 * n + b.toNat) n < (n + 1) * 256 ^ l.length
  | [], n => by simp
  | b :: l, n => by
    rw [List.foldl_cons, List.length_cons, Nat.pow_succ]
    have h := foldl_lt l (256 * n + b.toNat)
    have hb : b.toNat < 256 := b.toNat_lt
    have h2 : (256 * n + b.toNat + 1) * 256 ^ l.length ≤ ((n + 1) * 256) * 256 ^ l.length := Nat.mul_le_mul_right _ (by omega)
    have e : (n + 1) * (256 ^ l.length * 256) = (n + 1) * 256 * 256 ^ l.length := by rw [Nat.mul_assoc (n + 1) 256, Nat.mul_comm 256]
    omega
theorem sv_lt (l : List UInt8) : sv l < 256 ^ l.length := by
  have := foldl_lt l 0
  rw [Nat.one_mul] at this
  exact this
/-- Word q of a number. -/
def wi (n q : Nat) : Nat := n / 18446744073709551616 ^ q % 18446744073709551616
theorem or_low (x y k K : Nat) (hK : 2 ^ k = K) (hx : x % K = 0) (hy : y < K) : x ||| y = x + y := by
  subst hK
  have e : x = 2 ^ k * (x / 2 ^ k) := by have := Nat.div_add_mod x (2 ^ k); omega
  rw [e]
  exact (Nat.two_pow_add_eq_or_of_lt hy (x / 2 ^ k)).symm
theorem lt_byte {b c K : Nat} (hb : b < 256) (hc : 0 < c) (hK : 256 * c = K) : b * c < K := by
  subst hK
  exact (Nat.mul_lt_mul_right hc).2 hb
/-- What is or-ed into word m / 8, when byte m comes to a number whose bytes up to it are 0. -/
theorem or_byte (P b m : Nat) (hb : b < 256) (hm : m < 32) (hP : (256 * P + b) * 256 ^ m < big) :
    wi (P * 256 ^ (m + 1)) (m / 8) ||| (b * 2 ^ (8 * (m % 8))) = wi ((256 * P + b) * 256 ^ m) (m / 8) ∧
    (∀ j, j < 4 → j ≠ m / 8 → wi ((256 * P + b) * 256 ^ m) j = wi (P * 256 ^ (m + 1)) j) := by
  have hm' : m = 0 ∨ m = 1 ∨ m = 2 ∨ m = 3 ∨ m = 4 ∨ m = 5 ∨ m = 6 ∨ m = 7 ∨ m = 8 ∨ m = 9 ∨ m = 10 ∨ m = 11 ∨ m = 12 ∨ m = 13 ∨ m = 14 ∨ m = 15 ∨ m = 16 ∨ m = 17 ∨ m = 18 ∨ m = 19 ∨ m = 20 ∨ m = 21 ∨ m = 22 ∨ m = 23 ∨ m = 24 ∨ m = 25 ∨ m = 26 ∨ m = 27 ∨ m = 28 ∨ m = 29 ∨ m = 30 ∨ m = 31 := by omega
  unfold big at hP
  rcases hm' with rfl | rfl | rfl | rfl | rfl | rfl | rfl | rfl | rfl | rfl | rfl | rfl | rfl | rfl | rfl | rfl | rfl | rfl | rfl | rfl | rfl | rfl | rfl | rfl | rfl | rfl | rfl | rfl | rfl | rfl | rfl | rfl
  · have hP' : (256 * P + b) * 1 < 115792089237316195423570985008687907853269984665640564039457584007913129639936 := hP
    have e1 : P * 256 ^ (0 + 1) = P * 256 := rfl
    have e2 : (256 * P + b) * 256 ^ 0 = (256 * P + b) * 1 := rfl
    rw [e1, e2]
    constructor
    · show (P * 256 / 1 % 18446744073709551616) ||| (b * 1) = ((256 * P + b) * 1 / 1 % 18446744073709551616)
      rw [or_low (P * 256 / 1 % 18446744073709551616) (b * 1) 8 256 rfl (by omega) (lt_byte hb (by decide) rfl)]
      omega
    · intro j hj hne
      have hne' : j ≠ 0 := hne
      have hj' : j = 0 ∨ j = 1 ∨ j = 2 ∨ j = 3 := by omega
      rcases hj' with rfl | rfl | rfl | rfl
      · exact absurd rfl hne'
      · show (256 * P + b) * 1 / 18446744073709551616 % 18446744073709551616 = P * 256 / 18446744073709551616 % 18446744073709551616; omega
      · show (256 * P + b) * 1 / 340282366920938463463374607431768211456 % 18446744073709551616 = P * 256 / 340282366920938463463374607431768211456 % 18446744073709551616; omega
      · show (256 * P + b) * 1 / 6277101735386680763835789423207666416102355444464034512896 % 18446744073709551616 = P * 256 / 6277101735386680763835789423207666416102355444464034512896 % 18446744073709551616; omega
  · have hP' : (256 * P + b) * 256 < 115792089237316195423570985008687907853269984665640564039457584007913129639936 := hP
    have e1 : P * 256 ^ (1 + 1) = P * 65536 := rfl
    have e2 : (256 * P + b) * 256 ^ 1 = (256 * P + b) * 256 := rfl
    rw [e1, e2]
    constructor
    · show (P * 65536 / 1 % 18446744073709551616) ||| (b * 256) = ((256 * P + b) * 256 / 1 % 18446744073709551616)
      rw [or_low (P * 65536 / 1 % 18446744073709551616) (b * 256) 16 65536 rfl (by omega) (lt_byte hb (by decide) rfl)]
      omega
    · intro j hj hne
      have hne' : j ≠ 0 := hne
      have hj' : j = 0 ∨ j = 1 ∨ j = 2 ∨ j = 3 := by omega
      rcases hj' with rfl | rfl | rfl | rfl
      · exact absurd rfl hne'
      · show (256 * P + b) * 256 / 18446744073709551616 % 18446744073709551616 = P * 65536 / 18446744073709551616 % 18446744073709551616; omega
      · show (256 * P + b) * 256 / 340282366920938463463374607431768211456 % 18446744073709551616 = P * 65536 / 340282366920938463463374607431768211456 % 18446744073709551616; omega
      · show (256 * P + b) * 256 / 6277101735386680763835789423207666416102355444464034512896 % 18446744073709551616 = P * 65536 / 6277101735386680763835789423207666416102355444464034512896 % 18446744073709551616; omega
  · have hP' : (256 * P + b) * 65536 < 115792089237316195423570985008687907853269984665640564039457584007913129639936 := hP
    have e1 : P * 256 ^ (2 + 1) = P * 16777216 := rfl
    have e2 : (256 * P + b) * 256 ^ 2 = (256 * P + b) * 65536 := rfl
    rw [e1, e2]
    constructor
    · show (P * 16777216 / 1 % 18446744073709551616) ||| (b * 65536) = ((256 * P + b) * 65536 / 1 % 18446744073709551616)
      rw [or_low (P * 16777216 / 1 % 18446744073709551616) (b * 65536) 24 16777216 rfl (by omega) (lt_byte hb (by decide) rfl)]
      omega
    · intro j hj hne
      have hne' : j ≠ 0 := hne
      have hj' : j = 0 ∨ j = 1 ∨ j = 2 ∨ j = 3 := by omega
      rcases hj' with rfl | rfl | rfl | rfl
      · exact absurd rfl hne'
      · show (256 * P + b) * 65536 / 18446744073709551616 % 18446744073709551616 = P * 16777216 / 18446744073709551616 % 18446744073709551616; omega
      · show (256 * P + b) * 65536 / 340282366920938463463374607431768211456 % 18446744073709551616 = P * 16777216 / 340282366920938463463374607431768211456 % 18446744073709551616; omega
      · show (256 * P + b) * 65536 / 6277101735386680763835789423207666416102355444464034512896 % 18446744073709551616 = P * 16777216 / 6277101735386680763835789423207666416102355444464034512896 % 18446744073709551616; omega
  · have hP' : (256 * P + b) * 16777216 < 115792089237316195423570985008687907853269984665640564039457584007913129639936 := hP
    have e1 : P * 256 ^ (3 + 1) = P * 4294967296 := rfl
    have e2 : (256 * P + b) * 256 ^ 3 = (256 * P + b) * 16777216 := rfl
    rw [e1, e2]
    constructor
    · show (P * 4294967296 / 1 % 18446744073709551616) ||| (b * 16777216) = ((256 * P + b) * 16777216 / 1 % 18446744073709551616)
      rw [or_low (P * 4294967296 / 1 % 18446744073709551616) (b * 16777216) 32 4294967296 rfl (by omega) (lt_byte hb (by decide) rfl)]
      omega
    · intro j hj hne
      have hne' : j ≠ 0 := hne
      have hj' : j = 0 ∨ j = 1 ∨ j = 2 ∨ j = 3 := by omega
      rcases hj' with rfl | rfl | rfl | rfl
      · exact absurd rfl hne'
      · show (256 * P + b) * 16777216 / 18446744073709551616 % 18446744073709551616 = P * 4294967296 / 18446744073709551616 % 18446744073709551616; omega
      · show (256 * P + b) * 16777216 / 340282366920938463463374607431768211456 % 18446744073709551616 = P * 4294967296 / 340282366920938463463374607431768211456 % 18446744073709551616; omega
      · show (256 * P + b) * 16777216 / 6277101735386680763835789423207666416102355444464034512896 % 18446744073709551616 = P * 4294967296 / 6277101735386680763835789423207666416102355444464034512896 % 18446744073709551616; omega
  · have hP' : (256 * P + b) * 4294967296 < 115792089237316195423570985008687907853269984665640564039457584007913129639936 := hP
    have e1 : P * 256 ^ (4 + 1) = P * 1099511627776 := rfl
    have e2 : (256 * P + b) * 256 ^ 4 = (256 * P + b) * 4294967296 := rfl
    rw [e1, e2]
    constructor
    · show (P * 1099511627776 / 1 % 18446744073709551616) ||| (b * 4294967296) = ((256 * P + b) * 4294967296 / 1 % 18446744073709551616)
      rw [or_low (P * 1099511627776 / 1 % 18446744073709551616) (b * 4294967296) 40 1099511627776 rfl (by omega) (lt_byte hb (by decide) rfl)]
      omega
    · intro j hj hne
      have hne' : j ≠ 0 := hne
      have hj' : j = 0 ∨ j = 1 ∨ j = 2 ∨ j = 3 := by omega
      rcases hj' with rfl | rfl | rfl | rfl
      · exact absurd rfl hne'
      · show (256 * P + b) * 4294967296 / 18446744073709551616 % 18446744073709551616 = P * 1099511627776 / 18446744073709551616 % 18446744073709551616; omega
      · show (256 * P + b) * 4294967296 / 340282366920938463463374607431768211456 % 18446744073709551616 = P * 1099511627776 / 340282366920938463463374607431768211456 % 18446744073709551616; omega
      · show (256 * P + b) * 4294967296 / 6277101735386680763835789423207666416102355444464034512896 % 18446744073709551616 = P * 1099511627776 / 6277101735386680763835789423207666416102355444464034512896 % 18446744073709551616; omega
  · have hP' : (256 * P + b) * 1099511627776 < 115792089237316195423570985008687907853269984665640564039457584007913129639936 := hP
    have e1 : P * 256 ^ (5 + 1) = P * 281474976710656 := rfl
    have e2 : (256 * P + b) * 256 ^ 5 = (256 * P + b) * 1099511627776 := rfl
    rw [e1, e2]
    constructor
    · show (P * 281474976710656 / 1 % 18446744073709551616) ||| (b * 1099511627776) = ((256 * P + b) * 1099511627776 / 1 % 18446744073709551616)
      rw [or_low (P * 281474976710656 / 1 % 18446744073709551616) (b * 1099511627776) 48 281474976710656 rfl (by omega) (lt_byte hb (by decide) rfl)]
      omega
    · intro j hj hne
      have hne' : j ≠ 0 := hne
      have hj' : j = 0 ∨ j = 1 ∨ j = 2 ∨ j = 3 := by omega
      rcases hj' with rfl | rfl | rfl | rfl
      · exact absurd rfl hne'
      · show (256 * P + b) * 1099511627776 / 18446744073709551616 % 18446744073709551616 = P * 281474976710656 / 18446744073709551616 % 18446744073709551616; omega
      · show (256 * P + b) * 1099511627776 / 340282366920938463463374607431768211456 % 18446744073709551616 = P * 281474976710656 / 340282366920938463463374607431768211456 % 18446744073709551616; omega
      · show (256 * P + b) * 1099511627776 / 6277101735386680763835789423207666416102355444464034512896 % 18446744073709551616 = P * 281474976710656 / 6277101735386680763835789423207666416102355444464034512896 % 18446744073709551616; omega
  · have hP' : (256 * P + b) * 281474976710656 < 115792089237316195423570985008687907853269984665640564039457584007913129639936 := hP
    have e1 : P * 256 ^ (6 + 1) = P * 72057594037927936 := rfl
    have e2 : (256 * P + b) * 256 ^ 6 = (256 * P + b) * 281474976710656 := rfl
    rw [e1, e2]
    constructor
    · show (P * 72057594037927936 / 1 % 18446744073709551616) ||| (b * 281474976710656) = ((256 * P + b) * 281474976710656 / 1 % 18446744073709551616)
      rw [or_low (P * 72057594037927936 / 1 % 18446744073709551616) (b * 281474976710656) 56 72057594037927936 rfl (by omega) (lt_byte hb (by decide) rfl)]
      omega
    · intro j hj hne
      have hne' : j ≠ 0 := hne
      have hj' : j = 0 ∨ j = 1 ∨ j = 2 ∨ j = 3 := by omega
      rcases hj' with rfl | rfl | rfl | rfl
      · exact absurd rfl hne'
      · show (256 * P + b) * 281474976710656 / 18446744073709551616 % 18446744073709551616 = P * 72057594037927936 / 18446744073709551616 % 18446744073709551616; omega
      · show (256 * P + b) * 281474976710656 / 340282366920938463463374607431768211456 % 18446744073709551616 = P * 72057594037927936 / 340282366920938463463374607431768211456 % 18446744073709551616; omega
      · show (256 * P + b) * 281474976710656 / 6277101735386680763835789423207666416102355444464034512896 % 18446744073709551616 = P * 72057594037927936 / 6277101735386680763835789423207666416102355444464034512896 % 18446744073709551616; omega
  · have hP' : (256 * P + b) * 72057594037927936 < 115792089237316195423570985008687907853269984665640564039457584007913129639936 := hP
    have e1 : P * 256 ^ (7 + 1) = P * 18446744073709551616 := rfl
    have e2 : (256 * P + b) * 256 ^ 7 = (256 * P + b) * 72057594037927936 := rfl
    rw [e1, e2]
    constructor
    · show (P * 18446744073709551616 / 1 % 18446744073709551616) ||| (b * 72057594037927936) = ((256 * P + b) * 72057594037927936 / 1 % 18446744073709551616)
      rw [or_low (P * 18446744073709551616 / 1 % 18446744073709551616) (b * 72057594037927936) 64 18446744073709551616 rfl (by omega) (lt_byte hb (by decide) rfl)]
      omega
    · intro j hj hne
      have hne' : j ≠ 0 := hne
      have hj' : j = 0 ∨ j = 1 ∨ j = 2 ∨ j = 3 := by omega
      rcases hj' with rfl | rfl | rfl | rfl
      · exact absurd rfl hne'
      · show (256 * P + b) * 72057594037927936 / 18446744073709551616 % 18446744073709551616 = P * 18446744073709551616 / 18446744073709551616 % 18446744073709551616; omega
      · show (256 * P + b) * 72057594037927936 / 340282366920938463463374607431768211456 % 18446744073709551616 = P * 18446744073709551616 / 340282366920938463463374607431768211456 % 18446744073709551616; omega
      · show (256 * P + b) * 72057594037927936 / 6277101735386680763835789423207666416102355444464034512896 % 18446744073709551616 = P * 18446744073709551616 / 6277101735386680763835789423207666416102355444464034512896 % 18446744073709551616; omega
  · have hP' : (256 * P + b) * 18446744073709551616 < 115792089237316195423570985008687907853269984665640564039457584007913129639936 := hP
    have e1 : P * 256 ^ (8 + 1) = P * 4722366482869645213696 := rfl
    have e2 : (256 * P + b) * 256 ^ 8 = (256 * P + b) * 18446744073709551616 := rfl
    rw [e1, e2]
    constructor
    · show (P * 4722366482869645213696 / 18446744073709551616 % 18446744073709551616) ||| (b * 1) = ((256 * P + b) * 18446744073709551616 / 18446744073709551616 % 18446744073709551616)
      rw [or_low (P * 4722366482869645213696 / 18446744073709551616 % 18446744073709551616) (b * 1) 8 256 rfl (by omega) (lt_byte hb (by decide) rfl)]
      omega
    · intro j hj hne
      have hne' : j ≠ 1 := hne
      have hj' : j = 0 ∨ j = 1 ∨ j = 2 ∨ j = 3 := by omega
      rcases hj' with rfl | rfl | rfl | rfl
      · show (256 * P + b) * 18446744073709551616 / 1 % 18446744073709551616 = P * 4722366482869645213696 / 1 % 18446744073709551616; omega
      · exact absurd rfl hne'
      · show (256 * P + b) * 18446744073709551616 / 340282366920938463463374607431768211456 % 18446744073709551616 = P * 4722366482869645213696 / 340282366920938463463374607431768211456 % 18446744073709551616; omega
      · show (256 * P + b) * 18446744073709551616 / 6277101735386680763835789423207666416102355444464034512896 % 18446744073709551616 = P * 4722366482869645213696 / 6277101735386680763835789423207666416102355444464034512896 % 18446744073709551616; omega
  · have hP' : (256 * P + b) * 4722366482869645213696 < 115792089237316195423570985008687907853269984665640564039457584007913129639936 := hP
    have e1 : P * 256 ^ (9 + 1) = P * 1208925819614629174706176 := rfl
    have e2 : (256 * P + b) * 256 ^ 9 = (256 * P + b) * 4722366482869645213696 := rfl
    rw [e1, e2]
    constructor
    · show (P * 1208925819614629174706176 / 18446744073709551616 % 18446744073709551616) ||| (b * 256) = ((256 * P + b) * 4722366482869645213696 / 18446744073709551616 % 18446744073709551616)
      rw [or_low (P * 1208925819614629174706176 / 18446744073709551616 % 18446744073709551616) (b * 256) 16 65536 rfl (by omega) (lt_byte hb (by decide) rfl)]
      omega
    · intro j hj hne
      have hne' : j ≠ 1 := hne
      have hj' : j = 0 ∨ j = 1 ∨ j = 2 ∨ j = 3 := by omega
      rcases hj' with rfl | rfl | rfl | rfl
      · show (256 * P + b) * 4722366482869645213696 / 1 % 18446744073709551616 = P * 1208925819614629174706176 / 1 % 18446744073709551616; omega
      · exact absurd rfl hne'
      · show (256 * P + b) * 4722366482869645213696 / 340282366920938463463374607431768211456 % 18446744073709551616 = P * 1208925819614629174706176 / 340282366920938463463374607431768211456 % 18446744073709551616; omega
      · show (256 * P + b) * 4722366482869645213696 / 6277101735386680763835789423207666416102355444464034512896 % 18446744073709551616 = P * 1208925819614629174706176 / 6277101735386680763835789423207666416102355444464034512896 % 18446744073709551616; omega
  · have hP' : (256 * P + b) * 1208925819614629174706176 < 115792089237316195423570985008687907853269984665640564039457584007913129639936 := hP
    have e1 : P * 256 ^ (10 + 1) = P * 309485009821345068724781056 := rfl
    have e2 : (256 * P + b) * 256 ^ 10 = (256 * P + b) * 1208925819614629174706176 := rfl
    rw [e1, e2]
    constructor
    · show (P * 309485009821345068724781056 / 18446744073709551616 % 18446744073709551616) ||| (b * 65536) = ((256 * P + b) * 1208925819614629174706176 / 18446744073709551616 % 18446744073709551616)
      rw [or_low (P * 309485009821345068724781056 / 18446744073709551616 % 18446744073709551616) (b * 65536) 24 16777216 rfl (by omega) (lt_byte hb (by decide) rfl)]
      omega
    · intro j hj hne
      have hne' : j ≠ 1 := hne
      have hj' : j = 0 ∨ j = 1 ∨ j = 2 ∨ j = 3 := by omega
      rcases hj' with rfl | rfl | rfl | rfl
      · show (256 * P + b) * 1208925819614629174706176 / 1 % 18446744073709551616 = P * 309485009821345068724781056 / 1 % 18446744073709551616; omega
      · exact absurd rfl hne'
      · show (256 * P + b) * 1208925819614629174706176 / 340282366920938463463374607431768211456 % 18446744073709551616 = P * 309485009821345068724781056 / 340282366920938463463374607431768211456 % 18446744073709551616; omega
      · show (256 * P + b) * 1208925819614629174706176 / 6277101735386680763835789423207666416102355444464034512896 % 18446744073709551616 = P * 309485009821345068724781056 / 6277101735386680763835789423207666416102355444464034512896 % 18446744073709551616; omega
  · have hP' : (256 * P + b) * 309485009821345068724781056 < 115792089237316195423570985008687907853269984665640564039457584007913129639936 := hP
    have e1 : P * 256 ^ (11 + 1) = P * 79228162514264337593543950336 := rfl
    have e2 : (256 * P + b) * 256 ^ 11 = (256 * P + b) * 309485009821345068724781056 := rfl
    rw [e1, e2]
    constructor
    · show (P * 79228162514264337593543950336 / 18446744073709551616 % 18446744073709551616) ||| (b * 16777216) = ((256 * P + b) * 309485009821345068724781056 / 18446744073709551616 % 18446744073709551616)
      rw [or_low (P * 79228162514264337593543950336 / 18446744073709551616 % 18446744073709551616) (b * 16777216) 32 4294967296 rfl (by omega) (lt_byte hb (by decide) rfl)]
      omega
    · intro j hj hne
      have hne' : j ≠ 1 := hne
      have hj' : j = 0 ∨ j = 1 ∨ j = 2 ∨ j = 3 := by omega
      rcases hj' with rfl | rfl | rfl | rfl
      · show (256 * P + b) * 309485009821345068724781056 / 1 % 18446744073709551616 = P * 79228162514264337593543950336 / 1 % 18446744073709551616; omega
      · exact absurd rfl hne'
      · show (256 * P + b) * 309485009821345068724781056 / 340282366920938463463374607431768211456 % 18446744073709551616 = P * 79228162514264337593543950336 / 340282366920938463463374607431768211456 % 18446744073709551616; omega
      · show (256 * P + b) * 309485009821345068724781056 / 6277101735386680763835789423207666416102355444464034512896 % 18446744073709551616 = P * 79228162514264337593543950336 / 6277101735386680763835789423207666416102355444464034512896 % 18446744073709551616; omega
  · have hP' : (256 * P + b) * 79228162514264337593543950336 < 115792089237316195423570985008687907853269984665640564039457584007913129639936 := hP
    have e1 : P * 256 ^ (12 + 1) = P * 20282409603651670423947251286016 := rfl
    have e2 : (256 * P + b) * 256 ^ 12 = (256 * P + b) * 79228162514264337593543950336 := rfl
    rw [e1, e2]
    constructor
    · show (P * 20282409603651670423947251286016 / 18446744073709551616 % 18446744073709551616) ||| (b * 4294967296) = ((256 * P + b) * 79228162514264337593543950336 / 18446744073709551616 % 18446744073709551616)
      rw [or_low (P * 20282409603651670423947251286016 / 18446744073709551616 % 18446744073709551616) (b * 4294967296) 40 1099511627776 rfl (by omega) (lt_byte hb (by decide) rfl)]
      omega
    · intro j hj hne
      have hne' : j ≠ 1 := hne
      have hj' : j = 0 ∨ j = 1 ∨ j = 2 ∨ j = 3 := by omega
      rcases hj' with rfl | rfl | rfl | rfl
      · show (256 * P + b) * 79228162514264337593543950336 / 1 % 18446744073709551616 = P * 20282409603651670423947251286016 / 1 % 18446744073709551616; omega
      · exact absurd rfl hne'
      · show (256 * P + b) * 79228162514264337593543950336 / 340282366920938463463374607431768211456 % 18446744073709551616 = P * 20282409603651670423947251286016 / 340282366920938463463374607431768211456 % 18446744073709551616; omega
      · show (256 * P + b) * 79228162514264337593543950336 / 6277101735386680763835789423207666416102355444464034512896 % 18446744073709551616 = P * 20282409603651670423947251286016 / 6277101735386680763835789423207666416102355444464034512896 % 18446744073709551616; omega
  · have hP' : (256 * P + b) * 20282409603651670423947251286016 < 115792089237316195423570985008687907853269984665640564039457584007913129639936 := hP
    have e1 : P * 256 ^ (13 + 1) = P * 5192296858534827628530496329220096 := rfl
    have e2 : (256 * P + b) * 256 ^ 13 = (256 * P + b) * 20282409603651670423947251286016 := rfl
    rw [e1, e2]
    constructor
    · show (P * 5192296858534827628530496329220096 / 18446744073709551616 % 18446744073709551616) ||| (b * 1099511627776) = ((256 * P + b) * 20282409603651670423947251286016 / 18446744073709551616 % 18446744073709551616)
      rw [or_low (P * 5192296858534827628530496329220096 / 18446744073709551616 % 18446744073709551616) (b * 1099511627776) 48 281474976710656 rfl (by omega) (lt_byte hb (by decide) rfl)]
      omega
    · intro j hj hne
      have hne' : j ≠ 1 := hne
      have hj' : j = 0 ∨ j = 1 ∨ j = 2 ∨ j = 3 := by omega
      rcases hj' with rfl | rfl | rfl | rfl
      · show (256 * P + b) * 20282409603651670423947251286016 / 1 % 18446744073709551616 = P * 5192296858534827628530496329220096 / 1 % 18446744073709551616; omega
      · exact absurd rfl hne'
      · show (256 * P + b) * 20282409603651670423947251286016 / 340282366920938463463374607431768211456 % 18446744073709551616 = P * 5192296858534827628530496329220096 / 340282366920938463463374607431768211456 % 18446744073709551616; omega
      · show (256 * P + b) * 20282409603651670423947251286016 / 6277101735386680763835789423207666416102355444464034512896 % 18446744073709551616 = P * 5192296858534827628530496329220096 / 6277101735386680763835789423207666416102355444464034512896 % 18446744073709551616; omega
  · have hP' : (256 * P + b) * 5192296858534827628530496329220096 < 115792089237316195423570985008687907853269984665640564039457584007913129639936 := hP
    have e1 : P * 256 ^ (14 + 1) = P * 1329227995784915872903807060280344576 := rfl
    have e2 : (256 * P + b) * 256 ^ 14 = (256 * P + b) * 5192296858534827628530496329220096 := rfl
    rw [e1, e2]
    constructor
    · show (P * 1329227995784915872903807060280344576 / 18446744073709551616 % 18446744073709551616) ||| (b * 281474976710656) = ((256 * P + b) * 5192296858534827628530496329220096 / 18446744073709551616 % 18446744073709551616)
      rw [or_low (P * 1329227995784915872903807060280344576 / 18446744073709551616 % 18446744073709551616) (b * 281474976710656) 56 72057594037927936 rfl (by omega) (lt_byte hb (by decide) rfl)]
      omega
    · intro j hj hne
      have hne' : j ≠ 1 := hne
      have hj' : j = 0 ∨ j = 1 ∨ j = 2 ∨ j = 3 := by omega
      rcases hj' with rfl | rfl | rfl | rfl
      · show (256 * P + b) * 5192296858534827628530496329220096 / 1 % 18446744073709551616 = P * 1329227995784915872903807060280344576 / 1 % 18446744073709551616; omega
      · exact absurd rfl hne'
      · show (256 * P + b) * 5192296858534827628530496329220096 / 340282366920938463463374607431768211456 % 18446744073709551616 = P * 1329227995784915872903807060280344576 / 340282366920938463463374607431768211456 % 18446744073709551616; omega
      · show (256 * P + b) * 5192296858534827628530496329220096 / 6277101735386680763835789423207666416102355444464034512896 % 18446744073709551616 = P * 1329227995784915872903807060280344576 / 6277101735386680763835789423207666416102355444464034512896 % 18446744073709551616; omega
  · have hP' : (256 * P + b) * 1329227995784915872903807060280344576 < 115792089237316195423570985008687907853269984665640564039457584007913129639936 := hP
    have e1 : P * 256 ^ (15 + 1) = P * 340282366920938463463374607431768211456 := rfl
    have e2 : (256 * P + b) * 256 ^ 15 = (256 * P + b) * 1329227995784915872903807060280344576 := rfl
    rw [e1, e2]
    constructor
    · show (P * 340282366920938463463374607431768211456 / 18446744073709551616 % 18446744073709551616) ||| (b * 72057594037927936) = ((256 * P + b) * 1329227995784915872903807060280344576 / 18446744073709551616 % 18446744073709551616)
      rw [or_low (P * 340282366920938463463374607431768211456 / 18446744073709551616 % 18446744073709551616) (b * 72057594037927936) 64 18446744073709551616 rfl (by omega) (lt_byte hb (by decide) rfl)]
      omega
    · intro j hj hne
      have hne' : j ≠ 1 := hne
      have hj' : j = 0 ∨ j = 1 ∨ j = 2 ∨ j = 3 := by omega
      rcases hj' with rfl | rfl | rfl | rfl
      · show (256 * P + b) * 1329227995784915872903807060280344576 / 1 % 18446744073709551616 = P * 340282366920938463463374607431768211456 / 1 % 18446744073709551616; omega
      · exact absurd rfl hne'
      · show (256 * P + b) * 1329227995784915872903807060280344576 / 340282366920938463463374607431768211456 % 18446744073709551616 = P * 340282366920938463463374607431768211456 / 340282366920938463463374607431768211456 % 18446744073709551616; omega
      · show (256 * P + b) * 1329227995784915872903807060280344576 / 6277101735386680763835789423207666416102355444464034512896 % 18446744073709551616 = P * 340282366920938463463374607431768211456 / 6277101735386680763835789423207666416102355444464034512896 % 18446744073709551616; omega
  · have hP' : (256 * P + b) * 340282366920938463463374607431768211456 < 115792089237316195423570985008687907853269984665640564039457584007913129639936 := hP
    have e1 : P * 256 ^ (16 + 1) = P * 87112285931760246646623899502532662132736 := rfl
    have e2 : (256 * P + b) * 256 ^ 16 = (256 * P + b) * 340282366920938463463374607431768211456 := rfl
    rw [e1, e2]
    constructor
    · show (P * 87112285931760246646623899502532662132736 / 340282366920938463463374607431768211456 % 18446744073709551616) ||| (b * 1) = ((256 * P + b) * 340282366920938463463374607431768211456 / 340282366920938463463374607431768211456 % 18446744073709551616)
      rw [or_low (P * 87112285931760246646623899502532662132736 / 340282366920938463463374607431768211456 % 18446744073709551616) (b * 1) 8 256 rfl (by omega) (lt_byte hb (by decide) rfl)]
      omega
    · intro j hj hne
      have hne' : j ≠ 2 := hne
      have hj' : j = 0 ∨ j = 1 ∨ j = 2 ∨ j = 3 := by omega
      rcases hj' with rfl | rfl | rfl | rfl
      · show (256 * P + b) * 340282366920938463463374607431768211456 / 1 % 18446744073709551616 = P * 87112285931760246646623899502532662132736 / 1 % 18446744073709551616; omega
      · show (256 * P + b) * 340282366920938463463374607431768211456 / 18446744073709551616 % 18446744073709551616 = P * 87112285931760246646623899502532662132736 / 18446744073709551616 % 18446744073709551616; omega
      · exact absurd rfl hne'
      · show (256 * P + b) * 340282366920938463463374607431768211456 / 6277101735386680763835789423207666416102355444464034512896 % 18446744073709551616 = P * 87112285931760246646623899502532662132736 / 6277101735386680763835789423207666416102355444464034512896 % 18446744073709551616; omega
  · have hP' : (256 * P + b) * 87112285931760246646623899502532662132736 < 115792089237316195423570985008687907853269984665640564039457584007913129639936 := hP
    have e1 : P * 256 ^ (17 + 1) = P * 22300745198530623141535718272648361505980416 := rfl
    have e2 : (256 * P + b) * 256 ^ 17 = (256 * P + b) * 87112285931760246646623899502532662132736 := rfl
    rw [e1, e2]
    constructor
    · show (P * 22300745198530623141535718272648361505980416 / 340282366920938463463374607431768211456 % 18446744073709551616) ||| (b * 256) = ((256 * P + b) * 87112285931760246646623899502532662132736 / 340282366920938463463374607431768211456 % 18446744073709551616)
      rw [or_low (P * 22300745198530623141535718272648361505980416 / 340282366920938463463374607431768211456 % 18446744073709551616) (b * 256) 16 65536 rfl (by omega) (lt_byte hb (by decide) rfl)]
      omega
    · intro j hj hne
      have hne' : j ≠ 2 := hne
      have hj' : j = 0 ∨ j = 1 ∨ j = 2 ∨ j = 3 := by omega
      rcases hj' with rfl | rfl | rfl | rfl
      · show (256 * P + b) * 87112285931760246646623899502532662132736 / 1 % 18446744073709551616 = P * 22300745198530623141535718272648361505980416 / 1 % 18446744073709551616; omega
      · show (256 * P + b) * 87112285931760246646623899502532662132736 / 18446744073709551616 % 18446744073709551616 = P * 22300745198530623141535718272648361505980416 / 18446744073709551616 % 18446744073709551616; omega
      · exact absurd rfl hne'
      · show (256 * P + b) * 87112285931760246646623899502532662132736 / 6277101735386680763835789423207666416102355444464034512896 % 18446744073709551616 = P * 22300745198530623141535718272648361505980416 / 6277101735386680763835789423207666416102355444464034512896 % 18446744073709551616; omega
  · have hP' : (256 * P + b) * 22300745198530623141535718272648361505980416 < 115792089237316195423570985008687907853269984665640564039457584007913129639936 := hP
    have e1 : P * 256 ^ (18 + 1) = P * 5708990770823839524233143877797980545530986496 := rfl
    have e2 : (256 * P + b) * 256 ^ 18 = (256 * P + b) * 22300745198530623141535718272648361505980416 := rfl
    rw [e1, e2]
    constructor
    · show (P * 5708990770823839524233143877797980545530986496 / 340282366920938463463374607431768211456 % 18446744073709551616) ||| (b * 65536) = ((256 * P + b) * 22300745198530623141535718272648361505980416 / 340282366920938463463374607431768211456 % 18446744073709551616)
      rw [or_low (P * 5708990770823839524233143877797980545530986496 / 340282366920938463463374607431768211456 % 18446744073709551616) (b * 65536) 24 16777216 rfl (by omega) (lt_byte hb (by decide) rfl)]
      omega
    · intro j hj hne
      have hne' : j ≠ 2 := hne
      have hj' : j = 0 ∨ j = 1 ∨ j = 2 ∨ j = 3 := by omega
      rcases hj' with rfl | rfl | rfl | rfl
      · show (256 * P + b) * 22300745198530623141535718272648361505980416 / 1 % 18446744073709551616 = P * 5708990770823839524233143877797980545530986496 / 1 % 18446744073709551616; omega
      · show (256 * P + b) * 22300745198530623141535718272648361505980416 / 18446744073709551616 % 18446744073709551616 = P * 5708990770823839524233143877797980545530986496 / 18446744073709551616 % 18446744073709551616; omega
      · exact absurd rfl hne'
      · show (256 * P + b) * 22300745198530623141535718272648361505980416 / 6277101735386680763835789423207666416102355444464034512896 % 18446744073709551616 = P * 5708990770823839524233143877797980545530986496 / 6277101735386680763835789423207666416102355444464034512896 % 18446744073709551616; omega
  · have hP' : (256 * P + b) * 5708990770823839524233143877797980545530986496 < 115792089237316195423570985008687907853269984665640564039457584007913129639936 := hP
    have e1 : P * 256 ^ (19 + 1) = P * 1461501637330902918203684832716283019655932542976 := rfl
    have e2 : (256 * P + b) * 256 ^ 19 = (256 * P + b) * 5708990770823839524233143877797980545530986496 := rfl
    rw [e1, e2]
    constructor
    · show (P * 1461501637330902918203684832716283019655932542976 / 340282366920938463463374607431768211456 % 18446744073709551616) ||| (b * 16777216) = ((256 * P + b) * 5708990770823839524233143877797980545530986496 / 340282366920938463463374607431768211456 % 18446744073709551616)
      rw [or_low (P * 1461501637330902918203684832716283019655932542976 / 340282366920938463463374607431768211456 % 18446744073709551616) (b * 16777216) 32 4294967296 rfl (by omega) (lt_byte hb (by decide) rfl)]
      omega
    · intro j hj hne
      have hne' : j ≠ 2 := hne
      have hj' : j = 0 ∨ j = 1 ∨ j = 2 ∨ j = 3 := by omega
      rcases hj' with rfl | rfl | rfl | rfl
      · show (256 * P + b) * 5708990770823839524233143877797980545530986496 / 1 % 18446744073709551616 = P * 1461501637330902918203684832716283019655932542976 / 1 % 18446744073709551616; omega
      · show (256 * P + b) * 5708990770823839524233143877797980545530986496 / 18446744073709551616 % 18446744073709551616 = P * 1461501637330902918203684832716283019655932542976 / 18446744073709551616 % 18446744073709551616; omega
      · exact absurd rfl hne'
      · show (256 * P + b) * 5708990770823839524233143877797980545530986496 / 6277101735386680763835789423207666416102355444464034512896 % 18446744073709551616 = P * 1461501637330902918203684832716283019655932542976 / 6277101735386680763835789423207666416102355444464034512896 % 18446744073709551616; omega
  · have hP' : (256 * P + b) * 1461501637330902918203684832716283019655932542976 < 115792089237316195423570985008687907853269984665640564039457584007913129639936 := hP
    have e1 : P * 256 ^ (20 + 1) = P * 374144419156711147060143317175368453031918731001856 := rfl
    have e2 : (256 * P + b) * 256 ^ 20 = (256 * P + b) * 1461501637330902918203684832716283019655932542976 := rfl
    rw [e1, e2]
    constructor
    · show (P * 374144419156711147060143317175368453031918731001856 / 340282366920938463463374607431768211456 % 18446744073709551616) ||| (b * 4294967296) = ((256 * P + b) * 1461501637330902918203684832716283019655932542976 / 340282366920938463463374607431768211456 % 18446744073709551616)
      rw [or_low (P * 374144419156711147060143317175368453031918731001856 / 340282366920938463463374607431768211456 % 18446744073709551616) (b * 4294967296) 40 1099511627776 rfl (by omega) (lt_byte hb (by decide) rfl)]
      omega
    · intro j hj hne
      have hne' : j ≠ 2 := hne
      have hj' : j = 0 ∨ j = 1 ∨ j = 2 ∨ j = 3 := by omega
      rcases hj' with rfl | rfl | rfl | rfl
      · show (256 * P + b) * 1461501637330902918203684832716283019655932542976 / 1 % 18446744073709551616 = P * 374144419156711147060143317175368453031918731001856 / 1 % 18446744073709551616; omega
      · show (256 * P + b) * 1461501637330902918203684832716283019655932542976 / 18446744073709551616 % 18446744073709551616 = P * 374144419156711147060143317175368453031918731001856 / 18446744073709551616 % 18446744073709551616; omega
      · exact absurd rfl hne'
      · show (256 * P + b) * 1461501637330902918203684832716283019655932542976 / 6277101735386680763835789423207666416102355444464034512896 % 18446744073709551616 = P * 374144419156711147060143317175368453031918731001856 / 6277101735386680763835789423207666416102355444464034512896 % 18446744073709551616; omega
  · have hP' : (256 * P + b) * 374144419156711147060143317175368453031918731001856 < 115792089237316195423570985008687907853269984665640564039457584007913129639936 := hP
    have e1 : P * 256 ^ (21 + 1) = P * 95780971304118053647396689196894323976171195136475136 := rfl
    have e2 : (256 * P + b) * 256 ^ 21 = (256 * P + b) * 374144419156711147060143317175368453031918731001856 := rfl
    rw [e1, e2]
    constructor
    · show (P * 95780971304118053647396689196894323976171195136475136 / 340282366920938463463374607431768211456 % 18446744073709551616) ||| (b * 1099511627776) = ((256 * P + b) * 374144419156711147060143317175368453031918731001856 / 340282366920938463463374607431768211456 % 18446744073709551616)
      rw [or_low (P * 95780971304118053647396689196894323976171195136475136 / 340282366920938463463374607431768211456 % 18446744073709551616) (b * 1099511627776) 48 281474976710656 rfl (by omega) (lt_byte hb (by decide) rfl)]
      omega
    · intro j hj hne
      have hne' : j ≠ 2 := hne
      have hj' : j = 0 ∨ j = 1 ∨ j = 2 ∨ j = 3 := by omega
      rcases hj' with rfl | rfl | rfl | rfl
      · show (256 * P + b) * 374144419156711147060143317175368453031918731001856 / 1 % 18446744073709551616 = P * 95780971304118053647396689196894323976171195136475136 / 1 % 18446744073709551616; omega
      · show (256 * P + b) * 374144419156711147060143317175368453031918731001856 / 18446744073709551616 % 18446744073709551616 = P * 95780971304118053647396689196894323976171195136475136 / 18446744073709551616 % 18446744073709551616; omega
      · exact absurd rfl hne'
      · show (256 * P + b) * 374144419156711147060143317175368453031918731001856 / 6277101735386680763835789423207666416102355444464034512896 % 18446744073709551616 = P * 95780971304118053647396689196894323976171195136475136 / 6277101735386680763835789423207666416102355444464034512896 % 18446744073709551616; omega
  · have hP' : (256 * P + b) * 95780971304118053647396689196894323976171195136475136 < 115792089237316195423570985008687907853269984665640564039457584007913129639936 := hP
    have e1 : P * 256 ^ (22 + 1) = P * 24519928653854221733733552434404946937899825954937634816 := rfl
    have e2 : (256 * P + b) * 256 ^ 22 = (256 * P + b) * 95780971304118053647396689196894323976171195136475136 := rfl
    rw [e1, e2]
    constructor
    · show (P * 24519928653854221733733552434404946937899825954937634816 / 340282366920938463463374607431768211456 % 18446744073709551616) ||| (b * 281474976710656) = ((256 * P + b) * 95780971304118053647396689196894323976171195136475136 / 340282366920938463463374607431768211456 % 18446744073709551616)
      rw [or_low (P * 24519928653854221733733552434404946937899825954937634816 / 340282366920938463463374607431768211456 % 18446744073709551616) (b * 281474976710656) 56 72057594037927936 rfl (by omega) (lt_byte hb (by decide) rfl)]
      omega
    · intro j hj hne
      have hne' : j ≠ 2 := hne
      have hj' : j = 0 ∨ j = 1 ∨ j = 2 ∨ j = 3 := by omega
      rcases hj' with rfl | rfl | rfl | rfl
      · show (256 * P + b) * 95780971304118053647396689196894323976171195136475136 / 1 % 18446744073709551616 = P * 24519928653854221733733552434404946937899825954937634816 / 1 % 18446744073709551616; omega
      · show (256 * P + b) * 95780971304118053647396689196894323976171195136475136 / 18446744073709551616 % 18446744073709551616 = P * 24519928653854221733733552434404946937899825954937634816 / 18446744073709551616 % 18446744073709551616; omega
      · exact absurd rfl hne'
      · show (256 * P + b) * 95780971304118053647396689196894323976171195136475136 / 6277101735386680763835789423207666416102355444464034512896 % 18446744073709551616 = P * 24519928653854221733733552434404946937899825954937634816 / 6277101735386680763835789423207666416102355444464034512896 % 18446744073709551616; omega
  · have hP' : (256 * P + b) * 24519928653854221733733552434404946937899825954937634816 < 115792089237316195423570985008687907853269984665640564039457584007913129639936 := hP
    have e1 : P * 256 ^ (23 + 1) = P * 6277101735386680763835789423207666416102355444464034512896 := rfl
    have e2 : (256 * P + b) * 256 ^ 23 = (256 * P + b) * 24519928653854221733733552434404946937899825954937634816 := rfl
    rw [e1, e2]
    constructor
    · show (P * 6277101735386680763835789423207666416102355444464034512896 / 340282366920938463463374607431768211456 % 18446744073709551616) ||| (b * 72057594037927936) = ((256 * P + b) * 24519928653854221733733552434404946937899825954937634816 / 340282366920938463463374607431768211456 % 18446744073709551616)
      rw [or_low (P * 6277101735386680763835789423207666416102355444464034512896 / 340282366920938463463374607431768211456 % 18446744073709551616) (b * 72057594037927936) 64 18446744073709551616 rfl (by omega) (lt_byte hb (by decide) rfl)]
      omega
    · intro j hj hne
      have hne' : j ≠ 2 := hne
      have hj' : j = 0 ∨ j = 1 ∨ j = 2 ∨ j = 3 := by omega
      rcases hj' with rfl | rfl | rfl | rfl
      · show (256 * P + b) * 24519928653854221733733552434404946937899825954937634816 / 1 % 18446744073709551616 = P * 6277101735386680763835789423207666416102355444464034512896 / 1 % 18446744073709551616; omega
      · show (256 * P + b) * 24519928653854221733733552434404946937899825954937634816 / 18446744073709551616 % 18446744073709551616 = P * 6277101735386680763835789423207666416102355444464034512896 / 18446744073709551616 % 18446744073709551616; omega
      · exact absurd rfl hne'
      · show (256 * P + b) * 24519928653854221733733552434404946937899825954937634816 / 6277101735386680763835789423207666416102355444464034512896 % 18446744073709551616 = P * 6277101735386680763835789423207666416102355444464034512896 / 6277101735386680763835789423207666416102355444464034512896 % 18446744073709551616; omega
  · have hP' : (256 * P + b) * 6277101735386680763835789423207666416102355444464034512896 < 115792089237316195423570985008687907853269984665640564039457584007913129639936 := hP
    have e1 : P * 256 ^ (24 + 1) = P * 1606938044258990275541962092341162602522202993782792835301376 := rfl
    have e2 : (256 * P + b) * 256 ^ 24 = (256 * P + b) * 6277101735386680763835789423207666416102355444464034512896 := rfl
    rw [e1, e2]
    constructor
    · show (P * 1606938044258990275541962092341162602522202993782792835301376 / 6277101735386680763835789423207666416102355444464034512896 % 18446744073709551616) ||| (b * 1) = ((256 * P + b) * 6277101735386680763835789423207666416102355444464034512896 / 6277101735386680763835789423207666416102355444464034512896 % 18446744073709551616)
      rw [or_low (P * 1606938044258990275541962092341162602522202993782792835301376 / 6277101735386680763835789423207666416102355444464034512896 % 18446744073709551616) (b * 1) 8 256 rfl (by omega) (lt_byte hb (by decide) rfl)]
      omega
    · intro j hj hne
      have hne' : j ≠ 3 := hne
      have hj' : j = 0 ∨ j = 1 ∨ j = 2 ∨ j = 3 := by omega
      rcases hj' with rfl | rfl | rfl | rfl
      · show (256 * P + b) * 6277101735386680763835789423207666416102355444464034512896 / 1 % 18446744073709551616 = P * 1606938044258990275541962092341162602522202993782792835301376 / 1 % 18446744073709551616; omega
      · show (256 * P + b) * 6277101735386680763835789423207666416102355444464034512896 / 18446744073709551616 % 18446744073709551616 = P * 1606938044258990275541962092341162602522202993782792835301376 / 18446744073709551616 % 18446744073709551616; omega
      · show (256 * P + b) * 6277101735386680763835789423207666416102355444464034512896 / 340282366920938463463374607431768211456 % 18446744073709551616 = P * 1606938044258990275541962092341162602522202993782792835301376 / 340282366920938463463374607431768211456 % 18446744073709551616; omega
      · exact absurd rfl hne'
  · have hP' : (256 * P + b) * 1606938044258990275541962092341162602522202993782792835301376 < 115792089237316195423570985008687907853269984665640564039457584007913129639936 := hP
    have e1 : P * 256 ^ (25 + 1) = P * 411376139330301510538742295639337626245683966408394965837152256 := rfl
    have e2 : (256 * P + b) * 256 ^ 25 = (256 * P + b) * 1606938044258990275541962092341162602522202993782792835301376 := rfl
    rw [e1, e2]
    constructor
    · show (P * 411376139330301510538742295639337626245683966408394965837152256 / 6277101735386680763835789423207666416102355444464034512896 % 18446744073709551616) ||| (b * 256) = ((256 * P + b) * 1606938044258990275541962092341162602522202993782792835301376 / 6277101735386680763835789423207666416102355444464034512896 % 18446744073709551616)
      rw [or_low (P * 411376139330301510538742295639337626245683966408394965837152256 / 6277101735386680763835789423207666416102355444464034512896 % 18446744073709551616) (b * 256) 16 65536 rfl (by omega) (lt_byte hb (by decide) rfl)]
      omega
    · intro j hj hne
      have hne' : j ≠ 3 := hne
      have hj' : j = 0 ∨ j = 1 ∨ j = 2 ∨ j = 3 := by omega
      rcases hj' with rfl | rfl | rfl | rfl
      · show (256 * P + b) * 1606938044258990275541962092341162602522202993782792835301376 / 1 % 18446744073709551616 = P * 411376139330301510538742295639337626245683966408394965837152256 / 1 % 18446744073709551616; omega
      · show (256 * P + b) * 1606938044258990275541962092341162602522202993782792835301376 / 18446744073709551616 % 18446744073709551616 = P * 411376139330301510538742295639337626245683966408394965837152256 / 18446744073709551616 % 18446744073709551616; omega
      · show (256 * P + b) * 1606938044258990275541962092341162602522202993782792835301376 / 340282366920938463463374607431768211456 % 18446744073709551616 = P * 411376139330301510538742295639337626245683966408394965837152256 / 340282366920938463463374607431768211456 % 18446744073709551616; omega
      · exact absurd rfl hne'
  · have hP' : (256 * P + b) * 411376139330301510538742295639337626245683966408394965837152256 < 115792089237316195423570985008687907853269984665640564039457584007913129639936 := hP
    have e1 : P * 256 ^ (26 + 1) = P * 105312291668557186697918027683670432318895095400549111254310977536 := rfl
    have e2 : (256 * P + b) * 256 ^ 26 = (256 * P + b) * 411376139330301510538742295639337626245683966408394965837152256 := rfl
    rw [e1, e2]
    constructor
    · show (P * 105312291668557186697918027683670432318895095400549111254310977536 / 6277101735386680763835789423207666416102355444464034512896 % 18446744073709551616) ||| (b * 65536) = ((256 * P + b) * 411376139330301510538742295639337626245683966408394965837152256 / 6277101735386680763835789423207666416102355444464034512896 % 18446744073709551616)
      rw [or_low (P * 105312291668557186697918027683670432318895095400549111254310977536 / 6277101735386680763835789423207666416102355444464034512896 % 18446744073709551616) (b * 65536) 24 16777216 rfl (by omega) (lt_byte hb (by decide) rfl)]
      omega
    · intro j hj hne
      have hne' : j ≠ 3 := hne
      have hj' : j = 0 ∨ j = 1 ∨ j = 2 ∨ j = 3 := by omega
      rcases hj' with rfl | rfl | rfl | rfl
      · show (256 * P + b) * 411376139330301510538742295639337626245683966408394965837152256 / 1 % 18446744073709551616 = P * 105312291668557186697918027683670432318895095400549111254310977536 / 1 % 18446744073709551616; omega
      · show (256 * P + b) * 411376139330301510538742295639337626245683966408394965837152256 / 18446744073709551616 % 18446744073709551616 = P * 105312291668557186697918027683670432318895095400549111254310977536 / 18446744073709551616 % 18446744073709551616; omega
      · show (256 * P + b) * 411376139330301510538742295639337626245683966408394965837152256 / 340282366920938463463374607431768211456 % 18446744073709551616 = P * 105312291668557186697918027683670432318895095400549111254310977536 / 340282366920938463463374607431768211456 % 18446744073709551616; omega
      · exact absurd rfl hne'
  · have hP' : (256 * P + b) * 105312291668557186697918027683670432318895095400549111254310977536 < 115792089237316195423570985008687907853269984665640564039457584007913129639936 := hP
    have e1 : P * 256 ^ (27 + 1) = P * 26959946667150639794667015087019630673637144422540572481103610249216 := rfl
    have e2 : (256 * P + b) * 256 ^ 27 = (256 * P + b) * 105312291668557186697918027683670432318895095400549111254310977536 := rfl
    rw [e1, e2]
    constructor
    · show (P * 26959946667150639794667015087019630673637144422540572481103610249216 / 6277101735386680763835789423207666416102355444464034512896 % 18446744073709551616) ||| (b * 16777216) = ((256 * P + b) * 105312291668557186697918027683670432318895095400549111254310977536 / 6277101735386680763835789423207666416102355444464034512896 % 18446744073709551616)
      rw [or_low (P * 26959946667150639794667015087019630673637144422540572481103610249216 / 6277101735386680763835789423207666416102355444464034512896 % 18446744073709551616) (b * 16777216) 32 4294967296 rfl (by omega) (lt_byte hb (by decide) rfl)]
      omega
    · intro j hj hne
      have hne' : j ≠ 3 := hne
      have hj' : j = 0 ∨ j = 1 ∨ j = 2 ∨ j = 3 := by omega
      rcases hj' with rfl | rfl | rfl | rfl
      · show (256 * P + b) * 105312291668557186697918027683670432318895095400549111254310977536 / 1 % 18446744073709551616 = P * 26959946667150639794667015087019630673637144422540572481103610249216 / 1 % 18446744073709551616; omega
      · show (256 * P + b) * 105312291668557186697918027683670432318895095400549111254310977536 / 18446744073709551616 % 18446744073709551616 = P * 26959946667150639794667015087019630673637144422540572481103610249216 / 18446744073709551616 % 18446744073709551616; omega
      · show (256 * P + b) * 105312291668557186697918027683670432318895095400549111254310977536 / 340282366920938463463374607431768211456 % 18446744073709551616 = P * 26959946667150639794667015087019630673637144422540572481103610249216 / 340282366920938463463374607431768211456 % 18446744073709551616; omega
      · exact absurd rfl hne'
  · have hP' : (256 * P + b) * 26959946667150639794667015087019630673637144422540572481103610249216 < 115792089237316195423570985008687907853269984665640564039457584007913129639936 := hP
    have e1 : P * 256 ^ (28 + 1) = P * 6901746346790563787434755862277025452451108972170386555162524223799296 := rfl
    have e2 : (256 * P + b) * 256 ^ 28 = (256 * P + b) * 26959946667150639794667015087019630673637144422540572481103610249216 := rfl
    rw [e1, e2]
    constructor
    · show (P * 6901746346790563787434755862277025452451108972170386555162524223799296 / 6277101735386680763835789423207666416102355444464034512896 % 18446744073709551616) ||| (b * 4294967296) = ((256 * P + b) * 26959946667150639794667015087019630673637144422540572481103610249216 / 6277101735386680763835789423207666416102355444464034512896 % 18446744073709551616)
      rw [or_low (P * 6901746346790563787434755862277025452451108972170386555162524223799296 / 6277101735386680763835789423207666416102355444464034512896 % 18446744073709551616) (b * 4294967296) 40 1099511627776 rfl (by omega) (lt_byte hb (by decide) rfl)]
      omega
    · intro j hj hne
      have hne' : j ≠ 3 := hne
      have hj' : j = 0 ∨ j = 1 ∨ j = 2 ∨ j = 3 := by omega
      rcases hj' with rfl | rfl | rfl | rfl
      · show (256 * P + b) * 26959946667150639794667015087019630673637144422540572481103610249216 / 1 % 18446744073709551616 = P * 6901746346790563787434755862277025452451108972170386555162524223799296 / 1 % 18446744073709551616; omega
      · show (256 * P + b) * 26959946667150639794667015087019630673637144422540572481103610249216 / 18446744073709551616 % 18446744073709551616 = P * 6901746346790563787434755862277025452451108972170386555162524223799296 / 18446744073709551616 % 18446744073709551616; omega
      · show (256 * P + b) * 26959946667150639794667015087019630673637144422540572481103610249216 / 340282366920938463463374607431768211456 % 18446744073709551616 = P * 6901746346790563787434755862277025452451108972170386555162524223799296 / 340282366920938463463374607431768211456 % 18446744073709551616; omega
      · exact absurd rfl hne'
  · have hP' : (256 * P + b) * 6901746346790563787434755862277025452451108972170386555162524223799296 < 115792089237316195423570985008687907853269984665640564039457584007913129639936 := hP
    have e1 : P * 256 ^ (29 + 1) = P * 1766847064778384329583297500742918515827483896875618958121606201292619776 := rfl
    have e2 : (256 * P + b) * 256 ^ 29 = (256 * P + b) * 6901746346790563787434755862277025452451108972170386555162524223799296 := rfl
    rw [e1, e2]
    constructor
    · show (P * 1766847064778384329583297500742918515827483896875618958121606201292619776 / 6277101735386680763835789423207666416102355444464034512896 % 18446744073709551616) ||| (b * 1099511627776) = ((256 * P + b) * 6901746346790563787434755862277025452451108972170386555162524223799296 / 6277101735386680763835789423207666416102355444464034512896 % 18446744073709551616)
      rw [or_low (P * 1766847064778384329583297500742918515827483896875618958121606201292619776 / 6277101735386680763835789423207666416102355444464034512896 % 18446744073709551616) (b * 1099511627776) 48 281474976710656 rfl (by omega) (lt_byte hb (by decide) rfl)]
      omega
    · intro j hj hne
      have hne' : j ≠ 3 := hne
      have hj' : j = 0 ∨ j = 1 ∨ j = 2 ∨ j = 3 := by omega
      rcases hj' with rfl | rfl | rfl | rfl
      · show (256 * P + b) * 6901746346790563787434755862277025452451108972170386555162524223799296 / 1 % 18446744073709551616 = P * 1766847064778384329583297500742918515827483896875618958121606201292619776 / 1 % 18446744073709551616; omega
      · show (256 * P + b) * 6901746346790563787434755862277025452451108972170386555162524223799296 / 18446744073709551616 % 18446744073709551616 = P * 1766847064778384329583297500742918515827483896875618958121606201292619776 / 18446744073709551616 % 18446744073709551616; omega
      · show (256 * P + b) * 6901746346790563787434755862277025452451108972170386555162524223799296 / 340282366920938463463374607431768211456 % 18446744073709551616 = P * 1766847064778384329583297500742918515827483896875618958121606201292619776 / 340282366920938463463374607431768211456 % 18446744073709551616; omega
      · exact absurd rfl hne'
  · have hP' : (256 * P + b) * 1766847064778384329583297500742918515827483896875618958121606201292619776 < 115792089237316195423570985008687907853269984665640564039457584007913129639936 := hP
    have e1 : P * 256 ^ (30 + 1) = P * 452312848583266388373324160190187140051835877600158453279131187530910662656 := rfl
    have e2 : (256 * P + b) * 256 ^ 30 = (256 * P + b) * 1766847064778384329583297500742918515827483896875618958121606201292619776 := rfl
    rw [e1, e2]
    constructor
    · show (P * 452312848583266388373324160190187140051835877600158453279131187530910662656 / 6277101735386680763835789423207666416102355444464034512896 % 18446744073709551616) ||| (b * 281474976710656) = ((256 * P + b) * 1766847064778384329583297500742918515827483896875618958121606201292619776 / 6277101735386680763835789423207666416102355444464034512896 % 18446744073709551616)
      rw [or_low (P * 452312848583266388373324160190187140051835877600158453279131187530910662656 / 6277101735386680763835789423207666416102355444464034512896 % 18446744073709551616) (b * 281474976710656) 56 72057594037927936 rfl (by omega) (lt_byte hb (by decide) rfl)]
      omega
    · intro j hj hne
      have hne' : j ≠ 3 := hne
      have hj' : j = 0 ∨ j = 1 ∨ j = 2 ∨ j = 3 := by omega
      rcases hj' with rfl | rfl | rfl | rfl
      · show (256 * P + b) * 1766847064778384329583297500742918515827483896875618958121606201292619776 / 1 % 18446744073709551616 = P * 452312848583266388373324160190187140051835877600158453279131187530910662656 / 1 % 18446744073709551616; omega
      · show (256 * P + b) * 1766847064778384329583297500742918515827483896875618958121606201292619776 / 18446744073709551616 % 18446744073709551616 = P * 452312848583266388373324160190187140051835877600158453279131187530910662656 / 18446744073709551616 % 18446744073709551616; omega
      · show (256 * P + b) * 1766847064778384329583297500742918515827483896875618958121606201292619776 / 340282366920938463463374607431768211456 % 18446744073709551616 = P * 452312848583266388373324160190187140051835877600158453279131187530910662656 / 340282366920938463463374607431768211456 % 18446744073709551616; omega
      · exact absurd rfl hne'
  · have hP' : (256 * P + b) * 452312848583266388373324160190187140051835877600158453279131187530910662656 < 115792089237316195423570985008687907853269984665640564039457584007913129639936 := hP
    have e1 : P * 256 ^ (31 + 1) = P * 115792089237316195423570985008687907853269984665640564039457584007913129639936 := rfl
    have e2 : (256 * P + b) * 256 ^ 31 = (256 * P + b) * 452312848583266388373324160190187140051835877600158453279131187530910662656 := rfl
    rw [e1, e2]
    constructor
    · show (P * 115792089237316195423570985008687907853269984665640564039457584007913129639936 / 6277101735386680763835789423207666416102355444464034512896 % 18446744073709551616) ||| (b * 72057594037927936) = ((256 * P + b) * 452312848583266388373324160190187140051835877600158453279131187530910662656 / 6277101735386680763835789423207666416102355444464034512896 % 18446744073709551616)
      rw [or_low (P * 115792089237316195423570985008687907853269984665640564039457584007913129639936 / 6277101735386680763835789423207666416102355444464034512896 % 18446744073709551616) (b * 72057594037927936) 64 18446744073709551616 rfl (by omega) (lt_byte hb (by decide) rfl)]
      omega
    · intro j hj hne
      have hne' : j ≠ 3 := hne
      have hj' : j = 0 ∨ j = 1 ∨ j = 2 ∨ j = 3 := by omega
      rcases hj' with rfl | rfl | rfl | rfl
      · show (256 * P + b) * 452312848583266388373324160190187140051835877600158453279131187530910662656 / 1 % 18446744073709551616 = P * 115792089237316195423570985008687907853269984665640564039457584007913129639936 / 1 % 18446744073709551616; omega
      · show (256 * P + b) * 452312848583266388373324160190187140051835877600158453279131187530910662656 / 18446744073709551616 % 18446744073709551616 = P * 115792089237316195423570985008687907853269984665640564039457584007913129639936 / 18446744073709551616 % 18446744073709551616; omega
      · show (256 * P + b) * 452312848583266388373324160190187140051835877600158453279131187530910662656 / 340282366920938463463374607431768211456 % 18446744073709551616 = P * 115792089237316195423570985008687907853269984665640564039457584007913129639936 / 340282366920938463463374607431768211456 % 18446744073709551616; omega
      · exact absurd rfl hne'
end Go.Proofs.YtmmloghbnpfedaaDoor

namespace Go.Proofs.YtmmloghbnpfedaaDoor
open Go.ChangeShapes Go.WideShapes Go.ChangeAt Go.RowKit
set_option linter.unusedVariables false
/-- The number behind k bytes. -/
def fromN (s : ByteArray) (k : Nat) : Nat := sv (s.data.toList.take k) * 256 ^ (s.size - k)
theorem fromN_lt (s : ByteArray) (k : Nat) (h : s.size ≤ 32) (hk : k ≤ s.size) : fromN s k < big := by
  unfold fromN
  have h1 := sv_lt (s.data.toList.take k)
  have h2 : (s.data.toList.take k).length ≤ k := List.length_take_le _ _
  have h3 : 256 ^ (s.data.toList.take k).length ≤ 256 ^ k := Nat.pow_le_pow_right (by omega) h2
  have h4 : 256 ^ k * 256 ^ (s.size - k) = 256 ^ s.size := by rw [← Nat.pow_add]; congr 1; omega
  have h5 : 256 ^ s.size ≤ 256 ^ 32 := Nat.pow_le_pow_right (by omega) h
  have h6 : sv (s.data.toList.take k) * 256 ^ (s.size - k) < 256 ^ k * 256 ^ (s.size - k) := (Nat.mul_lt_mul_right (Nat.pow_pos (by omega))).2 (by omega)
  have h7 : (256 : Nat) ^ 32 = big := rfl
  omega
theorem fromN_split (s : ByteArray) (k m : Nat) (hk : k < s.size) (hm : s.size = k + 1 + m) :
    fromN s k = sv (s.data.toList.take k) * 256 ^ (m + 1) ∧ fromN s (k + 1) = (256 * sv (s.data.toList.take k) + s[k].toNat) * 256 ^ m := by
  unfold fromN
  constructor
  · congr 2; omega
  · have e : s.data.toList.take (k + 1) = s.data.toList.take k ++ [s[k]] := by rw [List.take_succ_eq_append_getElem (by simpa using hk)]; rfl
    rw [e, sv_snoc]
    congr 2; omega
theorem wi0 (n : Nat) : ((wi n 0 : Nat) : Int) = w0 n := by unfold wi w0; simp
theorem wi1 (n : Nat) : ((wi n 1 : Nat) : Int) = w1 n := rfl
theorem wi2 (n : Nat) : ((wi n 2 : Nat) : Int) = w2 n := rfl
theorem wi3 (n : Nat) : ((wi n 3 : Nat) : Int) = w3 n := rfl
theorem or_word (x b m : Nat) (hx : x < 18446744073709551616) (hb : b < 256) :
    bits BinOp.or IntKind.u64 (x : Int) (IntKind.u64.wrap ((b : Int) * 2 ^ (8 * (m % 8)))) = ((x ||| b * 2 ^ (8 * (m % 8)) : Nat) : Int) := by
  have hp : 2 ^ (8 * (m % 8)) ≤ 2 ^ 56 := Nat.pow_le_pow_right (by omega) (by omega)
  have hl : b * 2 ^ (8 * (m % 8)) < 18446744073709551616 := by
    have h1 : b * 2 ^ (8 * (m % 8)) ≤ 255 * 2 ^ 56 := Nat.mul_le_mul (by omega) hp
    omega
  have e2 : (b : Int) * 2 ^ (8 * (m % 8)) = ((b * 2 ^ (8 * (m % 8)) : Nat) : Int) := by push_cast; rfl
  rw [e2]
  have e3 : IntKind.u64.wrap ((b * 2 ^ (8 * (m % 8)) : Nat) : Int) = ((b * 2 ^ (8 * (m % 8)) : Nat) : Int) := by rw [IntKind.wrap_u64]; omega
  rw [e3]
  exact bits_or_u64_nat _ _ hx hl
def Holds4 (wr : World) (b : Nat) (n : Nat) : Prop :=
  (wr.cell? ⟨b, 0, none⟩ = some (.int .u64 (w0 n)) ∧ wr.cell? ⟨b, 1, none⟩ = some (.int .u64 (w1 n)) ∧ wr.cell? ⟨b, 2, none⟩ = some (.int .u64 (w2 n)) ∧ wr.cell? ⟨b, 3, none⟩ = some (.int .u64 (w3 n))) ∧
  (wr.frozen? ⟨b, 0, none⟩ = false ∧ wr.frozen? ⟨b, 1, none⟩ = false ∧ wr.frozen? ⟨b, 2, none⟩ = false ∧ wr.frozen? ⟨b, 3, none⟩ = false)
def FInv (w : World) (s : ByteArray) (k : Nat) (wr : World) : Prop := Below w.heap.size w wr ∧ Holds4 wr (w.heap.size + 1) (fromN s k) ∧ Holds4 wr w.heap.size 0
set_option maxHeartbeats 4000000 in
set_option maxRecDepth 100000 in
theorem from_short (s : ByteArray) (h : s.size ≤ 32) (w : World) : Calls Tryd.prog 42 #[.string s] w fun e w' => e = .returned (.tuple #[uv (sv s.data.toList), .int .i64 0]) ∧ Below w.heap.size w w' := by
  have hi : ¬ (32 : Int) < (s.size : Int) := by omega
  have hfin : fromN s s.size = sv s.data.toList := by unfold fromN; rw [List.take_of_length_le (by simp)]; simp
  have hend : ∀ k, ¬ k < s.size → k ≤ s.size → fromN s k = sv s.data.toList := fun k h1 h2 => by rw [show k = s.size by omega]; exact hfin
  have I : FInv w s 0 ((w.alloc (.cells #[.int .u64 0, .int .u64 0, .int .u64 0, .int .u64 0] 24)).alloc (.cells #[.int .u64 0, .int .u64 0, .int .u64 0, .int .u64 0] 24)) := by
    have z : fromN s 0 = 0 := by unfold fromN; simp [sv]
    have z0 : w0 0 = 0 := rfl
    have z1 : w1 0 = 0 := rfl
    have z2 : w2 0 = 0 := rfl
    have z3 : w3 0 = 0 := rfl
    refine ⟨((Below.refl _ _).alloc (Nat.le_refl _) _).alloc (by simp) _, ?_, ?_⟩
    · rw [z]; unfold Holds4; rw [z0, z1, z2, z3]; exact ⟨⟨by simp, by simp, by simp, by simp⟩, by simp, by simp, by simp, by simp⟩
    · unfold Holds4; rw [z0, z1, z2, z3]; exact ⟨⟨by simp, by simp, by simp, by simp⟩, by simp, by simp, by simp, by simp⟩
  have Hend := Lib.hid hend
  clear hfin hend
  go_enter Tryd.func42, Tryd.ntmps42
  go_wp2
  go_loopw [13] (fun i wr => ∃ k : Nat, k ≤ s.size ∧ i = .int .i64 k ∧ FInv w s k wr) (fun i _ => s.size - (intOf i).toNat)
  case atStart => exact ⟨0, by omega, rfl, I⟩
  case round =>
    obtain ⟨k, hk, rfl, J⟩ := hrel
    clear I
    obtain ⟨JB, ⟨⟨c0, c1, c2, c3⟩, f0, f1, f2, f3⟩, ⟨⟨r0, r1, r2, r3⟩, y0, y1, y2, y3⟩⟩ := J
    by_cases hlt : k < s.size
    · obtain ⟨m, hm⟩ : ∃ m, s.size = k + 1 + m := ⟨s.size - k - 1, by omega⟩
      have hb : ((s.size : Int) - 1 - (k : Int)) = (m : Int) := by omega
      have hm32 : m < 32 := by omega
      obtain ⟨n1, n2⟩ := fromN_split s k m hlt hm
      have hbig := fromN_lt s (k + 1) h (by omega)
      have hby : s[k].toNat < 256 := s[k].toNat_lt
      have OB := or_byte (sv (s.data.toList.take k)) s[k].toNat m hby hm32 (by rw [← n2]; exact hbig)
      rw [← n1, ← n2] at OB
      have HOB := Lib.hid OB
      clear hm n1 n2 OB hbig
      have hq : m / 8 = 0 ∨ m / 8 = 1 ∨ m / 8 = 2 ∨ m / 8 = 3 := by omega
      rcases hq with hq | hq | hq | hq
      · go_wp2_with fail
        go_region
        go_wp2
        go_roundw
        case rel =>
          obtain ⟨o1, o2⟩ := HOB.out
          rw [hq] at o1 o2
          have ev : bits BinOp.or IntKind.u64 (w0 (fromN s k)) (IntKind.u64.wrap ((s[k].toNat : Int) * 2 ^ (8 * (m % 8)))) = w0 (fromN s (k + 1)) := by
            rw [← wi0, or_word _ _ _ (by unfold wi; exact Nat.mod_lt _ (by omega)) hby, o1, wi0]
          have g1 : w1 (fromN s (k + 1)) = w1 (fromN s k) := by rw [← wi1, ← wi1, o2 1 (by omega) (by omega)]
          have g2 : w2 (fromN s (k + 1)) = w2 (fromN s k) := by rw [← wi2, ← wi2, o2 2 (by omega) (by omega)]
          have g3 : w3 (fromN s (k + 1)) = w3 (fromN s k) := by rw [← wi3, ← wi3, o2 3 (by omega) (by omega)]
          refine ⟨k + 1, by omega, by go_num, (JB.setCell (by simp) _).drew, ⟨⟨?_, ?_, ?_, ?_⟩, ?_, ?_, ?_, ?_⟩, ⟨⟨?_, ?_, ?_, ?_⟩, ?_, ?_, ?_, ?_⟩⟩
          · rw [← ev]; exact World.cell?_setCell_same _ _ _ c0
          · rw [g1]; exact (World.cell?_setCell_other _ _ _ _ (by simp)).trans c1
          · rw [g2]; exact (World.cell?_setCell_other _ _ _ _ (by simp)).trans c2
          · rw [g3]; exact (World.cell?_setCell_other _ _ _ _ (by simp)).trans c3
          · simp [f0]
          · simp [f1]
          · simp [f2]
          · simp [f3]
          · exact (World.cell?_setCell_other _ _ _ _ (by simp)).trans r0
          · exact (World.cell?_setCell_other _ _ _ _ (by simp)).trans r1
          · exact (World.cell?_setCell_other _ _ _ _ (by simp)).trans r2
          · exact (World.cell?_setCell_other _ _ _ _ (by simp)).trans r3
          · simp [y0]
          · simp [y1]
          · simp [y2]
          · simp [y3]
        case measure => simp [intOf]; omega
      · go_wp2_with fail
        go_region
        go_wp2
        go_roundw
        case rel =>
          obtain ⟨o1, o2⟩ := HOB.out
          rw [hq] at o1 o2
          have ev : bits BinOp.or IntKind.u64 (w1 (fromN s k)) (IntKind.u64.wrap ((s[k].toNat : Int) * 2 ^ (8 * (m % 8)))) = w1 (fromN s (k + 1)) := by
            rw [← wi1, or_word _ _ _ (by unfold wi; exact Nat.mod_lt _ (by omega)) hby, o1, wi1]
          have g0 : w0 (fromN s (k + 1)) = w0 (fromN s k) := by rw [← wi0, ← wi0, o2 0 (by omega) (by omega)]
          have g2 : w2 (fromN s (k + 1)) = w2 (fromN s k) := by rw [← wi2, ← wi2, o2 2 (by omega) (by omega)]
          have g3 : w3 (fromN s (k + 1)) = w3 (fromN s k) := by rw [← wi3, ← wi3, o2 3 (by omega) (by omega)]
          refine ⟨k + 1, by omega, by go_num, (JB.setCell (by simp) _).drew, ⟨⟨?_, ?_, ?_, ?_⟩, ?_, ?_, ?_, ?_⟩, ⟨⟨?_, ?_, ?_, ?_⟩, ?_, ?_, ?_, ?_⟩⟩
          · rw [g0]; exact (World.cell?_setCell_other _ _ _ _ (by simp)).trans c0
          · rw [← ev]; exact World.cell?_setCell_same _ _ _ c1
          · rw [g2]; exact (World.cell?_setCell_other _ _ _ _ (by simp)).trans c2
          · rw [g3]; exact (World.cell?_setCell_other _ _ _ _ (by simp)).trans c3
          · simp [f0]
          · simp [f1]
          · simp [f2]
          · simp [f3]
          · exact (World.cell?_setCell_other _ _ _ _ (by simp)).trans r0
          · exact (World.cell?_setCell_other _ _ _ _ (by simp)).trans r1
          · exact (World.cell?_setCell_other _ _ _ _ (by simp)).trans r2
          · exact (World.cell?_setCell_other _ _ _ _ (by simp)).trans r3
          · simp [y0]
          · simp [y1]
          · simp [y2]
          · simp [y3]
        case measure => simp [intOf]; omega
      · go_wp2_with fail
        go_region
        go_wp2
        go_roundw
        case rel =>
          obtain ⟨o1, o2⟩ := HOB.out
          rw [hq] at o1 o2
          have ev : bits BinOp.or IntKind.u64 (w2 (fromN s k)) (IntKind.u64.wrap ((s[k].toNat : Int) * 2 ^ (8 * (m % 8)))) = w2 (fromN s (k + 1)) := by
            rw [← wi2, or_word _ _ _ (by unfold wi; exact Nat.mod_lt _ (by omega)) hby, o1, wi2]
          have g0 : w0 (fromN s (k + 1)) = w0 (fromN s k) := by rw [← wi0, ← wi0, o2 0 (by omega) (by omega)]
          have g1 : w1 (fromN s (k + 1)) = w1 (fromN s k) := by rw [← wi1, ← wi1, o2 1 (by omega) (by omega)]
          have g3 : w3 (fromN s (k + 1)) = w3 (fromN s k) := by rw [← wi3, ← wi3, o2 3 (by omega) (by omega)]
          refine ⟨k + 1, by omega, by go_num, (JB.setCell (by simp) _).drew, ⟨⟨?_, ?_, ?_, ?_⟩, ?_, ?_, ?_, ?_⟩, ⟨⟨?_, ?_, ?_, ?_⟩, ?_, ?_, ?_, ?_⟩⟩
          · rw [g0]; exact (World.cell?_setCell_other _ _ _ _ (by simp)).trans c0
          · rw [g1]; exact (World.cell?_setCell_other _ _ _ _ (by simp)).trans c1
          · rw [← ev]; exact World.cell?_setCell_same _ _ _ c2
          · rw [g3]; exact (World.cell?_setCell_other _ _ _ _ (by simp)).trans c3
          · simp [f0]
          · simp [f1]
          · simp [f2]
          · simp [f3]
          · exact (World.cell?_setCell_other _ _ _ _ (by simp)).trans r0
          · exact (World.cell?_setCell_other _ _ _ _ (by simp)).trans r1
          · exact (World.cell?_setCell_other _ _ _ _ (by simp)).trans r2
          · exact (World.cell?_setCell_other _ _ _ _ (by simp)).trans r3
          · simp [y0]
          · simp [y1]
          · simp [y2]
          · simp [y3]
        case measure => simp [intOf]; omega
      · go_wp2_with fail
        go_region
        go_wp2
        go_roundw
        case rel =>
          obtain ⟨o1, o2⟩ := HOB.out
          rw [hq] at o1 o2
          have ev : bits BinOp.or IntKind.u64 (w3 (fromN s k)) (IntKind.u64.wrap ((s[k].toNat : Int) * 2 ^ (8 * (m % 8)))) = w3 (fromN s (k + 1)) := by
            rw [← wi3, or_word _ _ _ (by unfold wi; exact Nat.mod_lt _ (by omega)) hby, o1, wi3]
          have g0 : w0 (fromN s (k + 1)) = w0 (fromN s k) := by rw [← wi0, ← wi0, o2 0 (by omega) (by omega)]
          have g1 : w1 (fromN s (k + 1)) = w1 (fromN s k) := by rw [← wi1, ← wi1, o2 1 (by omega) (by omega)]
          have g2 : w2 (fromN s (k + 1)) = w2 (fromN s k) := by rw [← wi2, ← wi2, o2 2 (by omega) (by omega)]
          refine ⟨k + 1, by omega, by go_num, (JB.setCell (by simp) _).drew, ⟨⟨?_, ?_, ?_, ?_⟩, ?_, ?_, ?_, ?_⟩, ⟨⟨?_, ?_, ?_, ?_⟩, ?_, ?_, ?_, ?_⟩⟩
          · rw [g0]; exact (World.cell?_setCell_other _ _ _ _ (by simp)).trans c0
          · rw [g1]; exact (World.cell?_setCell_other _ _ _ _ (by simp)).trans c1
          · rw [g2]; exact (World.cell?_setCell_other _ _ _ _ (by simp)).trans c2
          · rw [← ev]; exact World.cell?_setCell_same _ _ _ c3
          · simp [f0]
          · simp [f1]
          · simp [f2]
          · simp [f3]
          · exact (World.cell?_setCell_other _ _ _ _ (by simp)).trans r0
          · exact (World.cell?_setCell_other _ _ _ _ (by simp)).trans r1
          · exact (World.cell?_setCell_other _ _ _ _ (by simp)).trans r2
          · exact (World.cell?_setCell_other _ _ _ _ (by simp)).trans r3
          · simp [y0]
          · simp [y1]
          · simp [y2]
          · simp [y3]
        case measure => simp [intOf]; omega
    · have HE := Lib.hid (Hend.out k hlt hk)
      go_wp2
      have hS0 : (wr.setCell ⟨w.heap.size, 0, none⟩ (.int .u64 (w0 (fromN s k)))).cell? ⟨w.heap.size, 0, none⟩ = some (.int .u64 (w0 (fromN s k))) := World.cell?_setCell_same _ _ _ r0
      have hS1 : ((wr.setCell ⟨w.heap.size, 0, none⟩ (.int .u64 (w0 (fromN s k)))).setCell ⟨w.heap.size, 1, none⟩ (.int .u64 (w1 (fromN s k)))).cell? ⟨w.heap.size, 1, none⟩ = some (.int .u64 (w1 (fromN s k))) := World.cell?_setCell_same _ _ _ ((World.cell?_setCell_other _ _ _ _ (by simp)).trans r1)
      have hS2 : (((wr.setCell ⟨w.heap.size, 0, none⟩ (.int .u64 (w0 (fromN s k)))).setCell ⟨w.heap.size, 1, none⟩ (.int .u64 (w1 (fromN s k)))).setCell ⟨w.heap.size, 2, none⟩ (.int .u64 (w2 (fromN s k)))).cell? ⟨w.heap.size, 2, none⟩ = some (.int .u64 (w2 (fromN s k))) := World.cell?_setCell_same _ _ _ ((World.cell?_setCell_other _ _ _ _ (by simp)).trans ((World.cell?_setCell_other _ _ _ _ (by simp)).trans r2))
      have hS3 : ((((wr.setCell ⟨w.heap.size, 0, none⟩ (.int .u64 (w0 (fromN s k)))).setCell ⟨w.heap.size, 1, none⟩ (.int .u64 (w1 (fromN s k)))).setCell ⟨w.heap.size, 2, none⟩ (.int .u64 (w2 (fromN s k)))).setCell ⟨w.heap.size, 3, none⟩ (.int .u64 (w3 (fromN s k)))).cell? ⟨w.heap.size, 3, none⟩ = some (.int .u64 (w3 (fromN s k))) := World.cell?_setCell_same _ _ _ ((World.cell?_setCell_other _ _ _ _ (by simp)).trans ((World.cell?_setCell_other _ _ _ _ (by simp)).trans ((World.cell?_setCell_other _ _ _ _ (by simp)).trans r3)))
      refine bodyPost_ret (v := .tuple #[uv (fromN s k), .int .i64 0]) (by simp [results, Tryd.results42, go_sem, hS0, hS1, hS2, hS3]) rfl ?_
      refine ⟨by rw [HE.out], ?_⟩
      exact ((((JB.setCell (by simp) _).setCell (by simp) _).setCell (by simp) _).setCell (by simp) _)
end Go.Proofs.YtmmloghbnpfedaaDoor

namespace Go.Proofs.YtmmloghbnpfedaaDoor
open Go Go.RowKit
set_option linter.unusedVariables false
theorem dAt_dgs (A q : Nat) (h : q < 16) : (dgs A 16).getD q 0 = dg A q := by
  unfold dgs
  simp [List.getD, List.getElem?_map, List.getElem?_range h]
theorem sv_big (s : ByteArray) (h : s.size ≤ 32) : sv (tl s) < big := by
  have h1 := sv_lt (tl s)
  have h2 : 256 ^ (tl s).length ≤ 256 ^ 32 := Nat.pow_le_pow_right (by omega) h
  have h3 : (256 : Nat) ^ 32 = big := rfl
  omega
theorem sv_take (s : ByteArray) (k : Nat) (h : k < s.size) : sv ((tl s).take (k + 1)) = 256 * sv ((tl s).take k) + by_ s k := by
  have h1 : k < (tl s).length := h
  rw [List.take_succ_eq_append_getElem h1, sv_snoc]
  unfold by_; rw [List.getD_eq_getElem?_getD, List.getElem?_eq_getElem h1]; rfl
end Go.Proofs.YtmmloghbnpfedaaDoor

namespace Go.Proofs.YtmmloghbnpfedaaDoor
open Go Go.RowKit
set_option linter.unusedVariables false
theorem byte0 (A : Nat) : IntKind.u8.wrap (((dg A 15 / 256 : Nat)) : Int) = Go.Proofs.YtmmloghbnpfedaaDoor.w3 A / 72057594037927936 % 256 := by
  unfold dg w3; rw [wr_u8]; simp only [Nat.reducePow]; omega
theorem byte1 (A : Nat) : IntKind.u8.wrap (((dg A 15 % 256 : Nat)) : Int) = Go.Proofs.YtmmloghbnpfedaaDoor.w3 A / 281474976710656 % 256 := by
  unfold dg w3; rw [wr_u8]; simp only [Nat.reducePow]; omega
theorem byte2 (A : Nat) : IntKind.u8.wrap (((dg A 14 / 256 : Nat)) : Int) = Go.Proofs.YtmmloghbnpfedaaDoor.w3 A / 1099511627776 % 256 := by
  unfold dg w3; rw [wr_u8]; simp only [Nat.reducePow]; omega
theorem byte3 (A : Nat) : IntKind.u8.wrap (((dg A 14 % 256 : Nat)) : Int) = Go.Proofs.YtmmloghbnpfedaaDoor.w3 A / 4294967296 % 256 := by
  unfold dg w3; rw [wr_u8]; simp only [Nat.reducePow]; omega
theorem byte4 (A : Nat) : IntKind.u8.wrap (((dg A 13 / 256 : Nat)) : Int) = Go.Proofs.YtmmloghbnpfedaaDoor.w3 A / 16777216 % 256 := by
  unfold dg w3; rw [wr_u8]; simp only [Nat.reducePow]; omega
theorem byte5 (A : Nat) : IntKind.u8.wrap (((dg A 13 % 256 : Nat)) : Int) = Go.Proofs.YtmmloghbnpfedaaDoor.w3 A / 65536 % 256 := by
  unfold dg w3; rw [wr_u8]; simp only [Nat.reducePow]; omega
theorem byte6 (A : Nat) : IntKind.u8.wrap (((dg A 12 / 256 : Nat)) : Int) = Go.Proofs.YtmmloghbnpfedaaDoor.w3 A / 256 % 256 := by
  unfold dg w3; rw [wr_u8]; simp only [Nat.reducePow]; omega
theorem byte7 (A : Nat) : IntKind.u8.wrap (((dg A 12 % 256 : Nat)) : Int) = Go.Proofs.YtmmloghbnpfedaaDoor.w3 A % 256 := by
  unfold dg w3; rw [wr_u8]; simp only [Nat.reducePow]; omega
theorem byte8 (A : Nat) : IntKind.u8.wrap (((dg A 11 / 256 : Nat)) : Int) = Go.Proofs.YtmmloghbnpfedaaDoor.w2 A / 72057594037927936 % 256 := by
  unfold dg w2; rw [wr_u8]; simp only [Nat.reducePow]; omega
theorem byte9 (A : Nat) : IntKind.u8.wrap (((dg A 11 % 256 : Nat)) : Int) = Go.Proofs.YtmmloghbnpfedaaDoor.w2 A / 281474976710656 % 256 := by
  unfold dg w2; rw [wr_u8]; simp only [Nat.reducePow]; omega
theorem byte10 (A : Nat) : IntKind.u8.wrap (((dg A 10 / 256 : Nat)) : Int) = Go.Proofs.YtmmloghbnpfedaaDoor.w2 A / 1099511627776 % 256 := by
  unfold dg w2; rw [wr_u8]; simp only [Nat.reducePow]; omega
theorem byte11 (A : Nat) : IntKind.u8.wrap (((dg A 10 % 256 : Nat)) : Int) = Go.Proofs.YtmmloghbnpfedaaDoor.w2 A / 4294967296 % 256 := by
  unfold dg w2; rw [wr_u8]; simp only [Nat.reducePow]; omega
theorem byte12 (A : Nat) : IntKind.u8.wrap (((dg A 9 / 256 : Nat)) : Int) = Go.Proofs.YtmmloghbnpfedaaDoor.w2 A / 16777216 % 256 := by
  unfold dg w2; rw [wr_u8]; simp only [Nat.reducePow]; omega
theorem byte13 (A : Nat) : IntKind.u8.wrap (((dg A 9 % 256 : Nat)) : Int) = Go.Proofs.YtmmloghbnpfedaaDoor.w2 A / 65536 % 256 := by
  unfold dg w2; rw [wr_u8]; simp only [Nat.reducePow]; omega
theorem byte14 (A : Nat) : IntKind.u8.wrap (((dg A 8 / 256 : Nat)) : Int) = Go.Proofs.YtmmloghbnpfedaaDoor.w2 A / 256 % 256 := by
  unfold dg w2; rw [wr_u8]; simp only [Nat.reducePow]; omega
theorem byte15 (A : Nat) : IntKind.u8.wrap (((dg A 8 % 256 : Nat)) : Int) = Go.Proofs.YtmmloghbnpfedaaDoor.w2 A % 256 := by
  unfold dg w2; rw [wr_u8]; simp only [Nat.reducePow]; omega
theorem byte16 (A : Nat) : IntKind.u8.wrap (((dg A 7 / 256 : Nat)) : Int) = Go.Proofs.YtmmloghbnpfedaaDoor.w1 A / 72057594037927936 % 256 := by
  unfold dg w1; rw [wr_u8]; simp only [Nat.reducePow]; omega
theorem byte17 (A : Nat) : IntKind.u8.wrap (((dg A 7 % 256 : Nat)) : Int) = Go.Proofs.YtmmloghbnpfedaaDoor.w1 A / 281474976710656 % 256 := by
  unfold dg w1; rw [wr_u8]; simp only [Nat.reducePow]; omega
theorem byte18 (A : Nat) : IntKind.u8.wrap (((dg A 6 / 256 : Nat)) : Int) = Go.Proofs.YtmmloghbnpfedaaDoor.w1 A / 1099511627776 % 256 := by
  unfold dg w1; rw [wr_u8]; simp only [Nat.reducePow]; omega
theorem byte19 (A : Nat) : IntKind.u8.wrap (((dg A 6 % 256 : Nat)) : Int) = Go.Proofs.YtmmloghbnpfedaaDoor.w1 A / 4294967296 % 256 := by
  unfold dg w1; rw [wr_u8]; simp only [Nat.reducePow]; omega
theorem byte20 (A : Nat) : IntKind.u8.wrap (((dg A 5 / 256 : Nat)) : Int) = Go.Proofs.YtmmloghbnpfedaaDoor.w1 A / 16777216 % 256 := by
  unfold dg w1; rw [wr_u8]; simp only [Nat.reducePow]; omega
theorem byte21 (A : Nat) : IntKind.u8.wrap (((dg A 5 % 256 : Nat)) : Int) = Go.Proofs.YtmmloghbnpfedaaDoor.w1 A / 65536 % 256 := by
  unfold dg w1; rw [wr_u8]; simp only [Nat.reducePow]; omega
theorem byte22 (A : Nat) : IntKind.u8.wrap (((dg A 4 / 256 : Nat)) : Int) = Go.Proofs.YtmmloghbnpfedaaDoor.w1 A / 256 % 256 := by
  unfold dg w1; rw [wr_u8]; simp only [Nat.reducePow]; omega
theorem byte23 (A : Nat) : IntKind.u8.wrap (((dg A 4 % 256 : Nat)) : Int) = Go.Proofs.YtmmloghbnpfedaaDoor.w1 A % 256 := by
  unfold dg w1; rw [wr_u8]; simp only [Nat.reducePow]; omega
theorem byte24 (A : Nat) : IntKind.u8.wrap (((dg A 3 / 256 : Nat)) : Int) = Go.Proofs.YtmmloghbnpfedaaDoor.w0 A / 72057594037927936 % 256 := by
  unfold dg w0; rw [wr_u8]; simp only [Nat.reducePow]; omega
theorem byte25 (A : Nat) : IntKind.u8.wrap (((dg A 3 % 256 : Nat)) : Int) = Go.Proofs.YtmmloghbnpfedaaDoor.w0 A / 281474976710656 % 256 := by
  unfold dg w0; rw [wr_u8]; simp only [Nat.reducePow]; omega
theorem byte26 (A : Nat) : IntKind.u8.wrap (((dg A 2 / 256 : Nat)) : Int) = Go.Proofs.YtmmloghbnpfedaaDoor.w0 A / 1099511627776 % 256 := by
  unfold dg w0; rw [wr_u8]; simp only [Nat.reducePow]; omega
theorem byte27 (A : Nat) : IntKind.u8.wrap (((dg A 2 % 256 : Nat)) : Int) = Go.Proofs.YtmmloghbnpfedaaDoor.w0 A / 4294967296 % 256 := by
  unfold dg w0; rw [wr_u8]; simp only [Nat.reducePow]; omega
theorem byte28 (A : Nat) : IntKind.u8.wrap (((dg A 1 / 256 : Nat)) : Int) = Go.Proofs.YtmmloghbnpfedaaDoor.w0 A / 16777216 % 256 := by
  unfold dg w0; rw [wr_u8]; simp only [Nat.reducePow]; omega
theorem byte29 (A : Nat) : IntKind.u8.wrap (((dg A 1 % 256 : Nat)) : Int) = Go.Proofs.YtmmloghbnpfedaaDoor.w0 A / 65536 % 256 := by
  unfold dg w0; rw [wr_u8]; simp only [Nat.reducePow]; omega
theorem byte30 (A : Nat) : IntKind.u8.wrap (((dg A 0 / 256 : Nat)) : Int) = Go.Proofs.YtmmloghbnpfedaaDoor.w0 A / 256 % 256 := by
  unfold dg w0; rw [wr_u8]; simp only [Nat.reducePow]; omega
theorem byte31 (A : Nat) : IntKind.u8.wrap (((dg A 0 % 256 : Nat)) : Int) = Go.Proofs.YtmmloghbnpfedaaDoor.w0 A % 256 := by
  unfold dg w0; rw [wr_u8]; simp only [Nat.reducePow]; omega
def bnI (A q : Nat) : Int := (bn A).getD q 0
theorem byteE (A j : Nat) (h1 : 1 ≤ j) (h2 : j ≤ 16) : IntKind.u8.wrap ((((dgs A 16).getD (j - 1) 0 / 256 : Nat)) : Int) = bnI A (32 - 2 * j) := by
  have h : j = 1 ∨ j = 2 ∨ j = 3 ∨ j = 4 ∨ j = 5 ∨ j = 6 ∨ j = 7 ∨ j = 8 ∨ j = 9 ∨ j = 10 ∨ j = 11 ∨ j = 12 ∨ j = 13 ∨ j = 14 ∨ j = 15 ∨ j = 16 := by omega
  rcases h with rfl | rfl | rfl | rfl | rfl | rfl | rfl | rfl | rfl | rfl | rfl | rfl | rfl | rfl | rfl | rfl
  · rw [dAt_dgs A 0 (by omega)]; exact byte30 A
  · rw [dAt_dgs A 1 (by omega)]; exact byte28 A
  · rw [dAt_dgs A 2 (by omega)]; exact byte26 A
  · rw [dAt_dgs A 3 (by omega)]; exact byte24 A
  · rw [dAt_dgs A 4 (by omega)]; exact byte22 A
  · rw [dAt_dgs A 5 (by omega)]; exact byte20 A
  · rw [dAt_dgs A 6 (by omega)]; exact byte18 A
  · rw [dAt_dgs A 7 (by omega)]; exact byte16 A
  · rw [dAt_dgs A 8 (by omega)]; exact byte14 A
  · rw [dAt_dgs A 9 (by omega)]; exact byte12 A
  · rw [dAt_dgs A 10 (by omega)]; exact byte10 A
  · rw [dAt_dgs A 11 (by omega)]; exact byte8 A
  · rw [dAt_dgs A 12 (by omega)]; exact byte6 A
  · rw [dAt_dgs A 13 (by omega)]; exact byte4 A
  · rw [dAt_dgs A 14 (by omega)]; exact byte2 A
  · rw [dAt_dgs A 15 (by omega)]; exact byte0 A
theorem byteO (A j : Nat) (h1 : 1 ≤ j) (h2 : j ≤ 16) : IntKind.u8.wrap ((((dgs A 16).getD (j - 1) 0 % 256 : Nat)) : Int) = bnI A (32 - 2 * j + 1) := by
  have h : j = 1 ∨ j = 2 ∨ j = 3 ∨ j = 4 ∨ j = 5 ∨ j = 6 ∨ j = 7 ∨ j = 8 ∨ j = 9 ∨ j = 10 ∨ j = 11 ∨ j = 12 ∨ j = 13 ∨ j = 14 ∨ j = 15 ∨ j = 16 := by omega
  rcases h with rfl | rfl | rfl | rfl | rfl | rfl | rfl | rfl | rfl | rfl | rfl | rfl | rfl | rfl | rfl | rfl
  · rw [dAt_dgs A 0 (by omega)]; exact byte31 A
  · rw [dAt_dgs A 1 (by omega)]; exact byte29 A
  · rw [dAt_dgs A 2 (by omega)]; exact byte27 A
  · rw [dAt_dgs A 3 (by omega)]; exact byte25 A
  · rw [dAt_dgs A 4 (by omega)]; exact byte23 A
  · rw [dAt_dgs A 5 (by omega)]; exact byte21 A
  · rw [dAt_dgs A 6 (by omega)]; exact byte19 A
  · rw [dAt_dgs A 7 (by omega)]; exact byte17 A
  · rw [dAt_dgs A 8 (by omega)]; exact byte15 A
  · rw [dAt_dgs A 9 (by omega)]; exact byte13 A
  · rw [dAt_dgs A 10 (by omega)]; exact byte11 A
  · rw [dAt_dgs A 11 (by omega)]; exact byte9 A
  · rw [dAt_dgs A 12 (by omega)]; exact byte7 A
  · rw [dAt_dgs A 13 (by omega)]; exact byte5 A
  · rw [dAt_dgs A 14 (by omega)]; exact byte3 A
  · rw [dAt_dgs A 15 (by omega)]; exact byte1 A
theorem bn_take (A k : Nat) (h : k + 2 ≤ 32) : List.take (k + 2) (bn A) = List.take k (bn A) ++ [bnI A k, bnI A (k + 1)] := by
  have hl : (bn A).length = 32 := rfl
  rw [List.take_succ_eq_append_getElem (show k + 1 < (bn A).length by omega), List.take_succ_eq_append_getElem (show k < (bn A).length by omega), List.append_assoc]
  simp [bnI, List.getD_eq_getElem?_getD, List.getElem?_eq_getElem (show k < (bn A).length by omega), List.getElem?_eq_getElem (show k + 1 < (bn A).length by omega)]
theorem bn_map (A k : Nat) (h : k + 2 ≤ 32) : List.map (Value.int .u8) (List.take (k + 2) (bn A)) = List.map (Value.int .u8) (List.take k (bn A)) ++ [.int .u8 (bnI A k), .int .u8 (bnI A (k + 1))] := by rw [bn_take A k h, List.map_append]; rfl
set_option maxRecDepth 100000 in
set_option maxHeartbeats 2000000 in
theorem refbytes_fn (A : Nat) (hA : A < big) : Fn Tryd.prog 34 #[uv A] (.string (bs A)) := by
  refine Fn.intro (c := codeOf Tryd.f34) [.tmp 2] 30 Tryd.func34 kr kr kr fun w => ?_
  have H0 := St.start w
  refine rS [.b, .v] H0 kr fun gs1 w1 H1 => ?_
  clear H0
  refine g_sreg [0, 1, 2] kr kr ?_
  refine rp [.l 0] H1 kr fun gs2 w2 H2 => ?_
  show WPs _ _ _ _ [1, 2] _ _
  clear H1
  refine s_callS H2 (some 7) 35 #[uv A] (fun _ => True) 3 1 (fun curZ capZ nZ lZ => (nZ = List.length lZ ∧ Rw 1 curZ capZ nZ (cellsD lZ) ∧ Ok lZ ∧ (lZ = dgs A 16 ∧ vl lZ = A ∧ List.length lZ = 16))) (of_fn A hA) trivial kr kr ?_
  intro b_1 cap_2 n_3 cur_4 l_5 w3 H3 hs_6; clear H2
  obtain ⟨hs_6n, hs_6r, hs_6o, hs_6s⟩ := hs_6
  obtain ⟨hs_6a, hs_6b, hs_6c⟩ := hs_6s
  refine rp [.v] H3 kr fun gs4 w4 H4 => ?_
  show WPs _ _ _ _ [] _ _
  clear H3
  refine s_nil ?_
  refine rS [.nw (fun b => .slice (some ⟨b, 0, none⟩) 0 0) #[] 5, .v] H4 kr fun gs5 w5 H5 => ?_
  clear H4
  refine g_seq kr ?_
  refine rS [.v] H5 kr fun gs6 w6 H6 => ?_
  clear H5
  refine g_block 0 kr ?_
  have HL1 : St w.heap.size w w6 [(b_1, Obj.cells cur_4 3 (0, 0)), ((gs1 0).b, Obj.cells (Value.cells (uv A)) 24 (0, 0)), ((gs5 0).b, Obj.cells #[] 5 (0, 0))] := H6.as kr
  clear H6
  have HD2 : St w.heap.size w w6 [(b_1, Obj.cells cur_4 3 (0, 0)), ((gs5 0).b, Obj.cells #[] 5 (0, 0))] := HL1.sub (List.Sublist.cons_cons _ (List.Sublist.cons _ (List.Sublist.cons_cons _ List.Sublist.slnil)))
  have HF3 : St w.heap.size w w6 [(b_1, Obj.cells cur_4 3 (0, 0)), ((gs5 0).b, Obj.cells #[] 5 (0, 0))] := HD2.front 0 kr kr
  have HF4 : St w.heap.size w w6 [((gs5 0).b, Obj.cells #[] 5 (0, 0)), (b_1, Obj.cells cur_4 3 (0, 0))] := HF3.front 1 kr kr
  refine g_loop kr (fun mz ρ ww => ∃ (b : Nat) (cap : Nat) (n : Nat) (cur : Array Value) (j : Nat), j = mz ∧ (n = 32 - 2 * j) ∧ (Rw 1 cur cap n (List.map (Value.int .u8) (List.take (32 - 2 * j) (bn A)))) ∧ (j ≤ 16) ∧ St w.heap.size w ww [(b, Obj.cells cur 5 (0, 0)), (b_1, Obj.cells cur_4 3 (0, 0))] ∧ Is [(0, uv A), (1, .pointer (some ⟨(gs1 0).b, 0, none⟩)), (2, .string (⟨#[]⟩)), (3, .slice (some ⟨b_1, 0, none⟩) n_3 cap_2), (4, .slice (some ⟨b, 0, none⟩) n cap), (5, .int .i64 (((j : Nat) : Int) - 1))] ρ) 16 ⟨(gs5 0).b, 0, 0, #[], 16, rfl, rfl, (Rw.lit #[] 0 rfl (by unfold maxLen; omega)), (by omega), HF4, (Is.of ⟨kr, kr, kr, kr, kr, kr, trivial⟩)⟩ ?_
  clear HF4
  rintro _ _ w7 ⟨b, cap, n, cur, j, rfl, hn, hr, hj, H7, _, rfl⟩
  refine g_seq kr ?_
  refine g_sreg [0, 1] kr kr ?_
  refine rp [.v] H7 kr fun gs8 w8 H8 => ?_
  show WPs _ _ _ _ [1] _ _
  clear H7
  by_cases hc5 : (((j : Nat) : Int) - 1 : Int) ≥ 0
  · skip
    refine rp [.e (v := .bool (decide (0 ≤ ((j : Nat) : Int) - 1))) (v' := .bool true) (bool_eq (decide_eq_true (by omega)))] H8 kr fun gs9 w9 H9 => ?_
    show WPs _ _ _ _ [] _ _
    clear H8
    refine s_nil ?_
    refine g_cond_t kr kr ?_
    refine g_skip kr ?_
    show WP _ _ _ _ _ _
    refine g_seq kr ?_
    refine g_block 1 kr ?_
    refine g_now 5 (v := .int .i64 (((j : Nat) : Int) - 1)) (v' := .int .i64 ((j - 1 : Nat) : Int)) (int_eq (show (((j : Nat) : Int) - 1) = ((j - 1 : Nat) : Int) from by omega)) kr ?_
    refine g_now 9 (v := .int .i64 (((j : Nat) : Int) - 1)) (v' := .int .i64 ((j - 1 : Nat) : Int)) (int_eq (show (((j : Nat) : Int) - 1) = ((j - 1 : Nat) : Int) from by omega)) kr ?_
    have hdd := ok_getD hs_6o (j - 1)
    have HL6 : St w.heap.size w w9 [(b, Obj.cells cur 5 (0, 0)), (b_1, Obj.cells cur_4 3 (0, 0))] := H9.as kr
    clear H9
    refine D2.g_draw0 [0, 1, 2, 3, 4, 5, 6, 7, 8, 9, 10, 11, 12, 13, 14, 15] [((some 13), fun _ => .slice (some ⟨b, 0, none⟩) n cap), ((some 14), fun _ => .slice (some ⟨b_1, 0, none⟩) n_3 cap_2), ((some 15), fun _ => .int .i64 ((j - 1 : Nat) : Int)), ((some 16), fun _ => .pointer (some ⟨b_1, 0 + (j - 1) * 1, none⟩)), ((some 17), fun _ => .int .i64 ((List.getD l_5 (j - 1) 0 : Nat) : Int)), ((some 18), fun _ => .int .i64 (((List.getD l_5 (j - 1) 0) / 256 : Nat) : Int)), ((some 19), fun _ => .int .u8 (bnI A (32 - 2 * j))), ((some 20), fun _ => .slice (some ⟨b_1, 0, none⟩) n_3 cap_2), ((some 21), fun _ => .int .i64 ((j - 1 : Nat) : Int)), ((some 22), fun _ => .pointer (some ⟨b_1, 0 + (j - 1) * 1, none⟩)), ((some 23), fun _ => .int .i64 ((List.getD l_5 (j - 1) 0 : Nat) : Int)), ((some 24), fun _ => .int .i64 (((List.getD l_5 (j - 1) 0) % 256 : Nat) : Int)), ((some 25), fun _ => .int .u8 (bnI A (32 - 2 * j + 1))), ((some 26), fun b => .slice (some ⟨b.b, 0, none⟩) 2 2), ((some 27), fun y => .slice (some ⟨y.b, 0, none⟩) y.n y.cap), ((some 4), fun y => .slice (some ⟨y.b, 0, none⟩) (y.n) (y.cap))] (D2.Pre w.heap.size w (fun L g => [(true, (bif L 14 then ((g 14).b, Obj.cells ((g 14).cur) 5 (0, 0)) else (b, Obj.cells cur 5 (0, 0)))), (true, (b_1, Obj.cells cur_4 3 (0, 0))), (L 13, ((g 13).b, Obj.cells #[.int .u8 (bnI A (32 - 2 * j)), .int .u8 (bnI A (32 - 2 * j + 1))] 5 (0, 0)))]) (fun L g => (L 14 = true → ((g 14).n = n + 2 ∧ Rw 1 (g 14).cur (g 14).cap (n + 2) (List.map (Value.int .u8) (List.take (32 - 2 * j + 2) (bn A))))) ∧ (L 15 = true → g 15 = g 14) ∧ True)) kr kr kr ⟨D2.StE.of HL6.drew _ kr, ⟨(fun h => nomatch h), (fun h => nomatch h), trivial⟩⟩ ⟨?_, ?_, ?_, ?_, ?_, ?_, ?_, ?_, ?_, ?_, ?_, ?_, ?_, ?_, ?_, ?_, trivial⟩ ?_
    · exact D2.gv_val (fun _ _ _ h => h) (fun g w => by kernel_rfl)
    · exact D2.gv_val (fun _ _ _ h => h) (fun g w => by kernel_rfl)
    · exact D2.gv_val (fun _ _ _ h => h) (fun g w => by kernel_rfl)
    · exact D2.gv_op (fun _ _ _ h => h) _ (fun g => by kernel_rfl) (fun g => (fun o w ho => idxS_run (kd := .i64) (t := 60) (e := 3) (size := 1) (bytes := 8) kr (x := (.tmp 14)) (y := (.tmp 15)) b_1 0 n_3 cap_2 (j - 1) ho kr kr (by omega) w))
    · exact D2.gv_load1 3 (.tmp 16) 1 (fun g => b_1) (fun g => 0 + (j - 1) * 1) (fun g => cur_4) 3 (0, 0) (fun _ _ _ h => h) (fun g => by kernel_rfl) (fun g => by kernel_rfl) (fun L g hN => kr) kr (fun L g hN hF => by exact (hs_6r.atD (by omega) hs_6n))
    · exact D2.gv_valE (fun _ _ _ h => h) (V' := .int .i64 (IntKind.i64.wrap (((List.getD l_5 (j - 1) 0 : Nat) : Int).tdiv 256))) (fun g w => by kernel_rfl) (int_eq (quoN_i64 (a := List.getD l_5 (j - 1) 0) (b := 256) (by omega)))
    · exact D2.gv_valE (fun _ _ _ h => h) (V' := .int .u8 (IntKind.u8.wrap ((((List.getD l_5 (j - 1) 0) / 256 : Nat) : Int)))) (fun g w => by kernel_rfl) (int_eq (by rw [hs_6a]; exact byteE A j (by omega) (by omega)))
    · exact D2.gv_val (fun _ _ _ h => h) (fun g w => by kernel_rfl)
    · exact D2.gv_val (fun _ _ _ h => h) (fun g w => by kernel_rfl)
    · exact D2.gv_op (fun _ _ _ h => h) _ (fun g => by kernel_rfl) (fun g => (fun o w ho => idxS_run (kd := .i64) (t := 60) (e := 3) (size := 1) (bytes := 8) kr (x := (.tmp 20)) (y := (.tmp 21)) b_1 0 n_3 cap_2 (j - 1) ho kr kr (by omega) w))
    · exact D2.gv_load1 3 (.tmp 22) 1 (fun g => b_1) (fun g => 0 + (j - 1) * 1) (fun g => cur_4) 3 (0, 0) (fun _ _ _ h => h) (fun g => by kernel_rfl) (fun g => by kernel_rfl) (fun L g hN => kr) kr (fun L g hN hF => by exact (hs_6r.atD (by omega) hs_6n))
    · exact D2.gv_valE (fun _ _ _ h => h) (V' := .int .i64 (Int.tmod ((List.getD l_5 (j - 1) 0 : Nat) : Int) 256)) (fun g w => by kernel_rfl) (int_eq (remN (List.getD l_5 (j - 1) 0) 256))
    · exact D2.gv_valE (fun _ _ _ h => h) (V' := .int .u8 (IntKind.u8.wrap ((((List.getD l_5 (j - 1) 0) % 256 : Nat) : Int)))) (fun g w => by kernel_rfl) (int_eq (by rw [hs_6a]; exact byteO A j (by omega) (by omega)))
    · exact D2.gv_new (fun b => .slice (some ⟨b, 0, none⟩) 2 2) #[.int .u8 (bnI A (32 - 2 * j)), .int .u8 (bnI A (32 - 2 * j + 1))] 5 2 (fun g w => by kernel_rfl) (fun L g b hN => kr) (fun L g b hN hF => hF)
    · exact D2.gv_append 69 5 1 1 (.tmp 13) (.tmp 26) 0 2 (fun g => b) (fun g => (g 13).b) (fun g => n) (fun g => 2) (fun g => cap) (fun g => 2) (fun g => cur) (fun g => #[.int .u8 (bnI A (32 - 2 * j)), .int .u8 (bnI A (32 - 2 * j + 1))]) 5 (0, 0) (fun g => (List.map (Value.int .u8) (List.take (32 - 2 * j) (bn A)))) (fun g => [.int .u8 (bnI A (32 - 2 * j)), .int .u8 (bnI A (32 - 2 * j + 1))]) (fun g => by kernel_rfl) kr (fun g => by kernel_rfl) (fun L g hN => (by have hL14 : L 14 = false := hN.1; exact D2.ent_get' (p := true) (e := (bif L 14 then ((g 14).b, Obj.cells ((g 14).cur) 5 (0, 0)) else (b, Obj.cells cur 5 (0, 0)))) kr (by rfl) (by simp only [hL14, cond_true, cond_false] <;> rfl))) (fun L g hN hF => by exact hr) (fun g => by kernel_rfl) (fun L g hN => (by have hL13 : L 13 = true := (hN.bef 13 kr); exact D2.ent_get' (p := L 13) (e := ((g 13).b, Obj.cells #[.int .u8 (bnI A (32 - 2 * j)), .int .u8 (bnI A (32 - 2 * j + 1))] 5 (0, 0))) kr (by exact hL13) (by simp only [hL13, cond_true, cond_false] <;> rfl))) (fun L g hN hF => by exact ⟨(by rfl), (by rfl), (by intro u hu; simp at hu; first | exact hu.elim | (rcases hu with rfl | rfl | rfl | rfl <;> rfl) | (rcases hu with rfl | rfl <;> rfl) | (subst hu; rfl)), (by omega), (by unfold maxLen; omega)⟩) (fun L g y hN => kr) (fun L g y hN hF hyn hyr => by have hnew := (show (y.n = n + 2 ∧ Rw 1 y.cur y.cap (n + 2) (List.map (Value.int .u8) (List.take (32 - 2 * j + 2) (bn A)))) from ⟨hyn, by rw [bn_map A _ (by omega)]; exact hyr⟩); exact ⟨fun _ => hnew, (fun hx => nomatch (Eq.trans (Eq.symm (show L 15 = true from hx)) (hN.post 15 kr))), trivial⟩)
    · exact D2.gv_valG (fun g => g 14) (fun L g w hN hp => ⟨hp.1, hp.2.1, fun _ => rfl, trivial⟩) (fun g w => by kernel_rfl)
    intro L0 G10 w10 hall HL; clear HL6
    have H10 : St w.heap.size w w10 [((G10 14).b, Obj.cells ((G10 14).cur) 5 (0, 0)), (b_1, Obj.cells cur_4 3 (0, 0)), ((G10 13).b, Obj.cells #[.int .u8 (bnI A (32 - 2 * j)), .int .u8 (bnI A (32 - 2 * j + 1))] 5 (0, 0))] := by have e13 := hall 13 (Nat.le_of_ble_eq_true kr); have e14 := hall 14 (Nat.le_of_ble_eq_true kr); have e15 := hall 15 (Nat.le_of_ble_eq_true kr); have hS := D2.StE.st HL.1; simp only [e13, e14, e15, cond_true, D2.pres] at hS; exact hS
    have hf14_10 : ((G10 14).n = n + 2 ∧ Rw 1 (G10 14).cur (G10 14).cap (n + 2) (List.map (Value.int .u8) (List.take (32 - 2 * j + 2) (bn A)))) := HL.2.1 (hall 14 (Nat.le_of_ble_eq_true kr))
    have hf15_10 : G10 15 = G10 14 := HL.2.2.1 (hall 15 (Nat.le_of_ble_eq_true kr))
    clear HL hall
    rw [← hf15_10] at H10 hf14_10
    show WP _ _ _ _ _ _
    refine g_keep [0, 1, 2, 3, 4, 5, 10] fun ρ1 => ?_
    refine rL [.v, .e (v := .int .i64 (IntKind.i64.wrap (((j - 1 : Nat) : Int) - 1))) (v' := .int .i64 (((j - 1 : Nat) : Int) - 1)) (int_eq (wrap_i64 (by omega) (by omega))), .v] H10 kr fun gs11 w11 H11 => ?_
    clear H10
    have HL7 : St w.heap.size w w11 [((G10 15).b, Obj.cells ((G10 15).cur) 5 (0, 0)), (b_1, Obj.cells cur_4 3 (0, 0)), ((G10 13).b, Obj.cells #[.int .u8 (bnI A (32 - 2 * j)), .int .u8 (bnI A (32 - 2 * j + 1))] 5 (0, 0))] := H11.as kr
    clear H11
    have HD8 : St w.heap.size w w11 [((G10 15).b, Obj.cells ((G10 15).cur) 5 (0, 0)), (b_1, Obj.cells cur_4 3 (0, 0))] := HL7.sub (List.Sublist.cons_cons _ (List.Sublist.cons_cons _ (List.Sublist.cons _ List.Sublist.slnil)))
    show ∃ m, _ ∧ _
    exact ⟨_, (by omega), (G10 15).b, (G10 15).cap, (G10 15).n, (G10 15).cur, (j - 1), rfl, (by have h9 := hf14_10.1; omega), (by have h9 := hf14_10; rw [show 32 - 2 * (j - 1) = 32 - 2 * j + 2 by omega, h9.1]; exact h9.2), (by omega), HD8, (Is.of ⟨kr, kr, kr, kr, kr, kr, trivial⟩)⟩
  · skip
    refine rp [.e (v := .bool (decide (0 ≤ ((j : Nat) : Int) - 1))) (v' := .bool false) (bool_eq (decide_eq_false (by omega)))] H8 kr fun gs12 w12 H12 => ?_
    show WPs _ _ _ _ [] _ _
    clear H8
    refine s_nil ?_
    refine g_cond_f kr kr ?_
    refine g_exit 0 kr ?_
    show WP _ _ _ _ _ _
    obtain rfl : j = 0 := by omega
    refine g_sreg [0, 1, 2] kr kr ?_
    refine rp [.v] H12 kr fun gs13 w13 H13 => ?_
    show WPs _ _ _ _ [1, 2] _ _
    clear H12
    refine s_bytesStr H13 (some 29) 69 9 5 (.tmp 28) 0 b n cap cur 5 (0, 0) (bn A) kr kr kr kr kr kr kr hr ?_
    refine rp [.v] H13 kr fun gs14 w14 H14 => ?_
    show WPs _ _ _ _ [] _ _
    clear H13
    refine s_nil ?_
    refine g_ret kr ?_
    show ∃ vs, Res _ _ _ _ vs ∧ _
    refine ⟨[.string (strOfNums (bn A))], (.tmp (.string (strOfNums (bn A))) kr .nil), ?_, H14.below⟩
    rfl
end Go.Proofs.YtmmloghbnpfedaaDoor

namespace Go.Proofs.YtmmloghbnpfedaaDoor
open Go Go.RowKit
set_option linter.unusedVariables false
set_option maxRecDepth 100000 in
set_option maxHeartbeats 2000000 in
theorem rfrom_fn (s : ByteArray) (hs : ByteArray.size s ≤ 32) : Fn Tryd.prog 43 #[.string s] (uv (sv (tl s))) := by
  refine Fn.intro (c := codeOf Tryd.f43) [.cell 2 24] 23 Tryd.func43 kr kr kr fun w => ?_
  have H0 := St.start w
  refine rS [.a] H0 kr fun gs1 w1 H1 => ?_
  clear H0
  refine rS [.nw (fun b => .slice (some ⟨b, 0, none⟩) 0 0) #[] 3, .v] H1 kr fun gs2 w2 H2 => ?_
  clear H1
  refine g_seq kr ?_
  refine rS [.v] H2 kr fun gs3 w3 H3 => ?_
  clear H2
  refine g_block 0 kr ?_
  have HL1 : St w.heap.size w w3 [((gs1 0).b, Obj.cells #[.int .u64 0, .int .u64 0, .int .u64 0, .int .u64 0] 24 (0, 0)), ((gs2 0).b, Obj.cells #[] 3 (0, 0))] := H3.as kr
  clear H3
  refine g_loop kr (fun mz ρ ww => ∃ (b : Nat) (cap : Nat) (n : Nat) (cur : Array Value) (l : List Nat) (k : Nat), ByteArray.size s + 1 - k = mz ∧ (n = List.length l) ∧ (Rw 1 cur cap n (cellsD l)) ∧ (Ok l) ∧ (vl l = sv (List.take k (tl s))) ∧ (n ≤ 3 * k) ∧ (k ≤ ByteArray.size s) ∧ St w.heap.size w ww [((gs1 0).b, Obj.cells #[.int .u64 0, .int .u64 0, .int .u64 0, .int .u64 0] 24 (0, 0)), (b, Obj.cells cur 3 (0, 0))] ∧ Is [(0, .string s), (2, .pointer (some ⟨(gs1 0).b, 0, none⟩)), (3, .slice (some ⟨b, 0, none⟩) n cap), (4, .int .i64 ((k : Nat) : Int))] ρ) (ByteArray.size s + 1 - 0) ⟨(gs2 0).b, 0, 0, #[], [], 0, rfl, rfl, (Rw.lit #[] 0 rfl (by unfold maxLen; omega)), (by intro d hd; cases hd), rfl, (by omega), (by omega), HL1, (Is.of ⟨kr, kr, kr, kr, trivial⟩)⟩ ?_
  clear HL1
  rintro _ _ w4 ⟨b, cap, n, cur, l, k, rfl, hn, hr, hok, hv, hl, hk, H4, _, rfl⟩
  have hby := by_lt s k; have h256 : vl [256] = 256 := rfl; have hl256 : List.length [256] = 1 := rfl; have hlb : List.length [by_ s k] = 1 := rfl; have hvb : vl [by_ s k] = by_ s k := by simp [vl]
  refine g_seq kr ?_
  refine g_sreg [0, 1, 2, 3] kr kr ?_
  refine rp [.v, .v, .v] H4 kr fun gs5 w5 H5 => ?_
  show WPs _ _ _ _ [3] _ _
  clear H4
  by_cases hc2 : (k : Nat) < ByteArray.size s
  · skip
    refine rp [.e (v := .bool (decide (((k : Nat) : Int) < ((ByteArray.size s : Nat) : Int)))) (v' := .bool true) (bool_eq (decide_eq_true (by omega)))] H5 kr fun gs6 w6 H6 => ?_
    show WPs _ _ _ _ [] _ _
    clear H5
    refine s_nil ?_
    refine g_cond_t kr kr ?_
    refine g_skip kr ?_
    show WP _ _ _ _ _ _
    refine g_seq kr ?_
    refine g_block 1 kr ?_
    have HL3 : St w.heap.size w w6 [((gs1 0).b, Obj.cells #[.int .u64 0, .int .u64 0, .int .u64 0, .int .u64 0] 24 (0, 0)), (b, Obj.cells cur 3 (0, 0))] := H6.as kr
    clear H6
    refine D2.g_draw0 [0, 1, 2, 3, 4, 5, 6, 7, 8, 9] [((some 12), fun _ => .slice (some ⟨b, 0, none⟩) n cap), ((some 13), fun b => .slice (some ⟨b.b, 0, none⟩) 1 1), ((some 14), fun x => .slice (some ⟨x.b, 0, none⟩) x.n x.cap), ((some 15), fun _ => .string s), ((some 16), fun _ => .int .i64 ((k : Nat) : Int)), ((some 17), fun _ => .int .u8 ((by_ s k : Nat) : Int)), ((some 18), fun _ => .int .i64 ((by_ s k : Nat) : Int)), ((some 19), fun b => .slice (some ⟨b.b, 0, none⟩) 1 1), ((some 20), fun x => .slice (some ⟨x.b, 0, none⟩) x.n x.cap), ((some 3), fun y => .slice (some ⟨y.b, 0, none⟩) (y.n) (y.cap))] (D2.Pre w.heap.size w (fun L g => [(true, ((gs1 0).b, Obj.cells #[.int .u64 0, .int .u64 0, .int .u64 0, .int .u64 0] 24 (0, 0))), (true, (b, Obj.cells cur 3 (0, 0))), (L 1, ((g 1).b, Obj.cells #[.int .i64 256] 3 (0, 0))), (L 2, ((g 2).b, Obj.cells ((g 2).cur) 3 (0, 0))), (L 7, ((g 7).b, Obj.cells #[.int .i64 ((by_ s k : Nat) : Int)] 3 (0, 0))), (L 8, ((g 8).b, Obj.cells ((g 8).cur) 3 (0, 0)))]) (fun L g => (L 2 = true → ((g 2).n = List.length ((g 2).l) ∧ Rw 1 (g 2).cur (g 2).cap (g 2).n (cellsD ((g 2).l)) ∧ Ok ((g 2).l) ∧ (vl ((g 2).l) = vl l * vl ([256]) ∧ List.length ((g 2).l) = List.length l + List.length ([256]) + 1))) ∧ (L 8 = true → ((g 8).n = List.length ((g 8).l) ∧ Rw 1 (g 8).cur (g 8).cap (g 8).n (cellsD ((g 8).l)) ∧ Ok ((g 8).l) ∧ (vl ((g 8).l) = vl ((g 2).l) + vl ([by_ s k]) ∧ List.length ((g 8).l) ≤ max (List.length ((g 2).l)) (List.length ([by_ s k])) + 1 ∧ max (List.length ((g 2).l)) (List.length ([by_ s k])) ≤ List.length ((g 8).l)))) ∧ (L 9 = true → g 9 = g 8) ∧ True)) kr kr kr ⟨D2.StE.of HL3.drew _ kr, ⟨(fun h => nomatch h), (fun h => nomatch h), (fun h => nomatch h), trivial⟩⟩ ⟨?_, ?_, ?_, ?_, ?_, ?_, ?_, ?_, ?_, ?_, trivial⟩ ?_
    · exact D2.gv_val (fun _ _ _ h => h) (fun g w => by kernel_rfl)
    · exact D2.gv_new (fun b => .slice (some ⟨b, 0, none⟩) 1 1) #[.int .i64 256] 3 2 (fun g w => by kernel_rfl) (fun L g b hN => kr) (fun L g b hN hF => hF)
    · exact D2.gv_callS 58 (fun g => #[.slice (some ⟨b, 0, none⟩) n cap, .slice (some ⟨(g 1).b, 0, none⟩) 1 1]) (fun g => fun w => w.heap[b]? = some (.cells cur 3 (0, 0)) ∧ w.heap[(g 1).b]? = some (.cells #[.int .i64 256] 3 (0, 0))) 3 1 (fun g curZ capZ nZ lZ => (nZ = List.length lZ ∧ Rw 1 curZ capZ nZ (cellsD lZ) ∧ Ok lZ ∧ (vl lZ = vl l * vl ([256]) ∧ List.length lZ = List.length l + List.length ([256]) + 1))) 3 (fun L g hN hF => by exact times_fn l ([256]) b n cap ((g 1).b) 1 1 cur #[.int .i64 256] hn rfl hr (Rw.lit #[.int .i64 256] 1 (by rfl) (by unfold maxLen; omega)) hok (by intro d hd; simp at hd; omega) (by omega) (by simp)) (fun L g w hN hE hF => by exact ⟨(hE.get 1 kr), (hE.get 2 (by have hL1 : L 1 = true := (hN.bef 1 kr); exact D2.ent_get' (p := L 1) (e := ((g 1).b, Obj.cells #[.int .i64 256] 3 (0, 0))) kr (by exact hL1) (by simp only [hL1, cond_true, cond_false] <;> rfl)))⟩) (fun g w => by kernel_rfl) (fun L g x hN => kr) (fun L g x hN hF hS => ⟨fun _ => hS, (fun hx => nomatch (Eq.trans (Eq.symm (show L 8 = true from hx)) (hN.post 8 kr))), hF.2.2.1, trivial⟩)
    · exact D2.gv_val (fun _ _ _ h => h) (fun g w => by kernel_rfl)
    · exact D2.gv_val (fun _ _ _ h => h) (fun g w => by kernel_rfl)
    · exact D2.gv_op (fun _ _ _ h => h) _ (fun g => by kernel_rfl) (fun g => (fun o w ho => sindex_run (t := 9) (kd := .i64) kr (x := (.tmp 15)) (y := (.tmp 16)) s k ho kr kr (by omega) w))
    · exact D2.gv_valE (fun _ _ _ h => h) (V' := .int .i64 (IntKind.i64.wrap (((by_ s k : Nat) : Int)))) (fun g w => by kernel_rfl) (int_eq (wrapN_i64 (a := by_ s k) (by omega)))
    · exact D2.gv_new (fun b => .slice (some ⟨b, 0, none⟩) 1 1) #[.int .i64 ((by_ s k : Nat) : Int)] 3 4 (fun g w => by kernel_rfl) (fun L g b hN => kr) (fun L g b hN hF => hF)
    · exact D2.gv_callS 59 (fun g => #[.slice (some ⟨(g 2).b, 0, none⟩) ((g 2).n) ((g 2).cap), .slice (some ⟨(g 7).b, 0, none⟩) 1 1]) (fun g => fun w => w.heap[(g 2).b]? = some (.cells (g 2).cur 3 (0, 0)) ∧ w.heap[(g 7).b]? = some (.cells #[.int .i64 ((by_ s k : Nat) : Int)] 3 (0, 0))) 3 1 (fun g curZ capZ nZ lZ => (nZ = List.length lZ ∧ Rw 1 curZ capZ nZ (cellsD lZ) ∧ Ok lZ ∧ (vl lZ = vl ((g 2).l) + vl ([by_ s k]) ∧ List.length lZ ≤ max (List.length ((g 2).l)) (List.length ([by_ s k])) + 1 ∧ max (List.length ((g 2).l)) (List.length ([by_ s k])) ≤ List.length lZ))) 5 (fun L g hN hF => by have hf2 := (hF.1 (hN.bef 2 kr)); exact sum_fn ((g 2).l) ([by_ s k]) ((g 2).b) ((g 2).n) ((g 2).cap) ((g 7).b) 1 1 ((g 2).cur) #[.int .i64 ((by_ s k : Nat) : Int)] hf2.1 rfl hf2.2.1 (Rw.lit #[.int .i64 ((by_ s k : Nat) : Int)] 1 (by rfl) (by unfold maxLen; omega)) hf2.2.2.1 (by intro d hd; simp at hd; omega) (by have := hf2.2.2.2; omega) (by simp)) (fun L g w hN hE hF => by have hf2 := (hF.1 (hN.bef 2 kr)); exact ⟨(hE.get 3 (by have hL2 : L 2 = true := (hN.bef 2 kr); exact D2.ent_get' (p := L 2) (e := ((g 2).b, Obj.cells ((g 2).cur) 3 (0, 0))) kr (by exact hL2) (by simp only [hL2, cond_true, cond_false] <;> rfl))), (hE.get 4 (by have hL7 : L 7 = true := (hN.bef 7 kr); exact D2.ent_get' (p := L 7) (e := ((g 7).b, Obj.cells #[.int .i64 ((by_ s k : Nat) : Int)] 3 (0, 0))) kr (by exact hL7) (by simp only [hL7, cond_true, cond_false] <;> rfl)))⟩) (fun g w => by kernel_rfl) (fun L g x hN => kr) (fun L g x hN hF hS => ⟨hF.1, fun _ => hS, (fun hx => nomatch (Eq.trans (Eq.symm (show L 9 = true from hx)) (hN.post 9 kr))), trivial⟩)
    · exact D2.gv_valG (fun g => g 8) (fun L g w hN hp => ⟨hp.1, hp.2.1, hp.2.2.1, fun _ => rfl, trivial⟩) (fun g w => by kernel_rfl)
    intro L0 G7 w7 hall HL; clear HL3
    have H7 : St w.heap.size w w7 [((gs1 0).b, Obj.cells #[.int .u64 0, .int .u64 0, .int .u64 0, .int .u64 0] 24 (0, 0)), (b, Obj.cells cur 3 (0, 0)), ((G7 1).b, Obj.cells #[.int .i64 256] 3 (0, 0)), ((G7 2).b, Obj.cells ((G7 2).cur) 3 (0, 0)), ((G7 7).b, Obj.cells #[.int .i64 ((by_ s k : Nat) : Int)] 3 (0, 0)), ((G7 8).b, Obj.cells ((G7 8).cur) 3 (0, 0))] := by have e1 := hall 1 (Nat.le_of_ble_eq_true kr); have e2 := hall 2 (Nat.le_of_ble_eq_true kr); have e7 := hall 7 (Nat.le_of_ble_eq_true kr); have e8 := hall 8 (Nat.le_of_ble_eq_true kr); have e9 := hall 9 (Nat.le_of_ble_eq_true kr); have hS := D2.StE.st HL.1; simp only [e1, e2, e7, e8, e9, cond_true, D2.pres] at hS; exact hS
    have hf2_7 : ((G7 2).n = List.length ((G7 2).l) ∧ Rw 1 (G7 2).cur (G7 2).cap (G7 2).n (cellsD ((G7 2).l)) ∧ Ok ((G7 2).l) ∧ (vl ((G7 2).l) = vl l * vl ([256]) ∧ List.length ((G7 2).l) = List.length l + List.length ([256]) + 1)) := HL.2.1 (hall 2 (Nat.le_of_ble_eq_true kr))
    have hf8_7 : ((G7 8).n = List.length ((G7 8).l) ∧ Rw 1 (G7 8).cur (G7 8).cap (G7 8).n (cellsD ((G7 8).l)) ∧ Ok ((G7 8).l) ∧ (vl ((G7 8).l) = vl ((G7 2).l) + vl ([by_ s k]) ∧ List.length ((G7 8).l) ≤ max (List.length ((G7 2).l)) (List.length ([by_ s k])) + 1 ∧ max (List.length ((G7 2).l)) (List.length ([by_ s k])) ≤ List.length ((G7 8).l))) := HL.2.2.1 (hall 8 (Nat.le_of_ble_eq_true kr))
    have hf9_7 : G7 9 = G7 8 := HL.2.2.2.1 (hall 9 (Nat.le_of_ble_eq_true kr))
    clear HL hall
    rw [← hf9_7] at H7 hf8_7
    show WP _ _ _ _ _ _
    refine rL [.v, .e (v := .int .i64 (IntKind.i64.wrap (((k : Nat) : Int) + 1))) (v' := .int .i64 ((k + 1 : Nat) : Int)) (int_eq (wrapAdd_i64 (a := k) (b := 1) (by omega))), .v] H7 kr fun gs8 w8 H8 => ?_
    clear H7
    have HL4 : St w.heap.size w w8 [((gs1 0).b, Obj.cells #[.int .u64 0, .int .u64 0, .int .u64 0, .int .u64 0] 24 (0, 0)), (b, Obj.cells cur 3 (0, 0)), ((G7 1).b, Obj.cells #[.int .i64 256] 3 (0, 0)), ((G7 2).b, Obj.cells ((G7 2).cur) 3 (0, 0)), ((G7 7).b, Obj.cells #[.int .i64 ((by_ s k : Nat) : Int)] 3 (0, 0)), ((G7 9).b, Obj.cells ((G7 9).cur) 3 (0, 0))] := H8.as kr
    clear H8
    have hst := sv_take s k (by omega)
    have HD5 : St w.heap.size w w8 [((gs1 0).b, Obj.cells #[.int .u64 0, .int .u64 0, .int .u64 0, .int .u64 0] 24 (0, 0)), ((G7 9).b, Obj.cells ((G7 9).cur) 3 (0, 0))] := HL4.sub (List.Sublist.cons_cons _ (List.Sublist.cons _ (List.Sublist.cons _ (List.Sublist.cons _ (List.Sublist.cons _ (List.Sublist.cons_cons _ List.Sublist.slnil))))))
    show ∃ m, _ ∧ _
    exact ⟨_, (by omega), (G7 9).b, (G7 9).cap, (G7 9).n, (G7 9).cur, (G7 9).l, k + 1, rfl, hf8_7.1, hf8_7.2.1, hf8_7.2.2.1, (by have e8 := hf8_7.2.2.2; have e2 := hf2_7.2.2.2; rw [hst, e8.1, e2.1, hvb, h256, hv]; omega), (by have e8 := hf8_7.2.2.2; have e2 := hf2_7.2.2.2; have e0 := hf8_7.1; omega), (by omega), HD5, (Is.of ⟨kr, kr, kr, kr, trivial⟩)⟩
  · skip
    refine rp [.e (v := .bool (decide (((k : Nat) : Int) < ((ByteArray.size s : Nat) : Int)))) (v' := .bool false) (bool_eq (decide_eq_false (by omega)))] H5 kr fun gs9 w9 H9 => ?_
    show WPs _ _ _ _ [] _ _
    clear H5
    refine s_nil ?_
    refine g_cond_f kr kr ?_
    refine g_exit 0 kr ?_
    show WP _ _ _ _ _ _
    refine g_sreg [0, 1, 2] kr kr ?_
    refine rp [.v] H9 kr fun gs10 w10 H10 => ?_
    show WPs _ _ _ _ [1, 2] _ _
    clear H9
    refine s_callP H10 (some 22) 77 #[.slice (some ⟨b, 0, none⟩) n cap] (fun w => w.heap[b]? = some (.cells cur 3 (0, 0))) (uv (sv (tl s))) (by have hnum := to_fn l b n cap cur hn hr (by omega) hok; have heq : (vl l % big) = (sv (tl s)) := (by rw [hv, show k = ByteArray.size s by omega, List.take_of_length_le (Nat.le_of_eq (tl_len s)), Nat.mod_eq_of_lt (sv_big s hs)]); rw [heq] at hnum; exact hnum) (H10.get 1 kr) (fun w => by kernel_rfl) kr ?_
    intro w11 H11; clear H10
    refine rp [.s 0] H11 kr fun gs12 w12 H12 => ?_
    show WPs _ _ _ _ [] _ _
    clear H11
    refine s_nil ?_
    refine g_ret kr ?_
    show ∃ vs, Res _ _ _ _ vs ∧ _
    refine ⟨[uv (sv (tl s))], (.agg (b := (gs1 0).b) (Value.cells (uv (sv (tl s)))) 24 (0, 0) kr (H12.get 0 kr) kr .nil), ?_, H12.below⟩
    rfl
end Go.Proofs.YtmmloghbnpfedaaDoor

namespace Go.Proofs.YtmmloghbnpfedaaDoor
open Go Go.RowKit
set_option linter.unusedVariables false
set_option maxRecDepth 100000 in
set_option maxHeartbeats 2000000 in
theorem sbytes_no (r s : Nat) (hr : r < big) (hs : s < big) (v : Int) (hm : mayB r s v = false) : Fn Tryd.prog 14 #[sgv r s (v)] (.tuple #[.string ⟨#[]⟩, .int .i64 1]) := by
  refine Fn.intro (c := codeOf Tryd.f14) [.tmp 2, .tmp 3] 20 Tryd.func14 kr kr kr fun w => ?_
  have H0 := St.start w
  refine rS [.b, .v, .v] H0 kr fun gs1 w1 H1 => ?_
  clear H0
  refine g_seq kr ?_
  refine g_sreg [0, 1, 2] kr kr ?_
  refine rp [.l 0, .c (may_fn r s hr hs (v))] H1 kr fun gs2 w2 H2 => ?_
  show WPs _ _ _ _ [2] _ _
  clear H1
  refine s_now 5 (v := .bool (mayB r s (v))) (v' := .bool false) (bool_eq hm) kr ?_
  refine rp [.v] H2 kr fun gs3 w3 H3 => ?_
  show WPs _ _ _ _ [] _ _
  clear H2
  refine s_nil ?_
  refine g_cond_t kr kr ?_
  refine rS [.v, .v] H3 kr fun gs4 w4 H4 => ?_
  clear H3
  refine g_ret kr ?_
  show ∃ vs, Res _ _ _ _ vs ∧ _
  refine ⟨[.string (⟨#[]⟩), .int .i64 1], (.tmp (.string (⟨#[]⟩)) kr (.tmp (.int .i64 1) kr .nil)), ?_, H4.below⟩
  rfl
set_option maxRecDepth 100000 in
set_option maxHeartbeats 2000000 in
theorem sbytes_yes (r s : Nat) (hr : r < big) (hs : s < big) (v : Int) (hm : mayB r s v = true) : Fn Tryd.prog 14 #[sgv r s (v)] (.tuple #[.string (sbs r s v), .int .i64 0]) := by
  refine Fn.intro (c := codeOf Tryd.f14) [.tmp 2, .tmp 3] 20 Tryd.func14 kr kr kr fun w => ?_
  have H0 := St.start w
  refine rS [.b, .v, .v] H0 kr fun gs1 w1 H1 => ?_
  clear H0
  refine g_seq kr ?_
  refine g_sreg [0, 1, 2] kr kr ?_
  refine rp [.l 0, .c (may_fn r s hr hs (v))] H1 kr fun gs2 w2 H2 => ?_
  show WPs _ _ _ _ [2] _ _
  clear H1
  refine s_now 5 (v := .bool (mayB r s (v))) (v' := .bool true) (bool_eq hm) kr ?_
  refine rp [.v] H2 kr fun gs3 w3 H3 => ?_
  show WPs _ _ _ _ [] _ _
  clear H2
  refine s_nil ?_
  refine g_cond_f kr kr ?_
  refine g_skip kr ?_
  show WP _ _ _ _ _ _
  refine dSg (fun gs4 => [.v, .l 0, .c (f := 29) (args := #[uv r]) (v := .string (bs r)) (bytes_fn r hr), .v, .l 0, .c (f := 29) (args := #[uv s]) (v := .string (bs s)) (bytes_fn s hs), .o (ins := [((.tmp 9), .string (bs r)), ((.tmp 12), .string (bs s))]) (v := .string ((bs r) ++ (bs s))) (fun ρ o w ho hi => sadd_run (t := 9) (t' := 9) (x := (.tmp 9)) (y := (.tmp 12)) (bs r) (bs s) w ho hi.1 hi.2.1 (by rw [bs_size, bs_size]; omega)), .v, .l 0, .v, .nw (fun b => .slice (some ⟨b, 0, none⟩) 1 1) #[.int .u8 (IntKind.u8.wrap v)] 5, .x (ins := [((.tmp 17), .slice (some ⟨(gs4 10).b, 0, none⟩) 1 1)]) [(1, ((gs4 10).b, Obj.cells #[.int .u8 (IntKind.u8.wrap v)] 5 (0, 0)))] (bytesX (t := 69) (t' := 9) (e := 5) [(IntKind.u8.wrap v)] kr kr kr (Rw.lit #[.int .u8 (IntKind.u8.wrap v)] 1 (by rfl) (by unfold maxLen; omega))), .o (ins := [((.tmp 13), .string ((bs r) ++ (bs s))), ((.tmp 18), .string (strOfNums ([(IntKind.u8.wrap v)])))]) (v := .string (((bs r) ++ (bs s)) ++ (strOfNums ([(IntKind.u8.wrap v)])))) (fun ρ o w ho hi => sadd_run (t := 9) (t' := 9) (x := (.tmp 13)) (y := (.tmp 18)) ((bs r) ++ (bs s)) (strOfNums ([(IntKind.u8.wrap v)])) w ho hi.1 hi.2.1 (by rw [sizes_add, bs_size, bs_size]; show 32 + 32 + 1 ≤ _; omega)), .v, .v]) H3 kr fun gs4 w4 H4 => ?_
  clear H3
  refine g_ret kr ?_
  show ∃ vs, Res _ _ _ _ vs ∧ _
  refine ⟨[.string (((bs r) ++ (bs s)) ++ (strOfNums ([(IntKind.u8.wrap v)]))), .int .i64 0], (.tmp (.string (((bs r) ++ (bs s)) ++ (strOfNums ([(IntKind.u8.wrap v)])))) kr (.tmp (.int .i64 0) kr .nil)), ?_, H4.below⟩
  rfl
set_option maxRecDepth 100000 in
set_option maxHeartbeats 2000000 in
theorem rbytes_fn (r s : Nat) (hr : r < big) (hs : s < big) (v : Int) : Fn Tryd.prog 18 #[sgv r s (v)] (.string (sbs r s v)) := by
  refine Fn.intro (c := codeOf Tryd.f18) [.tmp 2] 16 Tryd.func18 kr kr kr fun w => ?_
  have H0 := St.start w
  refine rS [.b, .v] H0 kr fun gs1 w1 H1 => ?_
  clear H0
  refine dSg (fun gs2 => [.v, .l 0, .c (refbytes_fn r hr), .v, .l 0, .c (refbytes_fn s hs), .o (ins := [((.tmp 5), .string (bs r)), ((.tmp 8), .string (bs s))]) (v := .string ((bs r) ++ (bs s))) (fun ρ o w ho hi => sadd_run (t := 9) (t' := 9) (x := (.tmp 5)) (y := (.tmp 8)) (bs r) (bs s) w ho hi.1 hi.2.1 (by rw [bs_size, bs_size]; omega)), .v, .l 0, .v, .nw (fun b => .slice (some ⟨b, 0, none⟩) 1 1) #[.int .u8 (IntKind.u8.wrap v)] 5, .x (ins := [((.tmp 13), .slice (some ⟨(gs2 10).b, 0, none⟩) 1 1)]) [(1, ((gs2 10).b, Obj.cells #[.int .u8 (IntKind.u8.wrap v)] 5 (0, 0)))] (bytesX (t := 69) (t' := 9) (e := 5) [(IntKind.u8.wrap v)] kr kr kr (Rw.lit #[.int .u8 (IntKind.u8.wrap v)] 1 (by rfl) (by unfold maxLen; omega))), .o (ins := [((.tmp 9), .string ((bs r) ++ (bs s))), ((.tmp 14), .string (strOfNums ([(IntKind.u8.wrap v)])))]) (v := .string (((bs r) ++ (bs s)) ++ (strOfNums ([(IntKind.u8.wrap v)])))) (fun ρ o w ho hi => sadd_run (t := 9) (t' := 9) (x := (.tmp 9)) (y := (.tmp 14)) ((bs r) ++ (bs s)) (strOfNums ([(IntKind.u8.wrap v)])) w ho hi.1 hi.2.1 (by rw [sizes_add, bs_size, bs_size]; show 32 + 32 + 1 ≤ _; omega)), .v]) H1 kr fun gs2 w2 H2 => ?_
  clear H1
  refine g_ret kr ?_
  show ∃ vs, Res _ _ _ _ vs ∧ _
  refine ⟨[.string (((bs r) ++ (bs s)) ++ (strOfNums ([(IntKind.u8.wrap v)])))], (.tmp (.string (((bs r) ++ (bs s)) ++ (strOfNums ([(IntKind.u8.wrap v)])))) kr .nil), ?_, H2.below⟩
  rfl
theorem ex32 (t : ByteArray) (h : ByteArray.size t = 65) : ByteArray.size (ByteArray.extract t 0 32) ≤ 32 := by rw [← tl_len, tl_extract, List.length_drop, List.length_take, tl_len, h]; decide
theorem ex64 (t : ByteArray) (h : ByteArray.size t = 65) : ByteArray.size (ByteArray.extract t 32 64) ≤ 32 := by rw [← tl_len, tl_extract, List.length_drop, List.length_take, tl_len, h]; decide
set_option maxRecDepth 100000 in
set_option maxHeartbeats 2000000 in
theorem sfrom_len (t : ByteArray) (ht : ByteArray.size t ≤ 9223372036854775807) (hsz : ByteArray.size t ≠ 65) : Fn Tryd.prog 15 #[.string t] (.tuple #[sgv 0 0 0, .int .i64 4]) := by
  refine Fn.intro (c := codeOf Tryd.f15) [.cell 2 40, .tmp 3] 32 Tryd.func15 kr kr kr fun w => ?_
  have H0 := St.start w
  refine rS [.a, .v] H0 kr fun gs1 w1 H1 => ?_
  clear H0
  refine g_seq kr ?_
  refine rS [.v, .v, .e (v := .bool (!(((ByteArray.size t : Nat) : Int) == 65))) (v' := .bool true) (bool_eq (by rw [beq_eq_false_iff_ne.2 (by omega)]; rfl))] H1 kr fun gs2 w2 H2 => ?_
  clear H1
  refine g_cond_t kr kr ?_
  refine rS [.v, .s 0, .v] H2 kr fun gs3 w3 H3 => ?_
  clear H2
  refine g_ret kr ?_
  show ∃ vs, Res _ _ _ _ vs ∧ _
  refine ⟨[sgv 0 0 (0), .int .i64 4], (.agg (b := (gs1 0).b) (Value.cells (sgv 0 0 (0))) 40 (0, 0) kr (H3.get 0 kr) kr (.tmp (.int .i64 4) kr .nil)), ?_, H3.below⟩
  kernel_rfl
set_option maxRecDepth 100000 in
set_option maxHeartbeats 2000000 in
theorem sfrom_yes (t : ByteArray) (ht : ByteArray.size t ≤ 9223372036854775807) (hsz : ByteArray.size t = 65) (hm : mayB (sv (tl (ByteArray.extract t 0 32))) (sv (tl (ByteArray.extract t 32 64))) (((by_ t 64 : Nat)) : Int) = true) : Fn Tryd.prog 15 #[.string t] (.tuple #[sgv (sv (tl (ByteArray.extract t 0 32))) (sv (tl (ByteArray.extract t 32 64))) (((by_ t 64 : Nat)) : Int), .int .i64 0]) := by
  have hbl := by_lt t 64
  refine Fn.intro (c := codeOf Tryd.f15) [.cell 2 40, .tmp 3] 32 Tryd.func15 kr kr kr fun w => ?_
  have H0 := St.start w
  refine rS [.a, .v] H0 kr fun gs1 w1 H1 => ?_
  clear H0
  refine g_seq kr ?_
  refine rS [.v, .v, .e (v := .bool (!(((ByteArray.size t : Nat) : Int) == 65))) (v' := .bool false) (bool_eq (by rw [beq_iff_eq.2 (by omega)]; rfl))] H1 kr fun gs2 w2 H2 => ?_
  clear H1
  refine g_cond_f kr kr ?_
  refine g_skip kr ?_
  show WP _ _ _ _ _ _
  refine rS [.v, .o (ins := [((.tmp 9), .string t), ((.const (.int .i64 64)), .int .i64 64)]) (v := .int .u8 ((by_ t 64 : Nat) : Int)) (fun ρ o w ho hi => sindex_run (t := 9) (kd := .i64) kr (x := (.tmp 9)) (y := (.const (.int .i64 64))) t 64 ho hi.1 hi.2.1 (by omega) w), .e (v := .int .i64 (IntKind.i64.wrap (((by_ t 64 : Nat) : Int)))) (v' := .int .i64 ((by_ t 64 : Nat) : Int)) (int_eq (wrapN_i64 (a := by_ t 64) (by omega))), .v, .a, .s 1] H2 kr fun gs3 w3 H3 => ?_
  clear H2
  refine rS [.v, .o (ins := [((.tmp 14), .string t), ((.const (.int .i64 32)), .int .i64 32)]) (v := .string (ByteArray.extract t 0 32)) (fun ρ o w ho hi => scut_run (t := 9) (kd := .i64) kr (x := (.tmp 14)) (y := (.const (.int .i64 32))) t 32 ho hi.1 hi.2.1 (by omega) w), .c (from_short (ByteArray.extract t 0 32) (ex32 t hsz)), .v, .v, .v, .v, .s 1] H3 kr fun gs4 w4 H4 => ?_
  clear H3
  refine g_keep [0, 2, 3, 4, 7] fun ρ1 => ?_
  have HK1 := H4.keep
  clear H4
  refine rS [.v, .o (ins := [((.tmp 21), .string t), ((.const (.int .i64 64)), .int .i64 64), ((.const (.int .i64 32)), .int .i64 32)]) (v := .string (ByteArray.extract t 32 64)) (fun ρ o w ho hi => scut2_run (t := 9) (kd := .i64) (kz := .i64) kr (x := (.tmp 21)) (y := (.const (.int .i64 64))) (z := (.const (.int .i64 32))) t 32 64 ho hi.1 hi.2.1 hi.2.2.1 (by omega) (by omega) w), .c (from_short (ByteArray.extract t 32 64) (ex64 t hsz)), .v, .v, .v, .v, .s 1] HK1 kr fun gs5 w5 H5 => ?_
  clear HK1
  refine g_seq kr ?_
  refine g_sreg [0, 1, 2] kr kr ?_
  refine rp [.l 1, .c (may_fn (sv (tl (ByteArray.extract t 0 32))) (sv (tl (ByteArray.extract t 32 64))) (sv_big (ByteArray.extract t 0 32) (ex32 t hsz)) (sv_big (ByteArray.extract t 32 64) (ex64 t hsz)) (((by_ t 64 : Nat) : Int)))] H5 kr fun gs6 w6 H6 => ?_
  show WPs _ _ _ _ [2] _ _
  clear H5
  refine s_now 28 (v := .bool (mayB (sv (tl (ByteArray.extract t 0 32))) (sv (tl (ByteArray.extract t 32 64))) (((by_ t 64 : Nat) : Int)))) (v' := .bool true) (bool_eq hm) kr ?_
  refine rp [.v] H6 kr fun gs7 w7 H7 => ?_
  show WPs _ _ _ _ [] _ _
  clear H6
  refine s_nil ?_
  refine g_cond_f kr kr ?_
  refine g_skip kr ?_
  show WP _ _ _ _ _ _
  refine rS [.l 1, .s 0, .v] H7 kr fun gs8 w8 H8 => ?_
  clear H7
  refine g_ret kr ?_
  show ∃ vs, Res _ _ _ _ vs ∧ _
  refine ⟨[sgv (sv (tl (ByteArray.extract t 0 32))) (sv (tl (ByteArray.extract t 32 64))) (((by_ t 64 : Nat) : Int)), .int .i64 0], (.agg (b := (gs1 0).b) (Value.cells (sgv (sv (tl (ByteArray.extract t 0 32))) (sv (tl (ByteArray.extract t 32 64))) (((by_ t 64 : Nat) : Int)))) 40 (0, 0) kr (H8.get 0 kr) kr (.tmp (.int .i64 0) kr .nil)), ?_, H8.below⟩
  kernel_rfl
set_option maxRecDepth 100000 in
set_option maxHeartbeats 2000000 in
theorem sfrom_no (t : ByteArray) (ht : ByteArray.size t ≤ 9223372036854775807) (hsz : ByteArray.size t = 65) (hm : mayB (sv (tl (ByteArray.extract t 0 32))) (sv (tl (ByteArray.extract t 32 64))) (((by_ t 64 : Nat)) : Int) = false) : Fn Tryd.prog 15 #[.string t] (.tuple #[sgv 0 0 0, .int .i64 4]) := by
  have hbl := by_lt t 64
  refine Fn.intro (c := codeOf Tryd.f15) [.cell 2 40, .tmp 3] 32 Tryd.func15 kr kr kr fun w => ?_
  have H0 := St.start w
  refine rS [.a, .v] H0 kr fun gs1 w1 H1 => ?_
  clear H0
  refine g_seq kr ?_
  refine rS [.v, .v, .e (v := .bool (!(((ByteArray.size t : Nat) : Int) == 65))) (v' := .bool false) (bool_eq (by rw [beq_iff_eq.2 (by omega)]; rfl))] H1 kr fun gs2 w2 H2 => ?_
  clear H1
  refine g_cond_f kr kr ?_
  refine g_skip kr ?_
  show WP _ _ _ _ _ _
  refine rS [.v, .o (ins := [((.tmp 9), .string t), ((.const (.int .i64 64)), .int .i64 64)]) (v := .int .u8 ((by_ t 64 : Nat) : Int)) (fun ρ o w ho hi => sindex_run (t := 9) (kd := .i64) kr (x := (.tmp 9)) (y := (.const (.int .i64 64))) t 64 ho hi.1 hi.2.1 (by omega) w), .e (v := .int .i64 (IntKind.i64.wrap (((by_ t 64 : Nat) : Int)))) (v' := .int .i64 ((by_ t 64 : Nat) : Int)) (int_eq (wrapN_i64 (a := by_ t 64) (by omega))), .v, .a, .s 1] H2 kr fun gs3 w3 H3 => ?_
  clear H2
  refine rS [.v, .o (ins := [((.tmp 14), .string t), ((.const (.int .i64 32)), .int .i64 32)]) (v := .string (ByteArray.extract t 0 32)) (fun ρ o w ho hi => scut_run (t := 9) (kd := .i64) kr (x := (.tmp 14)) (y := (.const (.int .i64 32))) t 32 ho hi.1 hi.2.1 (by omega) w), .c (from_short (ByteArray.extract t 0 32) (ex32 t hsz)), .v, .v, .v, .v, .s 1] H3 kr fun gs4 w4 H4 => ?_
  clear H3
  refine g_keep [0, 2, 3, 4, 7] fun ρ1 => ?_
  have HK1 := H4.keep
  clear H4
  refine rS [.v, .o (ins := [((.tmp 21), .string t), ((.const (.int .i64 64)), .int .i64 64), ((.const (.int .i64 32)), .int .i64 32)]) (v := .string (ByteArray.extract t 32 64)) (fun ρ o w ho hi => scut2_run (t := 9) (kd := .i64) (kz := .i64) kr (x := (.tmp 21)) (y := (.const (.int .i64 64))) (z := (.const (.int .i64 32))) t 32 64 ho hi.1 hi.2.1 hi.2.2.1 (by omega) (by omega) w), .c (from_short (ByteArray.extract t 32 64) (ex64 t hsz)), .v, .v, .v, .v, .s 1] HK1 kr fun gs5 w5 H5 => ?_
  clear HK1
  refine g_seq kr ?_
  refine g_sreg [0, 1, 2] kr kr ?_
  refine rp [.l 1, .c (may_fn (sv (tl (ByteArray.extract t 0 32))) (sv (tl (ByteArray.extract t 32 64))) (sv_big (ByteArray.extract t 0 32) (ex32 t hsz)) (sv_big (ByteArray.extract t 32 64) (ex64 t hsz)) (((by_ t 64 : Nat) : Int)))] H5 kr fun gs6 w6 H6 => ?_
  show WPs _ _ _ _ [2] _ _
  clear H5
  refine s_now 28 (v := .bool (mayB (sv (tl (ByteArray.extract t 0 32))) (sv (tl (ByteArray.extract t 32 64))) (((by_ t 64 : Nat) : Int)))) (v' := .bool false) (bool_eq hm) kr ?_
  refine rp [.v] H6 kr fun gs7 w7 H7 => ?_
  show WPs _ _ _ _ [] _ _
  clear H6
  refine s_nil ?_
  refine g_cond_t kr kr ?_
  refine rS [.v, .s 0, .v] H7 kr fun gs8 w8 H8 => ?_
  clear H7
  refine g_ret kr ?_
  show ∃ vs, Res _ _ _ _ vs ∧ _
  refine ⟨[sgv 0 0 (0), .int .i64 4], (.agg (b := (gs1 0).b) (Value.cells (sgv 0 0 (0))) 40 (0, 0) kr (H8.get 0 kr) kr (.tmp (.int .i64 4) kr .nil)), ?_, H8.below⟩
  kernel_rfl
def fromV : ByteArray → Value := fun t => if ByteArray.size t ≠ 65 then .tuple #[sgv 0 0 0, .int .i64 4] else if mayB (sv (tl (ByteArray.extract t 0 32))) (sv (tl (ByteArray.extract t 32 64))) (((by_ t 64 : Nat)) : Int) = true then .tuple #[sgv (sv (tl (ByteArray.extract t 0 32))) (sv (tl (ByteArray.extract t 32 64))) (((by_ t 64 : Nat)) : Int), .int .i64 0] else .tuple #[sgv 0 0 0, .int .i64 4]
set_option maxRecDepth 100000 in
set_option maxHeartbeats 2000000 in
theorem rfrom7_len (t : ByteArray) (ht : ByteArray.size t ≤ 9223372036854775807) (hsz : ByteArray.size t ≠ 65) : Fn Tryd.prog 16 #[.string t] (.tuple #[sgv 0 0 0, .int .i64 4]) := by
  refine Fn.intro (c := codeOf Tryd.f16) [.cell 2 40, .tmp 3] 24 Tryd.func16 kr kr kr fun w => ?_
  have H0 := St.start w
  refine rS [.a, .v] H0 kr fun gs1 w1 H1 => ?_
  clear H0
  refine g_seq kr ?_
  refine rS [.v, .v, .e (v := .bool (!(((ByteArray.size t : Nat) : Int) == 65))) (v' := .bool true) (bool_eq (by rw [beq_eq_false_iff_ne.2 (by omega)]; rfl))] H1 kr fun gs2 w2 H2 => ?_
  clear H1
  refine g_cond_t kr kr ?_
  refine rS [.v, .s 0, .v] H2 kr fun gs3 w3 H3 => ?_
  clear H2
  refine g_ret kr ?_
  show ∃ vs, Res _ _ _ _ vs ∧ _
  refine ⟨[sgv 0 0 (0), .int .i64 4], (.agg (b := (gs1 0).b) (Value.cells (sgv 0 0 (0))) 40 (0, 0) kr (H3.get 0 kr) kr (.tmp (.int .i64 4) kr .nil)), ?_, H3.below⟩
  kernel_rfl
set_option maxRecDepth 100000 in
set_option maxHeartbeats 2000000 in
theorem rfrom7_yes (t : ByteArray) (ht : ByteArray.size t ≤ 9223372036854775807) (hsz : ByteArray.size t = 65) (hm : mayB (sv (tl (ByteArray.extract t 0 32))) (sv (tl (ByteArray.extract t 32 64))) (((by_ t 64 : Nat)) : Int) = true) : Fn Tryd.prog 16 #[.string t] (.tuple #[sgv (sv (tl (ByteArray.extract t 0 32))) (sv (tl (ByteArray.extract t 32 64))) (((by_ t 64 : Nat)) : Int), .int .i64 0]) := by
  have hbl := by_lt t 64
  refine Fn.intro (c := codeOf Tryd.f16) [.cell 2 40, .tmp 3] 24 Tryd.func16 kr kr kr fun w => ?_
  have H0 := St.start w
  refine rS [.a, .v] H0 kr fun gs1 w1 H1 => ?_
  clear H0
  refine g_seq kr ?_
  refine rS [.v, .v, .e (v := .bool (!(((ByteArray.size t : Nat) : Int) == 65))) (v' := .bool false) (bool_eq (by rw [beq_iff_eq.2 (by omega)]; rfl))] H1 kr fun gs2 w2 H2 => ?_
  clear H1
  refine g_cond_f kr kr ?_
  refine g_skip kr ?_
  show WP _ _ _ _ _ _
  refine dSg (fun gs3 => [.v, .o (ins := [((.tmp 9), .string t), ((.const (.int .i64 32)), .int .i64 32)]) (v := .string (ByteArray.extract t 0 32)) (fun ρ o w ho hi => scut_run (t := 9) (kd := .i64) kr (x := (.tmp 9)) (y := (.const (.int .i64 32))) t 32 ho hi.1 hi.2.1 (by omega) w), .c (rfrom_fn (ByteArray.extract t 0 32) (ex32 t hsz)), .v, .o (ins := [((.tmp 12), .string t), ((.const (.int .i64 64)), .int .i64 64), ((.const (.int .i64 32)), .int .i64 32)]) (v := .string (ByteArray.extract t 32 64)) (fun ρ o w ho hi => scut2_run (t := 9) (kd := .i64) (kz := .i64) kr (x := (.tmp 12)) (y := (.const (.int .i64 64))) (z := (.const (.int .i64 32))) t 32 64 ho hi.1 hi.2.1 hi.2.2.1 (by omega) (by omega) w), .c (rfrom_fn (ByteArray.extract t 32 64) (ex64 t hsz)), .v, .o (ins := [((.tmp 15), .string t), ((.const (.int .i64 64)), .int .i64 64)]) (v := .int .u8 ((by_ t 64 : Nat) : Int)) (fun ρ o w ho hi => sindex_run (t := 9) (kd := .i64) kr (x := (.tmp 15)) (y := (.const (.int .i64 64))) t 64 ho hi.1 hi.2.1 (by omega) w), .e (v := .int .i64 (IntKind.i64.wrap (((by_ t 64 : Nat) : Int)))) (v' := .int .i64 ((by_ t 64 : Nat) : Int)) (int_eq (wrapN_i64 (a := by_ t 64) (by omega))), .v, .a, .s 1]) H2 kr fun gs3 w3 H3 => ?_
  clear H2
  refine g_keep [0, 2, 3, 4, 7] fun ρ1 => ?_
  have HK1 := H3.keep
  clear H3
  refine g_seq kr ?_
  refine g_sreg [0, 1, 2] kr kr ?_
  refine rp [.l 1, .c (issig_fn (sv (tl (ByteArray.extract t 0 32))) (sv (tl (ByteArray.extract t 32 64))) (sv_big (ByteArray.extract t 0 32) (ex32 t hsz)) (sv_big (ByteArray.extract t 32 64) (ex64 t hsz)) (((by_ t 64 : Nat) : Int)))] HK1 kr fun gs4 w4 H4 => ?_
  show WPs _ _ _ _ [2] _ _
  clear HK1
  refine s_now 20 (v := .bool (mayB (sv (tl (ByteArray.extract t 0 32))) (sv (tl (ByteArray.extract t 32 64))) (((by_ t 64 : Nat) : Int)))) (v' := .bool true) (bool_eq hm) kr ?_
  refine rp [.v] H4 kr fun gs5 w5 H5 => ?_
  show WPs _ _ _ _ [] _ _
  clear H4
  refine s_nil ?_
  refine g_cond_f kr kr ?_
  refine g_skip kr ?_
  show WP _ _ _ _ _ _
  refine rS [.l 1, .s 0, .v] H5 kr fun gs6 w6 H6 => ?_
  clear H5
  refine g_ret kr ?_
  show ∃ vs, Res _ _ _ _ vs ∧ _
  refine ⟨[sgv (sv (tl (ByteArray.extract t 0 32))) (sv (tl (ByteArray.extract t 32 64))) (((by_ t 64 : Nat) : Int)), .int .i64 0], (.agg (b := (gs1 0).b) (Value.cells (sgv (sv (tl (ByteArray.extract t 0 32))) (sv (tl (ByteArray.extract t 32 64))) (((by_ t 64 : Nat) : Int)))) 40 (0, 0) kr (H6.get 0 kr) kr (.tmp (.int .i64 0) kr .nil)), ?_, H6.below⟩
  kernel_rfl
set_option maxRecDepth 100000 in
set_option maxHeartbeats 2000000 in
theorem rfrom7_no (t : ByteArray) (ht : ByteArray.size t ≤ 9223372036854775807) (hsz : ByteArray.size t = 65) (hm : mayB (sv (tl (ByteArray.extract t 0 32))) (sv (tl (ByteArray.extract t 32 64))) (((by_ t 64 : Nat)) : Int) = false) : Fn Tryd.prog 16 #[.string t] (.tuple #[sgv 0 0 0, .int .i64 4]) := by
  have hbl := by_lt t 64
  refine Fn.intro (c := codeOf Tryd.f16) [.cell 2 40, .tmp 3] 24 Tryd.func16 kr kr kr fun w => ?_
  have H0 := St.start w
  refine rS [.a, .v] H0 kr fun gs1 w1 H1 => ?_
  clear H0
  refine g_seq kr ?_
  refine rS [.v, .v, .e (v := .bool (!(((ByteArray.size t : Nat) : Int) == 65))) (v' := .bool false) (bool_eq (by rw [beq_iff_eq.2 (by omega)]; rfl))] H1 kr fun gs2 w2 H2 => ?_
  clear H1
  refine g_cond_f kr kr ?_
  refine g_skip kr ?_
  show WP _ _ _ _ _ _
  refine dSg (fun gs3 => [.v, .o (ins := [((.tmp 9), .string t), ((.const (.int .i64 32)), .int .i64 32)]) (v := .string (ByteArray.extract t 0 32)) (fun ρ o w ho hi => scut_run (t := 9) (kd := .i64) kr (x := (.tmp 9)) (y := (.const (.int .i64 32))) t 32 ho hi.1 hi.2.1 (by omega) w), .c (rfrom_fn (ByteArray.extract t 0 32) (ex32 t hsz)), .v, .o (ins := [((.tmp 12), .string t), ((.const (.int .i64 64)), .int .i64 64), ((.const (.int .i64 32)), .int .i64 32)]) (v := .string (ByteArray.extract t 32 64)) (fun ρ o w ho hi => scut2_run (t := 9) (kd := .i64) (kz := .i64) kr (x := (.tmp 12)) (y := (.const (.int .i64 64))) (z := (.const (.int .i64 32))) t 32 64 ho hi.1 hi.2.1 hi.2.2.1 (by omega) (by omega) w), .c (rfrom_fn (ByteArray.extract t 32 64) (ex64 t hsz)), .v, .o (ins := [((.tmp 15), .string t), ((.const (.int .i64 64)), .int .i64 64)]) (v := .int .u8 ((by_ t 64 : Nat) : Int)) (fun ρ o w ho hi => sindex_run (t := 9) (kd := .i64) kr (x := (.tmp 15)) (y := (.const (.int .i64 64))) t 64 ho hi.1 hi.2.1 (by omega) w), .e (v := .int .i64 (IntKind.i64.wrap (((by_ t 64 : Nat) : Int)))) (v' := .int .i64 ((by_ t 64 : Nat) : Int)) (int_eq (wrapN_i64 (a := by_ t 64) (by omega))), .v, .a, .s 1]) H2 kr fun gs3 w3 H3 => ?_
  clear H2
  refine g_keep [0, 2, 3, 4, 7] fun ρ1 => ?_
  have HK1 := H3.keep
  clear H3
  refine g_seq kr ?_
  refine g_sreg [0, 1, 2] kr kr ?_
  refine rp [.l 1, .c (issig_fn (sv (tl (ByteArray.extract t 0 32))) (sv (tl (ByteArray.extract t 32 64))) (sv_big (ByteArray.extract t 0 32) (ex32 t hsz)) (sv_big (ByteArray.extract t 32 64) (ex64 t hsz)) (((by_ t 64 : Nat) : Int)))] HK1 kr fun gs4 w4 H4 => ?_
  show WPs _ _ _ _ [2] _ _
  clear HK1
  refine s_now 20 (v := .bool (mayB (sv (tl (ByteArray.extract t 0 32))) (sv (tl (ByteArray.extract t 32 64))) (((by_ t 64 : Nat) : Int)))) (v' := .bool false) (bool_eq hm) kr ?_
  refine rp [.v] H4 kr fun gs5 w5 H5 => ?_
  show WPs _ _ _ _ [] _ _
  clear H4
  refine s_nil ?_
  refine g_cond_t kr kr ?_
  refine rS [.v, .s 0, .v] H5 kr fun gs6 w6 H6 => ?_
  clear H5
  refine g_ret kr ?_
  show ∃ vs, Res _ _ _ _ vs ∧ _
  refine ⟨[sgv 0 0 (0), .int .i64 4], (.agg (b := (gs1 0).b) (Value.cells (sgv 0 0 (0))) 40 (0, 0) kr (H6.get 0 kr) kr (.tmp (.int .i64 4) kr .nil)), ?_, H6.below⟩
  kernel_rfl
theorem eqS_self (r s : Nat) (v : Int) (hr : r < big) (hs : s < big) (w : World) : (Op.equalIn 10000 40 (.agg (Value.cells (sgv r s v))) (.agg (Value.cells (sgv r s v)))).run Tryd.prog w = .ok true w := by
  rw [run_equalIn_struct w 9999 40 _ _ kr kr,
    show (Tryd.prog.fieldsOf 40).toList = [{ name := "R", type := 24, offset := 0, embedded := false, tag := "", pkgPath := "", byteOffset := 0 }, { name := "S", type := 24, offset := 4, embedded := false, tag := "", pkgPath := "", byteOffset := 32 }, { name := "V", type := 3, offset := 8, embedded := false, tag := "", pkgPath := "", byteOffset := 64 }] by kernel_rfl]
  have px : (part 24 (Value.cells (sgv r s v)) 0).run Tryd.prog w = .ok (uv r) w := kr
  have py : (part 24 (Value.cells (sgv r s v)) 4).run Tryd.prog w = .ok (uv s) w := kr
  have pb : (part 3 (Value.cells (sgv r s v)) 8).run Tryd.prog w = .ok (.int .i64 v) w := kr
  have ex : (Op.equalIn 9999 24 (uv r) (uv r)).run Tryd.prog w = .ok true w := by
    have h9 := uv_words hr hr
    rw [decide_eq_true rfl] at h9
    rw [← h9]; exact eqU_any 9997 _ _ _ _ _ _ _ _ w
  have ey : (Op.equalIn 9999 24 (uv s) (uv s)).run Tryd.prog w = .ok true w := by
    have h9 := uv_words hs hs
    rw [decide_eq_true rfl] at h9
    rw [← h9]; exact eqU_any 9997 _ _ _ _ _ _ _ _ w
  have eb : (Op.equalIn 9999 3 (.int .i64 v) (.int .i64 v)).run Tryd.prog w = .ok true w := by
    rw [run_equalIn_int w 9998 3 .i64 .i64 v v Tryd.underlying3, beq_self_eq_true]
  have n1 : ("R" : String) ≠ "_" := by decide
  have n2 : ("S" : String) ≠ "_" := by decide
  have n3 : ("V" : String) ≠ "_" := by decide
  simp only [Op.eqFields, if_pos n1, if_pos n2, if_pos n3, Sem.run_bind, px, py, pb, Result.andThen_ok, ex, ey, eb, Bool.not_true, Bool.false_eq_true, if_false, Sem.run_ite]
  simp
theorem neS_run {ρ : Env} (r s : Nat) (v : Int) (hr : r < big) (hs : s < big) {x y : Operand} {o : Oper} (w : World) (ho : o.op = .binOp .neq 40 x y 40) (hx : ev ρ x = .agg (Value.cells (sgv r s v))) (hy : ev ρ y = .agg (Value.cells (sgv r s v))) :
    (execOp (ev ρ) o).run Tryd.prog w = .ok (.value (.bool false)) w := by
  have h := eqS_self r s v hr hs w
  generalize Value.cells (sgv r s v) = X at h hx hy
  unfold execOp
  simp only [ho, hx, hy, resolve, Sem.run_bind, Sem.run_pure, Result.andThen_ok, run_eqGuard_agg w _ _ _ _ _ _ (show Tryd.prog.eqGuardType Tryd.prog.depth 40 = false by kernel_rfl), run_eql_struct, run_neq_struct, h, Bool.not_true]
end Go.Proofs.YtmmloghbnpfedaaDoor

namespace Go.Proofs.YtmmloghbnpfedaaDoor
open Go Go.RowKit
set_option linter.unusedVariables false
open Ke
set_option maxRecDepth 100000 in
set_option maxHeartbeats 2000000 in
theorem sgB_len_y (r s : Nat) (hr : r < big) (hs : s < big) (v : Int) (hm : mayB r s v = true) (t : ByteArray) (ht : ByteArray.size t ≤ 9223372036854775807) (hle : ByteArray.size (ByteArray.extract t 0 (min (ByteArray.size t) 80)) ≤ 9223372036854775807) (hsz : ByteArray.size (ByteArray.extract t 0 (min (ByteArray.size t) 80)) ≠ 65) : FnP Tryd.prog 4 #[sgv r s (v), .string t] (Marks) (.bool true) := by
  refine FnP.intro (c := codeOf Tryd.f4) [.tmp 4] 60 Tryd.func4 kr kr kr fun w hpre => ?_
  have H0 := St.start w
  refine rS [.b, .v] H0 kr fun gs1 w1 H1 => ?_
  clear H0
  refine rS [.v, .v, .v, .e (v := .int .i64 (if (80 : Int) < (((ByteArray.size t : Nat) : Int) : Int) then (80 : Int) else (((ByteArray.size t : Nat) : Int) : Int))) (v' := .int .i64 ((min (ByteArray.size t) 80 : Nat) : Int)) (int_eq (minN (ByteArray.size t) 80)), .o (ins := [((.tmp 11), .string t), ((.tmp 14), .int .i64 ((min (ByteArray.size t) 80 : Nat) : Int))]) (v := .string (ByteArray.extract t 0 (min (ByteArray.size t) 80))) (fun ρ o w ho hi => scut_run (t := 9) (kd := .i64) kr (x := (.tmp 11)) (y := (.tmp 14)) t (min (ByteArray.size t) 80) ho hi.1 hi.2.1 (by omega) w), .v] H1 kr fun gs2 w2 H2 => ?_
  clear H1
  refine rS [.l 0, .c (sbytes_yes r s hr hs (v) hm), .v, .v, .v, .v, .v] H2 kr fun gs3 w3 H3 => ?_
  clear H2
  refine rS [.v, .c (sfrom_len (ByteArray.extract t 0 (min (ByteArray.size t) 80)) hle hsz), .v, .v, .v, .a, .s 1, .v] H3 kr fun gs4 w4 H4 => ?_
  clear H3
  refine g_keep [0, 1, 2, 4, 5, 6, 7, 8] fun ρ1 => ?_
  have HK1 := H4.keep
  clear H4
  refine rS [.v, .c (rfrom7_len (ByteArray.extract t 0 (min (ByteArray.size t) 80)) hle hsz), .v, .v, .v, .a, .s 2, .v] HK1 kr fun gs5 w5 H5 => ?_
  clear HK1
  refine g_seq kr ?_
  refine rS [.l 1, .l 2, .o (ins := [((.tmp 31), sgv 0 0 (0)), ((.tmp 32), sgv 0 0 (0))]) (v := .bool false) (fun ρ o w ho hi => neS_run (x := (.tmp 31)) (y := (.tmp 32)) 0 0 (0) Ec.big_0 Ec.big_0 w ho hi.1 hi.2.1), .v, .v, .v, .v, .v, .v, .cp (pre := Marks) alive7_fn [] (fun w hb hd => (Marks.oldB hb rfl hpre)), .v, .v] H5 kr fun gs6 w6 H6 => ?_
  clear H5
  refine g_keep [0, 1, 2, 4, 5, 6, 7, 8, 9, 10, 42] fun ρ2 => ?_
  have HK2 := H6.keep
  clear H6
  refine g_cond_f kr kr ?_
  refine g_skip kr ?_
  show WP _ _ _ _ _ _
  refine g_seq kr ?_
  refine g_sreg [0, 1, 2] kr kr ?_
  refine rp [.l 0, .c (issig_fn r s hr hs (v))] HK2 kr fun gs7 w7 H7 => ?_
  show WPs _ _ _ _ [2] _ _
  clear HK2
  refine s_now 44 (v := .bool (mayB r s (v))) (v' := .bool true) (bool_eq hm) kr ?_
  refine rp [.v] H7 kr fun gs8 w8 H8 => ?_
  show WPs _ _ _ _ [] _ _
  clear H7
  refine s_nil ?_
  refine g_cond_f kr kr ?_
  refine g_skip kr ?_
  show WP _ _ _ _ _ _
  refine rS [.v, .v, .v, .v, .l 0, .c (rbytes_fn r s hr hs (v)), .e (v := .bool (ByteArray.toList (sbs r s (v)) == ByteArray.toList (sbs r s (v)))) (v' := .bool true) (bool_eq (str_self (sbs r s (v)))), .v, .v] H8 kr fun gs9 w9 H9 => ?_
  clear H8
  refine g_ret kr ?_
  show ∃ vs, Res _ _ _ _ vs ∧ _
  refine ⟨[.bool true], (.tmp (.bool true) kr .nil), ?_, H9.below⟩
  rfl
set_option maxRecDepth 100000 in
set_option maxHeartbeats 2000000 in
theorem sgB_len_n (r s : Nat) (hr : r < big) (hs : s < big) (v : Int) (hm : mayB r s v = false) (t : ByteArray) (ht : ByteArray.size t ≤ 9223372036854775807) (hle : ByteArray.size (ByteArray.extract t 0 (min (ByteArray.size t) 80)) ≤ 9223372036854775807) (hsz : ByteArray.size (ByteArray.extract t 0 (min (ByteArray.size t) 80)) ≠ 65) : FnP Tryd.prog 4 #[sgv r s (v), .string t] (Marks) (.bool true) := by
  refine FnP.intro (c := codeOf Tryd.f4) [.tmp 4] 60 Tryd.func4 kr kr kr fun w hpre => ?_
  have H0 := St.start w
  refine rS [.b, .v] H0 kr fun gs1 w1 H1 => ?_
  clear H0
  refine rS [.v, .v, .v, .e (v := .int .i64 (if (80 : Int) < (((ByteArray.size t : Nat) : Int) : Int) then (80 : Int) else (((ByteArray.size t : Nat) : Int) : Int))) (v' := .int .i64 ((min (ByteArray.size t) 80 : Nat) : Int)) (int_eq (minN (ByteArray.size t) 80)), .o (ins := [((.tmp 11), .string t), ((.tmp 14), .int .i64 ((min (ByteArray.size t) 80 : Nat) : Int))]) (v := .string (ByteArray.extract t 0 (min (ByteArray.size t) 80))) (fun ρ o w ho hi => scut_run (t := 9) (kd := .i64) kr (x := (.tmp 11)) (y := (.tmp 14)) t (min (ByteArray.size t) 80) ho hi.1 hi.2.1 (by omega) w), .v] H1 kr fun gs2 w2 H2 => ?_
  clear H1
  refine rS [.l 0, .c (sbytes_no r s hr hs (v) hm), .v, .v, .v, .v, .v] H2 kr fun gs3 w3 H3 => ?_
  clear H2
  refine rS [.v, .c (sfrom_len (ByteArray.extract t 0 (min (ByteArray.size t) 80)) hle hsz), .v, .v, .v, .a, .s 1, .v] H3 kr fun gs4 w4 H4 => ?_
  clear H3
  refine g_keep [0, 1, 2, 4, 5, 6, 7, 8] fun ρ1 => ?_
  have HK1 := H4.keep
  clear H4
  refine rS [.v, .c (rfrom7_len (ByteArray.extract t 0 (min (ByteArray.size t) 80)) hle hsz), .v, .v, .v, .a, .s 2, .v] HK1 kr fun gs5 w5 H5 => ?_
  clear HK1
  refine g_seq kr ?_
  refine rS [.l 1, .l 2, .o (ins := [((.tmp 31), sgv 0 0 (0)), ((.tmp 32), sgv 0 0 (0))]) (v := .bool false) (fun ρ o w ho hi => neS_run (x := (.tmp 31)) (y := (.tmp 32)) 0 0 (0) Ec.big_0 Ec.big_0 w ho hi.1 hi.2.1), .v, .v, .v, .v, .v, .v, .cp (pre := Marks) alive7_fn [] (fun w hb hd => (Marks.oldB hb rfl hpre)), .v, .v] H5 kr fun gs6 w6 H6 => ?_
  clear H5
  refine g_keep [0, 1, 2, 4, 5, 6, 7, 8, 9, 10, 42] fun ρ2 => ?_
  have HK2 := H6.keep
  clear H6
  refine g_cond_f kr kr ?_
  refine g_skip kr ?_
  show WP _ _ _ _ _ _
  refine g_seq kr ?_
  refine g_sreg [0, 1, 2] kr kr ?_
  refine rp [.l 0, .c (issig_fn r s hr hs (v))] HK2 kr fun gs7 w7 H7 => ?_
  show WPs _ _ _ _ [2] _ _
  clear HK2
  refine s_now 44 (v := .bool (mayB r s (v))) (v' := .bool false) (bool_eq hm) kr ?_
  refine rp [.v] H7 kr fun gs8 w8 H8 => ?_
  show WPs _ _ _ _ [] _ _
  clear H7
  refine s_nil ?_
  refine g_cond_t kr kr ?_
  refine rS [.v, .v, .v, .v, .e (v := .bool (ByteArray.toList (⟨#[]⟩) == ByteArray.toList (⟨#[]⟩))) (v' := .bool true) (bool_eq (str_self (⟨#[]⟩))), .v, .v] H8 kr fun gs9 w9 H9 => ?_
  clear H8
  refine g_ret kr ?_
  show ∃ vs, Res _ _ _ _ vs ∧ _
  refine ⟨[.bool true], (.tmp (.bool true) kr .nil), ?_, H9.below⟩
  rfl
set_option maxRecDepth 100000 in
set_option maxHeartbeats 2000000 in
theorem sgB_no_y (r s : Nat) (hr : r < big) (hs : s < big) (v : Int) (hm : mayB r s v = true) (t : ByteArray) (ht : ByteArray.size t ≤ 9223372036854775807) (hle : ByteArray.size (ByteArray.extract t 0 (min (ByteArray.size t) 80)) ≤ 9223372036854775807) (hsz : ByteArray.size (ByteArray.extract t 0 (min (ByteArray.size t) 80)) = 65) (hf : mayB (sv (tl (ByteArray.extract (ByteArray.extract t 0 (min (ByteArray.size t) 80)) 0 32))) (sv (tl (ByteArray.extract (ByteArray.extract t 0 (min (ByteArray.size t) 80)) 32 64))) (((by_ (ByteArray.extract t 0 (min (ByteArray.size t) 80)) 64 : Nat)) : Int) = false) : FnP Tryd.prog 4 #[sgv r s (v), .string t] (Marks) (.bool true) := by
  refine FnP.intro (c := codeOf Tryd.f4) [.tmp 4] 60 Tryd.func4 kr kr kr fun w hpre => ?_
  have H0 := St.start w
  refine rS [.b, .v] H0 kr fun gs1 w1 H1 => ?_
  clear H0
  refine rS [.v, .v, .v, .e (v := .int .i64 (if (80 : Int) < (((ByteArray.size t : Nat) : Int) : Int) then (80 : Int) else (((ByteArray.size t : Nat) : Int) : Int))) (v' := .int .i64 ((min (ByteArray.size t) 80 : Nat) : Int)) (int_eq (minN (ByteArray.size t) 80)), .o (ins := [((.tmp 11), .string t), ((.tmp 14), .int .i64 ((min (ByteArray.size t) 80 : Nat) : Int))]) (v := .string (ByteArray.extract t 0 (min (ByteArray.size t) 80))) (fun ρ o w ho hi => scut_run (t := 9) (kd := .i64) kr (x := (.tmp 11)) (y := (.tmp 14)) t (min (ByteArray.size t) 80) ho hi.1 hi.2.1 (by omega) w), .v] H1 kr fun gs2 w2 H2 => ?_
  clear H1
  refine rS [.l 0, .c (sbytes_yes r s hr hs (v) hm), .v, .v, .v, .v, .v] H2 kr fun gs3 w3 H3 => ?_
  clear H2
  refine rS [.v, .c (sfrom_no (ByteArray.extract t 0 (min (ByteArray.size t) 80)) hle hsz hf), .v, .v, .v, .a, .s 1, .v] H3 kr fun gs4 w4 H4 => ?_
  clear H3
  refine g_keep [0, 1, 2, 4, 5, 6, 7, 8] fun ρ1 => ?_
  have HK1 := H4.keep
  clear H4
  refine rS [.v, .c (rfrom7_no (ByteArray.extract t 0 (min (ByteArray.size t) 80)) hle hsz hf), .v, .v, .v, .a, .s 2, .v] HK1 kr fun gs5 w5 H5 => ?_
  clear HK1
  refine g_seq kr ?_
  refine rS [.l 1, .l 2, .o (ins := [((.tmp 31), sgv 0 0 (0)), ((.tmp 32), sgv 0 0 (0))]) (v := .bool false) (fun ρ o w ho hi => neS_run (x := (.tmp 31)) (y := (.tmp 32)) 0 0 (0) Ec.big_0 Ec.big_0 w ho hi.1 hi.2.1), .v, .v, .v, .v, .v, .v, .cp (pre := Marks) alive7_fn [] (fun w hb hd => (Marks.oldB hb rfl hpre)), .v, .v] H5 kr fun gs6 w6 H6 => ?_
  clear H5
  refine g_keep [0, 1, 2, 4, 5, 6, 7, 8, 9, 10, 42] fun ρ2 => ?_
  have HK2 := H6.keep
  clear H6
  refine g_cond_f kr kr ?_
  refine g_skip kr ?_
  show WP _ _ _ _ _ _
  refine g_seq kr ?_
  refine g_sreg [0, 1, 2] kr kr ?_
  refine rp [.l 0, .c (issig_fn r s hr hs (v))] HK2 kr fun gs7 w7 H7 => ?_
  show WPs _ _ _ _ [2] _ _
  clear HK2
  refine s_now 44 (v := .bool (mayB r s (v))) (v' := .bool true) (bool_eq hm) kr ?_
  refine rp [.v] H7 kr fun gs8 w8 H8 => ?_
  show WPs _ _ _ _ [] _ _
  clear H7
  refine s_nil ?_
  refine g_cond_f kr kr ?_
  refine g_skip kr ?_
  show WP _ _ _ _ _ _
  refine rS [.v, .v, .v, .v, .l 0, .c (rbytes_fn r s hr hs (v)), .e (v := .bool (ByteArray.toList (sbs r s (v)) == ByteArray.toList (sbs r s (v)))) (v' := .bool true) (bool_eq (str_self (sbs r s (v)))), .v, .v] H8 kr fun gs9 w9 H9 => ?_
  clear H8
  refine g_ret kr ?_
  show ∃ vs, Res _ _ _ _ vs ∧ _
  refine ⟨[.bool true], (.tmp (.bool true) kr .nil), ?_, H9.below⟩
  rfl
set_option maxRecDepth 100000 in
set_option maxHeartbeats 2000000 in
theorem sgB_no_n (r s : Nat) (hr : r < big) (hs : s < big) (v : Int) (hm : mayB r s v = false) (t : ByteArray) (ht : ByteArray.size t ≤ 9223372036854775807) (hle : ByteArray.size (ByteArray.extract t 0 (min (ByteArray.size t) 80)) ≤ 9223372036854775807) (hsz : ByteArray.size (ByteArray.extract t 0 (min (ByteArray.size t) 80)) = 65) (hf : mayB (sv (tl (ByteArray.extract (ByteArray.extract t 0 (min (ByteArray.size t) 80)) 0 32))) (sv (tl (ByteArray.extract (ByteArray.extract t 0 (min (ByteArray.size t) 80)) 32 64))) (((by_ (ByteArray.extract t 0 (min (ByteArray.size t) 80)) 64 : Nat)) : Int) = false) : FnP Tryd.prog 4 #[sgv r s (v), .string t] (Marks) (.bool true) := by
  refine FnP.intro (c := codeOf Tryd.f4) [.tmp 4] 60 Tryd.func4 kr kr kr fun w hpre => ?_
  have H0 := St.start w
  refine rS [.b, .v] H0 kr fun gs1 w1 H1 => ?_
  clear H0
  refine rS [.v, .v, .v, .e (v := .int .i64 (if (80 : Int) < (((ByteArray.size t : Nat) : Int) : Int) then (80 : Int) else (((ByteArray.size t : Nat) : Int) : Int))) (v' := .int .i64 ((min (ByteArray.size t) 80 : Nat) : Int)) (int_eq (minN (ByteArray.size t) 80)), .o (ins := [((.tmp 11), .string t), ((.tmp 14), .int .i64 ((min (ByteArray.size t) 80 : Nat) : Int))]) (v := .string (ByteArray.extract t 0 (min (ByteArray.size t) 80))) (fun ρ o w ho hi => scut_run (t := 9) (kd := .i64) kr (x := (.tmp 11)) (y := (.tmp 14)) t (min (ByteArray.size t) 80) ho hi.1 hi.2.1 (by omega) w), .v] H1 kr fun gs2 w2 H2 => ?_
  clear H1
  refine rS [.l 0, .c (sbytes_no r s hr hs (v) hm), .v, .v, .v, .v, .v] H2 kr fun gs3 w3 H3 => ?_
  clear H2
  refine rS [.v, .c (sfrom_no (ByteArray.extract t 0 (min (ByteArray.size t) 80)) hle hsz hf), .v, .v, .v, .a, .s 1, .v] H3 kr fun gs4 w4 H4 => ?_
  clear H3
  refine g_keep [0, 1, 2, 4, 5, 6, 7, 8] fun ρ1 => ?_
  have HK1 := H4.keep
  clear H4
  refine rS [.v, .c (rfrom7_no (ByteArray.extract t 0 (min (ByteArray.size t) 80)) hle hsz hf), .v, .v, .v, .a, .s 2, .v] HK1 kr fun gs5 w5 H5 => ?_
  clear HK1
  refine g_seq kr ?_
  refine rS [.l 1, .l 2, .o (ins := [((.tmp 31), sgv 0 0 (0)), ((.tmp 32), sgv 0 0 (0))]) (v := .bool false) (fun ρ o w ho hi => neS_run (x := (.tmp 31)) (y := (.tmp 32)) 0 0 (0) Ec.big_0 Ec.big_0 w ho hi.1 hi.2.1), .v, .v, .v, .v, .v, .v, .cp (pre := Marks) alive7_fn [] (fun w hb hd => (Marks.oldB hb rfl hpre)), .v, .v] H5 kr fun gs6 w6 H6 => ?_
  clear H5
  refine g_keep [0, 1, 2, 4, 5, 6, 7, 8, 9, 10, 42] fun ρ2 => ?_
  have HK2 := H6.keep
  clear H6
  refine g_cond_f kr kr ?_
  refine g_skip kr ?_
  show WP _ _ _ _ _ _
  refine g_seq kr ?_
  refine g_sreg [0, 1, 2] kr kr ?_
  refine rp [.l 0, .c (issig_fn r s hr hs (v))] HK2 kr fun gs7 w7 H7 => ?_
  show WPs _ _ _ _ [2] _ _
  clear HK2
  refine s_now 44 (v := .bool (mayB r s (v))) (v' := .bool false) (bool_eq hm) kr ?_
  refine rp [.v] H7 kr fun gs8 w8 H8 => ?_
  show WPs _ _ _ _ [] _ _
  clear H7
  refine s_nil ?_
  refine g_cond_t kr kr ?_
  refine rS [.v, .v, .v, .v, .e (v := .bool (ByteArray.toList (⟨#[]⟩) == ByteArray.toList (⟨#[]⟩))) (v' := .bool true) (bool_eq (str_self (⟨#[]⟩))), .v, .v] H8 kr fun gs9 w9 H9 => ?_
  clear H8
  refine g_ret kr ?_
  show ∃ vs, Res _ _ _ _ vs ∧ _
  refine ⟨[.bool true], (.tmp (.bool true) kr .nil), ?_, H9.below⟩
  rfl
set_option maxRecDepth 100000 in
set_option maxHeartbeats 2000000 in
theorem sgB_yes_y (r s : Nat) (hr : r < big) (hs : s < big) (v : Int) (hm : mayB r s v = true) (t : ByteArray) (ht : ByteArray.size t ≤ 9223372036854775807) (hle : ByteArray.size (ByteArray.extract t 0 (min (ByteArray.size t) 80)) ≤ 9223372036854775807) (hsz : ByteArray.size (ByteArray.extract t 0 (min (ByteArray.size t) 80)) = 65) (hf : mayB (sv (tl (ByteArray.extract (ByteArray.extract t 0 (min (ByteArray.size t) 80)) 0 32))) (sv (tl (ByteArray.extract (ByteArray.extract t 0 (min (ByteArray.size t) 80)) 32 64))) (((by_ (ByteArray.extract t 0 (min (ByteArray.size t) 80)) 64 : Nat)) : Int) = true) : FnP Tryd.prog 4 #[sgv r s (v), .string t] (Marks) (.bool true) := by
  refine FnP.intro (c := codeOf Tryd.f4) [.tmp 4] 60 Tryd.func4 kr kr kr fun w hpre => ?_
  have H0 := St.start w
  refine rS [.b, .v] H0 kr fun gs1 w1 H1 => ?_
  clear H0
  refine rS [.v, .v, .v, .e (v := .int .i64 (if (80 : Int) < (((ByteArray.size t : Nat) : Int) : Int) then (80 : Int) else (((ByteArray.size t : Nat) : Int) : Int))) (v' := .int .i64 ((min (ByteArray.size t) 80 : Nat) : Int)) (int_eq (minN (ByteArray.size t) 80)), .o (ins := [((.tmp 11), .string t), ((.tmp 14), .int .i64 ((min (ByteArray.size t) 80 : Nat) : Int))]) (v := .string (ByteArray.extract t 0 (min (ByteArray.size t) 80))) (fun ρ o w ho hi => scut_run (t := 9) (kd := .i64) kr (x := (.tmp 11)) (y := (.tmp 14)) t (min (ByteArray.size t) 80) ho hi.1 hi.2.1 (by omega) w), .v] H1 kr fun gs2 w2 H2 => ?_
  clear H1
  refine rS [.l 0, .c (sbytes_yes r s hr hs (v) hm), .v, .v, .v, .v, .v] H2 kr fun gs3 w3 H3 => ?_
  clear H2
  refine rS [.v, .c (sfrom_yes (ByteArray.extract t 0 (min (ByteArray.size t) 80)) hle hsz hf), .v, .v, .v, .a, .s 1, .v] H3 kr fun gs4 w4 H4 => ?_
  clear H3
  refine g_keep [0, 1, 2, 4, 5, 6, 7, 8] fun ρ1 => ?_
  have HK1 := H4.keep
  clear H4
  refine rS [.v, .c (rfrom7_yes (ByteArray.extract t 0 (min (ByteArray.size t) 80)) hle hsz hf), .v, .v, .v, .a, .s 2, .v] HK1 kr fun gs5 w5 H5 => ?_
  clear HK1
  refine g_seq kr ?_
  refine rS [.l 1, .l 2, .o (ins := [((.tmp 31), sgv (sv (tl (ByteArray.extract (ByteArray.extract t 0 (min (ByteArray.size t) 80)) 0 32))) (sv (tl (ByteArray.extract (ByteArray.extract t 0 (min (ByteArray.size t) 80)) 32 64))) ((((by_ (ByteArray.extract t 0 (min (ByteArray.size t) 80)) 64 : Nat)) : Int))), ((.tmp 32), sgv (sv (tl (ByteArray.extract (ByteArray.extract t 0 (min (ByteArray.size t) 80)) 0 32))) (sv (tl (ByteArray.extract (ByteArray.extract t 0 (min (ByteArray.size t) 80)) 32 64))) ((((by_ (ByteArray.extract t 0 (min (ByteArray.size t) 80)) 64 : Nat)) : Int)))]) (v := .bool false) (fun ρ o w ho hi => neS_run (x := (.tmp 31)) (y := (.tmp 32)) (sv (tl (ByteArray.extract (ByteArray.extract t 0 (min (ByteArray.size t) 80)) 0 32))) (sv (tl (ByteArray.extract (ByteArray.extract t 0 (min (ByteArray.size t) 80)) 32 64))) ((((by_ (ByteArray.extract t 0 (min (ByteArray.size t) 80)) 64 : Nat)) : Int)) (sv_big (ByteArray.extract (ByteArray.extract t 0 (min (ByteArray.size t) 80)) 0 32) (ex32 (ByteArray.extract t 0 (min (ByteArray.size t) 80)) hsz)) (sv_big (ByteArray.extract (ByteArray.extract t 0 (min (ByteArray.size t) 80)) 32 64) (ex64 (ByteArray.extract t 0 (min (ByteArray.size t) 80)) hsz)) w ho hi.1 hi.2.1), .v, .v, .v, .v, .v, .v, .cp (pre := Marks) alive7_fn [] (fun w hb hd => (Marks.oldB hb rfl hpre)), .v, .v] H5 kr fun gs6 w6 H6 => ?_
  clear H5
  refine g_keep [0, 1, 2, 4, 5, 6, 7, 8, 9, 10, 42] fun ρ2 => ?_
  have HK2 := H6.keep
  clear H6
  refine g_cond_f kr kr ?_
  refine g_skip kr ?_
  show WP _ _ _ _ _ _
  refine g_seq kr ?_
  refine g_sreg [0, 1, 2] kr kr ?_
  refine rp [.l 0, .c (issig_fn r s hr hs (v))] HK2 kr fun gs7 w7 H7 => ?_
  show WPs _ _ _ _ [2] _ _
  clear HK2
  refine s_now 44 (v := .bool (mayB r s (v))) (v' := .bool true) (bool_eq hm) kr ?_
  refine rp [.v] H7 kr fun gs8 w8 H8 => ?_
  show WPs _ _ _ _ [] _ _
  clear H7
  refine s_nil ?_
  refine g_cond_f kr kr ?_
  refine g_skip kr ?_
  show WP _ _ _ _ _ _
  refine rS [.v, .v, .v, .v, .l 0, .c (rbytes_fn r s hr hs (v)), .e (v := .bool (ByteArray.toList (sbs r s (v)) == ByteArray.toList (sbs r s (v)))) (v' := .bool true) (bool_eq (str_self (sbs r s (v)))), .v, .v] H8 kr fun gs9 w9 H9 => ?_
  clear H8
  refine g_ret kr ?_
  show ∃ vs, Res _ _ _ _ vs ∧ _
  refine ⟨[.bool true], (.tmp (.bool true) kr .nil), ?_, H9.below⟩
  rfl
set_option maxRecDepth 100000 in
set_option maxHeartbeats 2000000 in
theorem sgB_yes_n (r s : Nat) (hr : r < big) (hs : s < big) (v : Int) (hm : mayB r s v = false) (t : ByteArray) (ht : ByteArray.size t ≤ 9223372036854775807) (hle : ByteArray.size (ByteArray.extract t 0 (min (ByteArray.size t) 80)) ≤ 9223372036854775807) (hsz : ByteArray.size (ByteArray.extract t 0 (min (ByteArray.size t) 80)) = 65) (hf : mayB (sv (tl (ByteArray.extract (ByteArray.extract t 0 (min (ByteArray.size t) 80)) 0 32))) (sv (tl (ByteArray.extract (ByteArray.extract t 0 (min (ByteArray.size t) 80)) 32 64))) (((by_ (ByteArray.extract t 0 (min (ByteArray.size t) 80)) 64 : Nat)) : Int) = true) : FnP Tryd.prog 4 #[sgv r s (v), .string t] (Marks) (.bool true) := by
  refine FnP.intro (c := codeOf Tryd.f4) [.tmp 4] 60 Tryd.func4 kr kr kr fun w hpre => ?_
  have H0 := St.start w
  refine rS [.b, .v] H0 kr fun gs1 w1 H1 => ?_
  clear H0
  refine rS [.v, .v, .v, .e (v := .int .i64 (if (80 : Int) < (((ByteArray.size t : Nat) : Int) : Int) then (80 : Int) else (((ByteArray.size t : Nat) : Int) : Int))) (v' := .int .i64 ((min (ByteArray.size t) 80 : Nat) : Int)) (int_eq (minN (ByteArray.size t) 80)), .o (ins := [((.tmp 11), .string t), ((.tmp 14), .int .i64 ((min (ByteArray.size t) 80 : Nat) : Int))]) (v := .string (ByteArray.extract t 0 (min (ByteArray.size t) 80))) (fun ρ o w ho hi => scut_run (t := 9) (kd := .i64) kr (x := (.tmp 11)) (y := (.tmp 14)) t (min (ByteArray.size t) 80) ho hi.1 hi.2.1 (by omega) w), .v] H1 kr fun gs2 w2 H2 => ?_
  clear H1
  refine rS [.l 0, .c (sbytes_no r s hr hs (v) hm), .v, .v, .v, .v, .v] H2 kr fun gs3 w3 H3 => ?_
  clear H2
  refine rS [.v, .c (sfrom_yes (ByteArray.extract t 0 (min (ByteArray.size t) 80)) hle hsz hf), .v, .v, .v, .a, .s 1, .v] H3 kr fun gs4 w4 H4 => ?_
  clear H3
  refine g_keep [0, 1, 2, 4, 5, 6, 7, 8] fun ρ1 => ?_
  have HK1 := H4.keep
  clear H4
  refine rS [.v, .c (rfrom7_yes (ByteArray.extract t 0 (min (ByteArray.size t) 80)) hle hsz hf), .v, .v, .v, .a, .s 2, .v] HK1 kr fun gs5 w5 H5 => ?_
  clear HK1
  refine g_seq kr ?_
  refine rS [.l 1, .l 2, .o (ins := [((.tmp 31), sgv (sv (tl (ByteArray.extract (ByteArray.extract t 0 (min (ByteArray.size t) 80)) 0 32))) (sv (tl (ByteArray.extract (ByteArray.extract t 0 (min (ByteArray.size t) 80)) 32 64))) ((((by_ (ByteArray.extract t 0 (min (ByteArray.size t) 80)) 64 : Nat)) : Int))), ((.tmp 32), sgv (sv (tl (ByteArray.extract (ByteArray.extract t 0 (min (ByteArray.size t) 80)) 0 32))) (sv (tl (ByteArray.extract (ByteArray.extract t 0 (min (ByteArray.size t) 80)) 32 64))) ((((by_ (ByteArray.extract t 0 (min (ByteArray.size t) 80)) 64 : Nat)) : Int)))]) (v := .bool false) (fun ρ o w ho hi => neS_run (x := (.tmp 31)) (y := (.tmp 32)) (sv (tl (ByteArray.extract (ByteArray.extract t 0 (min (ByteArray.size t) 80)) 0 32))) (sv (tl (ByteArray.extract (ByteArray.extract t 0 (min (ByteArray.size t) 80)) 32 64))) ((((by_ (ByteArray.extract t 0 (min (ByteArray.size t) 80)) 64 : Nat)) : Int)) (sv_big (ByteArray.extract (ByteArray.extract t 0 (min (ByteArray.size t) 80)) 0 32) (ex32 (ByteArray.extract t 0 (min (ByteArray.size t) 80)) hsz)) (sv_big (ByteArray.extract (ByteArray.extract t 0 (min (ByteArray.size t) 80)) 32 64) (ex64 (ByteArray.extract t 0 (min (ByteArray.size t) 80)) hsz)) w ho hi.1 hi.2.1), .v, .v, .v, .v, .v, .v, .cp (pre := Marks) alive7_fn [] (fun w hb hd => (Marks.oldB hb rfl hpre)), .v, .v] H5 kr fun gs6 w6 H6 => ?_
  clear H5
  refine g_keep [0, 1, 2, 4, 5, 6, 7, 8, 9, 10, 42] fun ρ2 => ?_
  have HK2 := H6.keep
  clear H6
  refine g_cond_f kr kr ?_
  refine g_skip kr ?_
  show WP _ _ _ _ _ _
  refine g_seq kr ?_
  refine g_sreg [0, 1, 2] kr kr ?_
  refine rp [.l 0, .c (issig_fn r s hr hs (v))] HK2 kr fun gs7 w7 H7 => ?_
  show WPs _ _ _ _ [2] _ _
  clear HK2
  refine s_now 44 (v := .bool (mayB r s (v))) (v' := .bool false) (bool_eq hm) kr ?_
  refine rp [.v] H7 kr fun gs8 w8 H8 => ?_
  show WPs _ _ _ _ [] _ _
  clear H7
  refine s_nil ?_
  refine g_cond_t kr kr ?_
  refine rS [.v, .v, .v, .v, .e (v := .bool (ByteArray.toList (⟨#[]⟩) == ByteArray.toList (⟨#[]⟩))) (v' := .bool true) (bool_eq (str_self (⟨#[]⟩))), .v, .v] H8 kr fun gs9 w9 H9 => ?_
  clear H8
  refine g_ret kr ?_
  show ∃ vs, Res _ _ _ _ vs ∧ _
  refine ⟨[.bool true], (.tmp (.bool true) kr .nil), ?_, H9.below⟩
  rfl
theorem sgB_at (r s : Nat) (v : Int) (hr : r < big) (hs : s < big) (t : ByteArray) (ht : ByteArray.size t ≤ 9223372036854775807) : FnP Tryd.prog 4 #[sgv r s v, .string t] Marks (.bool true) := by
  have hle : ByteArray.size (ByteArray.extract t 0 (min (ByteArray.size t) 80)) ≤ 9223372036854775807 := by rw [← tl_len, tl_extract, List.length_drop, List.length_take, tl_len]; omega
  cases hm : mayB r s v
  · by_cases hsz : ByteArray.size (ByteArray.extract t 0 (min (ByteArray.size t) 80)) = 65
    · cases hf : mayB (sv (tl (ByteArray.extract (ByteArray.extract t 0 (min (ByteArray.size t) 80)) 0 32))) (sv (tl (ByteArray.extract (ByteArray.extract t 0 (min (ByteArray.size t) 80)) 32 64))) (((by_ (ByteArray.extract t 0 (min (ByteArray.size t) 80)) 64 : Nat)) : Int)
      · exact sgB_no_n r s hr hs v hm t ht hle hsz hf
      · exact sgB_yes_n r s hr hs v hm t ht hle hsz hf
    · exact sgB_len_n r s hr hs v hm t ht hle hsz
  · by_cases hsz : ByteArray.size (ByteArray.extract t 0 (min (ByteArray.size t) 80)) = 65
    · cases hf : mayB (sv (tl (ByteArray.extract (ByteArray.extract t 0 (min (ByteArray.size t) 80)) 0 32))) (sv (tl (ByteArray.extract (ByteArray.extract t 0 (min (ByteArray.size t) 80)) 32 64))) (((by_ (ByteArray.extract t 0 (min (ByteArray.size t) 80)) 64 : Nat)) : Int)
      · exact sgB_no_y r s hr hs v hm t ht hle hsz hf
      · exact sgB_yes_y r s hr hs v hm t ht hle hsz hf
    · exact sgB_len_y r s hr hs v hm t ht hle hsz
end Go.Proofs.YtmmloghbnpfedaaDoor

namespace Go.Proofs.YtmmloghbnpfedaaDoor
open Go Go.ChangeShapes Go.WideShapes Go.ChangeAt Go.RowKit
set_option linter.unusedVariables false
set_option maxRecDepth 100000
theorem cells64 : Tryd.prog.cellsOf 22 = 1 := kr
theorem cellsU : Tryd.prog.cellsOf 24 = 4 := kr
theorem wd_of_wf {x : Int} (h : (Lit.int .u64 x).wf = true) : Wd x := by
  have hmin : IntKind.u64.min = 0 := rfl
  have hmax : IntKind.u64.max = 18446744073709551615 := rfl
  simp only [Lit.wf, Bool.and_eq_true, decide_eq_true_eq] at h
  unfold Wd; omega
theorem list9 {α : Type} (l : List α) (h : (⟨l⟩ : Array α).size = 9) : ∃ a b c d e f g i j, l = [a, b, c, d, e, f, g, i, j] := by
  match l, h with
  | [a, b, c, d, e, f, g, i, j], _ => exact ⟨a, b, c, d, e, f, g, i, j, rfl⟩
theorem four_words {H : Type} {enc : TypeId × Value → H} {W : World} {b0 : Nat} {sp : Nat → Bool} {held : Bool} {x : DataW H × List MemPlace} {fuel : Nat} {c0 c1 c2 c3 : Value}
    (hf : DataW.trod enc Tryd.prog W b0 sp held fuel 24 [c0, c1, c2, c3] = some x) : ∃ n : Nat, n < big ∧ c0 = .int .u64 (w0 n) ∧ c1 = .int .u64 (w1 n) ∧ c2 = .int .u64 (w2 n) ∧ c3 = .int .u64 (w3 n) := by
  obtain ⟨y0, y1, y2, y3, m, hx, hy0, hy1, hy2, hy3⟩ := trod_array4 Tryd.underlying24 cells64 hf
  obtain ⟨x0, e0, rfl, w0⟩ := DataW.trod_int Tryd.underlying22 hy0
  obtain ⟨x1, e1, rfl, w1⟩ := DataW.trod_int Tryd.underlying22 hy1
  obtain ⟨x2, e2, rfl, w2⟩ := DataW.trod_int Tryd.underlying22 hy2
  obtain ⟨x3, e3, rfl, w3⟩ := DataW.trod_int Tryd.underlying22 hy3
  simp at e0 e1 e2 e3
  subst e0 e1 e2 e3
  obtain ⟨n, hn, g0, g1, g2, g3⟩ := of_words (wd_of_wf w0) (wd_of_wf w1) (wd_of_wf w2) (wd_of_wf w3)
  exact ⟨n, hn, by rw [g0], by rw [g1], by rw [g2], by rw [g3]⟩
end Go.Proofs.YtmmloghbnpfedaaDoor

namespace Go.Proofs.YtmmloghbnpfedaaDoor
open Go Go.ChangeShapes Go.WideShapes Go.ChangeAt Go.RowKit Ke
set_option linter.unusedVariables false
set_option maxRecDepth 100000
def marksL : List Int := [1, 32898, 9223372036854808714, 9223372039002292224, 32907, 2147483649, 9223372039002292353, 9223372036854808585, 138, 136, 2147516425, 2147483658, 2147516555, 9223372036854775947, 9223372036854808713, 9223372036854808579, 9223372036854808578, 9223372036854775936, 32778, 9223372039002259466, 9223372039002292353, 9223372036854808704, 2147483649, 9223372039002292232]
theorem marksC_eq : marksC = (marksL.map (Value.int .u64)).toArray := kr
theorem gMarks : Tryd.prog.globalNamed "ecclesia/keccak.marks" = some 0 := kr
theorem marks_of_laid {W : World} (h : laidMetH Tryd.prog [("ecclesia/keccak.marks", Rows.laid_ecclesia_keccak_marks)] W) : Marks W := by
  rw [MakeChecks.laidMetH_plain _ _ _ kr] at h
  have t := Lib.tabIs_of_head (k := .u64) (zs := marksL) gMarks (show (Tryd.prog.globals[0]?).map (·.type) = some 109 by kernel_rfl) Tryd.underlying109 Tryd.underlying22 kr kr h
  unfold Lib.TabIs World.var? at t
  rw [gMarks] at t
  simp only [Option.bind_some] at t
  split at t
  · rename_i cs T fz hh
    exact ⟨T, fz, by rw [hh, marksC_eq]; exact congrArg (fun c => some (Obj.cells c T fz)) (Option.some.inj t)⟩
  · cases t
/-- A world that meets the condition: the settled one, the table laid. -/
noncomputable def laidWorld (os : Os) : World :=
  let w0 := World.holding Tryd.prog os ⟨#[], #[], []⟩
  { w0 with heap := w0.heap.modify 0 fun
      | .cells _ t frozen => .cells (marksL.map (Value.int .u64)).toArray t frozen
      | o => o }
theorem laidWorld_met (os : Os) (args : Array Value) : laidMetH Tryd.prog [("ecclesia/keccak.marks", Rows.laid_ecclesia_keccak_marks)] ((laidWorld os).forCall (fun _ _ => 0) ⟨#[], args, []⟩).memory := by
  rw [MakeChecks.laidMetH_plain _ _ _ kr]
  exact laidMet_of_run' 8 kr kr
theorem cellsSig : Tryd.prog.cellsOf 40 = 9 := kr
theorem cellsInt : Tryd.prog.cellsOf 3 = 1 := kr
theorem openSig {H : Type} {enc : TypeId × Value → H} {W : World} {base b0 : Nat} {v : Value} {sp : Nat → Bool} {held : Bool} {d : DataW H} {p : List MemPlace}
    (hv : Value.okWide Tryd.prog W .any base 40 v) (h : DataW.Trod enc Tryd.prog W b0 sp held 40 v d p) : ∃ (r s : Nat) (z : Int), r < big ∧ s < big ∧ (Lit.int .i64 z).wf = true ∧ v = sgv r s z := by
  obtain ⟨cs, rfl, hsz, _⟩ : ∃ cs, v = .agg cs ∧ cs.size = Tryd.prog.cellsOf 40 ∧ Row.okWide Tryd.prog W .any base 40 cs := by
    simpa [Value.okWide, Tryd.underlying40] using hv
  rw [cellsSig] at hsz
  obtain ⟨l⟩ := cs
  obtain ⟨c0, c1, c2, c3, c4, c5, c6, c7, c8, rfl⟩ := list9 l hsz
  obtain ⟨fuel, hf⟩ := h
  obtain ⟨y0, y1, y2, m, hx, hl, hy0, hy1, hy2⟩ := Go.Deep.trod_struct3 Tryd.underlying40 hf
  rw [cellsU] at hy0 hy1
  rw [cellsInt] at hy2
  obtain ⟨n, hn, a0, a1, a2, a3⟩ := four_words (show DataW.trod enc Tryd.prog W b0 sp held m 24 [c0, c1, c2, c3] = some y0 from hy0)
  obtain ⟨k, hk, b0', b1, b2, b3⟩ := four_words (show DataW.trod enc Tryd.prog W b0 sp held m 24 [c4, c5, c6, c7] = some y1 from hy1)
  obtain ⟨z, hz, _, hw⟩ := DataW.trod_int Tryd.underlying3 (show DataW.trod enc Tryd.prog W b0 sp held m 3 [c8] = some y2 from hy2)
  have hz : c8 = .int .i64 z := by simpa using hz
  exact ⟨n, k, z, hn, hk, hw, by rw [a0, a1, a2, a3, b0', b1, b2, b3, hz]; rfl⟩
end Go.Proofs.YtmmloghbnpfedaaDoor
