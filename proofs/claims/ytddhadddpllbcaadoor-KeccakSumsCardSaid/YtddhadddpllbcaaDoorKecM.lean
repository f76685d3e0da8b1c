/-
  Keccak's reckoning on lists of 25 words of 64 bits; sums; that no two states are mixed alike.
-/
import Derived.Below
namespace Go.Proofs.Kec
set_option linter.unusedVariables false
set_option maxRecDepth 10000

abbrev B64 := BitVec 64
def nth (s : List B64) (k : Nat) : B64 := s.getD k 0
def rl (x : B64) (n : Nat) : B64 := x.rotateLeft n
def rowX (v w x : B64) : B64 := v ^^^ (x &&& ~~~ w)
def cC (s : List B64) (x : Nat) : B64 := nth s x ^^^ nth s (x + 5) ^^^ nth s (x + 10) ^^^ nth s (x + 15) ^^^ nth s (x + 20)
def dD (c : Nat → B64) (x : Nat) : B64 := c ((x + 4) % 5) ^^^ rl (c ((x + 1) % 5)) 1
def srcT : List Nat := [0,6,12,18,24, 3,9,10,16,22, 1,7,13,19,20, 4,5,11,17,23, 2,8,14,15,21]
def rotT : List Nat := [0,44,43,21,14, 28,20,3,45,61, 1,6,25,8,18, 27,36,10,15,56, 62,55,39,41,2]
def th (s : List B64) (i : Nat) : B64 := nth s i ^^^ dD (cC s) (i % 5)
def pI (s : List B64) (k : Nat) : B64 := rl (th s (srcT.getD k 0)) (rotT.getD k 0)
def xI (b : Nat → B64) (k : Nat) : B64 := rowX (b k) (b (k / 5 * 5 + (k % 5 + 1) % 5)) (b (k / 5 * 5 + (k % 5 + 2) % 5))
def rnd (s : List B64) : List B64 := (List.range 25).map (xI (pI s))

/-! ### turning -/
theorem rl_bit (a : B64) (n i : Nat) (hi : i < 64) : (rl a n).getLsbD i = a.getLsbD ((i + 64 - n % 64) % 64) := by
  unfold rl
  rw [BitVec.getLsbD_rotateLeft]
  by_cases h : i < n % 64
  · rw [decide_eq_true h, cond_true]; congr 1; omega
  · rw [decide_eq_false h, cond_false, decide_eq_true hi, Bool.true_and]; congr 1; omega
theorem rl_xor (a b : B64) (n : Nat) : rl (a ^^^ b) n = rl a n ^^^ rl b n := by
  apply BitVec.eq_of_getLsbD_eq
  intro i hi
  rw [BitVec.getLsbD_xor, rl_bit _ _ _ hi, rl_bit _ _ _ hi, rl_bit _ _ _ hi, BitVec.getLsbD_xor]
theorem rl_rl (a : B64) (m n : Nat) : rl (rl a m) n = rl a (m + n) := by
  apply BitVec.eq_of_getLsbD_eq
  intro i hi
  rw [rl_bit _ _ _ hi, rl_bit _ _ _ (by omega), rl_bit _ _ _ hi]
  congr 1; omega
theorem rl_64 (a : B64) : rl a 64 = a := by
  apply BitVec.eq_of_getLsbD_eq
  intro i hi
  rw [rl_bit _ _ _ hi]
  congr 1; omega
theorem rl_inj {a b : B64} {n : Nat} (h : rl a n = rl b n) : a = b := by
  have h2 : rl (rl a n) (64 - n % 64) = rl (rl b n) (64 - n % 64) := by rw [h]
  have k : ∀ c : B64, rl (rl c n) (64 - n % 64) = c := fun c => by
    rw [rl_rl]
    apply BitVec.eq_of_getLsbD_eq
    intro i hi
    rw [rl_bit _ _ _ hi]
    congr 1; omega
  rwa [k, k] at h2

/-! ### bits that cancel -/
theorem x9 (a b c d e f : B64) : (a ^^^ b ^^^ c) ^^^ (b ^^^ d ^^^ e) ^^^ (c ^^^ e ^^^ f) = a ^^^ d ^^^ f := by
  apply BitVec.eq_of_getLsbD_eq
  intro i hi
  simp only [BitVec.getLsbD_xor]
  generalize a.getLsbD i = a, b.getLsbD i = b, c.getLsbD i = c, d.getLsbD i = d, e.getLsbD i = e, f.getLsbD i = f
  revert a b c d e f; decide
def L (j : Nat) (c : Nat → B64) (x : Nat) : B64 := c x ^^^ c ((x + 4 * j) % 5) ^^^ rl (c ((x + j) % 5)) j
theorem L_double (j : Nat) (c : Nat → B64) (x : Nat) (hx : x < 5) : L (2 * j) c x = L j c x ^^^ L j c ((x + 4 * j) % 5) ^^^ rl (L j c ((x + j) % 5)) j := by
  unfold L
  rw [rl_xor, rl_xor, rl_rl]
  rw [show ((x + 4 * j) % 5 + j) % 5 = x by omega, show ((x + j) % 5 + 4 * j) % 5 = x by omega, show ((x + 4 * j) % 5 + 4 * j) % 5 = (x + 4 * (2 * j)) % 5 by omega,
    show ((x + j) % 5 + j) % 5 = (x + 2 * j) % 5 by omega, show j + j = 2 * j by omega, x9]
theorem L_step {j : Nat} {c c' : Nat → B64} (h : ∀ x, x < 5 → L j c x = L j c' x) : ∀ x, x < 5 → L (2 * j) c x = L (2 * j) c' x := fun x hx => by
  rw [L_double _ _ _ hx, L_double _ _ _ hx, h x hx, h _ (Nat.mod_lt _ (by decide)), h _ (Nat.mod_lt _ (by decide))]
theorem x27 (a b c d e : B64) :
    ((a ^^^ b ^^^ e) ^^^ (b ^^^ c ^^^ a) ^^^ (e ^^^ a ^^^ d)) ^^^ ((b ^^^ c ^^^ a) ^^^ (c ^^^ d ^^^ b) ^^^ (a ^^^ b ^^^ e)) ^^^ ((e ^^^ a ^^^ d) ^^^ (a ^^^ b ^^^ e) ^^^ (d ^^^ e ^^^ c)) = a := by
  apply BitVec.eq_of_getLsbD_eq
  intro i hi
  simp only [BitVec.getLsbD_xor]
  generalize a.getLsbD i = a, b.getLsbD i = b, c.getLsbD i = c, d.getLsbD i = d, e.getLsbD i = e
  revert a b c d e; decide
def M (c : Nat → B64) (x : Nat) : B64 := c x ^^^ c ((x + 1) % 5) ^^^ c ((x + 4) % 5)
theorem M3 (c : Nat → B64) (x : Nat) (hx : x < 5) : M (M (M c)) x = c x := by
  unfold M
  have e : x = 0 ∨ x = 1 ∨ x = 2 ∨ x = 3 ∨ x = 4 := by omega
  rcases e with rfl | rfl | rfl | rfl | rfl <;> exact x27 _ _ _ _ _
theorem L64 (c : Nat → B64) (x : Nat) (hx : x < 5) : L 64 c x = M c x := by
  unfold L M
  rw [rl_64]
  have e : x = 0 ∨ x = 1 ∨ x = 2 ∨ x = 3 ∨ x = 4 := by omega
  rcases e with rfl | rfl | rfl | rfl | rfl <;> rfl
theorem M_cong {c c' : Nat → B64} (h : ∀ x, x < 5 → c x = c' x) : ∀ x, x < 5 → M c x = M c' x := fun x hx => by
  unfold M
  rw [h x hx, h _ (Nat.mod_lt _ (by decide)), h _ (Nat.mod_lt _ (by decide))]
theorem L_inj {c c' : Nat → B64} (h : ∀ x, x < 5 → L 1 c x = L 1 c' x) : ∀ x, x < 5 → c x = c' x := by
  have h64 : ∀ x, x < 5 → L 64 c x = L 64 c' x := L_step (j := 32) (L_step (j := 16) (L_step (j := 8) (L_step (j := 4) (L_step (j := 2) (L_step (j := 1) h)))))
  have hm : ∀ x, x < 5 → M c x = M c' x := fun x hx => by rw [← L64 c x hx, ← L64 c' x hx, h64 x hx]
  intro x hx
  rw [← M3 c x hx, ← M3 c' x hx]
  exact M_cong (M_cong hm) x hx

/-! ### a row -/
theorem row_bits : ∀ a b c d e a' b' c' d' e' : Bool, (a ^^ (c && !b)) = (a' ^^ (c' && !b')) → (b ^^ (d && !c)) = (b' ^^ (d' && !c')) → (c ^^ (e && !d)) = (c' ^^ (e' && !d')) → (d ^^ (a && !e)) = (d' ^^ (a' && !e')) → (e ^^ (b && !a)) = (e' ^^ (b' && !a')) →
    a = a' ∧ b = b' ∧ c = c' ∧ d = d' ∧ e = e' := by
  intro a b c d e a' b' c' d' e'
  cases a <;> cases b <;> cases c <;> cases d <;> cases e <;> revert a' b' c' d' e' <;> decide
theorem rowX_bit (v w x : B64) (i : Nat) (hi : i < 64) : (rowX v w x).getLsbD i = (v.getLsbD i ^^ (x.getLsbD i && !w.getLsbD i)) := by
  unfold rowX; simp [hi]
theorem row_inj {a b c d e a' b' c' d' e' : B64} (h0 : rowX a b c = rowX a' b' c') (h1 : rowX b c d = rowX b' c' d') (h2 : rowX c d e = rowX c' d' e') (h3 : rowX d e a = rowX d' e' a') (h4 : rowX e a b = rowX e' a' b') :
    a = a' ∧ b = b' ∧ c = c' ∧ d = d' ∧ e = e' := by
  have key : ∀ i, i < 64 → a.getLsbD i = a'.getLsbD i ∧ b.getLsbD i = b'.getLsbD i ∧ c.getLsbD i = c'.getLsbD i ∧ d.getLsbD i = d'.getLsbD i ∧ e.getLsbD i = e'.getLsbD i := fun i hi => by
    have g : ∀ {x y : B64}, x = y → x.getLsbD i = y.getLsbD i := fun h => by rw [h]
    have k0 := g h0; have k1 := g h1; have k2 := g h2; have k3 := g h3; have k4 := g h4
    rw [rowX_bit _ _ _ _ hi, rowX_bit _ _ _ _ hi] at k0 k1 k2 k3 k4
    exact row_bits _ _ _ _ _ _ _ _ _ _ k0 k1 k2 k3 k4
  exact ⟨BitVec.eq_of_getLsbD_eq fun i hi => (key i hi).1, BitVec.eq_of_getLsbD_eq fun i hi => (key i hi).2.1, BitVec.eq_of_getLsbD_eq fun i hi => (key i hi).2.2.1,
    BitVec.eq_of_getLsbD_eq fun i hi => (key i hi).2.2.2.1, BitVec.eq_of_getLsbD_eq fun i hi => (key i hi).2.2.2.2⟩
theorem xI_inj {b b' : Nat → B64} (h : ∀ k, k < 25 → xI b k = xI b' k) : ∀ k, k < 25 → b k = b' k := by
  have row : ∀ y, y < 5 → b (y * 5) = b' (y * 5) ∧ b (y * 5 + 1) = b' (y * 5 + 1) ∧ b (y * 5 + 2) = b' (y * 5 + 2) ∧ b (y * 5 + 3) = b' (y * 5 + 3) ∧ b (y * 5 + 4) = b' (y * 5 + 4) := fun y hy => by
    have e : ∀ (c : Nat → B64) x, x < 5 → xI c (y * 5 + x) = rowX (c (y * 5 + x)) (c (y * 5 + (x + 1) % 5)) (c (y * 5 + (x + 2) % 5)) := fun c x hx => by
      unfold xI; rw [show (y * 5 + x) / 5 * 5 = y * 5 by omega, show (y * 5 + x) % 5 = x by omega]
    have k : ∀ x, x < 5 → rowX (b (y * 5 + x)) (b (y * 5 + (x + 1) % 5)) (b (y * 5 + (x + 2) % 5)) = rowX (b' (y * 5 + x)) (b' (y * 5 + (x + 1) % 5)) (b' (y * 5 + (x + 2) % 5)) := fun x hx => by
      rw [← e b x hx, ← e b' x hx]; exact h _ (by omega)
    exact row_inj (k 0 (by decide)) (k 1 (by decide)) (k 2 (by decide)) (k 3 (by decide)) (k 4 (by decide))
  intro k hk
  have r := row (k / 5) (by omega)
  have e : k % 5 = 0 ∨ k % 5 = 1 ∨ k % 5 = 2 ∨ k % 5 = 3 ∨ k % 5 = 4 := by omega
  rcases e with e | e | e | e | e
  · rw [show k = k / 5 * 5 by omega]; exact r.1
  · rw [show k = k / 5 * 5 + 1 by omega]; exact r.2.1
  · rw [show k = k / 5 * 5 + 2 by omega]; exact r.2.2.1
  · rw [show k = k / 5 * 5 + 3 by omega]; exact r.2.2.2.1
  · rw [show k = k / 5 * 5 + 4 by omega]; exact r.2.2.2.2

/-! ### a round -/
theorem x_col (a b c d e f : B64) : (a ^^^ f) ^^^ (b ^^^ f) ^^^ (c ^^^ f) ^^^ (d ^^^ f) ^^^ (e ^^^ f) = (a ^^^ b ^^^ c ^^^ d ^^^ e) ^^^ f := by
  apply BitVec.eq_of_getLsbD_eq
  intro i hi
  simp only [BitVec.getLsbD_xor]
  generalize a.getLsbD i = a, b.getLsbD i = b, c.getLsbD i = c, d.getLsbD i = d, e.getLsbD i = e, f.getLsbD i = f
  revert a b c d e f; decide
theorem th_col (s : List B64) (x : Nat) (hx : x < 5) : th s x ^^^ th s (x + 5) ^^^ th s (x + 10) ^^^ th s (x + 15) ^^^ th s (x + 20) = L 1 (cC s) x := by
  unfold th
  rw [show (x + 5) % 5 = x % 5 by omega, show (x + 10) % 5 = x % 5 by omega, show (x + 15) % 5 = x % 5 by omega, show (x + 20) % 5 = x % 5 by omega, x_col, show x % 5 = x by omega]
  show cC s x ^^^ dD (cC s) x = _
  unfold dD L
  rw [BitVec.xor_assoc]
theorem src_all : ∀ j, j < 25 → ∃ k, k < 25 ∧ srcT.getD k 0 = j := by
  have : ∀ j : Fin 25, ∃ k : Fin 25, srcT.getD k 0 = j := by decide
  intro j hj
  obtain ⟨k, hk⟩ := this ⟨j, hj⟩
  exact ⟨k, k.2, hk⟩
theorem xor_right_inj {a b c : B64} (h : a ^^^ c = b ^^^ c) : a = b := by
  have : (a ^^^ c) ^^^ c = (b ^^^ c) ^^^ c := by rw [h]
  rwa [BitVec.xor_assoc, BitVec.xor_assoc, BitVec.xor_self, BitVec.xor_zero, BitVec.xor_zero] at this
theorem rnd_get (s : List B64) (k : Nat) (hk : k < 25) : (rnd s)[k]? = some (xI (pI s) k) := by
  unfold rnd; simp [hk]
theorem rnd_len (s : List B64) : (rnd s).length = 25 := by unfold rnd; simp
theorem rnd_inj {s t : List B64} (hs : s.length = 25) (ht : t.length = 25) (h : rnd s = rnd t) : s = t := by
  have hx : ∀ k, k < 25 → xI (pI s) k = xI (pI t) k := fun k hk => by
    have e1 := rnd_get s k hk
    rw [h, rnd_get t k hk] at e1
    exact (Option.some.inj e1).symm
  have hp := xI_inj hx
  have hth : ∀ j, j < 25 → th s j = th t j := fun j hj => by
    obtain ⟨k, hk, rfl⟩ := src_all j hj
    exact rl_inj (hp k hk)
  have hc : ∀ x, x < 5 → cC s x = cC t x := L_inj fun x hx => by
    rw [← th_col s x hx, ← th_col t x hx, hth x (by omega), hth (x + 5) (by omega), hth (x + 10) (by omega), hth (x + 15) (by omega), hth (x + 20) (by omega)]
  have hd : ∀ x, x < 5 → dD (cC s) x = dD (cC t) x := fun x hx => by
    unfold dD; rw [hc _ (Nat.mod_lt _ (by decide)), hc _ (Nat.mod_lt _ (by decide))]
  apply List.ext_getElem (by rw [hs, ht])
  intro j h1 h2
  have e := hth j (by omega)
  unfold th at e
  rw [hd _ (Nat.mod_lt _ (by decide))] at e
  have := xor_right_inj e
  simpa [nth, h1, h2] using this

/-! ### all rounds -/
def markX (m : B64) (s : List B64) : List B64 := (nth s 0 ^^^ m) :: s.drop 1
def rm (s : List B64) (m : B64) : List B64 := markX m (rnd s)
def marks : List B64 := [0x0000000000000001, 0x0000000000008082, 0x800000000000808A, 0x8000000080008000,
  0x000000000000808B, 0x0000000080000001, 0x8000000080008081, 0x8000000000008009,
  0x000000000000008A, 0x0000000000000088, 0x0000000080008009, 0x000000008000000A,
  0x000000008000808B, 0x800000000000008B, 0x8000000000008089, 0x8000000000008003,
  0x8000000000008002, 0x8000000000000080, 0x000000000000800A, 0x800000008000000A,
  0x8000000080008081, 0x8000000000008080, 0x0000000080000001, 0x8000000080008008]
def mix (s : List B64) : List B64 := marks.foldl rm s
theorem markX_len (m : B64) {s : List B64} (h : s.length = 25) : (markX m s).length = 25 := by unfold markX; simp [h]
theorem markX_inj {m : B64} {s t : List B64} (hs : s.length = 25) (ht : t.length = 25) (h : markX m s = markX m t) : s = t := by
  match s, t, hs, ht with
  | a :: s, b :: t, _, _ =>
    unfold markX nth at h
    simp at h
    obtain ⟨h1, h2⟩ := h
    rw [h1, h2]
theorem rm_len (s : List B64) (m : B64) : (rm s m).length = 25 := markX_len m (rnd_len s)
theorem foldl_rm_len : ∀ (ms : List B64) {s : List B64}, s.length = 25 → (ms.foldl rm s).length = 25
  | [], _, h => h
  | m :: ms, s, _ => foldl_rm_len ms (rm_len s m)
theorem mix_len {s : List B64} (h : s.length = 25) : (mix s).length = 25 := foldl_rm_len _ h
theorem foldl_rm_inj : ∀ (ms : List B64) {s t : List B64}, s.length = 25 → t.length = 25 → ms.foldl rm s = ms.foldl rm t → s = t
  | [], _, _, _, _, h => h
  | m :: ms, s, t, hs, ht, h => rnd_inj hs ht (markX_inj (rnd_len s) (rnd_len t) (foldl_rm_inj ms (rm_len s m) (rm_len t m) h))
theorem mix_inj {s t : List B64} (hs : s.length = 25) (ht : t.length = 25) (h : mix s = mix t) : s = t := foldl_rm_inj marks hs ht h
/-! ### sums -/
def byteB (b : UInt8) : B64 := BitVec.ofNat 64 b.toNat
def liftB (b : B64) (i : Nat) : B64 := b <<< (i % 8 * 8)
/-- The state with a byte laid at a place. -/
def lay (s : List B64) (n : Nat) (b : B64) : List B64 := s.set (n / 8) (nth s (n / 8) ^^^ liftB b n)
def step1 (st : List B64 × Nat) (b : UInt8) : List B64 × Nat :=
  if st.2 + 1 = 136 then (mix (lay st.1 st.2 (byteB b)), 0) else (lay st.1 st.2 (byteB b), st.2 + 1)
def takeB (st : List B64 × Nat) (l : List UInt8) : List B64 × Nat := l.foldl step1 st
def endB (st : List B64 × Nat) : List B64 := lay (lay st.1 st.2 1) 135 0x80
def firstB (s : List B64) : List UInt8 := (List.range 32).map fun i => UInt8.ofNat ((nth s (i / 8)).toNat / 2 ^ (i % 8 * 8))
def zeroS : List B64 := List.replicate 25 0
def sumB (l : List UInt8) : List UInt8 := firstB (mix (endB (takeB (zeroS, 0) l)))
theorem lay_len {s : List B64} (n : Nat) (b : B64) (h : s.length = 25) : (lay s n b).length = 25 := by unfold lay; simp [h]
structure StOK (st : List B64 × Nat) : Prop where
  len : st.1.length = 25
  lt : st.2 < 136
theorem step1_ok {st : List B64 × Nat} (b : UInt8) (h : StOK st) : StOK (step1 st b) := by
  unfold step1
  split
  · exact ⟨mix_len (lay_len _ _ h.len), (by decide : 0 < 136)⟩
  · exact ⟨lay_len _ _ h.len, by have := h.lt; simp only; omega⟩
theorem takeB_ok : ∀ (l : List UInt8) {st : List B64 × Nat}, StOK st → StOK (takeB st l)
  | [], _, h => h
  | b :: l, st, h => takeB_ok l (step1_ok b h)
theorem takeB_append (st : List B64 × Nat) (l m : List UInt8) : takeB st (l ++ m) = takeB (takeB st l) m := by unfold takeB; exact List.foldl_append
theorem takeB_snoc (st : List B64 × Nat) (l : List UInt8) (b : UInt8) : takeB st (l ++ [b]) = step1 (takeB st l) b := by rw [takeB_append]; rfl
theorem zero_ok : StOK (zeroS, 0) := ⟨by decide, by decide⟩
theorem end_len {st : List B64 × Nat} (h : StOK st) : (endB st).length = 25 := lay_len _ _ (lay_len _ _ h.len)
theorem firstB_len (s : List B64) : (firstB s).length = 32 := by unfold firstB; simp
theorem sumB_len (l : List UInt8) : (sumB l).length = 32 := firstB_len _
