/-
  Sums of texts, as the reference lays them: blocks of 136 bytes, seventeen words each.
-/
import Derived.Test.YtddhadddpllbcaaDoorKecO
import Derived.Test.YtddhadddpllbcaaDoorArr
namespace Go.Proofs.YtddhadddpllbcaaDoor
open Go Go.RowKit Go.Proofs.Kec
set_option linter.unusedVariables false
def bt (X : List UInt8) (k : Nat) : B64 := byteB (X.getD k 0)
def wpx (X : List UInt8) (q : Nat) : Nat → B64
  | 0 => 0
  | m + 1 => wpx X q m ^^^ bt X (8 * q + m) <<< (8 * m)
/-- The word of eight bytes, from the highest one on: k of them are taken. -/
def wrk (X : List UInt8) (o : Nat) : Nat → B64
  | 0 => 0
  | k + 1 => 256 * wrk X o k + bt X (o + (7 - k))
theorem byteB_lt (b : UInt8) : (byteB b).toNat < 256 := by
  unfold byteB; rw [BitVec.toNat_ofNat]; have := b.toNat_lt; omega
theorem byte_xor (x : B64) (b : B64) (hb : b.toNat < 256) : x <<< 8 ^^^ b = 256 * x + b := by
  have hbit : ∀ i, 8 ≤ i → b.getLsbD i = false := fun i hi => by
    unfold BitVec.getLsbD
    exact Nat.testBit_lt_two_pow (Nat.lt_of_lt_of_le hb (show 256 ≤ 2 ^ i from Nat.pow_le_pow_right (n := 2) (by omega) hi))
  have h0 : x <<< 8 &&& b = 0#64 := by
    apply BitVec.eq_of_getLsbD_eq
    intro i hi
    rw [BitVec.getLsbD_and, BitVec.getLsbD_shiftLeft, BitVec.getLsbD_zero]
    by_cases h : i < 8
    · simp [h]
    · rw [hbit i (by omega)]; simp
  have h1 : x <<< 8 ^^^ b = x <<< 8 ||| b := by
    apply BitVec.eq_of_getLsbD_eq
    intro i hi
    rw [BitVec.getLsbD_xor, BitVec.getLsbD_or, BitVec.getLsbD_shiftLeft]
    by_cases h : i < 8
    · simp [h]
    · rw [hbit i (by omega)]; simp
  rw [h1, ← BitVec.add_eq_or_of_and_eq_zero _ _ h0, BitVec.shiftLeft_eq_mul_twoPow, BitVec.mul_comm]; rfl
theorem wr_inv (X : List UInt8) (q : Nat) : ∀ m, m ≤ 8 → wrk X (8 * q) 8 = wpx X q m ^^^ wrk X (8 * q) (8 - m) <<< (8 * m)
  | 0, _ => by show wrk X (8 * q) 8 = (0#64 : B64) ^^^ (wrk X (8 * q) 8) <<< (0 : Nat); rw [BitVec.zero_xor, BitVec.shiftLeft_zero]
  | m + 1, h => by
    rw [wr_inv X q m (by omega), show 8 - m = 8 - (m + 1) + 1 by omega]
    show _ ^^^ (256 * wrk X (8 * q) (8 - (m + 1)) + bt X (8 * q + (7 - (8 - (m + 1))))) <<< (8 * m) = (wpx X q m ^^^ bt X (8 * q + m) <<< (8 * m)) ^^^ _
    rw [show 7 - (8 - (m + 1)) = m by omega, ← byte_xor _ (bt X (8 * q + m)) (byteB_lt _), BitVec.shiftLeft_xor_distrib, show 8 * (m + 1) = 8 + 8 * m by omega, BitVec.shiftLeft_add, BitVec.xor_assoc, BitVec.xor_comm (bt X (8 * q + m) <<< (8 * m))]
theorem wpx_word (X : List UInt8) (q : Nat) : wpx X q 8 = wrk X (8 * q) 8 := by
  rw [wr_inv X q 8 (by omega)]
  show _ = _ ^^^ (0#64 : B64) <<< _
  rw [BitVec.zero_shiftLeft, BitVec.xor_zero]
/-- A state with a block's words laid in, i of them. -/
def xw (a : List B64) (f : Nat → B64) (i : Nat) : List B64 := (List.range 25).map fun j => if j < i then nth a j ^^^ f j else nth a j
theorem xw_len (a : List B64) (f : Nat → B64) (i : Nat) : (xw a f i).length = 25 := by unfold xw; simp
theorem nth_map (g : Nat → B64) (j : Nat) (h : j < 25) : nth ((List.range 25).map g) j = g j := by
  unfold nth; rw [List.getD_eq_getElem?_getD, List.getElem?_map]; simp [h]
theorem nth_xw (a : List B64) (f : Nat → B64) (i j : Nat) (h : j < 25) : nth (xw a f i) j = if j < i then nth a j ^^^ f j else nth a j := nth_map _ j h
theorem ext25 {s t : List B64} (hs : s.length = 25) (ht : t.length = 25) (h : ∀ j, j < 25 → nth s j = nth t j) : s = t := by
  apply List.ext_getElem (by rw [hs, ht])
  intro i h1 h2
  have := h i (by omega)
  unfold nth at this
  rw [List.getD_eq_getElem?_getD, List.getD_eq_getElem?_getD, List.getElem?_eq_getElem h1, List.getElem?_eq_getElem h2] at this
  exact this
theorem xw_zero {a : List B64} (f : Nat → B64) (ha : a.length = 25) : a = xw a f 0 := ext25 ha (xw_len _ _ _) fun j hj => by rw [nth_xw _ _ _ _ hj, if_neg (by omega)]
theorem xw_at (a : List B64) (f : Nat → B64) (i : Nat) (h : i < 25) : nth (xw a f i) i = nth a i := by rw [nth_xw _ _ _ _ h, if_neg (by omega)]
theorem xw_set (a : List B64) (f : Nat → B64) (i : Nat) (h : i < 25) : (xw a f i).set i (nth a i ^^^ f i) = xw a f (i + 1) := by
  refine ext25 (by rw [List.length_set, xw_len]) (xw_len _ _ _) fun j hj => ?_
  rw [nth_set _ _ _ _ (by rw [xw_len]; exact h)]
  by_cases e : j = i
  · subst e; rw [if_pos rfl, nth_xw _ _ _ _ hj, if_pos (by omega)]
  · rw [if_neg e, nth_xw _ _ _ _ hj, nth_xw _ _ _ _ hj]
    by_cases e2 : j < i
    · rw [if_pos e2, if_pos (by omega)]
    · rw [if_neg e2, if_neg (by omega)]
theorem lay_nth (s : List B64) (n : Nat) (b : B64) (j : Nat) (hs : s.length = 25) (hn : n < 200) : nth (lay s n b) j = if j = n / 8 then nth s (n / 8) ^^^ liftB b n else nth s j := by
  unfold lay; rw [nth_set _ _ _ _ (by omega)]
theorem bytes_in (a : List B64) (ha : a.length = 25) (X : List UInt8) : ∀ j, j ≤ 135 → j ≤ X.length → ∃ B, takeB (a, 0) (X.take j) = (B, j) ∧ B.length = 25 ∧ ∀ q, q < 25 → nth B q = nth a q ^^^ wpx X q (min 8 (j - 8 * q))
  | 0, _, _ => ⟨a, rfl, ha, fun q _ => by rw [show min 8 (0 - 8 * q) = 0 by omega]; show _ = _ ^^^ (0#64 : B64); rw [BitVec.xor_zero]⟩
  | j + 1, h, hX => by
    obtain ⟨B, hB, hl, hp⟩ := bytes_in a ha X j (by omega) (by omega)
    have hx : X.take (j + 1) = X.take j ++ [X.getD j 0] := by
      rw [List.take_add_one, List.getElem?_eq_getElem (show j < X.length by omega), Option.toList_some, List.getD_eq_getElem?_getD, List.getElem?_eq_getElem (show j < X.length by omega)]; rfl
    refine ⟨lay B j (bt X j), ?_, lay_len _ _ hl, fun q hq => ?_⟩
    · rw [hx, takeB_snoc, hB]
      unfold step1
      exact if_neg (by show ¬ j + 1 = 136; omega)
    · rw [lay_nth _ _ _ _ hl (by omega)]
      by_cases e : q = j / 8
      · rw [if_pos e, ← e, hp q hq, show min 8 (j + 1 - 8 * q) = min 8 (j - 8 * q) + 1 by omega]
        show _ = nth a q ^^^ (wpx X q (min 8 (j - 8 * q)) ^^^ bt X (8 * q + min 8 (j - 8 * q)) <<< (8 * min 8 (j - 8 * q)))
        rw [show 8 * q + min 8 (j - 8 * q) = j by omega]
        unfold liftB
        rw [show j % 8 * 8 = 8 * min 8 (j - 8 * q) by omega, BitVec.xor_assoc]
      · rw [if_neg e, hp q hq, show min 8 (j + 1 - 8 * q) = min 8 (j - 8 * q) by omega]
/-- A whole block. -/
theorem block_in (a : List B64) (ha : a.length = 25) (X : List UInt8) (hX : X.length = 136) : takeB (a, 0) X = (mix (xw a (fun q => wrk X (8 * q) 8) 17), 0) := by
  obtain ⟨B, hB, hl, hp⟩ := bytes_in a ha X 135 (by omega) (by omega)
  have hx : X = X.take 135 ++ [X.getD 135 0] := by
    conv => lhs; rw [← List.take_of_length_le (show X.length ≤ 135 + 1 by omega)]
    rw [List.take_add_one, List.getElem?_eq_getElem (show 135 < X.length by omega), Option.toList_some, List.getD_eq_getElem?_getD, List.getElem?_eq_getElem (show 135 < X.length by omega)]; rfl
  have h1 : takeB (a, 0) X = (mix (lay B 135 (bt X 135)), 0) := by
    rw [hx, takeB_snoc, hB]
    unfold step1
    rw [if_pos (by show 135 + 1 = 136; rfl)]
    congr 3
    unfold bt; rw [← hx]
  rw [h1]
  congr 2
  refine ext25 (lay_len _ _ hl) (xw_len _ _ _) fun q hq => ?_
  rw [lay_nth _ _ _ _ hl (by omega), nth_xw _ _ _ _ hq]
  by_cases e : q = 135 / 8
  · rw [if_pos e, if_pos (by omega), ← e, hp q hq, ← wpx_word, show min 8 (135 - 8 * q) = 7 by omega]
    show _ = nth a q ^^^ (wpx X q 7 ^^^ bt X (8 * q + 7) <<< (8 * 7))
    rw [show 8 * q + 7 = 135 by omega, BitVec.xor_assoc]; rfl
  · rw [if_neg e, hp q hq]
    by_cases e2 : q < 17
    · rw [if_pos e2, ← wpx_word, show min 8 (135 - 8 * q) = 8 by omega]
    · rw [if_neg e2, show min 8 (135 - 8 * q) = 0 by omega]
      show _ ^^^ (0#64 : B64) = _; rw [BitVec.xor_zero]
theorem lay_zero {s : List B64} (n : Nat) (hs : s.length = 25) (hn : n < 200) : lay s n 0 = s := ext25 (lay_len _ _ hs) hs fun j hj => by
  rw [lay_nth _ _ _ _ hs hn]
  by_cases e : j = n / 8
  · rw [if_pos e, ← e]; unfold liftB; show _ ^^^ (0#64 : B64) <<< _ = _; rw [BitVec.zero_shiftLeft, BitVec.xor_zero]
  · rw [if_neg e]
theorem zeros_in : ∀ (z n : Nat) {s : List B64}, s.length = 25 → n + z ≤ 135 → takeB (s, n) (List.replicate z 0) = (s, n + z)
  | 0, n, s, _, _ => rfl
  | z + 1, n, s, hs, h => by
    rw [List.replicate_succ]
    show takeB (step1 (s, n) 0) _ = _
    have e : step1 (s, n) 0 = (s, n + 1) := by
      unfold step1
      rw [if_neg (by show ¬ n + 1 = 136; omega)]
      show (lay s n (byteB 0), n + 1) = _
      rw [show byteB 0 = (0 : B64) from rfl, lay_zero n hs (by omega)]
    rw [e, zeros_in z (n + 1) hs (by omega)]
    congr 1; omega
theorem lay_two {s : List B64} (b c : B64) (hs : s.length = 25) : lay (lay s 135 b) 135 c = lay s 135 (b ^^^ c) := ext25 (lay_len _ _ (lay_len _ _ hs)) (lay_len _ _ hs) fun j hj => by
  rw [lay_nth _ _ _ _ (lay_len _ _ hs) (by omega), lay_nth _ _ _ _ hs (by omega), lay_nth _ _ _ _ hs (by omega), lay_nth _ _ _ _ hs (by omega)]
  by_cases e : j = 135 / 8
  · rw [if_pos e, if_pos rfl, if_pos e]; unfold liftB; rw [BitVec.shiftLeft_xor_distrib, BitVec.xor_assoc]
  · rw [if_neg e, if_neg e]; rw [if_neg e]
/-- A text with what the reference puts behind it; the last byte not yet raised. -/
def padK (s : ByteArray) (z : Nat) : List UInt8 := tl s ++ (1 :: List.replicate z 0)
theorem padK0 (s : ByteArray) : tl s ++ [UInt8.ofBitVec (1 : BitVec 8)] = padK s 0 := rfl
theorem padK_succ (s : ByteArray) (z : Nat) : padK s z ++ [UInt8.ofBitVec (0 : BitVec 8)] = padK s (z + 1) := by
  unfold padK; rw [List.replicate_succ']; simp
theorem padK_len (s : ByteArray) (z : Nat) : (padK s z).length = ByteArray.size s + 1 + z := by unfold padK; simp [tl_len]; omega
def PK (s : ByteArray) (z : Nat) : List UInt8 := (padK s z).set ((padK s z).length - 1) (UInt8.ofBitVec (UInt8.toBitVec ((padK s z).getD ((padK s z).length - 1) 0) + (128 : BitVec 8)))
theorem PK_len (s : ByteArray) (z : Nat) : (PK s z).length = ByteArray.size s + 1 + z := by unfold PK; rw [List.length_set, padK_len]
theorem PK_zero (s : ByteArray) : PK s 0 = tl s ++ [129] := by
  unfold PK
  rw [padK_len, show ByteArray.size s + 1 + 0 - 1 = (tl s).length from by rw [tl_len]; omega]
  unfold padK
  rw [List.set_append_right _ _ (Nat.le_refl _), List.getD_eq_getElem?_getD, List.getElem?_append_right (Nat.le_refl _), Nat.sub_self]; rfl
theorem PK_succ (s : ByteArray) (z : Nat) : PK s (z + 1) = tl s ++ (1 :: (List.replicate z 0 ++ [128])) := by
  unfold PK
  rw [padK_len, show ByteArray.size s + 1 + (z + 1) - 1 = (tl s).length + (z + 1) from by rw [tl_len]; omega]
  unfold padK
  rw [List.set_append_right _ _ (by omega), List.getD_eq_getElem?_getD, List.getElem?_append_right (by omega), show (tl s).length + (z + 1) - (tl s).length = z + 1 by omega]
  congr 1
  rw [List.replicate_succ']
  have e : (1 :: (List.replicate z (0 : UInt8) ++ [0]))[z + 1]?.getD 0 = 0 := by simp
  rw [e, List.set_cons_succ, List.set_append_right _ _ (by simp), List.length_replicate, Nat.sub_self]; rfl
theorem takeB_lt (l : List UInt8) : ∀ {st : List B64 × Nat}, st.2 < 136 → (takeB st l).2 = (st.2 + l.length) % 136 := by
  induction l with
  | nil => intro st h; show st.2 = _; rw [List.length_nil, Nat.add_zero, Nat.mod_eq_of_lt h]
  | cons b l ih =>
    intro st h
    show (takeB (step1 st b) l).2 = _
    have e : (step1 st b).2 = (st.2 + 1) % 136 := by
      unfold step1
      split
      · rename_i q; show 0 = _; rw [q]
      · rename_i q; show st.2 + 1 = _; rw [Nat.mod_eq_of_lt (by omega)]
    rw [ih (by rw [e]; exact Nat.mod_lt _ (by omega)), e, List.length_cons, Nat.mod_add_mod]
    congr 1; omega
/-- All blocks of it leave the state whose first bytes are the sum. -/
theorem PK_all (s : ByteArray) (z : Nat) (hz : z = 135 - ByteArray.size s % 136) : takeB (zeroS, 0) (PK s z) = (mix (endB (takeB (zeroS, 0) (tl s))), 0) := by
  have hok := takeB_ok (tl s) zero_ok
  have hn := takeB_lt (tl s) (st := (zeroS, 0)) (by decide)
  rw [show (zeroS, 0).2 + (tl s).length = ByteArray.size s by rw [tl_len]; simp] at hn
  generalize hst : takeB (zeroS, 0) (tl s) = st at hok hn
  obtain ⟨S, n⟩ := st
  have hl : S.length = 25 := hok.len
  simp only at hn
  unfold endB
  cases z with
  | zero =>
    rw [PK_zero, takeB_snoc, hst]
    obtain rfl : n = 135 := by omega
    unfold step1
    rw [if_pos (by rfl), lay_two _ _ hl]
    rfl
  | succ z =>
    rw [PK_succ, takeB_append, hst]
    show takeB (step1 (S, n) 1) (List.replicate z 0 ++ [128]) = _
    have e : step1 (S, n) 1 = (lay S n 1, n + 1) := by
      unfold step1
      rw [if_neg (by show ¬ n + 1 = 136; omega)]; rfl
    rw [e, takeB_append, zeros_in z (n + 1) (lay_len _ _ hl) (by omega), show n + 1 + z = 135 by omega]
    show step1 (lay S n 1, 135) 128 = _
    unfold step1
    rw [if_pos (by rfl)]; rfl
def wd (s : ByteArray) (z m : Nat) (j : Nat) : B64 := wrk (List.take 8 (List.drop (136 * m + 8 * j) (PK s z))) 0 8
theorem wrk_congr (X Y : List UInt8) (o p : Nat) (h : ∀ k, k < 8 → X.getD (o + k) 0 = Y.getD (p + k) 0) : ∀ k, k ≤ 8 → wrk X o k = wrk Y p k
  | 0, _ => rfl
  | k + 1, hk => by
    show 256 * wrk X o k + bt X (o + (7 - k)) = 256 * wrk Y p k + bt Y (p + (7 - k))
    rw [wrk_congr X Y o p h k (by omega)]
    unfold bt; rw [h (7 - k) (by omega)]
theorem wd_is (s : ByteArray) (z m j : Nat) (hj : j < 17) (hm : 136 * m + 136 ≤ (PK s z).length) : wrk (List.take 136 (List.drop (136 * m) (PK s z))) (8 * j) 8 = wd s z m j :=
  wrk_congr _ _ _ _ (fun k hk => by
    rw [List.getD_eq_getElem?_getD, List.getD_eq_getElem?_getD, List.getElem?_take, if_pos (by omega), List.getElem?_drop, List.getElem?_take, if_pos (by omega), List.getElem?_drop]
    congr 2; omega) 8 (Nat.le_refl _)
theorem xw_congr (a : List B64) (f g : Nat → B64) (i : Nat) (h : ∀ j, j < i → f j = g j) : xw a f i = xw a g i := by
  unfold xw
  refine List.map_congr_left fun j _ => ?_
  split
  · rename_i hj; rw [h j hj]
  · rfl
theorem block_go (s : ByteArray) (z m : Nat) (a : List B64) (ha : a.length = 25) (h : takeB (zeroS, 0) ((PK s z).take (136 * m)) = (a, 0)) (hm : 136 * m + 136 ≤ (PK s z).length) :
    takeB (zeroS, 0) ((PK s z).take (136 * (m + 1))) = (mix (xw a (wd s z m) 17), 0) := by
  rw [show 136 * (m + 1) = 136 * m + 136 by omega, List.take_add, takeB_append, h, block_in a ha _ (by rw [List.length_take, List.length_drop]; omega)]
  rw [xw_congr a _ (wd s z m) 17 (fun j hj => wd_is s z m j hj hm)]
theorem sum_done (s : ByteArray) (z m : Nat) (a : List B64) (hz : z = 135 - ByteArray.size s % 136) (h : takeB (zeroS, 0) ((PK s z).take (136 * m)) = (a, 0)) (hm : ¬ 136 * m < (PK s z).length) : firstB a = sumB (tl s) := by
  rw [List.take_of_length_le (by omega), PK_all s z hz] at h
  have e : mix (endB (takeB (zeroS, 0) (tl s))) = a := congrArg Prod.fst h
  unfold sumB
  rw [e]
def outK (a : List B64) (i : Nat) : List UInt8 := (List.range i).map fun i => UInt8.ofNat ((nth a (i / 8)).toNat / 2 ^ (i % 8 * 8))
theorem outK_succ (a : List B64) (i : Nat) : outK a (i + 1) = outK a i ++ [UInt8.ofNat ((nth a (i / 8)).toNat / 2 ^ (i % 8 * 8))] := by unfold outK; rw [List.range_succ, List.map_append]; rfl
theorem outK_len (a : List B64) (i : Nat) : (outK a i).length = i := by unfold outK; simp
theorem byteK (x : B64) (i : Nat) : UInt8.ofBitVec (BitVec.setWidth 8 ((x >>> (8 * (i % 8))) % (256 : BitVec 64))) = UInt8.ofNat (x.toNat / 2 ^ (i % 8 * 8)) := by
  apply UInt8.toNat_inj.1
  show BitVec.toNat (BitVec.setWidth 8 ((x >>> (8 * (i % 8))) % (256 : BitVec 64))) = (UInt8.ofNat (x.toNat / 2 ^ (i % 8 * 8))).toNat
  rw [BitVec.toNat_setWidth, BitVec.toNat_umod, BitVec.toNat_ushiftRight, UInt8.toNat_ofNat', Nat.shiftRight_eq_div_pow, Nat.mul_comm (i % 8) 8]
  generalize x.toNat / 2 ^ (8 * (i % 8)) = X
  show X % 256 % 2 ^ 8 = X % 2 ^ 8
  omega
end Go.Proofs.YtddhadddpllbcaaDoor
