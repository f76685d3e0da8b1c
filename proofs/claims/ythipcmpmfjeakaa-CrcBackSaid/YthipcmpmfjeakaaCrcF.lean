/-
  Records in frames: frames, scans, turned bits: the mathematics.
-/
import Derived.Test.YthipcmpmfjeakaaCrcM
namespace Go.Proofs.Crc
open Go Go.Proofs.Ythipcmpmfjeakaa
set_option linter.unusedVariables false
/-! ### Bits -/
def bitL (l : List UInt8) (q : Nat) : Bool := (l.getD (q / 8) 0).toBitVec.getLsbD (q % 8)
def rb (r : W) (f : Nat → Bool) : Nat → W
  | 0 => r
  | n + 1 => mv (rb r f n ^^^ (bif f n then 1 else 0))
theorem one_low : (1 : W).getLsbD 0 = true := rfl
theorem mv_bit (y v : W) : mv (y ^^^ v) = mv (y ^^^ (bif v.getLsbD 0 then 1 else 0)) ^^^ v >>> 1 := by
  rw [mv_xor, mv_xor, BitVec.xor_assoc]
  congr 1
  rw [mv_low]
  cases v.getLsbD 0
  · show v >>> 1 = mv 0 ^^^ v >>> 1
    rw [show mv 0 = 0 from rfl]; exact (BitVec.zero_xor).symm
  · show v >>> 1 ^^^ poly = mv 1 ^^^ v >>> 1
    rw [show mv 1 = poly from by decide, BitVec.xor_comm]
theorem rb_word (r u : W) (f : Nat → Bool) : ∀ k, (∀ q, q < k → f q = u.getLsbD q) → rb r f k ^^^ u >>> k = mvk k (r ^^^ u)
  | 0, _ => by show r ^^^ u >>> 0 = r ^^^ u; rw [BitVec.ushiftRight_zero]
  | k + 1, h => by
    have ih := rb_word r u f k (fun q hq => h q (by omega))
    show mv (rb r f k ^^^ (bif f k then 1 else 0)) ^^^ u >>> (k + 1) = mv (mvk k (r ^^^ u))
    rw [← ih, mv_bit (rb r f k) (u >>> k), h k (by omega), BitVec.getLsbD_ushiftRight, BitVec.shiftRight_add]; rfl
theorem rb_add (r : W) (f : Nat → Bool) (m : Nat) : ∀ k, rb r f (m + k) = rb (rb r f m) (fun q => f (m + q)) k
  | 0 => rfl
  | k + 1 => by show mv (rb r f (m + k) ^^^ _) = _; rw [rb_add r f m k]; rfl
theorem rb_congr (r : W) {f g : Nat → Bool} : ∀ k, (∀ q, q < k → f q = g q) → rb r f k = rb r g k
  | 0, _ => rfl
  | k + 1, h => by show mv (rb r f k ^^^ _) = mv (rb r g k ^^^ _); rw [rb_congr r k (fun q hq => h q (by omega)), h k (by omega)]
theorem rb_xor (r s : W) (f g : Nat → Bool) : ∀ k, rb (r ^^^ s) (fun q => f q ^^ g q) k = rb r f k ^^^ rb s g k
  | 0 => rfl
  | k + 1 => by
    show mv (rb (r ^^^ s) _ k ^^^ (bif (f k ^^ g k) then 1 else 0)) = mv _ ^^^ mv _
    rw [rb_xor r s f g k, ← mv_xor]
    congr 1
    have e : (bif (f k ^^ g k) then (1 : W) else 0) = (bif f k then 1 else 0) ^^^ (bif g k then 1 else 0) := by cases f k <;> cases g k <;> rfl
    rw [e]
    generalize (bif f k then (1 : W) else 0) = A
    generalize (bif g k then (1 : W) else 0) = B
    rw [BitVec.xor_assoc, BitVec.xor_assoc, ← BitVec.xor_assoc (rb s g k), BitVec.xor_comm (rb s g k) A, BitVec.xor_assoc]
theorem shr8 (b : UInt8) : u32 b >>> 8 = 0 := by
  apply BitVec.eq_of_getLsbD_eq
  intro i hi
  rw [BitVec.getLsbD_ushiftRight, u32_high b _ (by omega)]; simp
theorem u32_bit (b : UInt8) (i : Nat) (h : i < 8) : (u32 b).getLsbD i = b.toBitVec.getLsbD i := by
  unfold u32; rw [BitVec.getLsbD_ofNat]; simp only [show i < 32 by omega, decide_true, Bool.true_and]; rfl
theorem reg_rb (r : W) (l : List UInt8) : ∀ k, k ≤ l.length → reg r (l.take k) = rb r (bitL l) (8 * k)
  | 0, _ => rfl
  | k + 1, h => by
    rw [reg_take r l k (by omega), reg_rb r l k (by omega), show 8 * (k + 1) = 8 * k + 8 by omega, rb_add]
    have := rb_word (rb r (bitL l) (8 * k)) (u32 (l.getD k 0)) (fun q => bitL l (8 * k + q)) 8 (fun q hq => by
      rw [u32_bit _ _ hq]; unfold bitL; rw [show (8 * k + q) / 8 = k by omega, show (8 * k + q) % 8 = q by omega])
    rw [shr8] at this
    exact this.symm.trans BitVec.xor_zero
theorem reg_all (r : W) (l : List UInt8) : reg r l = rb r (bitL l) (8 * l.length) := by
  have := reg_rb r l l.length (Nat.le_refl _)
  rw [List.take_length] at this
  exact this
/-- A burst that leaves the register as it was is none. -/
theorem burst {f : Nat → Bool} {u : W} {p N : Nat} (hN : p ≤ N) (hf : ∀ q, q < N → f q = (decide (p ≤ q) && u.getLsbD (q - p))) (h : rb 0 f N = 0) : ∀ q, q < N → f q = false := by
  have h0 : ∀ k, k ≤ p → rb 0 f k = 0 := by
    intro k
    induction k with
    | zero => intro _; rfl
    | succ k ih =>
      intro hk
      show mv (rb 0 f k ^^^ _) = 0
      rw [ih (by omega), hf k (by omega), decide_eq_false (by omega)]
      show mv (0 ^^^ 0) = 0
      decide
  obtain ⟨j, rfl⟩ : ∃ j, N = p + j := ⟨N - p, by omega⟩
  rw [rb_add, h0 p (Nat.le_refl _)] at h
  have hbit : ∀ q, (BitVec.setWidth 32 (BitVec.setWidth j u)).getLsbD q = (decide (q < j) && u.getLsbD q) := by
    intro q
    rw [BitVec.getLsbD_setWidth, BitVec.getLsbD_setWidth]
    by_cases h32 : q < 32
    · simp [h32]
    · simp [h32, BitVec.getLsbD_of_ge u q (by omega)]
  have hw := rb_word 0 (BitVec.setWidth 32 (BitVec.setWidth j u)) (fun q => f (p + q)) j (fun q hq => by
    rw [hbit, hf (p + q) (by omega), decide_eq_true (by omega), decide_eq_true hq, show p + q - p = q by omega])
  have hz : (BitVec.setWidth 32 (BitVec.setWidth j u)) >>> j = 0 := by
    apply BitVec.eq_of_getLsbD_eq
    intro i hi
    rw [BitVec.getLsbD_ushiftRight, hbit, decide_eq_false (by omega)]; simp
  rw [h, hz] at hw
  have hu := mvk_inj j _ (hw.symm.trans rfl)
  have hu0 : BitVec.setWidth 32 (BitVec.setWidth j u) = 0 := by rw [← hu]; exact BitVec.zero_xor.symm
  intro q hq
  rw [hf q hq]
  by_cases hpq : p ≤ q
  · have := hbit (q - p)
    rw [hu0, decide_eq_true (show q - p < j by omega)] at this
    rw [decide_eq_true hpq]
    simpa using this.symm
  · rw [decide_eq_false hpq]; rfl
/-! ### Numbers in bytes -/
def le (n : W) (c : Nat) : List UInt8 := (List.range c).map fun i => UInt8.ofBitVec (BitVec.setWidth 8 (n >>> (8 * i)))
theorem le_len (n : W) (c : Nat) : (le n c).length = c := by unfold le; simp
theorem le_get (n : W) (c i : Nat) (h : i < c) : (le n c).getD i 0 = UInt8.ofBitVec (BitVec.setWidth 8 (n >>> (8 * i))) := by
  unfold le; rw [List.getD_eq_getElem?_getD, List.getElem?_map, List.getElem?_range h]; rfl
def num (l : List UInt8) : Nat → W
  | 0 => 0
  | i + 1 => num l i ||| u32 (l.getD i 0) <<< (8 * i)
def numB (l : List UInt8) : W := num l l.length
theorem num_bit (l : List UInt8) (j : Nat) (hj : j < 32) : ∀ k, (num l k).getLsbD j = (decide (j < 8 * k) && bitL l j)
  | 0 => by show (0 : W).getLsbD j = _; rw [decide_eq_false (by omega)]; simp
  | k + 1 => by
    show (num l k ||| u32 (l.getD k 0) <<< (8 * k)).getLsbD j = _
    rw [BitVec.getLsbD_or, num_bit l j hj k, BitVec.getLsbD_shiftLeft]
    by_cases h1 : j < 8 * k
    · simp [h1, show j < 8 * (k + 1) by omega]
    · by_cases h2 : j < 8 * (k + 1)
      · rw [u32_bit _ _ (by omega)]
        unfold bitL
        rw [show j / 8 = k by omega, show j % 8 = j - 8 * k by omega]
        simp [h1, h2, hj]
      · rw [u32_high _ _ (by omega)]; simp [h1, h2]
theorem le_bit (n : W) (c j : Nat) (h : j < 8 * c) : bitL (le n c) j = n.getLsbD j := by
  unfold bitL
  rw [le_get n c _ (by omega)]
  show (BitVec.setWidth 8 (n >>> (8 * (j / 8)))).getLsbD (j % 8) = _
  rw [BitVec.getLsbD_setWidth, BitVec.getLsbD_ushiftRight, show 8 * (j / 8) + j % 8 = j by omega]
  simp [show j % 8 < 8 by omega]
theorem numB_le (n : W) : numB (le n 4) = n := by
  apply BitVec.eq_of_getLsbD_eq
  intro i hi
  unfold numB
  rw [le_len, num_bit _ _ hi, le_bit _ _ _ (by omega)]
  simp [show i < 8 * 4 by omega]
theorem ext_bits {a b : List UInt8} (hl : a.length = b.length) (h : ∀ q, q < 8 * a.length → bitL a q = bitL b q) : a = b := by
  apply List.ext_getElem hl
  intro i h1 h2
  apply UInt8.toBitVec_inj.1
  apply BitVec.eq_of_getLsbD_eq
  intro j hj
  have := h (8 * i + j) (by omega)
  unfold bitL at this
  rw [show (8 * i + j) / 8 = i by omega, show (8 * i + j) % 8 = j by omega] at this
  rw [List.getD_eq_getElem?_getD, List.getD_eq_getElem?_getD, List.getElem?_eq_getElem h1, List.getElem?_eq_getElem h2] at this
  exact this
theorem le_numB (l : List UInt8) (h : l.length = 4) : le (numB l) 4 = l := by
  apply ext_bits (by rw [le_len, h])
  intro q hq
  rw [le_len] at hq
  rw [le_bit _ _ _ hq]
  unfold numB
  rw [num_bit _ _ (by omega), h, decide_eq_true (by omega)]; rfl
/-! ### Frames -/
def ct (l : List UInt8) : List UInt8 := le (BitVec.ofNat 32 l.length) 2 ++ l
def frB (l : List UInt8) : List UInt8 := ct l ++ le (crc (ct l)) 4
def IsR (l : List UInt8) : Prop := 1 ≤ l.length ∧ l.length ≤ 4000
def size2 (l : List UInt8) : Nat := (l.getD 0 0).toNat + 256 * (l.getD 1 0).toNat
theorem ct_len (l : List UInt8) : (ct l).length = l.length + 2 := by unfold ct; rw [List.length_append, le_len]; omega
theorem frB_len (l : List UInt8) : (frB l).length = l.length + 6 := by unfold frB; rw [List.length_append, ct_len, le_len]
theorem size2_lt (l : List UInt8) : size2 l < 65536 := by
  unfold size2
  have h1 := UInt8.toNat_lt (l.getD 0 0)
  have h2 := UInt8.toNat_lt (l.getD 1 0)
  omega
theorem le2 (n : Nat) : le (BitVec.ofNat 32 n) 2 = [UInt8.ofNat n, UInt8.ofBitVec (BitVec.setWidth 8 (BitVec.ofNat 32 n >>> 8))] := by
  unfold le
  show [UInt8.ofBitVec (BitVec.setWidth 8 (BitVec.ofNat 32 n >>> 0)), UInt8.ofBitVec (BitVec.setWidth 8 (BitVec.ofNat 32 n >>> 8))] = _
  congr 1
  apply UInt8.toNat_inj.1
  show (BitVec.setWidth 8 (BitVec.ofNat 32 n >>> 0)).toNat = (UInt8.ofNat n).toNat
  rw [BitVec.toNat_setWidth, BitVec.ushiftRight_zero, BitVec.toNat_ofNat, UInt8.toNat_ofNat']
  omega
theorem hi2 (n : Nat) (h : n < 65536) : (UInt8.ofBitVec (BitVec.setWidth 8 (BitVec.ofNat 32 n >>> 8))).toNat = n / 256 := by
  show (BitVec.setWidth 8 (BitVec.ofNat 32 n >>> 8)).toNat = _
  rw [BitVec.toNat_setWidth, BitVec.toNat_ushiftRight, BitVec.toNat_ofNat, Nat.shiftRight_eq_div_pow]
  omega
theorem size2_ct (l m : List UInt8) (h : l.length < 65536) : size2 (ct l ++ m) = l.length := by
  unfold ct size2
  rw [le2]
  show (UInt8.ofNat l.length).toNat + 256 * (UInt8.ofBitVec (BitVec.setWidth 8 (BitVec.ofNat 32 l.length >>> 8))).toNat = _
  rw [hi2 _ h, UInt8.toNat_ofNat']
  omega
theorem two (l : List UInt8) (h : 2 ≤ l.length) : le (BitVec.ofNat 32 (size2 l)) 2 = l.take 2 := by
  obtain ⟨a, b, t, rfl⟩ : ∃ a b t, l = a :: b :: t := by
    cases l with
    | nil => simp at h
    | cons a l => cases l with
      | nil => simp at h
      | cons b t => exact ⟨a, b, t, rfl⟩
  have hs : size2 (a :: b :: t) = a.toNat + 256 * b.toNat := rfl
  have h1 := UInt8.toNat_lt a
  have h2 := UInt8.toNat_lt b
  rw [hs, le2]
  show [_, _] = [a, b]
  congr 1
  · apply UInt8.toNat_inj.1; rw [UInt8.toNat_ofNat']; omega
  · congr 1
    apply UInt8.toNat_inj.1; rw [hi2 _ (by omega)]; omega
def fst (l : List UInt8) : List UInt8 :=
  if l.length < 2 ∨ ¬ (1 ≤ size2 l ∧ size2 l ≤ 4000) ∨ l.length < size2 l + 6 ∨ numB ((l.take (size2 l + 6)).drop (size2 l + 2)) ≠ crc (l.take (size2 l + 2)) then [] else (l.take (size2 l + 2)).drop 2
theorem fst_some (r m : List UInt8) (h : IsR r) : fst (frB r ++ m) = r := by
  have hs : size2 (frB r ++ m) = r.length := by unfold frB; rw [List.append_assoc]; exact size2_ct r _ (by have := h.2; omega)
  have hl : (frB r ++ m).length = r.length + 6 + m.length := by rw [List.length_append, frB_len]
  have t6 : (frB r ++ m).take (r.length + 6) = frB r := by rw [← frB_len, List.take_left]
  have t2 : (frB r ++ m).take (r.length + 2) = ct r := by unfold frB; rw [List.append_assoc, ← ct_len, List.take_left]
  unfold fst
  rw [hs, t6, t2]
  have d : (frB r).drop (r.length + 2) = le (crc (ct r)) 4 := by unfold frB; rw [← ct_len, List.drop_left]
  rw [d, numB_le, if_neg]
  · unfold ct
    rw [List.drop_append_of_le_length (by rw [le_len]; omega), List.drop_of_length_le (by rw [le_len]; omega), List.nil_append]
  · rintro (q | q | q | q)
    · omega
    · exact q h
    · omega
    · exact q rfl
theorem fst_back {l r : List UInt8} (h : fst l = r) (hr : r ≠ []) : IsR r ∧ l = frB r ++ l.drop (r.length + 6) ∧ r.length = size2 l := by
  unfold fst at h
  split at h
  · exact absurd h.symm hr
  · rename_i hc
    have h1 : ¬ l.length < 2 := fun q => hc (Or.inl q)
    have h2 : 1 ≤ size2 l ∧ size2 l ≤ 4000 := Decidable.not_not.1 fun q => hc (Or.inr (Or.inl q))
    have h3 : ¬ l.length < size2 l + 6 := fun q => hc (Or.inr (Or.inr (Or.inl q)))
    have h4 : numB ((l.take (size2 l + 6)).drop (size2 l + 2)) = crc (l.take (size2 l + 2)) := Decidable.not_not.1 fun q => hc (Or.inr (Or.inr (Or.inr q)))
    have hrl : r.length = size2 l := by rw [← h, List.length_drop, List.length_take]; omega
    have hct : ct r = l.take (size2 l + 2) := by
      unfold ct
      rw [hrl, two l (by omega), ← h]
      conv => rhs; rw [← List.take_append_drop 2 (l.take (size2 l + 2))]
      rw [List.take_take, show min 2 (size2 l + 2) = 2 by omega]
    have hfr : frB r = l.take (size2 l + 6) := by
      unfold frB
      rw [hct, ← h4, le_numB _ (by rw [List.length_drop, List.length_take]; omega)]
      conv => rhs; rw [← List.take_append_drop (size2 l + 2) (l.take (size2 l + 6))]
      rw [List.take_take, show min (size2 l + 2) (size2 l + 6) = size2 l + 2 by omega]
    refine ⟨⟨by omega, by omega⟩, ?_, hrl⟩
    rw [hfr, hrl, List.take_append_drop]
theorem fst_short {l : List UInt8} (h : l.length < 7) : fst l = [] := by
  by_cases e : fst l = []
  · exact e
  · obtain ⟨⟨h1, _⟩, h2, _⟩ := fst_back rfl e
    have := congrArg List.length h2
    rw [List.length_append, frB_len] at this
    omega
theorem residue (r : List UInt8) : reg rg0 (frB r) = mvk 32 rg0 := by
  unfold frB
  rw [reg_append]
  generalize e : reg rg0 (ct r) = R
  have hc : crc (ct r) = ~~~ R := by unfold crc; rw [e]
  rw [hc, reg_all, le_len]
  have := rb_word R (~~~ R) (bitL (le (~~~ R) 4)) 32 (fun q hq => le_bit _ _ _ (by omega))
  have hz : (~~~ R) >>> 32 = 0 := by
    apply BitVec.eq_of_getLsbD_eq
    intro i hi
    rw [BitVec.getLsbD_ushiftRight, BitVec.getLsbD_of_ge _ _ (by omega)]; simp
  rw [hz] at this
  have hx : R ^^^ ~~~ R = rg0 := by
    apply BitVec.eq_of_getLsbD_eq
    intro i hi
    rw [show rg0 = BitVec.allOnes 32 from rfl, BitVec.getLsbD_xor, BitVec.getLsbD_not, BitVec.getLsbD_allOnes]
    simp [hi]
  rw [hx] at this
  exact BitVec.xor_zero.symm.trans this
/-! ### Scans -/
def flat (rs : List ByteArray) : List UInt8 := (rs.map fun s => frB (tl s)).flatten
def Sc (l : List UInt8) (rs : List ByteArray) (p : Nat) : Prop := (∀ s ∈ rs, IsR (tl s)) ∧ (flat rs).length = p ∧ l = flat rs ++ l.drop p ∧ fst (l.drop p) = []
theorem flat_cons (s : ByteArray) (rs : List ByteArray) : flat (s :: rs) = frB (tl s) ++ flat rs := rfl
theorem flat_snoc (s : ByteArray) (rs : List ByteArray) : flat (rs ++ [s]) = flat rs ++ frB (tl s) := by unfold flat; simp
theorem Sc.uniq {l : List UInt8} {rs rs' : List ByteArray} {p p' : Nat} (h : Sc l rs p) (h' : Sc l rs' p') : rs = rs' ∧ p = p' := by
  induction rs generalizing l rs' p p' with
  | nil =>
    obtain ⟨_, rfl, _, h0⟩ := h
    cases rs' with
    | nil => obtain ⟨_, rfl, _, _⟩ := h'; exact ⟨rfl, rfl⟩
    | cons s t =>
      obtain ⟨hr, _, he, _⟩ := h'
      have h0' : fst l = [] := h0
      rw [he, flat_cons, List.append_assoc, fst_some _ _ (hr s (by simp))] at h0'
      have := (hr s (by simp)).1
      rw [h0'] at this; simp at this
  | cons s t ih =>
    obtain ⟨hr, hp, he, h0⟩ := h
    obtain ⟨hr', hp', he', h0'⟩ := h'
    have e1 : fst l = tl s := by rw [he, flat_cons, List.append_assoc, fst_some _ _ (hr s (by simp))]
    cases rs' with
    | nil =>
      have hp0 : p' = 0 := by rw [← hp']; rfl
      rw [hp0] at h0'
      rw [show l.drop 0 = l from rfl, e1] at h0'
      have := (hr s (by simp)).1
      rw [h0'] at this; simp at this
    | cons s' t' =>
      have e2 : fst l = tl s' := by rw [he', flat_cons, List.append_assoc, fst_some _ _ (hr' s' (by simp))]
      have hss : s = s' := by rw [← strB_tl s, ← e1, e2, strB_tl]
      subst hss
      rw [flat_cons, List.length_append] at hp hp'
      have step : ∀ (t : List ByteArray) (p : Nat), (frB (tl s)).length + (flat t).length = p → l = frB (tl s) ++ flat t ++ l.drop p → fst (l.drop p) = [] → (∀ x ∈ s :: t, IsR (tl x)) → Sc (l.drop (frB (tl s)).length) t (p - (frB (tl s)).length) := by
        intro t p hp he h0 hr
        have ed : (l.drop (frB (tl s)).length).drop (p - (frB (tl s)).length) = l.drop p := by rw [List.drop_drop]; congr 1; omega
        refine ⟨fun x hx => hr x (by simp [hx]), by omega, ?_, by rw [ed]; exact h0⟩
        rw [ed]
        conv => lhs; rw [he]
        rw [List.append_assoc, List.drop_left]
      have := ih (step t p hp (by rw [← flat_cons]; exact he) h0 hr) (step t' p' hp' (by rw [← flat_cons]; exact he') h0' hr')
      refine ⟨by rw [this.1], by have := this.2; omega⟩
/-- Records' frames, and behind them what is none. -/
theorem Sc.mk' (rs : List ByteArray) (m : List UInt8) (hr : ∀ s ∈ rs, IsR (tl s)) (h : fst m = []) : Sc (flat rs ++ m) rs (flat rs).length :=
  ⟨hr, rfl, by rw [List.drop_left], by rw [List.drop_left]; exact h⟩
/-- One more. -/
theorem sc_more {l : List UInt8} {rs : List ByteArray} {p : Nat} {s : ByteArray} (hp : (flat rs).length = p) (he : l = flat rs ++ l.drop p) (h : fst (l.drop p) = tl s) (hs : tl s ≠ []) (hr : ∀ s ∈ rs, IsR (tl s)) :
    (∀ x ∈ rs ++ [s], IsR (tl x)) ∧ (flat (rs ++ [s])).length = p + (s.size + 6) ∧ l = flat (rs ++ [s]) ++ l.drop (p + (s.size + 6)) ∧ p + (s.size + 6) ≤ l.length ∧ s.size ≤ 4000 := by
  obtain ⟨h1, h2, _⟩ := fst_back h hs
  have hl : (tl s).length = s.size := tl_len s
  have e : l = flat (rs ++ [s]) ++ l.drop (p + (s.size + 6)) := by
    rw [flat_snoc, List.append_assoc]
    conv => lhs; rw [he]
    congr 1
    conv => lhs; rw [h2]
    rw [List.drop_drop, hl]
  have hlen : (flat (rs ++ [s])).length = p + (s.size + 6) := by rw [flat_snoc, List.length_append, frB_len, hp, hl]
  refine ⟨?_, hlen, e, ?_, by have := h1.2; omega⟩
  · intro x hx
    rcases List.mem_append.1 hx with q | q
    · exact hr x q
    · obtain rfl := List.mem_singleton.1 q; exact h1
  · have := congrArg List.length e
    rw [List.length_append, hlen] at this
    omega
theorem fst_cut (r : List UInt8) (h : IsR r) (c : Nat) (hc : c < (frB r).length) : fst ((frB r).take c) = [] := by
  by_cases e : fst ((frB r).take c) = []
  · exact e
  · obtain ⟨h1, h2, h3⟩ := fst_back rfl e
    have hl := congrArg List.length h2
    rw [List.length_append, frB_len, List.length_take] at hl
    rw [frB_len] at hc hl
    have hs : size2 ((frB r).take c) = size2 (frB r) := by
      unfold size2
      rw [List.getD_eq_getElem?_getD, List.getD_eq_getElem?_getD, List.getElem?_take, List.getElem?_take, if_pos (by omega), if_pos (by omega)]
      rfl
    have hs2 : size2 (frB r) = r.length := by unfold frB; exact size2_ct r _ (by have := h.2; omega)
    omega
theorem fst_zeros (n : Nat) : fst (List.replicate n 0) = [] := by
  by_cases e : fst (List.replicate n 0) = []
  · exact e
  · obtain ⟨h1, _, h3⟩ := fst_back rfl e
    have : size2 (List.replicate n 0) = 0 := by
      unfold size2
      have z : ∀ i, (List.replicate n (0 : UInt8)).getD i 0 = 0 := fun i => by
        rw [List.getD_eq_getElem?_getD, List.getElem?_replicate]; split <;> rfl
      rw [z, z]; rfl
    have := h1.1
    omega
/-! ### Turned bits -/
def turnL (l : List UInt8) (p : Nat) (u : W) : Nat → List UInt8
  | 0 => l
  | k + 1 => if p + k < 8 * l.length ∧ u.getLsbD k = true then (turnL l p u k).set ((p + k) / 8) (UInt8.ofBitVec (((turnL l p u k).getD ((p + k) / 8) 0).toBitVec ^^^ (1 : BitVec 8) <<< ((p + k) % 8))) else turnL l p u k
theorem turnL_len (l : List UInt8) (p : Nat) (u : W) : ∀ k, (turnL l p u k).length = l.length
  | 0 => rfl
  | k + 1 => by unfold turnL; split <;> simp [turnL_len l p u k]
theorem turnL_bit (l : List UInt8) (p : Nat) (u : W) (q : Nat) (hq : q < 8 * l.length) : ∀ k, bitL (turnL l p u k) q = (bitL l q ^^ (decide (p ≤ q) && decide (q < p + k) && u.getLsbD (q - p)))
  | 0 => by
    show bitL l q = _
    by_cases h : p ≤ q
    · rw [decide_eq_false (show ¬ q < p + 0 by omega)]; simp
    · simp [h]
  | k + 1 => by
    have ih := turnL_bit l p u q hq k
    have hlen := turnL_len l p u k
    unfold turnL
    by_cases hc : p + k < 8 * l.length ∧ u.getLsbD k = true
    · rw [if_pos hc]
      have hb : bitL ((turnL l p u k).set ((p + k) / 8) (UInt8.ofBitVec (((turnL l p u k).getD ((p + k) / 8) 0).toBitVec ^^^ (1 : BitVec 8) <<< ((p + k) % 8)))) q = (bitL (turnL l p u k) q ^^ decide (q = p + k)) := by
        unfold bitL
        rw [List.getD_eq_getElem?_getD (l := (turnL l p u k).set _ _), List.getElem?_set]
        by_cases e : (p + k) / 8 = q / 8
        · rw [if_pos e, if_pos (by omega), ← e]
          show (((turnL l p u k).getD ((p + k) / 8) 0).toBitVec ^^^ (1 : BitVec 8) <<< ((p + k) % 8)).getLsbD (q % 8) = _
          rw [BitVec.getLsbD_xor]
          congr 1
          rw [BitVec.getLsbD_shiftLeft, show (1 : BitVec 8) = 1#8 from rfl, BitVec.getLsbD_one]
          by_cases e2 : q = p + k
          · subst e2; simp [show (p + k) % 8 < 8 by omega]
          · have : ¬ q % 8 = (p + k) % 8 := by omega
            simp [e2]
            intro h1 h2
            omega
        · rw [if_neg e, ← List.getD_eq_getElem?_getD, decide_eq_false (show ¬ q = p + k by intro h; subst h; exact e rfl)]; simp
      rw [hb, ih]
      by_cases e : q = p + k
      · subst e
        simp [show p + k - p = k by omega, hc.2]
      · by_cases h1 : p ≤ q
        · by_cases h2 : q < p + k
          · simp [e, h1, h2, show q < p + (k + 1) by omega]
          · simp [e, h1, h2, show ¬ q < p + (k + 1) by omega]
        · simp [e, h1]
    · rw [if_neg hc, ih]
      by_cases e : q = p + k
      · subst e
        have : u.getLsbD k = false := by
          cases hu : u.getLsbD k
          · rfl
          · exact absurd ⟨hq, hu⟩ hc
        simp [show p + k - p = k by omega, this]
      · by_cases h1 : p ≤ q
        · by_cases h2 : q < p + k
          · simp [h1, h2, show q < p + (k + 1) by omega]
          · simp [h1, h2, show ¬ q < p + (k + 1) by omega]
        · simp [h1]
/-- A frame of which bits are turned within 32, none of its length, is no frame. -/
theorem fst_turned (s : List UInt8) (hs : IsR s) (p : Nat) (u : W) (h16 : 16 ≤ p) (hp : p ≤ 8 * (frB s).length) (hne : turnL (frB s) p u 32 ≠ frB s) : fst (turnL (frB s) p u 32) = [] := by
  generalize ht : turnL (frB s) p u 32 = t at *
  have hlen : t.length = (frB s).length := by rw [← ht, turnL_len]
  by_cases e : fst t = []
  · exact e
  · exfalso
    obtain ⟨h1, h2, h3⟩ := fst_back rfl e
    generalize hr : fst t = r at *
    have hbit : ∀ q, q < 8 * (frB s).length → bitL t q = (bitL (frB s) q ^^ (decide (p ≤ q) && u.getLsbD (q - p))) := by
      intro q hq
      rw [← ht, turnL_bit _ _ _ _ hq]
      congr 1
      by_cases h : q < p + 32
      · simp [h]
      · rw [BitVec.getLsbD_of_ge u (q - p) (by omega)]; simp
    have hsz : size2 t = size2 (frB s) := by
      have hb : ∀ i, i < 2 → t.getD i 0 = (frB s).getD i 0 := by
        intro i hi
        apply UInt8.toBitVec_inj.1
        apply BitVec.eq_of_getLsbD_eq
        intro j hj
        have hf := frB_len s
        have := hbit (8 * i + j) (by omega)
        rw [decide_eq_false (by omega)] at this
        unfold bitL at this
        rw [show (8 * i + j) / 8 = i by omega, show (8 * i + j) % 8 = j by omega] at this
        simpa using this
      unfold size2
      rw [hb 0 (by omega), hb 1 (by omega)]
    have hs2 : size2 (frB s) = s.length := by unfold frB; exact size2_ct s _ (by have := hs.2; omega)
    have hrs : r.length = s.length := by omega
    have hf1 := frB_len s
    have hfr : t = frB r := by
      rw [List.drop_of_length_le (by omega), List.append_nil] at h2
      exact h2
    have r1 := residue s
    have r2 := residue r
    rw [← hfr] at r2
    rw [reg_all] at r1 r2
    rw [hlen] at r2
    have hx := rb_xor rg0 rg0 (bitL (frB s)) (bitL t) (8 * (frB s).length)
    rw [r1, r2, BitVec.xor_self, BitVec.xor_self] at hx
    have hz := burst (f := fun q => bitL (frB s) q ^^ bitL t q) (u := u) hp (fun q hq => by
      show (bitL (frB s) q ^^ bitL t q) = _
      rw [hbit q hq, ← Bool.xor_assoc, Bool.xor_self, Bool.false_xor]) hx
    refine hne (ext_bits hlen fun q hq => ?_)
    have h : (bitL (frB s) q ^^ bitL t q) = false := hz q (by omega)
    revert h
    generalize bitL (frB s) q = A
    generalize bitL t q = B
    cases A <;> cases B <;> decide
end Go.Proofs.Crc
