/-
  Texts of the proof, part 2.
-/
import Derived.Test.YtafamhkdklkfiaaProg
import Derived.Test.YtafamhkdklkfiaaNP1

namespace Go.Proofs.Ytafamhkdklkfiaa
open Go Go.RowKit
set_option linter.unusedVariables false
/-- Half bytes of bytes, upper ones first. -/
def hv : List UInt8 → List UInt8
  | [] => []
  | b :: t => (b >>> 4) :: (b &&& 15) :: hv t
def isP (l : List UInt8) : Bool := l.all fun b => decide (b.toNat ≤ 15)
/-- Two half bytes each. -/
def jn : List UInt8 → List UInt8
  | a :: b :: t => (a <<< 4 ||| b) :: jn t
  | _ => []
def fl (e : Bool) : UInt8 := if e then 2 else 0
def hdP (n : Nat) (e : Bool) : List UInt8 := if n % 2 = 1 then [fl e + 1] else [fl e, 0]
def pk (l : List UInt8) (e : Bool) : List UInt8 := jn (hdP l.length e ++ l)
theorem u8_all {p : UInt8 → Prop} (h : ∀ x : BitVec 8, p (UInt8.ofBitVec x)) (b : UInt8) : p b := h b.toBitVec
theorem back1 (b : UInt8) : (b >>> 4) <<< 4 ||| (b &&& 15) = b := u8_all (p := fun b => (b >>> 4) <<< 4 ||| (b &&& 15) = b) (by decide +kernel) b
theorem low1 (b : UInt8) : (b >>> 4).toNat ≤ 15 ∧ (b &&& 15).toNat ≤ 15 := u8_all (p := fun b => (b >>> 4).toNat ≤ 15 ∧ (b &&& 15).toNat ≤ 15) (by decide +kernel) b
theorem div16 (b : UInt8) : b / (16 : UInt8) = b >>> 4 ∧ b % (16 : UInt8) = b &&& 15 := u8_all (p := fun b => b / (16 : UInt8) = b >>> 4 ∧ b % (16 : UInt8) = b &&& 15) (by decide +kernel) b
theorem pair_all : ∀ a b : Fin 16, (UInt8.ofNat a.val <<< 4 ||| UInt8.ofNat b.val) >>> 4 = UInt8.ofNat a.val ∧ (UInt8.ofNat a.val <<< 4 ||| UInt8.ofNat b.val) &&& 15 = UInt8.ofNat b.val ∧ (16 : UInt8) * UInt8.ofNat a.val + UInt8.ofNat b.val = UInt8.ofNat a.val <<< 4 ||| UInt8.ofNat b.val := by decide +kernel
theorem pair1 {a b : UInt8} (ha : a.toNat ≤ 15) (hb : b.toNat ≤ 15) : (a <<< 4 ||| b) >>> 4 = a ∧ (a <<< 4 ||| b) &&& 15 = b ∧ (16 : UInt8) * a + b = a <<< 4 ||| b := by
  have h := pair_all ⟨a.toNat, by omega⟩ ⟨b.toNat, by omega⟩
  simpa using h
theorem hv_len : ∀ l : List UInt8, (hv l).length = 2 * l.length
  | [] => rfl
  | b :: t => by simp [hv, hv_len t]; omega
theorem hv_append : ∀ a b : List UInt8, hv (a ++ b) = hv a ++ hv b
  | [], b => rfl
  | x :: a, b => by simp [hv, hv_append a b]
theorem hv_isP : ∀ l : List UInt8, isP (hv l) = true
  | [] => rfl
  | b :: t => by
    have h1 := low1 b; have h2 := hv_isP t
    unfold isP at h2 ⊢
    simp only [hv, List.all_cons, Bool.and_eq_true, decide_eq_true_eq]
    exact ⟨h1.1, h1.2, h2⟩
theorem jn_hv : ∀ l : List UInt8, jn (hv l) = l
  | [] => rfl
  | b :: t => by simp only [hv, jn]; rw [back1, jn_hv t]
theorem isP_cons {a : UInt8} {l : List UInt8} : isP (a :: l) = true ↔ a.toNat ≤ 15 ∧ isP l = true := by unfold isP; simp
theorem isP_append {a b : List UInt8} : isP (a ++ b) = true ↔ isP a = true ∧ isP b = true := by unfold isP; simp
theorem hv_jn : ∀ l : List UInt8, isP l = true → l.length % 2 = 0 → hv (jn l) = l
  | [], _, _ => rfl
  | [a], _, h => by simp at h
  | a :: b :: t, hp, h => by
    obtain ⟨ha, hp⟩ := isP_cons.1 hp
    obtain ⟨hb, hp⟩ := isP_cons.1 hp
    simp only [jn, hv]
    rw [(pair1 ha hb).1, (pair1 ha hb).2.1, hv_jn t hp (by simp at h; omega)]
theorem jn_len : ∀ l : List UInt8, (jn l).length = l.length / 2
  | [] => rfl
  | [a] => by simp [jn]
  | a :: b :: t => by simp only [jn, List.length_cons, jn_len t]; omega
theorem jn_get : ∀ (l : List UInt8) (i : Nat), i < l.length / 2 → (jn l).getD i 0 = l.getD (2 * i) 0 <<< 4 ||| l.getD (2 * i + 1) 0
  | [], i, h => by simp at h
  | [a], i, h => by simp at h
  | a :: b :: t, 0, _ => rfl
  | a :: b :: t, i + 1, h => by
    have := jn_get t i (by simp at h; omega)
    simp only [jn, List.getD_cons_succ]
    rw [this, show 2 * (i + 1) = 2 * i + 1 + 1 by omega]
    simp only [List.getD_cons_succ]
theorem hdP_isP (n : Nat) (e : Bool) : isP (hdP n e) = true := by
  unfold hdP
  split <;> (cases e <;> decide)
theorem hdP_len (n : Nat) (e : Bool) : ((hdP n e).length + n) % 2 = 0 ∧ (hdP n e).length = 2 - n % 2 := by
  unfold hdP
  split
  · simp; omega
  · simp; omega
theorem hv_pk {l : List UInt8} (h : isP l = true) (e : Bool) : hv (pk l e) = hdP l.length e ++ l :=
  hv_jn _ (isP_append.2 ⟨hdP_isP _ _, h⟩) (by rw [List.length_append]; exact (hdP_len _ _).1)
theorem pk_len (l : List UInt8) (e : Bool) : (pk l e).length = l.length / 2 + 1 := by
  unfold pk; rw [jn_len, List.length_append]; have := (hdP_len l.length e).2; omega
theorem hv_inj {a b : List UInt8} (h : hv a = hv b) : a = b := by rw [← jn_hv a, h, jn_hv]
/-- The part that is packed so. -/
def upk (l : List UInt8) : Option (List UInt8 × Bool) := match hv l with
  | 0 :: 0 :: t => some (t, false)
  | 1 :: t => some (t, false)
  | 2 :: 0 :: t => some (t, true)
  | 3 :: t => some (t, true)
  | _ => none
/-- What the four heads say. -/
theorem upk_pk {l : List UInt8} (h : isP l = true) (e : Bool) : upk (pk l e) = some (l, e) := by
  unfold upk
  rw [hv_pk h]
  by_cases hz : l.length % 2 = 1
  · rw [show hdP l.length e = [fl e + 1] from if_pos hz]; cases e <;> rfl
  · rw [show hdP l.length e = [fl e, 0] from if_neg hz]; cases e <;> rfl
theorem upk_some {l x : List UInt8} {e : Bool} (h : upk l = some (x, e)) : isP x = true ∧ pk x e = l := by
  have hp := hv_isP l
  have hl := hv_len l
  have key : ∀ (k : Nat), hv l = hdP k e ++ x → x.length % 2 = k % 2 → isP x = true ∧ pk x e = l := by
    intro k hk hx
    have hpx : isP x = true := (isP_append.1 (hk ▸ hp)).2
    refine ⟨hpx, hv_inj ?_⟩
    rw [hv_pk hpx, hk]
    unfold hdP; rw [hx]
  unfold upk at h
  split at h
  · rename_i t he; obtain ⟨rfl, rfl⟩ : t = x ∧ false = e := by simpa using h
    refine key 0 (by rw [he]; rfl) ?_
    rw [he] at hl; simp at hl; omega
  · rename_i t he; obtain ⟨rfl, rfl⟩ : t = x ∧ false = e := by simpa using h
    refine key 1 (by rw [he]; rfl) ?_
    rw [he] at hl; simp at hl; omega
  · rename_i t he; obtain ⟨rfl, rfl⟩ : t = x ∧ true = e := by simpa using h
    refine key 0 (by rw [he]; rfl) ?_
    rw [he] at hl; simp at hl; omega
  · rename_i t he; obtain ⟨rfl, rfl⟩ : t = x ∧ true = e := by simpa using h
    refine key 1 (by rw [he]; rfl) ?_
    rw [he] at hl; simp at hl; omega
  · cases h
/-- With how many both begin alike. -/
def shr : List UInt8 → List UInt8 → Nat
  | a :: x, b :: y => if a = b then 1 + shr x y else 0
  | _, _ => 0
theorem shr_le : ∀ x y : List UInt8, shr x y ≤ x.length ∧ shr x y ≤ y.length
  | [], y => by simp [shr]
  | a :: x, [] => by simp [shr]
  | a :: x, b :: y => by have := shr_le x y; unfold shr; split <;> simp <;> omega
theorem shr_comm : ∀ x y : List UInt8, shr x y = shr y x
  | [], [] => rfl
  | [], b :: y => rfl
  | a :: x, [] => rfl
  | a :: x, b :: y => by
    unfold shr
    by_cases h : a = b
    · subst h; simp [shr_comm x y]
    · rw [if_neg h, if_neg (Ne.symm h)]
theorem shr_self : ∀ x : List UInt8, shr x x = x.length
  | [] => rfl
  | a :: x => by unfold shr; rw [if_pos rfl, shr_self x, List.length_cons]; omega
theorem shr_ahead : ∀ c x y : List UInt8, shr (c ++ x) (c ++ y) = c.length + shr x y
  | [], x, y => by simp
  | a :: c, x, y => by
    show shr (a :: (c ++ x)) (a :: (c ++ y)) = _
    rw [shr, if_pos rfl, shr_ahead c x y, List.length_cons]; omega
theorem shr_take : ∀ x y : List UInt8, x.take (shr x y) = y.take (shr x y)
  | [], y => by simp [shr]
  | a :: x, [] => by simp [shr]
  | a :: x, b :: y => by
    unfold shr
    split
    · rename_i h; subst h; rw [show 1 + shr x y = shr x y + 1 by omega]; simp [shr_take x y]
    · simp
theorem shr_next : ∀ (x y : List UInt8), shr x y < x.length → shr x y < y.length → x.getD (shr x y) 0 ≠ y.getD (shr x y) 0
  | [], y, h, _ => by simp at h
  | a :: x, [], _, h => by simp at h
  | a :: x, b :: y, h1, h2 => by
    unfold shr at h1 h2 ⊢
    split
    · rename_i h
      rw [if_pos h] at h1 h2
      rw [show 1 + shr x y = shr x y + 1 by omega]
      simp only [List.getD_cons_succ]
      simp at h1 h2
      exact shr_next x y (by omega) (by omega)
    · rename_i h; simpa using h
theorem hv_take (l : List UInt8) (i : Nat) (h : i < l.length) : hv (l.take (i + 1)) = hv (l.take i) ++ [l.getD i 0 >>> 4, l.getD i 0 &&& 15] := by
  rw [List.take_add_one, hv_append]
  congr 1
  rw [List.getD_eq_getElem?_getD, List.getElem?_eq_getElem h]; rfl
theorem isP_step {l : List UInt8} {i : Nat} (h : i < l.length) : isP (l.take (i + 1)) = (isP (l.take i) && decide ((l.getD i 0).toNat ≤ 15)) := by
  unfold isP
  rw [List.take_add_one, List.all_append, List.getD_eq_getElem?_getD, List.getElem?_eq_getElem h]
  simp
theorem isP_not {l : List UInt8} {i : Nat} (h : i < l.length) (hb : ¬ (l.getD i 0).toNat ≤ 15) : isP l = false := by
  rcases hq : isP l with _ | _
  · rfl
  · unfold isP at hq
    rw [List.all_eq_true] at hq
    have := hq (l.getD i 0) (by rw [List.getD_eq_getElem?_getD, List.getElem?_eq_getElem h]; exact List.getElem_mem h)
    exact absurd (of_decide_eq_true this) hb
theorem isP_get {l : List UInt8} (h : isP l = true) (i : Nat) : (l.getD i 0).toNat ≤ 15 := by
  rw [List.getD_eq_getElem?_getD]
  rcases Nat.lt_or_ge i l.length with hi | hi
  · rw [List.getElem?_eq_getElem hi]
    unfold isP at h; rw [List.all_eq_true] at h
    exact of_decide_eq_true (h _ (List.getElem_mem hi))
  · rw [List.getElem?_eq_none hi]; decide
theorem jn_set (l : List UInt8) (i : Nat) (h : i < l.length / 2) :
    (((jn l).take i ++ List.replicate (l.length / 2 - i) 0).set i (l.getD (2 * i) 0 <<< 4 ||| l.getD (2 * i + 1) 0)) = (jn l).take (i + 1) ++ List.replicate (l.length / 2 - (i + 1)) 0 := by
  have hl := jn_len l
  rw [← jn_get l i h, List.set_append_right _ _ (by rw [List.length_take]; omega), List.length_take, show i - min i (jn l).length = 0 by omega,
    show l.length / 2 - i = (l.length / 2 - (i + 1)) + 1 by omega, List.replicate_succ, List.set_cons_zero, List.take_add_one, List.append_assoc,
    List.getD_eq_getElem?_getD, List.getElem?_eq_getElem (by omega)]
  rfl
theorem jn_take (l : List UInt8) (k : Nat) (h : 2 * k + 1 < l.length) : jn (l.take (2 * k + 2)) = jn (l.take (2 * k)) ++ [l.getD (2 * k) 0 <<< 4 ||| l.getD (2 * k + 1) 0] := by
  have h1 := jn_get l k (by omega)
  have ht : ∀ (m : Nat) (l : List UInt8), jn (l.take (2 * m)) = (jn l).take m := by
    intro m
    induction m with
    | zero => intro l; simp [jn]
    | succ m ih =>
      intro l
      match l with
      | [] => simp [jn]
      | [a] => simp [jn, show 2 * (m + 1) = 2 * m + 1 + 1 by omega]
      | a :: b :: t => simp [jn, show 2 * (m + 1) = 2 * m + 1 + 1 by omega, ih t]
  rw [show 2 * k + 2 = 2 * (k + 1) by omega, ht, ht, List.take_add_one, ← h1, List.getD_eq_getElem?_getD, List.getElem?_eq_getElem (by rw [jn_len]; omega)]
  rfl
theorem hi4 (x : UInt8) : BitVec.toNat (x.toBitVec >>> 4) = (x >>> 4).toNat := u8_all (p := fun x => BitVec.toNat (x.toBitVec >>> 4) = (x >>> 4).toNat) (by decide +kernel) x
theorem lo4 (x : UInt8) : BitVec.toNat (x.toBitVec &&& (15 : BitVec 8)) = (x &&& 15).toNat := rfl
theorem cells_hl (x : UInt8) : [Value.int .u8 ((BitVec.toNat (x.toBitVec >>> 4) : Nat) : Int), .int .u8 ((BitVec.toNat (x.toBitVec &&& (15 : BitVec 8)) : Nat) : Int)] = cellsB [x >>> 4, x &&& 15] := by
  rw [hi4, lo4]; rfl
theorem cells_qr (x : UInt8) : [Value.int .u8 ((BitVec.toNat (x.toBitVec / (16 : BitVec 8)) : Nat) : Int), .int .u8 ((BitVec.toNat (x.toBitVec % (16 : BitVec 8)) : Nat) : Int)] = cellsB [x >>> 4, x &&& 15] := by
  rw [← (div16 x).1, ← (div16 x).2]; rfl
theorem shl4 (x y : UInt8) : UInt8.ofBitVec (x.toBitVec <<< 4 ||| y.toBitVec) = x <<< 4 ||| y := by
  have h : ∀ x : UInt8, x.toBitVec <<< 4 = (x <<< 4).toBitVec := fun x => u8_all (p := fun x => x.toBitVec <<< 4 = (x <<< 4).toBitVec) (by decide +kernel) x
  rw [h]; rfl
/-- Not beyond 500 bytes. -/
def cut5 (s : ByteArray) : ByteArray := s.extract 0 (min s.size 500)
theorem cut5_size (s : ByteArray) : (cut5 s).size ≤ 500 := by unfold cut5; rw [ByteArray.size_extract]; omega
/-- Whether a text begins so. -/
def isPre (s p : ByteArray) : Bool := decide (p.size ≤ s.size ∧ s.extract 0 p.size = p)
theorem isPre_yes {s p : ByteArray} (h : p.size ≤ s.size) (e : s.extract 0 p.size = p) : isPre s p = true := decide_eq_true ⟨h, e⟩
theorem isPre_no {s p : ByteArray} (h : ¬ s.extract 0 p.size = p) : isPre s p = false := decide_eq_false fun q => h q.2
theorem isPre_long {s p : ByteArray} (h : ¬ p.size ≤ s.size) : isPre s p = false := decide_eq_false fun q => h q.1
theorem isPre_tl {s p : ByteArray} (h : isPre s p = true) : tl s = tl p ++ tl (s.extract p.size s.size) := by
  obtain ⟨h1, h2⟩ := of_decide_eq_true h
  have h3 : (tl s).take p.size = tl p := by rw [← h2, tl_extract, List.drop_zero, h2]
  rw [tl_extract, List.take_of_length_le (by rw [tl_len]; omega), ← h3, List.take_append_drop]
theorem isPre_of {s p : ByteArray} {t : List UInt8} (h : tl s = tl p ++ t) : isPre s p = true := by
  refine isPre_yes (by rw [← tl_len, ← tl_len, h, List.length_append]; omega) (tl_inj ?_)
  rw [tl_extract, List.drop_zero, h, ← tl_len p, List.take_left]
def uS (l : List UInt8) : ByteArray := match upk l with | some (x, _) => strB x | none => ⟨#[]⟩
def uE (l : List UInt8) : Bool := match upk l with | some (_, e) => e | none => false
def uN (l : List UInt8) : Int := match upk l with | some _ => 0 | none => 4
end Go.Proofs.Ytafamhkdklkfiaa

namespace Go.Proofs.Ytafamhkdklkfiaa
open Go Go.RowKit
set_option linter.unusedVariables false
set_option maxRecDepth 100000 in
set_option maxHeartbeats 2000000 in
theorem of_fn (s : ByteArray) (hs : ByteArray.size s ≤ 1000000000000) : Fn Try.prog 11 #[.string s] (.string (strB (hv (tl s)))) := by
  refine Fn.intro (c := codeOf Try.f11) [.tmp 2] 28 Try.func11 kr kr kr fun w => ?_
  have H0 := St.start w
  refine rS [.v] H0 kr fun gs1 w1 H1 => ?_
  clear H0
  refine g_sreg [0, 1, 2, 3, 4] kr kr ?_
  refine rp [.v, .v, .e (v := .int .i64 (IntKind.i64.wrap (2 * ((ByteArray.size s : Nat) : Int)))) (v' := .int .i64 ((2 * (ByteArray.size s) : Nat) : Int)) (int_eq (wrapMul_i64 (a := 2) (b := ByteArray.size s) (by omega)))] H1 kr fun gs2 w2 H2 => ?_
  show WPs _ _ _ _ [3, 4] _ _
  clear H1
  refine s_make2 H2 (some 8) 38 5 1 (.int .u8 0) (.const (.int .i64 0)) (.tmp 7) .i64 .i64 0 (2 * (ByteArray.size s)) kr kr kr kr rfl kr kr (by omega) (by omega) (by unfold maxLen; omega) ?_
  intro b_1 cur_2 w3 H3 hr_3; clear H2
  have hr_3z : Rw 1 cur_2 (2 * (ByteArray.size s)) (0) (cellsB ([] : List UInt8)) := hr_3
  refine rp [.v] H3 kr fun gs4 w4 H4 => ?_
  show WPs _ _ _ _ [] _ _
  clear H3
  refine s_nil ?_
  refine g_seq kr ?_
  refine rS [.v, .v, .v] H4 kr fun gs5 w5 H5 => ?_
  clear H4
  refine g_block 0 kr ?_
  have HL1 : St w.heap.size w w5 [(b_1, Obj.cells cur_2 5 (0, 0))] := H5.as kr
  clear H5
  refine g_loop kr (fun mz ρ ww => ∃ (b : Nat) (cap : Nat) (n : Nat) (cur : Array Value) (i : Nat), ByteArray.size s - i = mz ∧ (n = 2 * i) ∧ (Rw 1 cur cap n (cellsB (hv (List.take i (tl s))))) ∧ (i ≤ ByteArray.size s) ∧ St w.heap.size w ww [(b, Obj.cells cur 5 (0, 0))] ∧ Is [(0, .string s), (2, .string (⟨#[]⟩)), (3, .slice (some ⟨b, 0, none⟩) n cap), (10, .int .i64 ((ByteArray.size s : Nat) : Int)), (11, .int .i64 ((i : Nat) : Int))] ρ) (ByteArray.size s - 0) ⟨b_1, 2 * (ByteArray.size s), 0, cur_2, 0, rfl, rfl, hr_3z, (by omega), HL1, (Is.of ⟨kr, kr, kr, kr, kr, trivial⟩)⟩ ?_
  clear HL1
  rintro _ _ w6 ⟨b, cap, n, cur, i, rfl, hn, hr, hi, H6, _, rfl⟩
  by_cases hc2 : (i : Nat) < ByteArray.size s
  · skip
    refine rS [.e (v := .bool (decide (((i : Nat) : Int) < ((ByteArray.size s : Nat) : Int)))) (v' := .bool true) (bool_eq (decide_eq_true (by omega)))] H6 kr fun gs7 w7 H7 => ?_
    clear H6
    refine g_seq kr ?_
    refine g_cond_t kr kr ?_
    refine g_skip kr ?_
    show WP _ _ _ _ _ _
    refine g_seq kr ?_
    refine g_block 1 kr ?_
    refine rS [.v, .v] H7 kr fun gs8 w8 H8 => ?_
    clear H7
    have HL3 : St w.heap.size w w8 [(b, Obj.cells cur 5 (0, 0))] := H8.as kr
    clear H8
    refine D2.g_draw0 [0, 1, 2, 3, 4, 5, 6, 7, 8, 9, 10, 11] [((some 14), fun _ => .slice (some ⟨b, 0, none⟩) n cap), ((some 15), fun _ => .string s), ((some 16), fun _ => .int .i64 ((i : Nat) : Int)), ((some 17), fun _ => .int .u8 ((BitVec.toNat (UInt8.toBitVec (List.getD (tl s) i 0)) : Nat) : Int)), ((some 18), fun _ => .int .u8 ((BitVec.toNat ((UInt8.toBitVec (List.getD (tl s) i 0)) >>> 4) : Nat) : Int)), ((some 19), fun _ => .string s), ((some 20), fun _ => .int .i64 ((i : Nat) : Int)), ((some 21), fun _ => .int .u8 ((BitVec.toNat (UInt8.toBitVec (List.getD (tl s) i 0)) : Nat) : Int)), ((some 22), fun _ => .int .u8 ((BitVec.toNat ((UInt8.toBitVec (List.getD (tl s) i 0)) &&& (15 : BitVec 8)) : Nat) : Int)), ((some 23), fun b => .slice (some ⟨b.b, 0, none⟩) 2 2), ((some 24), fun y => .slice (some ⟨y.b, 0, none⟩) y.n y.cap), ((some 3), fun y => .slice (some ⟨y.b, 0, none⟩) (y.n) (y.cap))] (D2.Pre w.heap.size w (fun L g => [(true, (bif L 10 then ((g 10).b, Obj.cells ((g 10).cur) 5 (0, 0)) else (b, Obj.cells cur 5 (0, 0)))), (L 9, ((g 9).b, Obj.cells #[.int .u8 ((BitVec.toNat ((UInt8.toBitVec (List.getD (tl s) i 0)) >>> 4) : Nat) : Int), .int .u8 ((BitVec.toNat ((UInt8.toBitVec (List.getD (tl s) i 0)) &&& (15 : BitVec 8)) : Nat) : Int)] 5 (0, 0)))]) (fun L g => (L 10 = true → ((g 10).n = n + 2 ∧ Rw 1 (g 10).cur (g 10).cap (n + 2) (cellsB (hv (List.take (i + 1) (tl s)))))) ∧ (L 11 = true → g 11 = g 10) ∧ True)) kr kr kr ⟨D2.StE.of HL3.drew _ kr, ⟨(fun h => nomatch h), (fun h => nomatch h), trivial⟩⟩ ⟨?_, ?_, ?_, ?_, ?_, ?_, ?_, ?_, ?_, ?_, ?_, ?_, trivial⟩ ?_
    · exact D2.gv_val (fun _ _ _ h => h) (fun g w => by kernel_rfl)
    · exact D2.gv_val (fun _ _ _ h => h) (fun g w => by kernel_rfl)
    · exact D2.gv_val (fun _ _ _ h => h) (fun g w => by kernel_rfl)
    · exact D2.gv_op (fun _ _ _ h => h) _ (fun g => by kernel_rfl) (fun g => (fun o w ho => sindex_run (t := 9) (kd := .i64) kr (x := (.tmp 15)) (y := (.tmp 16)) s i ho kr kr (by omega) w))
    · exact D2.gv_valE (fun _ _ _ h => h) (V' := .int .u8 (Int.fdiv (((BitVec.toNat (UInt8.toBitVec (List.getD (tl s) i 0)) : Nat) : Int)) (2 ^ (min 4 8)))) (fun g w => by kernel_rfl) (bv_shr_u8 (UInt8.toBitVec (List.getD (tl s) i 0)) 4)
    · exact D2.gv_val (fun _ _ _ h => h) (fun g w => by kernel_rfl)
    · exact D2.gv_val (fun _ _ _ h => h) (fun g w => by kernel_rfl)
    · exact D2.gv_op (fun _ _ _ h => h) _ (fun g => by kernel_rfl) (fun g => (fun o w ho => sindex_run (t := 9) (kd := .i64) kr (x := (.tmp 19)) (y := (.tmp 20)) s i ho kr kr (by omega) w))
    · exact D2.gv_valE (fun _ _ _ h => h) (V' := .int .u8 (Go.bits .and .u8 (((BitVec.toNat (UInt8.toBitVec (List.getD (tl s) i 0)) : Nat) : Int)) (15))) (fun g w => by kernel_rfl) (bv_and_u8 (UInt8.toBitVec (List.getD (tl s) i 0)) (15 : BitVec 8))
    · exact D2.gv_new (fun b => .slice (some ⟨b, 0, none⟩) 2 2) #[.int .u8 ((BitVec.toNat ((UInt8.toBitVec (List.getD (tl s) i 0)) >>> 4) : Nat) : Int), .int .u8 ((BitVec.toNat ((UInt8.toBitVec (List.getD (tl s) i 0)) &&& (15 : BitVec 8)) : Nat) : Int)] 5 1 (fun g w => by kernel_rfl) (fun L g b hN => kr) (fun L g b hN hF => hF)
    · exact D2.gv_append 38 5 1 1 (.tmp 14) (.tmp 23) 0 1 (fun g => b) (fun g => (g 9).b) (fun g => n) (fun g => 2) (fun g => cap) (fun g => 2) (fun g => cur) (fun g => #[.int .u8 ((BitVec.toNat ((UInt8.toBitVec (List.getD (tl s) i 0)) >>> 4) : Nat) : Int), .int .u8 ((BitVec.toNat ((UInt8.toBitVec (List.getD (tl s) i 0)) &&& (15 : BitVec 8)) : Nat) : Int)]) 5 (0, 0) (fun g => (cellsB (hv (List.take i (tl s))))) (fun g => [.int .u8 ((BitVec.toNat ((UInt8.toBitVec (List.getD (tl s) i 0)) >>> 4) : Nat) : Int), .int .u8 ((BitVec.toNat ((UInt8.toBitVec (List.getD (tl s) i 0)) &&& (15 : BitVec 8)) : Nat) : Int)]) (fun g => by kernel_rfl) kr (fun g => by kernel_rfl) (fun L g hN => (by have hL10 : L 10 = false := hN.1; exact D2.ent_get' (p := true) (e := (bif L 10 then ((g 10).b, Obj.cells ((g 10).cur) 5 (0, 0)) else (b, Obj.cells cur 5 (0, 0)))) kr (by rfl) (by simp only [hL10, cond_true, cond_false] <;> rfl))) (fun L g hN hF => by exact hr) (fun g => by kernel_rfl) (fun L g hN => (by have hL9 : L 9 = true := (hN.bef 9 kr); exact D2.ent_get' (p := L 9) (e := ((g 9).b, Obj.cells #[.int .u8 ((BitVec.toNat ((UInt8.toBitVec (List.getD (tl s) i 0)) >>> 4) : Nat) : Int), .int .u8 ((BitVec.toNat ((UInt8.toBitVec (List.getD (tl s) i 0)) &&& (15 : BitVec 8)) : Nat) : Int)] 5 (0, 0))) kr (by exact hL9) (by simp only [hL9, cond_true, cond_false] <;> rfl))) (fun L g hN hF => by exact ⟨(by rfl), (by rfl), (by intro u hu; simp at hu; first | exact hu.elim | (rcases hu with rfl | rfl | rfl | rfl <;> rfl) | (rcases hu with rfl | rfl <;> rfl) | (subst hu; rfl)), (by omega), (by unfold maxLen; omega)⟩) (fun L g y hN => kr) (fun L g y hN hF hyn hyr => by have hnew := (show (y.n = n + 2 ∧ Rw 1 y.cur y.cap (n + 2) (cellsB (hv (List.take (i + 1) (tl s))))) from ⟨hyn, by rw [hv_take (tl s) i (by rw [tl_len]; omega), cellsB_append, ← cells_hl]; exact hyr⟩); exact ⟨fun _ => hnew, (fun hx => nomatch (Eq.trans (Eq.symm (show L 11 = true from hx)) (hN.post 11 kr))), trivial⟩)
    · exact D2.gv_valG (fun g => g 10) (fun L g w hN hp => ⟨hp.1, hp.2.1, fun _ => rfl, trivial⟩) (fun g w => by kernel_rfl)
    intro L0 G9 w9 hall HL; clear HL3
    have H9 : St w.heap.size w w9 [((G9 10).b, Obj.cells ((G9 10).cur) 5 (0, 0)), ((G9 9).b, Obj.cells #[.int .u8 ((BitVec.toNat ((UInt8.toBitVec (List.getD (tl s) i 0)) >>> 4) : Nat) : Int), .int .u8 ((BitVec.toNat ((UInt8.toBitVec (List.getD (tl s) i 0)) &&& (15 : BitVec 8)) : Nat) : Int)] 5 (0, 0))] := by have e9 := hall 9 (Nat.le_of_ble_eq_true kr); have e10 := hall 10 (Nat.le_of_ble_eq_true kr); have e11 := hall 11 (Nat.le_of_ble_eq_true kr); have hS := D2.StE.st HL.1; simp only [e9, e10, e11, cond_true, D2.pres] at hS; exact hS
    have hf10_9 : ((G9 10).n = n + 2 ∧ Rw 1 (G9 10).cur (G9 10).cap (n + 2) (cellsB (hv (List.take (i + 1) (tl s))))) := HL.2.1 (hall 10 (Nat.le_of_ble_eq_true kr))
    have hf11_9 : G9 11 = G9 10 := HL.2.2.1 (hall 11 (Nat.le_of_ble_eq_true kr))
    clear HL hall
    rw [← hf11_9] at H9 hf10_9
    show WP _ _ _ _ _ _
    refine g_keep [0, 2, 3, 4, 10, 11, 12] fun ρ1 => ?_
    refine rL [.e (v := .int .i64 (IntKind.i64.wrap (((i : Nat) : Int) + 1))) (v' := .int .i64 ((i + 1 : Nat) : Int)) (int_eq (wrapAdd_i64 (a := i) (b := 1) (by omega))), .v] H9 kr fun gs10 w10 H10 => ?_
    clear H9
    have HL4 : St w.heap.size w w10 [((G9 11).b, Obj.cells ((G9 11).cur) 5 (0, 0)), ((G9 9).b, Obj.cells #[.int .u8 ((BitVec.toNat ((UInt8.toBitVec (List.getD (tl s) i 0)) >>> 4) : Nat) : Int), .int .u8 ((BitVec.toNat ((UInt8.toBitVec (List.getD (tl s) i 0)) &&& (15 : BitVec 8)) : Nat) : Int)] 5 (0, 0))] := H10.as kr
    clear H10
    have HD5 : St w.heap.size w w10 [((G9 11).b, Obj.cells ((G9 11).cur) 5 (0, 0))] := HL4.sub (List.Sublist.cons_cons _ (List.Sublist.cons _ List.Sublist.slnil))
    show ∃ m, _ ∧ _
    exact ⟨_, (by omega), (G9 11).b, (G9 11).cap, (G9 11).n, (G9 11).cur, (i + 1), rfl, (by have h9 := hf10_9.1; omega), (by have h9 := hf10_9; rw [h9.1]; exact h9.2), (by omega), HD5, (Is.of ⟨kr, kr, kr, kr, kr, trivial⟩)⟩
  · skip
    refine rS [.e (v := .bool (decide (((i : Nat) : Int) < ((ByteArray.size s : Nat) : Int)))) (v' := .bool false) (bool_eq (decide_eq_false (by omega)))] H6 kr fun gs11 w11 H11 => ?_
    clear H6
    refine g_seq kr ?_
    refine g_cond_f kr kr ?_
    refine g_exit 0 kr ?_
    show WP _ _ _ _ _ _
    refine g_sreg [0, 1, 2] kr kr ?_
    refine rp [.v] H11 kr fun gs12 w12 H12 => ?_
    show WPs _ _ _ _ [1, 2] _ _
    clear H11
    refine s_bytesStrB H12 (some 27) 38 9 5 (.tmp 26) 0 b n cap cur 5 (0, 0) (hv (List.take i (tl s))) kr kr kr kr kr kr kr hr ?_
    refine rp [.v] H12 kr fun gs13 w13 H13 => ?_
    show WPs _ _ _ _ [] _ _
    clear H12
    refine s_nil ?_
    refine g_ret kr ?_
    show ∃ vs, Res _ _ _ _ vs ∧ _
    refine ⟨[.string (strB (hv (List.take i (tl s))))], (.tmp (.string (strB (hv (List.take i (tl s))))) kr .nil), ?_, H13.below⟩
    obtain rfl : i = ByteArray.size s := by omega
    rw [List.take_of_length_le (show (tl s).length ≤ ByteArray.size s by rw [tl_len]; omega)]
    rfl
set_option maxRecDepth 100000 in
set_option maxHeartbeats 2000000 in
theorem ofR_fn (s : ByteArray) (hs : ByteArray.size s ≤ 1000000000000) : Fn Try.prog 12 #[.string s] (.string (strB (hv (tl s)))) := by
  refine Fn.intro (c := codeOf Try.f12) [.tmp 2] 25 Try.func12 kr kr kr fun w => ?_
  have H0 := St.start w
  refine rS [.v] H0 kr fun gs1 w1 H1 => ?_
  clear H0
  refine rS [.nw (fun b => .slice (some ⟨b, 0, none⟩) 0 0) #[] 5, .v] H1 kr fun gs2 w2 H2 => ?_
  clear H1
  refine g_seq kr ?_
  refine rS [.v] H2 kr fun gs3 w3 H3 => ?_
  clear H2
  refine g_block 0 kr ?_
  have HL1 : St w.heap.size w w3 [((gs2 0).b, Obj.cells #[] 5 (0, 0))] := H3.as kr
  clear H3
  refine g_loop kr (fun mz ρ ww => ∃ (b : Nat) (cap : Nat) (n : Nat) (cur : Array Value) (i : Nat), ByteArray.size s - i = mz ∧ (n = 2 * i) ∧ (Rw 1 cur cap n (cellsB (hv (List.take i (tl s))))) ∧ (i ≤ ByteArray.size s) ∧ St w.heap.size w ww [(b, Obj.cells cur 5 (0, 0))] ∧ Is [(0, .string s), (2, .string (⟨#[]⟩)), (3, .slice (some ⟨b, 0, none⟩) n cap), (4, .int .i64 ((i : Nat) : Int))] ρ) (ByteArray.size s - 0) ⟨(gs2 0).b, 0, 0, #[], 0, rfl, rfl, (Rw.lit #[] 0 rfl (by unfold maxLen; omega)), (by omega), HL1, (Is.of ⟨kr, kr, kr, kr, trivial⟩)⟩ ?_
  clear HL1
  rintro _ _ w4 ⟨b, cap, n, cur, i, rfl, hn, hr, hi, H4, _, rfl⟩
  refine g_seq kr ?_
  refine g_sreg [0, 1, 2, 3] kr kr ?_
  refine rp [.v, .v, .v] H4 kr fun gs5 w5 H5 => ?_
  show WPs _ _ _ _ [3] _ _
  clear H4
  by_cases hc2 : (i : Nat) < ByteArray.size s
  · skip
    refine rp [.e (v := .bool (decide (((i : Nat) : Int) < ((ByteArray.size s : Nat) : Int)))) (v' := .bool true) (bool_eq (decide_eq_true (by omega)))] H5 kr fun gs6 w6 H6 => ?_
    show WPs _ _ _ _ [] _ _
    clear H5
    refine s_nil ?_
    refine g_cond_t kr kr ?_
    refine g_skip kr ?_
    show WP _ _ _ _ _ _
    refine g_seq kr ?_
    refine g_block 1 kr ?_
    have HL3 : St w.heap.size w w6 [(b, Obj.cells cur 5 (0, 0))] := H6.as kr
    clear H6
    refine D2.g_draw0 [0, 1, 2, 3, 4, 5, 6, 7, 8, 9, 10, 11] [((some 12), fun _ => .slice (some ⟨b, 0, none⟩) n cap), ((some 13), fun _ => .string s), ((some 14), fun _ => .int .i64 ((i : Nat) : Int)), ((some 15), fun _ => .int .u8 ((BitVec.toNat (UInt8.toBitVec (List.getD (tl s) i 0)) : Nat) : Int)), ((some 16), fun _ => .int .u8 ((BitVec.toNat ((UInt8.toBitVec (List.getD (tl s) i 0)) / (16 : BitVec 8)) : Nat) : Int)), ((some 17), fun _ => .string s), ((some 18), fun _ => .int .i64 ((i : Nat) : Int)), ((some 19), fun _ => .int .u8 ((BitVec.toNat (UInt8.toBitVec (List.getD (tl s) i 0)) : Nat) : Int)), ((some 20), fun _ => .int .u8 ((BitVec.toNat ((UInt8.toBitVec (List.getD (tl s) i 0)) % (16 : BitVec 8)) : Nat) : Int)), ((some 21), fun b => .slice (some ⟨b.b, 0, none⟩) 2 2), ((some 22), fun y => .slice (some ⟨y.b, 0, none⟩) y.n y.cap), ((some 3), fun y => .slice (some ⟨y.b, 0, none⟩) (y.n) (y.cap))] (D2.Pre w.heap.size w (fun L g => [(true, (bif L 10 then ((g 10).b, Obj.cells ((g 10).cur) 5 (0, 0)) else (b, Obj.cells cur 5 (0, 0)))), (L 9, ((g 9).b, Obj.cells #[.int .u8 ((BitVec.toNat ((UInt8.toBitVec (List.getD (tl s) i 0)) / (16 : BitVec 8)) : Nat) : Int), .int .u8 ((BitVec.toNat ((UInt8.toBitVec (List.getD (tl s) i 0)) % (16 : BitVec 8)) : Nat) : Int)] 5 (0, 0)))]) (fun L g => (L 10 = true → ((g 10).n = n + 2 ∧ Rw 1 (g 10).cur (g 10).cap (n + 2) (cellsB (hv (List.take (i + 1) (tl s)))))) ∧ (L 11 = true → g 11 = g 10) ∧ True)) kr kr kr ⟨D2.StE.of HL3.drew _ kr, ⟨(fun h => nomatch h), (fun h => nomatch h), trivial⟩⟩ ⟨?_, ?_, ?_, ?_, ?_, ?_, ?_, ?_, ?_, ?_, ?_, ?_, trivial⟩ ?_
    · exact D2.gv_val (fun _ _ _ h => h) (fun g w => by kernel_rfl)
    · exact D2.gv_val (fun _ _ _ h => h) (fun g w => by kernel_rfl)
    · exact D2.gv_val (fun _ _ _ h => h) (fun g w => by kernel_rfl)
    · exact D2.gv_op (fun _ _ _ h => h) _ (fun g => by kernel_rfl) (fun g => (fun o w ho => sindex_run (t := 9) (kd := .i64) kr (x := (.tmp 13)) (y := (.tmp 14)) s i ho kr kr (by omega) w))
    · exact D2.gv_valE (fun _ _ _ h => h) (V' := .int .u8 (IntKind.u8.wrap (Int.tdiv (((BitVec.toNat (UInt8.toBitVec (List.getD (tl s) i 0)) : Nat) : Int)) (16)))) (fun g w => by kernel_rfl) (bv_quo_u8 (UInt8.toBitVec (List.getD (tl s) i 0)) (16 : BitVec 8))
    · exact D2.gv_val (fun _ _ _ h => h) (fun g w => by kernel_rfl)
    · exact D2.gv_val (fun _ _ _ h => h) (fun g w => by kernel_rfl)
    · exact D2.gv_op (fun _ _ _ h => h) _ (fun g => by kernel_rfl) (fun g => (fun o w ho => sindex_run (t := 9) (kd := .i64) kr (x := (.tmp 17)) (y := (.tmp 18)) s i ho kr kr (by omega) w))
    · exact D2.gv_valE (fun _ _ _ h => h) (V' := .int .u8 (Int.tmod (((BitVec.toNat (UInt8.toBitVec (List.getD (tl s) i 0)) : Nat) : Int)) (16))) (fun g w => by kernel_rfl) (bv_rem_u8 (UInt8.toBitVec (List.getD (tl s) i 0)) (16 : BitVec 8))
    · exact D2.gv_new (fun b => .slice (some ⟨b, 0, none⟩) 2 2) #[.int .u8 ((BitVec.toNat ((UInt8.toBitVec (List.getD (tl s) i 0)) / (16 : BitVec 8)) : Nat) : Int), .int .u8 ((BitVec.toNat ((UInt8.toBitVec (List.getD (tl s) i 0)) % (16 : BitVec 8)) : Nat) : Int)] 5 1 (fun g w => by kernel_rfl) (fun L g b hN => kr) (fun L g b hN hF => hF)
    · exact D2.gv_append 38 5 1 1 (.tmp 12) (.tmp 21) 0 1 (fun g => b) (fun g => (g 9).b) (fun g => n) (fun g => 2) (fun g => cap) (fun g => 2) (fun g => cur) (fun g => #[.int .u8 ((BitVec.toNat ((UInt8.toBitVec (List.getD (tl s) i 0)) / (16 : BitVec 8)) : Nat) : Int), .int .u8 ((BitVec.toNat ((UInt8.toBitVec (List.getD (tl s) i 0)) % (16 : BitVec 8)) : Nat) : Int)]) 5 (0, 0) (fun g => (cellsB (hv (List.take i (tl s))))) (fun g => [.int .u8 ((BitVec.toNat ((UInt8.toBitVec (List.getD (tl s) i 0)) / (16 : BitVec 8)) : Nat) : Int), .int .u8 ((BitVec.toNat ((UInt8.toBitVec (List.getD (tl s) i 0)) % (16 : BitVec 8)) : Nat) : Int)]) (fun g => by kernel_rfl) kr (fun g => by kernel_rfl) (fun L g hN => (by have hL10 : L 10 = false := hN.1; exact D2.ent_get' (p := true) (e := (bif L 10 then ((g 10).b, Obj.cells ((g 10).cur) 5 (0, 0)) else (b, Obj.cells cur 5 (0, 0)))) kr (by rfl) (by simp only [hL10, cond_true, cond_false] <;> rfl))) (fun L g hN hF => by exact hr) (fun g => by kernel_rfl) (fun L g hN => (by have hL9 : L 9 = true := (hN.bef 9 kr); exact D2.ent_get' (p := L 9) (e := ((g 9).b, Obj.cells #[.int .u8 ((BitVec.toNat ((UInt8.toBitVec (List.getD (tl s) i 0)) / (16 : BitVec 8)) : Nat) : Int), .int .u8 ((BitVec.toNat ((UInt8.toBitVec (List.getD (tl s) i 0)) % (16 : BitVec 8)) : Nat) : Int)] 5 (0, 0))) kr (by exact hL9) (by simp only [hL9, cond_true, cond_false] <;> rfl))) (fun L g hN hF => by exact ⟨(by rfl), (by rfl), (by intro u hu; simp at hu; first | exact hu.elim | (rcases hu with rfl | rfl | rfl | rfl <;> rfl) | (rcases hu with rfl | rfl <;> rfl) | (subst hu; rfl)), (by omega), (by unfold maxLen; omega)⟩) (fun L g y hN => kr) (fun L g y hN hF hyn hyr => by have hnew := (show (y.n = n + 2 ∧ Rw 1 y.cur y.cap (n + 2) (cellsB (hv (List.take (i + 1) (tl s))))) from ⟨hyn, by rw [hv_take (tl s) i (by rw [tl_len]; omega), cellsB_append, ← cells_qr]; exact hyr⟩); exact ⟨fun _ => hnew, (fun hx => nomatch (Eq.trans (Eq.symm (show L 11 = true from hx)) (hN.post 11 kr))), trivial⟩)
    · exact D2.gv_valG (fun g => g 10) (fun L g w hN hp => ⟨hp.1, hp.2.1, fun _ => rfl, trivial⟩) (fun g w => by kernel_rfl)
    intro L0 G7 w7 hall HL; clear HL3
    have H7 : St w.heap.size w w7 [((G7 10).b, Obj.cells ((G7 10).cur) 5 (0, 0)), ((G7 9).b, Obj.cells #[.int .u8 ((BitVec.toNat ((UInt8.toBitVec (List.getD (tl s) i 0)) / (16 : BitVec 8)) : Nat) : Int), .int .u8 ((BitVec.toNat ((UInt8.toBitVec (List.getD (tl s) i 0)) % (16 : BitVec 8)) : Nat) : Int)] 5 (0, 0))] := by have e9 := hall 9 (Nat.le_of_ble_eq_true kr); have e10 := hall 10 (Nat.le_of_ble_eq_true kr); have e11 := hall 11 (Nat.le_of_ble_eq_true kr); have hS := D2.StE.st HL.1; simp only [e9, e10, e11, cond_true, D2.pres] at hS; exact hS
    have hf10_7 : ((G7 10).n = n + 2 ∧ Rw 1 (G7 10).cur (G7 10).cap (n + 2) (cellsB (hv (List.take (i + 1) (tl s))))) := HL.2.1 (hall 10 (Nat.le_of_ble_eq_true kr))
    have hf11_7 : G7 11 = G7 10 := HL.2.2.1 (hall 11 (Nat.le_of_ble_eq_true kr))
    clear HL hall
    rw [← hf11_7] at H7 hf10_7
    show WP _ _ _ _ _ _
    refine g_keep [0, 2, 3, 4, 9] fun ρ1 => ?_
    refine rL [.v, .e (v := .int .i64 (IntKind.i64.wrap (((i : Nat) : Int) + 1))) (v' := .int .i64 ((i + 1 : Nat) : Int)) (int_eq (wrapAdd_i64 (a := i) (b := 1) (by omega))), .v] H7 kr fun gs8 w8 H8 => ?_
    clear H7
    have HL4 : St w.heap.size w w8 [((G7 11).b, Obj.cells ((G7 11).cur) 5 (0, 0)), ((G7 9).b, Obj.cells #[.int .u8 ((BitVec.toNat ((UInt8.toBitVec (List.getD (tl s) i 0)) / (16 : BitVec 8)) : Nat) : Int), .int .u8 ((BitVec.toNat ((UInt8.toBitVec (List.getD (tl s) i 0)) % (16 : BitVec 8)) : Nat) : Int)] 5 (0, 0))] := H8.as kr
    clear H8
    have HD5 : St w.heap.size w w8 [((G7 11).b, Obj.cells ((G7 11).cur) 5 (0, 0))] := HL4.sub (List.Sublist.cons_cons _ (List.Sublist.cons _ List.Sublist.slnil))
    show ∃ m, _ ∧ _
    exact ⟨_, (by omega), (G7 11).b, (G7 11).cap, (G7 11).n, (G7 11).cur, (i + 1), rfl, (by have h9 := hf10_7.1; omega), (by have h9 := hf10_7; rw [h9.1]; exact h9.2), (by omega), HD5, (Is.of ⟨kr, kr, kr, kr, trivial⟩)⟩
  · skip
    refine rp [.e (v := .bool (decide (((i : Nat) : Int) < ((ByteArray.size s : Nat) : Int)))) (v' := .bool false) (bool_eq (decide_eq_false (by omega)))] H5 kr fun gs9 w9 H9 => ?_
    show WPs _ _ _ _ [] _ _
    clear H5
    refine s_nil ?_
    refine g_cond_f kr kr ?_
    refine g_exit 0 kr ?_
    show WP _ _ _ _ _ _
    refine g_sreg [0, 1, 2] kr kr ?_
    refine rp [.v] H9 kr fun gs10 w10 H10 => ?_
    show WPs _ _ _ _ [1, 2] _ _
    clear H9
    refine s_bytesStrB H10 (some 24) 38 9 5 (.tmp 23) 0 b n cap cur 5 (0, 0) (hv (List.take i (tl s))) kr kr kr kr kr kr kr hr ?_
    refine rp [.v] H10 kr fun gs11 w11 H11 => ?_
    show WPs _ _ _ _ [] _ _
    clear H10
    refine s_nil ?_
    refine g_ret kr ?_
    show ∃ vs, Res _ _ _ _ vs ∧ _
    refine ⟨[.string (strB (hv (List.take i (tl s))))], (.tmp (.string (strB (hv (List.take i (tl s))))) kr .nil), ?_, H11.below⟩
    obtain rfl : i = ByteArray.size s := by omega
    rw [List.take_of_length_le (show (tl s).length ≤ ByteArray.size s by rw [tl_len]; omega)]
    rfl
set_option maxRecDepth 100000 in
set_option maxHeartbeats 2000000 in
theorem may_fn (s : ByteArray) (hs : ByteArray.size s ≤ 1000000000000) : Fn Try.prog 20 #[.string s] (.bool (isP (tl s))) := by
  refine Fn.intro (c := codeOf Try.f20) [.tmp 2] 14 Try.func20 kr kr kr fun w => ?_
  have H0 := St.start w
  refine rS [.v] H0 kr fun gs1 w1 H1 => ?_
  clear H0
  refine g_seq kr ?_
  refine rS [.v, .v, .v] H1 kr fun gs2 w2 H2 => ?_
  clear H1
  refine g_block 0 kr ?_
  have HL1 : St w.heap.size w w2 [] := H2.as kr
  clear H2
  refine g_loop kr (fun mz ρ ww => ∃ (i : Nat), ByteArray.size s - i = mz ∧ (i ≤ ByteArray.size s) ∧ (isP (List.take i (tl s)) = true) ∧ St w.heap.size w ww [] ∧ Is [(0, .string s), (5, .int .i64 ((ByteArray.size s : Nat) : Int)), (6, .int .i64 ((i : Nat) : Int))] ρ) (ByteArray.size s - 0) ⟨0, rfl, (by omega), rfl, HL1, (Is.of ⟨kr, kr, kr, trivial⟩)⟩ ?_
  clear HL1
  rintro _ _ w3 ⟨i, rfl, hi, hp, H3, _, rfl⟩
  by_cases hc2 : (i : Nat) < ByteArray.size s
  · skip
    refine rS [.e (v := .bool (decide (((i : Nat) : Int) < ((ByteArray.size s : Nat) : Int)))) (v' := .bool true) (bool_eq (decide_eq_true (by omega)))] H3 kr fun gs4 w4 H4 => ?_
    clear H3
    refine g_seq kr ?_
    refine g_cond_t kr kr ?_
    refine g_skip kr ?_
    show WP _ _ _ _ _ _
    refine g_seq kr ?_
    refine g_block 1 kr ?_
    refine rS [.v, .v] H4 kr fun gs5 w5 H5 => ?_
    clear H4
    refine g_sreg [0, 1, 2, 3] kr kr ?_
    refine rp [.v, .v, .o (ins := [((.tmp 9), .string s), ((.tmp 10), .int .i64 ((i : Nat) : Int))]) (v := .int .u8 ((by_ s i : Nat) : Int)) (fun ρ o w ho hi => sindex_run (t := 9) (kd := .i64) kr (x := (.tmp 9)) (y := (.tmp 10)) s i ho hi.1 hi.2.1 (by omega) w)] H5 kr fun gs6 w6 H6 => ?_
    show WPs _ _ _ _ [3] _ _
    clear H5
    by_cases hc3 : (by_ s i : Nat) > 15
    · skip
      refine rp [.e (v := .bool (decide (15 < ((by_ s i : Nat) : Int)))) (v' := .bool true) (bool_eq (decide_eq_true (by omega)))] H6 kr fun gs7 w7 H7 => ?_
      show WPs _ _ _ _ [] _ _
      clear H6
      refine s_nil ?_
      refine g_cond_t kr kr ?_
      refine rS [.v] H7 kr fun gs8 w8 H8 => ?_
      clear H7
      refine g_ret kr ?_
      show ∃ vs, Res _ _ _ _ vs ∧ _
      refine ⟨[.bool false], (.tmp (.bool false) kr .nil), ?_, H8.below⟩
      exact bool_eq (isP_not (l := tl s) (i := i) (by rw [tl_len]; omega) (show ¬ by_ s i ≤ 15 by omega)).symm
    · skip
      refine rp [.e (v := .bool (decide (15 < ((by_ s i : Nat) : Int)))) (v' := .bool false) (bool_eq (decide_eq_false (by omega)))] H6 kr fun gs9 w9 H9 => ?_
      show WPs _ _ _ _ [] _ _
      clear H6
      refine s_nil ?_
      refine g_cond_f kr kr ?_
      refine g_skip kr ?_
      show WP _ _ _ _ _ _
      refine rL [.e (v := .int .i64 (IntKind.i64.wrap (((i : Nat) : Int) + 1))) (v' := .int .i64 ((i + 1 : Nat) : Int)) (int_eq (wrapAdd_i64 (a := i) (b := 1) (by omega))), .v] H9 kr fun gs10 w10 H10 => ?_
      clear H9
      have HL4 : St w.heap.size w w10 [] := H10.as kr
      clear H10
      show ∃ m, _ ∧ _
      exact ⟨_, (by omega), (i + 1), rfl, (by omega), (by rw [isP_step (by rw [tl_len]; omega), hp]; exact decide_eq_true (show by_ s i ≤ 15 by omega)), HL4, (Is.of ⟨kr, kr, kr, trivial⟩)⟩
  · skip
    refine rS [.e (v := .bool (decide (((i : Nat) : Int) < ((ByteArray.size s : Nat) : Int)))) (v' := .bool false) (bool_eq (decide_eq_false (by omega)))] H3 kr fun gs11 w11 H11 => ?_
    clear H3
    refine g_seq kr ?_
    refine g_cond_f kr kr ?_
    refine g_exit 0 kr ?_
    show WP _ _ _ _ _ _
    refine rS [.v] H11 kr fun gs12 w12 H12 => ?_
    clear H11
    refine g_ret kr ?_
    show ∃ vs, Res _ _ _ _ vs ∧ _
    refine ⟨[.bool true], (.tmp (.bool true) kr .nil), ?_, H12.below⟩
    obtain rfl : i = ByteArray.size s := by omega
    rw [List.take_of_length_le (show (tl s).length ≤ ByteArray.size s by rw [tl_len]; omega)] at hp
    exact bool_eq hp.symm
set_option maxRecDepth 100000 in
set_option maxHeartbeats 2000000 in
theorem isPart_fn (s : ByteArray) (hs : ByteArray.size s ≤ 1000000000000) : Fn Try.prog 18 #[.string s] (.bool (isP (tl s))) := by
  refine Fn.intro (c := codeOf Try.f18) [.tmp 2] 14 Try.func18 kr kr kr fun w => ?_
  have H0 := St.start w
  refine rS [.v] H0 kr fun gs1 w1 H1 => ?_
  clear H0
  refine g_seq kr ?_
  refine rS [.v] H1 kr fun gs2 w2 H2 => ?_
  clear H1
  refine g_block 0 kr ?_
  have HL1 : St w.heap.size w w2 [] := H2.as kr
  clear H2
  refine g_loop kr (fun mz ρ ww => ∃ (i : Nat), ByteArray.size s - i = mz ∧ (i ≤ ByteArray.size s) ∧ (isP (List.take i (tl s)) = true) ∧ St w.heap.size w ww [] ∧ Is [(0, .string s), (3, .int .i64 ((i : Nat) : Int))] ρ) (ByteArray.size s - 0) ⟨0, rfl, (by omega), rfl, HL1, (Is.of ⟨kr, kr, trivial⟩)⟩ ?_
  clear HL1
  rintro _ _ w3 ⟨i, rfl, hi, hp, H3, _, rfl⟩
  refine g_seq kr ?_
  refine g_sreg [0, 1, 2, 3] kr kr ?_
  refine rp [.v, .v, .v] H3 kr fun gs4 w4 H4 => ?_
  show WPs _ _ _ _ [3] _ _
  clear H3
  by_cases hc2 : (i : Nat) < ByteArray.size s
  · skip
    refine rp [.e (v := .bool (decide (((i : Nat) : Int) < ((ByteArray.size s : Nat) : Int)))) (v' := .bool true) (bool_eq (decide_eq_true (by omega)))] H4 kr fun gs5 w5 H5 => ?_
    show WPs _ _ _ _ [] _ _
    clear H4
    refine s_nil ?_
    refine g_cond_t kr kr ?_
    refine g_skip kr ?_
    show WP _ _ _ _ _ _
    refine g_seq kr ?_
    refine g_block 1 kr ?_
    refine g_sreg [0, 1, 2, 3] kr kr ?_
    refine rp [.v, .v, .o (ins := [((.tmp 10), .string s), ((.tmp 11), .int .i64 ((i : Nat) : Int))]) (v := .int .u8 ((by_ s i : Nat) : Int)) (fun ρ o w ho hi => sindex_run (t := 9) (kd := .i64) kr (x := (.tmp 10)) (y := (.tmp 11)) s i ho hi.1 hi.2.1 (by omega) w)] H5 kr fun gs6 w6 H6 => ?_
    show WPs _ _ _ _ [3] _ _
    clear H5
    by_cases hc3 : (by_ s i : Nat) > 15
    · skip
      refine rp [.e (v := .bool (decide (15 < ((by_ s i : Nat) : Int)))) (v' := .bool true) (bool_eq (decide_eq_true (by omega)))] H6 kr fun gs7 w7 H7 => ?_
      show WPs _ _ _ _ [] _ _
      clear H6
      refine s_nil ?_
      refine g_cond_t kr kr ?_
      refine rS [.v] H7 kr fun gs8 w8 H8 => ?_
      clear H7
      refine g_ret kr ?_
      show ∃ vs, Res _ _ _ _ vs ∧ _
      refine ⟨[.bool false], (.tmp (.bool false) kr .nil), ?_, H8.below⟩
      exact bool_eq (isP_not (l := tl s) (i := i) (by rw [tl_len]; omega) (show ¬ by_ s i ≤ 15 by omega)).symm
    · skip
      refine rp [.e (v := .bool (decide (15 < ((by_ s i : Nat) : Int)))) (v' := .bool false) (bool_eq (decide_eq_false (by omega)))] H6 kr fun gs9 w9 H9 => ?_
      show WPs _ _ _ _ [] _ _
      clear H6
      refine s_nil ?_
      refine g_cond_f kr kr ?_
      refine g_skip kr ?_
      show WP _ _ _ _ _ _
      refine rL [.v, .e (v := .int .i64 (IntKind.i64.wrap (((i : Nat) : Int) + 1))) (v' := .int .i64 ((i + 1 : Nat) : Int)) (int_eq (wrapAdd_i64 (a := i) (b := 1) (by omega))), .v] H9 kr fun gs10 w10 H10 => ?_
      clear H9
      have HL4 : St w.heap.size w w10 [] := H10.as kr
      clear H10
      show ∃ m, _ ∧ _
      exact ⟨_, (by omega), (i + 1), rfl, (by omega), (by rw [isP_step (by rw [tl_len]; omega), hp]; exact decide_eq_true (show by_ s i ≤ 15 by omega)), HL4, (Is.of ⟨kr, kr, trivial⟩)⟩
  · skip
    refine rp [.e (v := .bool (decide (((i : Nat) : Int) < ((ByteArray.size s : Nat) : Int)))) (v' := .bool false) (bool_eq (decide_eq_false (by omega)))] H4 kr fun gs11 w11 H11 => ?_
    show WPs _ _ _ _ [] _ _
    clear H4
    refine s_nil ?_
    refine g_cond_f kr kr ?_
    refine g_exit 0 kr ?_
    show WP _ _ _ _ _ _
    refine rS [.v] H11 kr fun gs12 w12 H12 => ?_
    clear H11
    refine g_ret kr ?_
    show ∃ vs, Res _ _ _ _ vs ∧ _
    refine ⟨[.bool true], (.tmp (.bool true) kr .nil), ?_, H12.below⟩
    obtain rfl : i = ByteArray.size s := by omega
    rw [List.take_of_length_le (show (tl s).length ≤ ByteArray.size s by rw [tl_len]; omega)] at hp
    exact bool_eq hp.symm
set_option maxRecDepth 100000 in
set_option maxHeartbeats 2000000 in
theorem odd_fn (n : Nat) (hn : n ≤ 9223372036854775807) : Fn Try.prog 21 #[.int .i64 ((n : Nat) : Int)] (.bool (decide (n % 2 = 1))) := by
  refine Fn.intro (c := codeOf Try.f21) [.tmp 2] 6 Try.func21 kr kr kr fun w => ?_
  have H0 := St.start w
  refine rS [.v] H0 kr fun gs1 w1 H1 => ?_
  clear H0
  refine g_sreg [0, 1, 2, 3] kr kr ?_
  refine rp [.v, .e (v := .int .i64 (Int.tmod ((n : Nat) : Int) 2)) (v' := .int .i64 ((n % 2 : Nat) : Int)) (int_eq (remN n 2))] H1 kr fun gs2 w2 H2 => ?_
  show WPs _ _ _ _ [2, 3] _ _
  clear H1
  by_cases hc1 : (n % 2 : Nat) = 1
  · skip
    refine rp [.e (v := .bool (((n % 2 : Nat) : Int) == 1)) (v' := .bool true) (bool_eq (beq_iff_eq.2 (by omega))), .v] H2 kr fun gs3 w3 H3 => ?_
    show WPs _ _ _ _ [] _ _
    clear H2
    refine s_nil ?_
    refine g_ret kr ?_
    show ∃ vs, Res _ _ _ _ vs ∧ _
    refine ⟨[.bool true], (.tmp (.bool true) kr .nil), ?_, H3.below⟩
    exact bool_eq (decide_eq_true (by omega)).symm
  · skip
    refine rp [.e (v := .bool (((n % 2 : Nat) : Int) == 1)) (v' := .bool false) (bool_eq (beq_eq_false_iff_ne.2 (by omega))), .v] H2 kr fun gs4 w4 H4 => ?_
    show WPs _ _ _ _ [] _ _
    clear H2
    refine s_nil ?_
    refine g_ret kr ?_
    show ∃ vs, Res _ _ _ _ vs ∧ _
    refine ⟨[.bool false], (.tmp (.bool false) kr .nil), ?_, H4.below⟩
    exact bool_eq (decide_eq_false (by omega)).symm
set_option maxRecDepth 100000 in
set_option maxHeartbeats 2000000 in
theorem head_fn (n : Nat) (e : Bool) (hn : n ≤ 9223372036854775807) : Fn Try.prog 24 #[.int .i64 ((n : Nat) : Int), .bool e] (.string (strB (hdP n e))) := by
  refine Fn.intro (c := codeOf Try.f24) [.tmp 4] 16 Try.func24 kr kr kr fun w => ?_
  have H0 := St.start w
  refine rS [.v] H0 kr fun gs1 w1 H1 => ?_
  clear H0
  refine rS [.v] H1 kr fun gs2 w2 H2 => ?_
  clear H1
  refine g_seq kr ?_
  refine rS [.v] H2 kr fun gs3 w3 H3 => ?_
  clear H2
  refine Or.elim (Bool.eq_false_or_eq_true (e)).symm (fun hq1 => ?_) (fun hq1 => ?_)
  · skip
    refine g_now 1 (v := .bool e) (v' := .bool false) (bool_eq hq1) kr ?_
    refine g_now 6 (v := .bool e) (v' := .bool false) (bool_eq hq1) kr ?_
    refine g_cond_f kr kr ?_
    refine g_skip kr ?_
    show WP _ _ _ _ _ _
    refine g_seq kr ?_
    refine rS [.v, .c (odd_fn n (by omega))] H3 kr fun gs4 w4 H4 => ?_
    clear H3
    refine Or.elim (Bool.eq_false_or_eq_true (decide (n % 2 = 1))).symm (fun hq2 => ?_) (fun hq2 => ?_)
    · skip
      refine g_now 8 (v := .bool (decide (n % 2 = 1))) (v' := .bool false) (bool_eq hq2) kr ?_
      refine g_cond_f kr kr ?_
      refine g_skip kr ?_
      show WP _ _ _ _ _ _
      refine rS [.v, .nw (fun b => .slice (some ⟨b, 0, none⟩) 2 2) #[.int .u8 0, .int .u8 0] 5, .w fun nn => .x (op := .convert 38 9 (.tmp 14)) (ins := [((.tmp 14), .slice (some ⟨(nn 0), 0, none⟩) 2 2)]) [(0, ((nn 0), Obj.cells #[.int .u8 0, .int .u8 0] 5 (0, 0)))] (bytesX (t := 38) (t' := 9) (e := 5) [0, 0] kr kr kr (Rw.lit #[.int .u8 0, .int .u8 0] 2 (by rfl) (by unfold maxLen; omega))), .v] H4 kr fun gs5 w5 H5 => ?_
      clear H4
      refine g_ret kr ?_
      show ∃ vs, Res _ _ _ _ vs ∧ _
      refine ⟨[.string (strOfNums ([0, 0]))], (.tmp (.string (strOfNums ([0, 0]))) kr .nil), ?_, H5.below⟩
      rw [hdP, if_neg (of_decide_eq_false hq2), hq1]; rfl
    · skip
      refine g_now 8 (v := .bool (decide (n % 2 = 1))) (v' := .bool true) (bool_eq hq2) kr ?_
      refine g_cond_t kr kr ?_
      refine rS [.v, .v, .nw (fun b => .slice (some ⟨b, 0, none⟩) 1 1) #[.int .u8 1] 5, .w fun nn => .x (op := .convert 38 9 (.tmp 11)) (ins := [((.tmp 11), .slice (some ⟨(nn 0), 0, none⟩) 1 1)]) [(0, ((nn 0), Obj.cells #[.int .u8 1] 5 (0, 0)))] (bytesX (t := 38) (t' := 9) (e := 5) [1] kr kr kr (Rw.lit #[.int .u8 1] 1 (by rfl) (by unfold maxLen; omega))), .v] H4 kr fun gs6 w6 H6 => ?_
      clear H4
      refine g_ret kr ?_
      show ∃ vs, Res _ _ _ _ vs ∧ _
      refine ⟨[.string (strOfNums ([1]))], (.tmp (.string (strOfNums ([1]))) kr .nil), ?_, H6.below⟩
      rw [hdP, if_pos (of_decide_eq_true hq2), hq1]; rfl
  · skip
    refine g_now 1 (v := .bool e) (v' := .bool true) (bool_eq hq1) kr ?_
    refine g_now 6 (v := .bool e) (v' := .bool true) (bool_eq hq1) kr ?_
    refine g_cond_t kr kr ?_
    refine rL [.v] H3 kr fun gs7 w7 H7 => ?_
    clear H3
    show WP _ _ _ _ _ _
    refine g_seq kr ?_
    refine rS [.v, .c (odd_fn n (by omega))] H7 kr fun gs8 w8 H8 => ?_
    clear H7
    refine Or.elim (Bool.eq_false_or_eq_true (decide (n % 2 = 1))).symm (fun hq3 => ?_) (fun hq3 => ?_)
    · skip
      refine g_now 8 (v := .bool (decide (n % 2 = 1))) (v' := .bool false) (bool_eq hq3) kr ?_
      refine g_cond_f kr kr ?_
      refine g_skip kr ?_
      show WP _ _ _ _ _ _
      refine rS [.v, .nw (fun b => .slice (some ⟨b, 0, none⟩) 2 2) #[.int .u8 2, .int .u8 0] 5, .w fun nn => .x (op := .convert 38 9 (.tmp 14)) (ins := [((.tmp 14), .slice (some ⟨(nn 0), 0, none⟩) 2 2)]) [(0, ((nn 0), Obj.cells #[.int .u8 2, .int .u8 0] 5 (0, 0)))] (bytesX (t := 38) (t' := 9) (e := 5) [2, 0] kr kr kr (Rw.lit #[.int .u8 2, .int .u8 0] 2 (by rfl) (by unfold maxLen; omega))), .v] H8 kr fun gs9 w9 H9 => ?_
      clear H8
      refine g_ret kr ?_
      show ∃ vs, Res _ _ _ _ vs ∧ _
      refine ⟨[.string (strOfNums ([2, 0]))], (.tmp (.string (strOfNums ([2, 0]))) kr .nil), ?_, H9.below⟩
      rw [hdP, if_neg (of_decide_eq_false hq3), hq1]; rfl
    · skip
      refine g_now 8 (v := .bool (decide (n % 2 = 1))) (v' := .bool true) (bool_eq hq3) kr ?_
      refine g_cond_t kr kr ?_
      refine rS [.v, .v, .nw (fun b => .slice (some ⟨b, 0, none⟩) 1 1) #[.int .u8 3] 5, .w fun nn => .x (op := .convert 38 9 (.tmp 11)) (ins := [((.tmp 11), .slice (some ⟨(nn 0), 0, none⟩) 1 1)]) [(0, ((nn 0), Obj.cells #[.int .u8 3] 5 (0, 0)))] (bytesX (t := 38) (t' := 9) (e := 5) [3] kr kr kr (Rw.lit #[.int .u8 3] 1 (by rfl) (by unfold maxLen; omega))), .v] H8 kr fun gs10 w10 H10 => ?_
      clear H8
      refine g_ret kr ?_
      show ∃ vs, Res _ _ _ _ vs ∧ _
      refine ⟨[.string (strOfNums ([3]))], (.tmp (.string (strOfNums ([3]))) kr .nil), ?_, H10.below⟩
      rw [hdP, if_pos (of_decide_eq_true hq3), hq1]; rfl
end Go.Proofs.Ytafamhkdklkfiaa

namespace Go.Proofs.Ytafamhkdklkfiaa
open Go Go.RowKit
set_option linter.unusedVariables false
set_option maxRecDepth 100000 in
set_option maxHeartbeats 2000000 in
theorem join_fn (s : ByteArray) (hs : ByteArray.size s ≤ 1000000000000) : Fn Try.prog 22 #[.string s] (.string (strB (jn (tl s)))) := by
  refine Fn.intro (c := codeOf Try.f22) [.tmp 2] 31 Try.func22 kr kr kr fun w => ?_
  have H0 := St.start w
  refine rS [.v] H0 kr fun gs1 w1 H1 => ?_
  clear H0
  refine g_sreg [0, 1, 2, 3, 4] kr kr ?_
  refine rp [.v, .v, .e (v := .int .i64 (IntKind.i64.wrap (((ByteArray.size s : Nat) : Int).tdiv 2))) (v' := .int .i64 (((ByteArray.size s) / 2 : Nat) : Int)) (int_eq (quoN_i64 (a := ByteArray.size s) (b := 2) (by omega)))] H1 kr fun gs2 w2 H2 => ?_
  show WPs _ _ _ _ [3, 4] _ _
  clear H1
  refine s_make H2 (some 8) 38 5 1 (.int .u8 0) (.tmp 7) (.tmp 7) .i64 .i64 ((ByteArray.size s) / 2) kr kr kr kr rfl kr kr (by omega) (by unfold maxLen; omega) ?_
  intro b_1 cur_2 w3 H3 hr_3; clear H2
  have hr_3z : Rw 1 cur_2 ((ByteArray.size s) / 2) ((ByteArray.size s) / 2) (cellsB (List.take 0 (jn (tl s)) ++ List.replicate ((tl s).length / 2 - 0) 0)) := by rw [List.take_zero, List.nil_append, Nat.sub_zero, tl_len, cellsB_zeros']; exact hr_3
  refine rp [.v] H3 kr fun gs4 w4 H4 => ?_
  show WPs _ _ _ _ [] _ _
  clear H3
  refine s_nil ?_
  refine g_seq kr ?_
  refine rS [.v, .v, .v] H4 kr fun gs5 w5 H5 => ?_
  clear H4
  refine g_block 0 kr ?_
  have HL1 : St w.heap.size w w5 [(b_1, Obj.cells cur_2 5 (0, 0))] := H5.as kr
  clear H5
  refine g_loop kr (fun mz ρ ww => ∃ (cur : Array Value) (i : Nat), ByteArray.size s / 2 - i = mz ∧ (Rw 1 cur (ByteArray.size s / 2) (ByteArray.size s / 2) (cellsB (List.take i (jn (tl s)) ++ List.replicate ((tl s).length / 2 - i) 0))) ∧ (i ≤ ByteArray.size s / 2) ∧ St w.heap.size w ww [(b_1, Obj.cells cur 5 (0, 0))] ∧ Is [(0, .string s), (2, .string (⟨#[]⟩)), (3, .slice (some ⟨b_1, 0, none⟩) ((ByteArray.size s) / 2) ((ByteArray.size s) / 2)), (10, .int .i64 (((ByteArray.size s) / 2 : Nat) : Int)), (11, .int .i64 ((i : Nat) : Int))] ρ) (ByteArray.size s / 2 - 0) ⟨cur_2, 0, rfl, hr_3z, (by omega), HL1, (Is.of ⟨kr, kr, kr, kr, kr, trivial⟩)⟩ ?_
  clear HL1
  rintro _ _ w6 ⟨cur, i, rfl, hr, hi, H6, _, rfl⟩
  by_cases hc2 : (i : Nat) < (ByteArray.size s) / 2
  · skip
    refine rS [.e (v := .bool (decide (((i : Nat) : Int) < (((ByteArray.size s) / 2 : Nat) : Int)))) (v' := .bool true) (bool_eq (decide_eq_true (by omega)))] H6 kr fun gs7 w7 H7 => ?_
    clear H6
    refine g_seq kr ?_
    refine g_cond_t kr kr ?_
    refine g_skip kr ?_
    show WP _ _ _ _ _ _
    refine g_seq kr ?_
    refine g_block 1 kr ?_
    refine rS [.v, .v] H7 kr fun gs8 w8 H8 => ?_
    clear H7
    obtain ⟨cx, hx1, hx2, hx3⟩ := hr.putB i (UInt8.ofBitVec (UInt8.toBitVec (List.getD (tl s) (2 * i) 0) <<< 4 ||| UInt8.toBitVec (List.getD (tl s) (2 * i + 1) 0))) (by omega)
    rw [shl4, jn_set (tl s) i (by rw [tl_len]; omega)] at hx3
    refine dL [.v, .v, .v, .v, .e (v := .int .i64 (IntKind.i64.wrap (2 * ((i : Nat) : Int)))) (v' := .int .i64 ((2 * i : Nat) : Int)) (int_eq (wrapMul_i64 (a := 2) (b := i) (by omega))), .o (ins := [((.tmp 16), .string s), ((.tmp 18), .int .i64 ((2 * i : Nat) : Int))]) (v := .int .u8 ((BitVec.toNat (UInt8.toBitVec (List.getD (tl s) (2 * i) 0)) : Nat) : Int)) (fun ρ o w ho hi => sindex_run (t := 9) (kd := .i64) kr (x := (.tmp 16)) (y := (.tmp 18)) s (2 * i) ho hi.1 hi.2.1 (by omega) w), .e (v := .int .u8 (IntKind.u8.wrap ((((BitVec.toNat (UInt8.toBitVec (List.getD (tl s) (2 * i) 0)) : Nat) : Int)) * 2 ^ (min 4 8)))) (v' := .int .u8 ((BitVec.toNat ((UInt8.toBitVec (List.getD (tl s) (2 * i) 0)) <<< 4) : Nat) : Int)) (bv_shl_u8 (UInt8.toBitVec (List.getD (tl s) (2 * i) 0)) 4), .v, .v, .e (v := .int .i64 (IntKind.i64.wrap (2 * ((i : Nat) : Int)))) (v' := .int .i64 ((2 * i : Nat) : Int)) (int_eq (wrapMul_i64 (a := 2) (b := i) (by omega))), .e (v := .int .i64 (IntKind.i64.wrap (((2 * i : Nat) : Int) + 1))) (v' := .int .i64 (((2 * i) + 1 : Nat) : Int)) (int_eq (wrapAdd_i64 (a := 2 * i) (b := 1) (by omega))), .o (ins := [((.tmp 21), .string s), ((.tmp 24), .int .i64 (((2 * i) + 1 : Nat) : Int))]) (v := .int .u8 ((BitVec.toNat (UInt8.toBitVec (List.getD (tl s) ((2 * i) + 1) 0)) : Nat) : Int)) (fun ρ o w ho hi => sindex_run (t := 9) (kd := .i64) kr (x := (.tmp 21)) (y := (.tmp 24)) s ((2 * i) + 1) ho hi.1 hi.2.1 (by omega) w), .e (v := .int .u8 (Go.bits .or .u8 (((BitVec.toNat ((UInt8.toBitVec (List.getD (tl s) (2 * i) 0)) <<< 4) : Nat) : Int)) (((BitVec.toNat (UInt8.toBitVec (List.getD (tl s) ((2 * i) + 1) 0)) : Nat) : Int)))) (v' := .int .u8 ((BitVec.toNat (((UInt8.toBitVec (List.getD (tl s) (2 * i) 0)) <<< 4) ||| (UInt8.toBitVec (List.getD (tl s) ((2 * i) + 1) 0))) : Nat) : Int)) (bv_or_u8 ((UInt8.toBitVec (List.getD (tl s) (2 * i) 0)) <<< 4) (UInt8.toBitVec (List.getD (tl s) ((2 * i) + 1) 0))), .o (ins := [((.tmp 14), .slice (some ⟨b_1, 0, none⟩) ((ByteArray.size s) / 2) ((ByteArray.size s) / 2)), ((.tmp 15), .int .i64 ((i : Nat) : Int))]) (v := .pointer (some ⟨b_1, 0 + i * 1, none⟩)) (fun ρ o w ho hi => idxS_run (kd := .i64) (t := 38) (e := 5) (size := 1) (bytes := 1) kr (x := (.tmp 14)) (y := (.tmp 15)) b_1 0 ((ByteArray.size s) / 2) ((ByteArray.size s) / 2) i ho hi.1 hi.2.1 (by omega) w), .se (C := cur) (C' := cx) (off := 0 + i * 1) (v := .int .u8 ((BitVec.toNat (((UInt8.toBitVec (List.getD (tl s) (2 * i) 0)) <<< 4) ||| (UInt8.toBitVec (List.getD (tl s) ((2 * i) + 1) 0))) : Nat) : Int)) 0 hx2 hx1] H8 kr fun w9 H9 => ?_
    clear H8
    show WP _ _ _ _ _ _
    refine g_keep [0, 2, 3, 4, 10, 11, 12] fun ρ1 => ?_
    have HK3 := H9.keep
    clear H9
    refine rL [.e (v := .int .i64 (IntKind.i64.wrap (((i : Nat) : Int) + 1))) (v' := .int .i64 ((i + 1 : Nat) : Int)) (int_eq (wrapAdd_i64 (a := i) (b := 1) (by omega))), .v] HK3 kr fun gs10 w10 H10 => ?_
    clear HK3
    have HL4 : St w.heap.size w w10 [(b_1, Obj.cells cx 5 (0, 0))] := H10.as kr
    clear H10
    show ∃ m, _ ∧ _
    exact ⟨_, (by omega), cx, (i + 1), rfl, hx3, (by omega), HL4, (Is.of ⟨kr, kr, kr, kr, kr, trivial⟩)⟩
  · skip
    refine rS [.e (v := .bool (decide (((i : Nat) : Int) < (((ByteArray.size s) / 2 : Nat) : Int)))) (v' := .bool false) (bool_eq (decide_eq_false (by omega)))] H6 kr fun gs11 w11 H11 => ?_
    clear H6
    refine g_seq kr ?_
    refine g_cond_f kr kr ?_
    refine g_exit 0 kr ?_
    show WP _ _ _ _ _ _
    refine g_sreg [0, 1, 2] kr kr ?_
    refine rp [.v] H11 kr fun gs12 w12 H12 => ?_
    show WPs _ _ _ _ [1, 2] _ _
    clear H11
    refine s_bytesStrB H12 (some 30) 38 9 5 (.tmp 29) 0 b_1 ((ByteArray.size s) / 2) ((ByteArray.size s) / 2) cur 5 (0, 0) (List.take i (jn (tl s)) ++ List.replicate ((tl s).length / 2 - i) 0) kr kr kr kr kr kr kr hr ?_
    refine rp [.v] H12 kr fun gs13 w13 H13 => ?_
    show WPs _ _ _ _ [] _ _
    clear H12
    refine s_nil ?_
    refine g_ret kr ?_
    show ∃ vs, Res _ _ _ _ vs ∧ _
    refine ⟨[.string (strB (List.take i (jn (tl s)) ++ List.replicate ((tl s).length / 2 - i) 0))], (.tmp (.string (strB (List.take i (jn (tl s)) ++ List.replicate ((tl s).length / 2 - i) 0))) kr .nil), ?_, H13.below⟩
    obtain rfl : i = ByteArray.size s / 2 := by omega
    rw [tl_len, Nat.sub_self, List.replicate_zero, List.append_nil, List.take_of_length_le (show (jn (tl s)).length ≤ ByteArray.size s / 2 by rw [jn_len, tl_len]; omega)]
    rfl
theorem jn_over (l : List UInt8) (k : Nat) (h : l.length ≤ 2 * k + 1) : jn (List.take (2 * k) l) = jn l := by
  rcases Nat.lt_or_ge (2 * k) l.length with h2 | h2
  · have e : l.length = 2 * k + 1 := by omega
    apply List.ext_getElem
    · rw [jn_len, jn_len, List.length_take]; omega
    · intro i h1 h3
      rw [jn_len, List.length_take] at h1
      have g1 := jn_get (l.take (2 * k)) i (by rw [List.length_take]; omega)
      have g2 := jn_get l i (by omega)
      have q : ∀ j, j < 2 * k → (l.take (2 * k)).getD j 0 = l.getD j 0 := fun j hj => by
        rw [List.getD_eq_getElem?_getD, List.getD_eq_getElem?_getD, List.getElem?_take, if_pos hj]
      rw [q _ (by omega), q _ (by omega), ← g2] at g1
      rw [List.getD_eq_getElem?_getD, List.getD_eq_getElem?_getD, List.getElem?_eq_getElem h3, List.getElem?_eq_getElem (by rw [jn_len, List.length_take]; omega)] at g1
      exact g1
  · rw [List.take_of_length_le h2]
theorem cell_mul {a b : UInt8} (ha : a.toNat ≤ 15) (hb : b.toNat ≤ 15) : [Value.int .u8 ((BitVec.toNat ((16 : BitVec 8) * a.toBitVec + b.toBitVec) : Nat) : Int)] = cellsB [a <<< 4 ||| b] := by
  rw [← (pair1 ha hb).2.2]; rfl
set_option maxRecDepth 100000 in
set_option maxHeartbeats 2000000 in
theorem bytesR_fn (s : ByteArray) (hs : ByteArray.size s ≤ 1000000000000) (hp : isP (tl s) = true) : Fn Try.prog 23 #[.string s] (.string (strB (jn (tl s)))) := by
  refine Fn.intro (c := codeOf Try.f23) [.tmp 2] 27 Try.func23 kr kr kr fun w => ?_
  have H0 := St.start w
  refine rS [.v] H0 kr fun gs1 w1 H1 => ?_
  clear H0
  refine rS [.nw (fun b => .slice (some ⟨b, 0, none⟩) 0 0) #[] 5, .v] H1 kr fun gs2 w2 H2 => ?_
  clear H1
  refine g_seq kr ?_
  refine rS [.v] H2 kr fun gs3 w3 H3 => ?_
  clear H2
  refine g_block 0 kr ?_
  have HL1 : St w.heap.size w w3 [((gs2 0).b, Obj.cells #[] 5 (0, 0))] := H3.as kr
  clear H3
  refine g_loop kr (fun mz ρ ww => ∃ (b : Nat) (cap : Nat) (n : Nat) (cur : Array Value) (k : Nat), ByteArray.size s - 2 * k = mz ∧ (n = k) ∧ (Rw 1 cur cap n (cellsB (jn (List.take (2 * k) (tl s))))) ∧ (2 * k ≤ ByteArray.size s) ∧ St w.heap.size w ww [(b, Obj.cells cur 5 (0, 0))] ∧ Is [(0, .string s), (2, .string (⟨#[]⟩)), (3, .slice (some ⟨b, 0, none⟩) n cap), (4, .int .i64 ((2 * k : Nat) : Int))] ρ) (ByteArray.size s - 2 * 0) ⟨(gs2 0).b, 0, 0, #[], 0, rfl, rfl, (Rw.lit #[] 0 rfl (by unfold maxLen; omega)), (by omega), HL1, (Is.of ⟨kr, kr, kr, kr, trivial⟩)⟩ ?_
  clear HL1
  rintro _ _ w4 ⟨b, cap, n, cur, k, rfl, hn, hr, hi, H4, _, rfl⟩
  refine g_seq kr ?_
  refine g_sreg [0, 1, 2, 3, 4] kr kr ?_
  refine rp [.v, .e (v := .int .i64 (IntKind.i64.wrap (((2 * k : Nat) : Int) + 1))) (v' := .int .i64 (((2 * k) + 1 : Nat) : Int)) (int_eq (wrapAdd_i64 (a := 2 * k) (b := 1) (by omega))), .v, .v] H4 kr fun gs5 w5 H5 => ?_
  show WPs _ _ _ _ [4] _ _
  clear H4
  by_cases hc2 : ((2 * k) + 1 : Nat) < ByteArray.size s
  · skip
    refine rp [.e (v := .bool (decide ((((2 * k) + 1 : Nat) : Int) < ((ByteArray.size s : Nat) : Int)))) (v' := .bool true) (bool_eq (decide_eq_true (by omega)))] H5 kr fun gs6 w6 H6 => ?_
    show WPs _ _ _ _ [] _ _
    clear H5
    refine s_nil ?_
    refine g_cond_t kr kr ?_
    refine g_skip kr ?_
    show WP _ _ _ _ _ _
    refine g_seq kr ?_
    refine g_block 1 kr ?_
    have HL3 : St w.heap.size w w6 [(b, Obj.cells cur 5 (0, 0))] := H6.as kr
    clear H6
    refine D2.g_draw0 [0, 1, 2, 3, 4, 5, 6, 7, 8, 9, 10, 11, 12] [((some 13), fun _ => .slice (some ⟨b, 0, none⟩) n cap), ((some 14), fun _ => .string s), ((some 15), fun _ => .int .i64 ((2 * k : Nat) : Int)), ((some 16), fun _ => .int .u8 ((BitVec.toNat (UInt8.toBitVec (List.getD (tl s) (2 * k) 0)) : Nat) : Int)), ((some 17), fun _ => .int .u8 ((BitVec.toNat ((16 : BitVec 8) * (UInt8.toBitVec (List.getD (tl s) (2 * k) 0))) : Nat) : Int)), ((some 18), fun _ => .string s), ((some 19), fun _ => .int .i64 ((2 * k : Nat) : Int)), ((some 20), fun _ => .int .i64 (((2 * k) + 1 : Nat) : Int)), ((some 21), fun _ => .int .u8 ((BitVec.toNat (UInt8.toBitVec (List.getD (tl s) ((2 * k) + 1) 0)) : Nat) : Int)), ((some 22), fun _ => .int .u8 ((BitVec.toNat (((16 : BitVec 8) * (UInt8.toBitVec (List.getD (tl s) (2 * k) 0))) + (UInt8.toBitVec (List.getD (tl s) ((2 * k) + 1) 0))) : Nat) : Int)), ((some 23), fun b => .slice (some ⟨b.b, 0, none⟩) 1 1), ((some 24), fun y => .slice (some ⟨y.b, 0, none⟩) y.n y.cap), ((some 3), fun y => .slice (some ⟨y.b, 0, none⟩) (y.n) (y.cap))] (D2.Pre w.heap.size w (fun L g => [(true, (bif L 11 then ((g 11).b, Obj.cells ((g 11).cur) 5 (0, 0)) else (b, Obj.cells cur 5 (0, 0)))), (L 10, ((g 10).b, Obj.cells #[.int .u8 ((BitVec.toNat (((16 : BitVec 8) * (UInt8.toBitVec (List.getD (tl s) (2 * k) 0))) + (UInt8.toBitVec (List.getD (tl s) ((2 * k) + 1) 0))) : Nat) : Int)] 5 (0, 0)))]) (fun L g => (L 11 = true → ((g 11).n = n + 1 ∧ Rw 1 (g 11).cur (g 11).cap (n + 1) (cellsB (jn (List.take (2 * (k + 1)) (tl s)))))) ∧ (L 12 = true → g 12 = g 11) ∧ True)) kr kr kr ⟨D2.StE.of HL3.drew _ kr, ⟨(fun h => nomatch h), (fun h => nomatch h), trivial⟩⟩ ⟨?_, ?_, ?_, ?_, ?_, ?_, ?_, ?_, ?_, ?_, ?_, ?_, ?_, trivial⟩ ?_
    · exact D2.gv_val (fun _ _ _ h => h) (fun g w => by kernel_rfl)
    · exact D2.gv_val (fun _ _ _ h => h) (fun g w => by kernel_rfl)
    · exact D2.gv_val (fun _ _ _ h => h) (fun g w => by kernel_rfl)
    · exact D2.gv_op (fun _ _ _ h => h) _ (fun g => by kernel_rfl) (fun g => (fun o w ho => sindex_run (t := 9) (kd := .i64) kr (x := (.tmp 14)) (y := (.tmp 15)) s (2 * k) ho kr kr (by omega) w))
    · exact D2.gv_valE (fun _ _ _ h => h) (V' := .int .u8 (IntKind.u8.wrap ((16) * (((BitVec.toNat (UInt8.toBitVec (List.getD (tl s) (2 * k) 0)) : Nat) : Int))))) (fun g w => by kernel_rfl) (bv_mul_u8 (16 : BitVec 8) (UInt8.toBitVec (List.getD (tl s) (2 * k) 0)))
    · exact D2.gv_val (fun _ _ _ h => h) (fun g w => by kernel_rfl)
    · exact D2.gv_val (fun _ _ _ h => h) (fun g w => by kernel_rfl)
    · exact D2.gv_valE (fun _ _ _ h => h) (V' := .int .i64 (IntKind.i64.wrap (((2 * k : Nat) : Int) + 1))) (fun g w => by kernel_rfl) (int_eq (wrapAdd_i64 (a := 2 * k) (b := 1) (by omega)))
    · exact D2.gv_op (fun _ _ _ h => h) _ (fun g => by kernel_rfl) (fun g => (fun o w ho => sindex_run (t := 9) (kd := .i64) kr (x := (.tmp 18)) (y := (.tmp 20)) s ((2 * k) + 1) ho kr kr (by omega) w))
    · exact D2.gv_valE (fun _ _ _ h => h) (V' := .int .u8 (IntKind.u8.wrap ((((BitVec.toNat ((16 : BitVec 8) * (UInt8.toBitVec (List.getD (tl s) (2 * k) 0))) : Nat) : Int)) + (((BitVec.toNat (UInt8.toBitVec (List.getD (tl s) ((2 * k) + 1) 0)) : Nat) : Int))))) (fun g w => by kernel_rfl) (bv_add_u8 ((16 : BitVec 8) * (UInt8.toBitVec (List.getD (tl s) (2 * k) 0))) (UInt8.toBitVec (List.getD (tl s) ((2 * k) + 1) 0)))
    · exact D2.gv_new (fun b => .slice (some ⟨b, 0, none⟩) 1 1) #[.int .u8 ((BitVec.toNat (((16 : BitVec 8) * (UInt8.toBitVec (List.getD (tl s) (2 * k) 0))) + (UInt8.toBitVec (List.getD (tl s) ((2 * k) + 1) 0))) : Nat) : Int)] 5 1 (fun g w => by kernel_rfl) (fun L g b hN => kr) (fun L g b hN hF => hF)
    · exact D2.gv_append 38 5 1 1 (.tmp 13) (.tmp 23) 0 1 (fun g => b) (fun g => (g 10).b) (fun g => n) (fun g => 1) (fun g => cap) (fun g => 1) (fun g => cur) (fun g => #[.int .u8 ((BitVec.toNat (((16 : BitVec 8) * (UInt8.toBitVec (List.getD (tl s) (2 * k) 0))) + (UInt8.toBitVec (List.getD (tl s) ((2 * k) + 1) 0))) : Nat) : Int)]) 5 (0, 0) (fun g => (cellsB (jn (List.take (2 * k) (tl s))))) (fun g => [.int .u8 ((BitVec.toNat (((16 : BitVec 8) * (UInt8.toBitVec (List.getD (tl s) (2 * k) 0))) + (UInt8.toBitVec (List.getD (tl s) ((2 * k) + 1) 0))) : Nat) : Int)]) (fun g => by kernel_rfl) kr (fun g => by kernel_rfl) (fun L g hN => (by have hL11 : L 11 = false := hN.1; exact D2.ent_get' (p := true) (e := (bif L 11 then ((g 11).b, Obj.cells ((g 11).cur) 5 (0, 0)) else (b, Obj.cells cur 5 (0, 0)))) kr (by rfl) (by simp only [hL11, cond_true, cond_false] <;> rfl))) (fun L g hN hF => by exact hr) (fun g => by kernel_rfl) (fun L g hN => (by have hL10 : L 10 = true := (hN.bef 10 kr); exact D2.ent_get' (p := L 10) (e := ((g 10).b, Obj.cells #[.int .u8 ((BitVec.toNat (((16 : BitVec 8) * (UInt8.toBitVec (List.getD (tl s) (2 * k) 0))) + (UInt8.toBitVec (List.getD (tl s) ((2 * k) + 1) 0))) : Nat) : Int)] 5 (0, 0))) kr (by exact hL10) (by simp only [hL10, cond_true, cond_false] <;> rfl))) (fun L g hN hF => by exact ⟨(by rfl), (by rfl), (by intro u hu; simp at hu; first | exact hu.elim | (rcases hu with rfl | rfl | rfl | rfl <;> rfl) | (rcases hu with rfl | rfl <;> rfl) | (subst hu; rfl)), (by omega), (by unfold maxLen; omega)⟩) (fun L g y hN => kr) (fun L g y hN hF hyn hyr => by have hnew := (show (y.n = n + 1 ∧ Rw 1 y.cur y.cap (n + 1) (cellsB (jn (List.take (2 * (k + 1)) (tl s))))) from ⟨hyn, by rw [show 2 * (k + 1) = 2 * k + 2 by omega, jn_take (tl s) k (by rw [tl_len]; omega), cellsB_append, ← cell_mul (isP_get hp (2 * k)) (isP_get hp (2 * k + 1))]; exact hyr⟩); exact ⟨fun _ => hnew, (fun hx => nomatch (Eq.trans (Eq.symm (show L 12 = true from hx)) (hN.post 12 kr))), trivial⟩)
    · exact D2.gv_valG (fun g => g 11) (fun L g w hN hp => ⟨hp.1, hp.2.1, fun _ => rfl, trivial⟩) (fun g w => by kernel_rfl)
    intro L0 G7 w7 hall HL; clear HL3
    have H7 : St w.heap.size w w7 [((G7 11).b, Obj.cells ((G7 11).cur) 5 (0, 0)), ((G7 10).b, Obj.cells #[.int .u8 ((BitVec.toNat (((16 : BitVec 8) * (UInt8.toBitVec (List.getD (tl s) (2 * k) 0))) + (UInt8.toBitVec (List.getD (tl s) ((2 * k) + 1) 0))) : Nat) : Int)] 5 (0, 0))] := by have e10 := hall 10 (Nat.le_of_ble_eq_true kr); have e11 := hall 11 (Nat.le_of_ble_eq_true kr); have e12 := hall 12 (Nat.le_of_ble_eq_true kr); have hS := D2.StE.st HL.1; simp only [e10, e11, e12, cond_true, D2.pres] at hS; exact hS
    have hf11_7 : ((G7 11).n = n + 1 ∧ Rw 1 (G7 11).cur (G7 11).cap (n + 1) (cellsB (jn (List.take (2 * (k + 1)) (tl s))))) := HL.2.1 (hall 11 (Nat.le_of_ble_eq_true kr))
    have hf12_7 : G7 12 = G7 11 := HL.2.2.1 (hall 12 (Nat.le_of_ble_eq_true kr))
    clear HL hall
    rw [← hf12_7] at H7 hf11_7
    show WP _ _ _ _ _ _
    refine g_keep [0, 2, 3, 4, 10] fun ρ1 => ?_
    refine rL [.v, .e (v := .int .i64 (IntKind.i64.wrap (((2 * k : Nat) : Int) + 2))) (v' := .int .i64 (((2 * k) + 2 : Nat) : Int)) (int_eq (wrapAdd_i64 (a := 2 * k) (b := 2) (by omega))), .v] H7 kr fun gs8 w8 H8 => ?_
    clear H7
    have HL4 : St w.heap.size w w8 [((G7 12).b, Obj.cells ((G7 12).cur) 5 (0, 0)), ((G7 10).b, Obj.cells #[.int .u8 ((BitVec.toNat (((16 : BitVec 8) * (UInt8.toBitVec (List.getD (tl s) (2 * k) 0))) + (UInt8.toBitVec (List.getD (tl s) ((2 * k) + 1) 0))) : Nat) : Int)] 5 (0, 0))] := H8.as kr
    clear H8
    have HD5 : St w.heap.size w w8 [((G7 12).b, Obj.cells ((G7 12).cur) 5 (0, 0))] := HL4.sub (List.Sublist.cons_cons _ (List.Sublist.cons _ List.Sublist.slnil))
    show ∃ m, _ ∧ _
    exact ⟨_, (by omega), (G7 12).b, (G7 12).cap, (G7 12).n, (G7 12).cur, (k + 1), rfl, (by have h9 := hf11_7.1; omega), (by have h9 := hf11_7; rw [h9.1]; exact h9.2), (by omega), HD5, (Is.of ⟨kr, kr, kr, (int_eq (by omega)), trivial⟩)⟩
  · skip
    refine rp [.e (v := .bool (decide ((((2 * k) + 1 : Nat) : Int) < ((ByteArray.size s : Nat) : Int)))) (v' := .bool false) (bool_eq (decide_eq_false (by omega)))] H5 kr fun gs9 w9 H9 => ?_
    show WPs _ _ _ _ [] _ _
    clear H5
    refine s_nil ?_
    refine g_cond_f kr kr ?_
    refine g_exit 0 kr ?_
    show WP _ _ _ _ _ _
    refine g_sreg [0, 1, 2] kr kr ?_
    refine rp [.v] H9 kr fun gs10 w10 H10 => ?_
    show WPs _ _ _ _ [1, 2] _ _
    clear H9
    refine s_bytesStrB H10 (some 26) 38 9 5 (.tmp 25) 0 b n cap cur 5 (0, 0) (jn (List.take (2 * k) (tl s))) kr kr kr kr kr kr kr hr ?_
    refine rp [.v] H10 kr fun gs11 w11 H11 => ?_
    show WPs _ _ _ _ [] _ _
    clear H10
    refine s_nil ?_
    refine g_ret kr ?_
    show ∃ vs, Res _ _ _ _ vs ∧ _
    refine ⟨[.string (strB (jn (List.take (2 * k) (tl s))))], (.tmp (.string (strB (jn (List.take (2 * k) (tl s))))) kr .nil), ?_, H11.below⟩
    rw [jn_over (tl s) k (by rw [tl_len]; omega)]
    rfl
end Go.Proofs.Ytafamhkdklkfiaa

namespace Go.Proofs.Ytafamhkdklkfiaa
open Go Go.RowKit
set_option linter.unusedVariables false
def kyB (l : List UInt8) : Bool := isP l && !decide (l.length % 2 = 1)
def kyS (l : List UInt8) : ByteArray := bif kyB l then strB (jn l) else ⟨#[]⟩
def kyN (l : List UInt8) : Int := bif kyB l then 0 else 1
/-- What stands behind a head that is cut off. -/
def cutS (w p : ByteArray) : ByteArray := bif isPre w p then w.extract p.size w.size else w
theorem upk_pre {l : List UInt8} {n : Nat} {e : Bool} (h : isPre (strB (hv l)) (strB (hdP n e)) = true) : upk l = some (tl (cutS (strB (hv l)) (strB (hdP n e))), e) := by
  have h1 := isPre_tl h
  rw [show cutS (strB (hv l)) (strB (hdP n e)) = (strB (hv l)).extract (strB (hdP n e)).size (strB (hv l)).size by unfold cutS; rw [h]; rfl]
  generalize tl ((strB (hv l)).extract (strB (hdP n e)).size (strB (hv l)).size) = t at h1
  rw [tl_strB, tl_strB] at h1
  have hl := hv_len l
  have hd := hdP_len n e
  rw [h1, List.length_append] at hl
  have hp := hv_isP l
  rw [h1] at hp
  have hpt := (isP_append.1 hp).2
  have he : hdP t.length e = hdP n e := by unfold hdP; rw [show t.length % 2 = n % 2 by omega]
  have hk : l = pk t e := hv_inj (by rw [hv_pk hpt, he, h1])
  rw [hk]; exact upk_pk hpt e
theorem upk_none {l : List UInt8} (h : ∀ (n : Nat) (e : Bool), n < 2 → isPre (strB (hv l)) (strB (hdP n e)) = false) : upk l = none := by
  cases hu : upk l with
  | none => rfl
  | some q =>
    obtain ⟨x, e⟩ := q
    obtain ⟨hp, hk⟩ := upk_some hu
    have h1 := h (x.length % 2) e (Nat.mod_lt _ (by decide))
    have h2 : hdP (x.length % 2) e = hdP x.length e := by unfold hdP; rw [show x.length % 2 % 2 = x.length % 2 by omega]
    have h3 : isPre (strB (hv l)) (strB (hdP (x.length % 2) e)) = true := isPre_of (t := x) (by rw [tl_strB, tl_strB, h2, ← hk, hv_pk hp])
    rw [h1] at h3; cases h3
def uV (l : List UInt8) : Value := .tuple #[.string (uS l), .bool (uE l), .int .i64 (uN l)]
theorem uV_some {l x : List UInt8} {e : Bool} (h : upk l = some (x, e)) : uV l = .tuple #[.string (strB x), .bool e, .int .i64 0] := by unfold uV uS uE uN; rw [h]
theorem uV_none {l : List UInt8} (h : upk l = none) : uV l = .tuple #[.string ⟨#[]⟩, .bool false, .int .i64 4] := by unfold uV uS uE uN; rw [h]
set_option maxRecDepth 100000 in
set_option maxHeartbeats 2000000 in
theorem pack_yes (s : ByteArray) (hs : ByteArray.size s ≤ 100000000000) (e : Bool) (hp : isP (tl s) = true) : Fn Try.prog 15 #[.string s, .bool e] (.tuple #[.string (strB (pk (tl s) e)), .int .i64 0]) := by
  refine Fn.intro (c := codeOf Try.f15) [.tmp 4, .tmp 5] 16 Try.func15 kr kr kr fun w => ?_
  have H0 := St.start w
  refine rS [.v, .v] H0 kr fun gs1 w1 H1 => ?_
  clear H0
  refine g_seq kr ?_
  refine g_sreg [0, 1, 2] kr kr ?_
  refine rp [.v, .c (may_fn s (by omega))] H1 kr fun gs2 w2 H2 => ?_
  show WPs _ _ _ _ [2] _ _
  clear H1
  refine Or.elim (Bool.eq_false_or_eq_true (isP (tl s))).symm (fun hq1 => ?_) (fun hq1 => ?_)
  · skip
    refine s_now 7 (v := .bool (isP (tl s))) (v' := .bool false) (bool_eq hq1) kr ?_
    refine rp [.v] H2 kr fun gs3 w3 H3 => ?_
    show WPs _ _ _ _ [] _ _
    clear H2
    refine s_nil ?_
    refine g_cond_t kr kr ?_
    refine rS [.v, .v] H3 kr fun gs4 w4 H4 => ?_
    clear H3
    refine g_ret kr ?_
    show ∃ vs, Res _ _ _ _ vs ∧ _
    refine ⟨[.string (⟨#[]⟩), .int .i64 1], (.tmp (.string (⟨#[]⟩)) kr (.tmp (.int .i64 1) kr .nil)), ?_, H4.below⟩
    exact (absurd (hp.symm.trans hq1) (by decide))
  · skip
    refine s_now 7 (v := .bool (isP (tl s))) (v' := .bool true) (bool_eq hq1) kr ?_
    refine rp [.v] H2 kr fun gs5 w5 H5 => ?_
    show WPs _ _ _ _ [] _ _
    clear H2
    refine s_nil ?_
    refine g_cond_f kr kr ?_
    refine g_skip kr ?_
    show WP _ _ _ _ _ _
    refine g_sreg [0, 1, 2, 3, 4, 5, 6, 7, 8] kr kr ?_
    refine rp [.v, .v, .v, .c (head_fn (ByteArray.size s) e (by omega)), .v] H5 kr fun gs6 w6 H6 => ?_
    show WPs _ _ _ _ [5, 6, 7, 8] _ _
    clear H5
    have hcz := (hdP_len (ByteArray.size s) e).2
    have hcy : ByteArray.size (strB (hdP (ByteArray.size s) e)) = (hdP (ByteArray.size s) e).length := rfl
    have hcw : ByteArray.size (strB (hdP (ByteArray.size s) e) ++ s) = ByteArray.size (strB (hdP (ByteArray.size s) e)) + ByteArray.size s := by rw [← tl_len, tl_add, List.length_append, tl_len, tl_len]
    refine rp [.o (ins := [((.tmp 12), .string (strB (hdP (ByteArray.size s) e))), ((.tmp 13), .string s)]) (v := .string ((strB (hdP (ByteArray.size s) e)) ++ s)) (fun ρ o w ho hi => sadd_run (t := 9) (t' := 9) (x := (.tmp 12)) (y := (.tmp 13)) (strB (hdP (ByteArray.size s) e)) s w ho hi.1 hi.2.1 (by omega)), .c (join_fn ((strB (hdP (ByteArray.size s) e)) ++ s) (by omega)), .v, .v] H6 kr fun gs7 w7 H7 => ?_
    show WPs _ _ _ _ [] _ _
    clear H6
    refine s_nil ?_
    refine g_ret kr ?_
    show ∃ vs, Res _ _ _ _ vs ∧ _
    refine ⟨[.string (strB (jn (tl ((strB (hdP (ByteArray.size s) e)) ++ s)))), .int .i64 0], (.tmp (.string (strB (jn (tl ((strB (hdP (ByteArray.size s) e)) ++ s))))) kr (.tmp (.int .i64 0) kr .nil)), ?_, H7.below⟩
    exact (rfl)
set_option maxRecDepth 100000 in
set_option maxHeartbeats 2000000 in
theorem pack_no (s : ByteArray) (hs : ByteArray.size s ≤ 100000000000) (e : Bool) (hp : isP (tl s) = false) : Fn Try.prog 15 #[.string s, .bool e] (.tuple #[.string ⟨#[]⟩, .int .i64 1]) := by
  refine Fn.intro (c := codeOf Try.f15) [.tmp 4, .tmp 5] 16 Try.func15 kr kr kr fun w => ?_
  have H0 := St.start w
  refine rS [.v, .v] H0 kr fun gs1 w1 H1 => ?_
  clear H0
  refine g_seq kr ?_
  refine g_sreg [0, 1, 2] kr kr ?_
  refine rp [.v, .c (may_fn s (by omega))] H1 kr fun gs2 w2 H2 => ?_
  show WPs _ _ _ _ [2] _ _
  clear H1
  refine Or.elim (Bool.eq_false_or_eq_true (isP (tl s))).symm (fun hq1 => ?_) (fun hq1 => ?_)
  · skip
    refine s_now 7 (v := .bool (isP (tl s))) (v' := .bool false) (bool_eq hq1) kr ?_
    refine rp [.v] H2 kr fun gs3 w3 H3 => ?_
    show WPs _ _ _ _ [] _ _
    clear H2
    refine s_nil ?_
    refine g_cond_t kr kr ?_
    refine rS [.v, .v] H3 kr fun gs4 w4 H4 => ?_
    clear H3
    refine g_ret kr ?_
    show ∃ vs, Res _ _ _ _ vs ∧ _
    refine ⟨[.string (⟨#[]⟩), .int .i64 1], (.tmp (.string (⟨#[]⟩)) kr (.tmp (.int .i64 1) kr .nil)), ?_, H4.below⟩
    exact (rfl)
  · skip
    refine s_now 7 (v := .bool (isP (tl s))) (v' := .bool true) (bool_eq hq1) kr ?_
    refine rp [.v] H2 kr fun gs5 w5 H5 => ?_
    show WPs _ _ _ _ [] _ _
    clear H2
    refine s_nil ?_
    refine g_cond_f kr kr ?_
    refine g_skip kr ?_
    show WP _ _ _ _ _ _
    refine g_sreg [0, 1, 2, 3, 4, 5, 6, 7, 8] kr kr ?_
    refine rp [.v, .v, .v, .c (head_fn (ByteArray.size s) e (by omega)), .v] H5 kr fun gs6 w6 H6 => ?_
    show WPs _ _ _ _ [5, 6, 7, 8] _ _
    clear H5
    have hcz := (hdP_len (ByteArray.size s) e).2
    have hcy : ByteArray.size (strB (hdP (ByteArray.size s) e)) = (hdP (ByteArray.size s) e).length := rfl
    have hcw : ByteArray.size (strB (hdP (ByteArray.size s) e) ++ s) = ByteArray.size (strB (hdP (ByteArray.size s) e)) + ByteArray.size s := by rw [← tl_len, tl_add, List.length_append, tl_len, tl_len]
    refine rp [.o (ins := [((.tmp 12), .string (strB (hdP (ByteArray.size s) e))), ((.tmp 13), .string s)]) (v := .string ((strB (hdP (ByteArray.size s) e)) ++ s)) (fun ρ o w ho hi => sadd_run (t := 9) (t' := 9) (x := (.tmp 12)) (y := (.tmp 13)) (strB (hdP (ByteArray.size s) e)) s w ho hi.1 hi.2.1 (by omega)), .c (join_fn ((strB (hdP (ByteArray.size s) e)) ++ s) (by omega)), .v, .v] H6 kr fun gs7 w7 H7 => ?_
    show WPs _ _ _ _ [] _ _
    clear H6
    refine s_nil ?_
    refine g_ret kr ?_
    show ∃ vs, Res _ _ _ _ vs ∧ _
    refine ⟨[.string (strB (jn (tl ((strB (hdP (ByteArray.size s) e)) ++ s)))), .int .i64 0], (.tmp (.string (strB (jn (tl ((strB (hdP (ByteArray.size s) e)) ++ s))))) kr (.tmp (.int .i64 0) kr .nil)), ?_, H7.below⟩
    exact (absurd (hp.symm.trans hq1) (by decide))
set_option maxRecDepth 100000 in
set_option maxHeartbeats 2000000 in
theorem packR_fn (s : ByteArray) (hs : ByteArray.size s ≤ 100000000000) (e : Bool) (hp : isP (tl s) = true) : Fn Try.prog 19 #[.string s, .bool e] (.string (strB (pk (tl s) e))) := by
  refine Fn.intro (c := codeOf Try.f19) [.tmp 4] 24 Try.func19 kr kr kr fun w => ?_
  have H0 := St.start w
  refine rS [.v] H0 kr fun gs1 w1 H1 => ?_
  clear H0
  refine rS [.v] H1 kr fun gs2 w2 H2 => ?_
  clear H1
  refine g_seq kr ?_
  refine rS [.v] H2 kr fun gs3 w3 H3 => ?_
  clear H2
  refine Or.elim (Bool.eq_false_or_eq_true (e)).symm (fun hq1 => ?_) (fun hq1 => ?_)
  · skip
    refine g_now 1 (v := .bool e) (v' := .bool false) (bool_eq hq1) kr ?_
    refine g_now 6 (v := .bool e) (v' := .bool false) (bool_eq hq1) kr ?_
    refine g_cond_f kr kr ?_
    refine g_skip kr ?_
    show WP _ _ _ _ _ _
    refine g_seq kr ?_
    refine g_sreg [0, 1, 2, 3] kr kr ?_
    refine rp [.v, .v, .e (v := .int .i64 (Int.tmod ((ByteArray.size s : Nat) : Int) 2)) (v' := .int .i64 (((ByteArray.size s) % 2 : Nat) : Int)) (int_eq (remN (ByteArray.size s) 2))] H3 kr fun gs4 w4 H4 => ?_
    show WPs _ _ _ _ [3] _ _
    clear H3
    by_cases hc1 : ((ByteArray.size s) % 2 : Nat) = 1
    · skip
      refine rp [.e (v := .bool ((((ByteArray.size s) % 2 : Nat) : Int) == 1)) (v' := .bool true) (bool_eq (beq_iff_eq.2 (by omega)))] H4 kr fun gs5 w5 H5 => ?_
      show WPs _ _ _ _ [] _ _
      clear H4
      refine s_nil ?_
      refine g_cond_t kr kr ?_
      refine g_sreg [0, 1, 2, 3, 4, 5, 6, 7] kr kr ?_
      refine rp [.v, .v, .nw (fun b => .slice (some ⟨b, 0, none⟩) 1 1) #[.int .u8 1] 5, .w fun nn => .x (op := .convert 38 9 (.tmp 13)) (ins := [((.tmp 13), .slice (some ⟨(nn 0), 0, none⟩) 1 1)]) [(0, ((nn 0), Obj.cells #[.int .u8 1] 5 (0, 0)))] (bytesX (t := 38) (t' := 9) (e := 5) [1] kr kr kr (Rw.lit #[.int .u8 1] 1 (by rfl) (by unfold maxLen; omega))), .v] H5 kr fun gs6 w6 H6 => ?_
      show WPs _ _ _ _ [5, 6, 7] _ _
      clear H5
      have hcw : ByteArray.size ((strOfNums ([1])) ++ s) = ByteArray.size (strOfNums ([1])) + ByteArray.size s := by rw [← tl_len, tl_add, List.length_append, tl_len, tl_len]
      have hcx : ByteArray.size (strOfNums ([1])) ≤ 2 := by first | exact (by decide : (1 : Nat) ≤ 2) | exact (by decide : (2 : Nat) ≤ 2)
      refine rp [.o (ins := [((.tmp 14), .string (strOfNums ([1]))), ((.tmp 15), .string s)]) (v := .string ((strOfNums ([1])) ++ s)) (fun ρ o w ho hi => sadd_run (t := 9) (t' := 9) (x := (.tmp 14)) (y := (.tmp 15)) (strOfNums ([1])) s w ho hi.1 hi.2.1 (by omega)), .c (bytesR_fn ((strOfNums ([1])) ++ s) (by omega) (by rw [tl_add]; exact isP_append.2 ⟨rfl, hp⟩)), .v] H6 kr fun gs7 w7 H7 => ?_
      show WPs _ _ _ _ [] _ _
      clear H6
      refine s_nil ?_
      refine g_ret kr ?_
      show ∃ vs, Res _ _ _ _ vs ∧ _
      refine ⟨[.string (strB (jn (tl ((strOfNums ([1])) ++ s))))], (.tmp (.string (strB (jn (tl ((strOfNums ([1])) ++ s))))) kr .nil), ?_, H7.below⟩
      rw [pk, hdP, if_pos (show (tl s).length % 2 = 1 by rw [tl_len]; omega), hq1]; exact congrArg (fun x => Value.string (strB (jn x))) (tl_add _ _)
    · skip
      refine rp [.e (v := .bool ((((ByteArray.size s) % 2 : Nat) : Int) == 1)) (v' := .bool false) (bool_eq (beq_eq_false_iff_ne.2 (by omega)))] H4 kr fun gs8 w8 H8 => ?_
      show WPs _ _ _ _ [] _ _
      clear H4
      refine s_nil ?_
      refine g_cond_f kr kr ?_
      refine g_skip kr ?_
      show WP _ _ _ _ _ _
      refine g_sreg [0, 1, 2, 3, 4, 5, 6] kr kr ?_
      refine rp [.v, .nw (fun b => .slice (some ⟨b, 0, none⟩) 2 2) #[.int .u8 0, .int .u8 0] 5, .w fun nn => .x (op := .convert 38 9 (.tmp 19)) (ins := [((.tmp 19), .slice (some ⟨(nn 0), 0, none⟩) 2 2)]) [(0, ((nn 0), Obj.cells #[.int .u8 0, .int .u8 0] 5 (0, 0)))] (bytesX (t := 38) (t' := 9) (e := 5) [0, 0] kr kr kr (Rw.lit #[.int .u8 0, .int .u8 0] 2 (by rfl) (by unfold maxLen; omega))), .v] H8 kr fun gs9 w9 H9 => ?_
      show WPs _ _ _ _ [4, 5, 6] _ _
      clear H8
      have hcw : ByteArray.size ((strOfNums ([0, 0])) ++ s) = ByteArray.size (strOfNums ([0, 0])) + ByteArray.size s := by rw [← tl_len, tl_add, List.length_append, tl_len, tl_len]
      have hcx : ByteArray.size (strOfNums ([0, 0])) ≤ 2 := by first | exact (by decide : (1 : Nat) ≤ 2) | exact (by decide : (2 : Nat) ≤ 2)
      refine rp [.o (ins := [((.tmp 20), .string (strOfNums ([0, 0]))), ((.tmp 21), .string s)]) (v := .string ((strOfNums ([0, 0])) ++ s)) (fun ρ o w ho hi => sadd_run (t := 9) (t' := 9) (x := (.tmp 20)) (y := (.tmp 21)) (strOfNums ([0, 0])) s w ho hi.1 hi.2.1 (by omega)), .c (bytesR_fn ((strOfNums ([0, 0])) ++ s) (by omega) (by rw [tl_add]; exact isP_append.2 ⟨rfl, hp⟩)), .v] H9 kr fun gs10 w10 H10 => ?_
      show WPs _ _ _ _ [] _ _
      clear H9
      refine s_nil ?_
      refine g_ret kr ?_
      show ∃ vs, Res _ _ _ _ vs ∧ _
      refine ⟨[.string (strB (jn (tl ((strOfNums ([0, 0])) ++ s))))], (.tmp (.string (strB (jn (tl ((strOfNums ([0, 0])) ++ s))))) kr .nil), ?_, H10.below⟩
      rw [pk, hdP, if_neg (show ¬ (tl s).length % 2 = 1 by rw [tl_len]; omega), hq1]; exact congrArg (fun x => Value.string (strB (jn x))) (tl_add _ _)
  · skip
    refine g_now 1 (v := .bool e) (v' := .bool true) (bool_eq hq1) kr ?_
    refine g_now 6 (v := .bool e) (v' := .bool true) (bool_eq hq1) kr ?_
    refine g_cond_t kr kr ?_
    refine rL [.v] H3 kr fun gs11 w11 H11 => ?_
    clear H3
    show WP _ _ _ _ _ _
    refine g_seq kr ?_
    refine g_sreg [0, 1, 2, 3] kr kr ?_
    refine rp [.v, .v, .e (v := .int .i64 (Int.tmod ((ByteArray.size s : Nat) : Int) 2)) (v' := .int .i64 (((ByteArray.size s) % 2 : Nat) : Int)) (int_eq (remN (ByteArray.size s) 2))] H11 kr fun gs12 w12 H12 => ?_
    show WPs _ _ _ _ [3] _ _
    clear H11
    by_cases hc2 : ((ByteArray.size s) % 2 : Nat) = 1
    · skip
      refine rp [.e (v := .bool ((((ByteArray.size s) % 2 : Nat) : Int) == 1)) (v' := .bool true) (bool_eq (beq_iff_eq.2 (by omega)))] H12 kr fun gs13 w13 H13 => ?_
      show WPs _ _ _ _ [] _ _
      clear H12
      refine s_nil ?_
      refine g_cond_t kr kr ?_
      refine g_sreg [0, 1, 2, 3, 4, 5, 6, 7] kr kr ?_
      refine rp [.v, .v, .nw (fun b => .slice (some ⟨b, 0, none⟩) 1 1) #[.int .u8 3] 5, .w fun nn => .x (op := .convert 38 9 (.tmp 13)) (ins := [((.tmp 13), .slice (some ⟨(nn 0), 0, none⟩) 1 1)]) [(0, ((nn 0), Obj.cells #[.int .u8 3] 5 (0, 0)))] (bytesX (t := 38) (t' := 9) (e := 5) [3] kr kr kr (Rw.lit #[.int .u8 3] 1 (by rfl) (by unfold maxLen; omega))), .v] H13 kr fun gs14 w14 H14 => ?_
      show WPs _ _ _ _ [5, 6, 7] _ _
      clear H13
      have hcw : ByteArray.size ((strOfNums ([3])) ++ s) = ByteArray.size (strOfNums ([3])) + ByteArray.size s := by rw [← tl_len, tl_add, List.length_append, tl_len, tl_len]
      have hcx : ByteArray.size (strOfNums ([3])) ≤ 2 := by first | exact (by decide : (1 : Nat) ≤ 2) | exact (by decide : (2 : Nat) ≤ 2)
      refine rp [.o (ins := [((.tmp 14), .string (strOfNums ([3]))), ((.tmp 15), .string s)]) (v := .string ((strOfNums ([3])) ++ s)) (fun ρ o w ho hi => sadd_run (t := 9) (t' := 9) (x := (.tmp 14)) (y := (.tmp 15)) (strOfNums ([3])) s w ho hi.1 hi.2.1 (by omega)), .c (bytesR_fn ((strOfNums ([3])) ++ s) (by omega) (by rw [tl_add]; exact isP_append.2 ⟨rfl, hp⟩)), .v] H14 kr fun gs15 w15 H15 => ?_
      show WPs _ _ _ _ [] _ _
      clear H14
      refine s_nil ?_
      refine g_ret kr ?_
      show ∃ vs, Res _ _ _ _ vs ∧ _
      refine ⟨[.string (strB (jn (tl ((strOfNums ([3])) ++ s))))], (.tmp (.string (strB (jn (tl ((strOfNums ([3])) ++ s))))) kr .nil), ?_, H15.below⟩
      rw [pk, hdP, if_pos (show (tl s).length % 2 = 1 by rw [tl_len]; omega), hq1]; exact congrArg (fun x => Value.string (strB (jn x))) (tl_add _ _)
    · skip
      refine rp [.e (v := .bool ((((ByteArray.size s) % 2 : Nat) : Int) == 1)) (v' := .bool false) (bool_eq (beq_eq_false_iff_ne.2 (by omega)))] H12 kr fun gs16 w16 H16 => ?_
      show WPs _ _ _ _ [] _ _
      clear H12
      refine s_nil ?_
      refine g_cond_f kr kr ?_
      refine g_skip kr ?_
      show WP _ _ _ _ _ _
      refine g_sreg [0, 1, 2, 3, 4, 5, 6] kr kr ?_
      refine rp [.v, .nw (fun b => .slice (some ⟨b, 0, none⟩) 2 2) #[.int .u8 2, .int .u8 0] 5, .w fun nn => .x (op := .convert 38 9 (.tmp 19)) (ins := [((.tmp 19), .slice (some ⟨(nn 0), 0, none⟩) 2 2)]) [(0, ((nn 0), Obj.cells #[.int .u8 2, .int .u8 0] 5 (0, 0)))] (bytesX (t := 38) (t' := 9) (e := 5) [2, 0] kr kr kr (Rw.lit #[.int .u8 2, .int .u8 0] 2 (by rfl) (by unfold maxLen; omega))), .v] H16 kr fun gs17 w17 H17 => ?_
      show WPs _ _ _ _ [4, 5, 6] _ _
      clear H16
      have hcw : ByteArray.size ((strOfNums ([2, 0])) ++ s) = ByteArray.size (strOfNums ([2, 0])) + ByteArray.size s := by rw [← tl_len, tl_add, List.length_append, tl_len, tl_len]
      have hcx : ByteArray.size (strOfNums ([2, 0])) ≤ 2 := by first | exact (by decide : (1 : Nat) ≤ 2) | exact (by decide : (2 : Nat) ≤ 2)
      refine rp [.o (ins := [((.tmp 20), .string (strOfNums ([2, 0]))), ((.tmp 21), .string s)]) (v := .string ((strOfNums ([2, 0])) ++ s)) (fun ρ o w ho hi => sadd_run (t := 9) (t' := 9) (x := (.tmp 20)) (y := (.tmp 21)) (strOfNums ([2, 0])) s w ho hi.1 hi.2.1 (by omega)), .c (bytesR_fn ((strOfNums ([2, 0])) ++ s) (by omega) (by rw [tl_add]; exact isP_append.2 ⟨rfl, hp⟩)), .v] H17 kr fun gs18 w18 H18 => ?_
      show WPs _ _ _ _ [] _ _
      clear H17
      refine s_nil ?_
      refine g_ret kr ?_
      show ∃ vs, Res _ _ _ _ vs ∧ _
      refine ⟨[.string (strB (jn (tl ((strOfNums ([2, 0])) ++ s))))], (.tmp (.string (strB (jn (tl ((strOfNums ([2, 0])) ++ s))))) kr .nil), ?_, H18.below⟩
      rw [pk, hdP, if_neg (show ¬ (tl s).length % 2 = 1 by rw [tl_len]; omega), hq1]; exact congrArg (fun x => Value.string (strB (jn x))) (tl_add _ _)
set_option maxRecDepth 100000 in
set_option maxHeartbeats 2000000 in
theorem hasPre_fn (s p : ByteArray) : Fn Try.prog 27 #[.string s, .string p] (.bool (isPre s p)) := by
  refine Fn.intro (c := codeOf Try.f27) [.tmp 4] 18 Try.func27 kr kr kr fun w => ?_
  have H0 := St.start w
  refine rS [.v] H0 kr fun gs1 w1 H1 => ?_
  clear H0
  refine g_sreg [0, 1, 2, 3, 4, 5, 6, 7, 8, 9, 10, 11, 12, 13] kr kr ?_
  refine rp [.v, .v, .v, .v] H1 kr fun gs2 w2 H2 => ?_
  show WPs _ _ _ _ [4, 5, 6, 7, 8, 9, 10, 11, 12, 13] _ _
  clear H1
  by_cases hc1 : (ByteArray.size s : Nat) ≥ ByteArray.size p
  · skip
    refine rp [.e (v := .bool (decide (((ByteArray.size p : Nat) : Int) ≤ ((ByteArray.size s : Nat) : Int)))) (v' := .bool true) (bool_eq (decide_eq_true (by omega))), .v, .v, .v, .v, .o (ins := [((.tmp 11), .string s), ((.tmp 13), .int .i64 ((ByteArray.size p : Nat) : Int))]) (v := .string (ByteArray.extract s 0 (ByteArray.size p))) (fun ρ o w ho hi => scut_run (t := 9) (kd := .i64) kr (x := (.tmp 11)) (y := (.tmp 13)) s (ByteArray.size p) ho hi.1 hi.2.1 (by omega) w), .v] H2 kr fun gs3 w3 H3 => ?_
    show WPs _ _ _ _ [11, 12, 13] _ _
    clear H2
    by_cases hx2 : (ByteArray.extract s 0 (ByteArray.size p)) = p
    · skip
      refine rp [.e (v := .bool (ByteArray.toList (ByteArray.extract s 0 (ByteArray.size p)) == ByteArray.toList p)) (v' := .bool true) (bool_eq (str_same (ByteArray.extract s 0 (ByteArray.size p)) p hx2)), .v, .v] H3 kr fun gs4 w4 H4 => ?_
      show WPs _ _ _ _ [] _ _
      clear H3
      refine s_nil ?_
      refine g_ret kr ?_
      show ∃ vs, Res _ _ _ _ vs ∧ _
      refine ⟨[.bool true], (.tmp (.bool true) kr .nil), ?_, H4.below⟩
      exact bool_eq (isPre_yes (by omega) hx2).symm
    · skip
      refine rp [.e (v := .bool (ByteArray.toList (ByteArray.extract s 0 (ByteArray.size p)) == ByteArray.toList p)) (v' := .bool false) (bool_eq (str_other (ByteArray.extract s 0 (ByteArray.size p)) p hx2)), .v, .v] H3 kr fun gs5 w5 H5 => ?_
      show WPs _ _ _ _ [] _ _
      clear H3
      refine s_nil ?_
      refine g_ret kr ?_
      show ∃ vs, Res _ _ _ _ vs ∧ _
      refine ⟨[.bool false], (.tmp (.bool false) kr .nil), ?_, H5.below⟩
      exact bool_eq (isPre_no hx2).symm
  · skip
    refine rp [.e (v := .bool (decide (((ByteArray.size p : Nat) : Int) ≤ ((ByteArray.size s : Nat) : Int)))) (v' := .bool false) (bool_eq (decide_eq_false (by omega))), .v, .n, .n, .n, .n, .n, .n, .v, .v] H2 kr fun gs6 w6 H6 => ?_
    show WPs _ _ _ _ [] _ _
    clear H2
    refine s_nil ?_
    refine g_ret kr ?_
    show ∃ vs, Res _ _ _ _ vs ∧ _
    refine ⟨[.bool false], (.tmp (.bool false) kr .nil), ?_, H6.below⟩
    exact bool_eq (isPre_long (by omega)).symm
set_option maxRecDepth 100000 in
set_option maxHeartbeats 2000000 in
theorem cutPre_fn (s p : ByteArray) : Fn Try.prog 26 #[.string s, .string p] (.tuple #[.string (cutS s p), .bool (isPre s p)]) := by
  refine Fn.intro (c := codeOf Try.f26) [.tmp 4, .tmp 5] 15 Try.func26 kr kr kr fun w => ?_
  have H0 := St.start w
  refine rS [.v, .v] H0 kr fun gs1 w1 H1 => ?_
  clear H0
  refine g_seq kr ?_
  refine g_sreg [0, 1, 2, 3] kr kr ?_
  refine rp [.v, .v, .c (hasPre_fn s p)] H1 kr fun gs2 w2 H2 => ?_
  show WPs _ _ _ _ [3] _ _
  clear H1
  refine Or.elim (Bool.eq_false_or_eq_true (isPre s p)).symm (fun hq1 => ?_) (fun hq1 => ?_)
  · skip
    refine s_now 8 (v := .bool (isPre s p)) (v' := .bool false) (bool_eq hq1) kr ?_
    refine rp [.v] H2 kr fun gs3 w3 H3 => ?_
    show WPs _ _ _ _ [] _ _
    clear H2
    refine s_nil ?_
    refine g_cond_t kr kr ?_
    refine rS [.v, .v, .v] H3 kr fun gs4 w4 H4 => ?_
    clear H3
    refine g_ret kr ?_
    show ∃ vs, Res _ _ _ _ vs ∧ _
    refine ⟨[.string s, .bool false], (.tmp (.string s) kr (.tmp (.bool false) kr .nil)), ?_, H4.below⟩
    unfold cutS; rw [hq1]; rfl
  · skip
    refine s_now 8 (v := .bool (isPre s p)) (v' := .bool true) (bool_eq hq1) kr ?_
    refine rp [.v] H2 kr fun gs5 w5 H5 => ?_
    show WPs _ _ _ _ [] _ _
    clear H2
    refine s_nil ?_
    refine g_cond_f kr kr ?_
    refine g_skip kr ?_
    show WP _ _ _ _ _ _
    refine g_sreg [0, 1, 2, 3, 4, 5] kr kr ?_
    refine rp [.v, .v, .v] H5 kr fun gs6 w6 H6 => ?_
    show WPs _ _ _ _ [3, 4, 5] _ _
    clear H5
    have hle : ByteArray.size p ≤ ByteArray.size s := (of_decide_eq_true hq1).1
    refine rp [.o (ins := [((.tmp 11), .string s), ((.tmp 13), .int .i64 ((ByteArray.size p : Nat) : Int))]) (v := .string (ByteArray.extract s (ByteArray.size p) (ByteArray.size s))) (fun ρ o w ho hi => scut3_run (t := 9) (kz := .i64) kr (x := (.tmp 11)) (z := (.tmp 13)) s (ByteArray.size p) ho hi.1 hi.2.1 (by omega) w), .v, .v] H6 kr fun gs7 w7 H7 => ?_
    show WPs _ _ _ _ [] _ _
    clear H6
    refine s_nil ?_
    refine g_ret kr ?_
    show ∃ vs, Res _ _ _ _ vs ∧ _
    refine ⟨[.string (ByteArray.extract s (ByteArray.size p) (ByteArray.size s)), .bool true], (.tmp (.string (ByteArray.extract s (ByteArray.size p) (ByteArray.size s))) kr (.tmp (.bool true) kr .nil)), ?_, H7.below⟩
    unfold cutS; rw [hq1]; rfl
set_option maxRecDepth 100000 in
set_option maxHeartbeats 2000000 in
theorem cutPrefix_fn (s p : ByteArray) : Fn Try.prog 25 #[.string s, .string p] (.tuple #[.string (cutS s p), .bool (isPre s p)]) := by
  refine Fn.intro (c := codeOf Try.f25) [.tmp 4, .tmp 5] 11 Try.func25 kr kr kr fun w => ?_
  have H0 := St.start w
  refine rS [.v, .v] H0 kr fun gs1 w1 H1 => ?_
  clear H0
  refine rS [.v, .v, .c (cutPre_fn s p), .v, .v, .v, .v] H1 kr fun gs2 w2 H2 => ?_
  clear H1
  refine g_ret kr ?_
  show ∃ vs, Res _ _ _ _ vs ∧ _
  refine ⟨[.string (cutS s p), .bool (isPre s p)], (.tmp (.string (cutS s p)) kr (.tmp (.bool (isPre s p)) kr .nil)), ?_, H2.below⟩
  rfl
set_option maxRecDepth 100000 in
set_option maxHeartbeats 2000000 in
theorem unpack_fn (s : ByteArray) (hs : ByteArray.size s ≤ 1000000000000) : Fn Try.prog 16 #[.string s] (uV (tl s)) := by
  refine Fn.intro (c := codeOf Try.f16) [.tmp 2, .tmp 3, .tmp 4] 33 Try.func16 kr kr kr fun w => ?_
  have H0 := St.start w
  refine rS [.v, .v, .v] H0 kr fun gs1 w1 H1 => ?_
  clear H0
  refine rS [.v, .c (of_fn s (by omega)), .v] H1 kr fun gs2 w2 H2 => ?_
  clear H1
  refine g_seq kr ?_
  refine rS [.v, .v] H2 kr fun gs3 w3 H3 => ?_
  clear H2
  refine g_block 0 kr ?_
  have HL1 : St w.heap.size w w3 [] := H3.as kr
  clear H3
  refine g_first kr ?_
  refine rS [.v] HL1 kr fun gs4 w4 H4 => ?_
  clear HL1
  refine g_seq kr ?_
  refine g_cond_t kr kr ?_
  refine g_skip kr ?_
  show WP _ _ _ _ _ _
  refine g_seq kr ?_
  refine g_block 1 kr ?_
  refine rS [.v, .v] H4 kr fun gs5 w5 H5 => ?_
  clear H4
  refine rS [.v] H5 kr fun gs6 w6 H6 => ?_
  clear H5
  refine g_block 2 kr ?_
  have HL2 : St w.heap.size w w6 [] := H6.as kr
  clear H6
  refine g_first kr ?_
  refine rS [.v] HL2 kr fun gs7 w7 H7 => ?_
  clear HL2
  refine g_seq kr ?_
  refine g_cond_t kr kr ?_
  refine g_skip kr ?_
  show WP _ _ _ _ _ _
  refine g_seq kr ?_
  refine g_block 3 kr ?_
  refine rS [.v, .v] H7 kr fun gs8 w8 H8 => ?_
  clear H7
  refine rS [.v, .v, .v, .c (head_fn 0 false (by omega)), .c (cutPrefix_fn (strB (hv (tl s))) (strB (hdP 0 false))), .v, .v, .v, .v, .v] H8 kr fun gs9 w9 H9 => ?_
  clear H8
  refine g_keep [0, 2, 3, 4, 5, 7, 8, 9, 10, 13, 14, 15, 17, 18] fun ρ1 => ?_
  have HK3 := H9.keep
  clear H9
  refine rS [.v] HK3 kr fun gs10 w10 H10 => ?_
  clear HK3
  refine Or.elim (Bool.eq_false_or_eq_true (isPre (strB (hv (tl s))) (strB (hdP 0 false)))).symm (fun hq1 => ?_) (fun hq1 => ?_)
  · skip
    refine g_now 10 (v := .bool (isPre (strB (hv (tl s))) (strB (hdP 0 false)))) (v' := .bool false) (bool_eq hq1) kr ?_
    refine g_now 28 (v := .bool (isPre (strB (hv (tl s))) (strB (hdP 0 false)))) (v' := .bool false) (bool_eq hq1) kr ?_
    refine g_cond_f kr kr ?_
    refine g_skip kr ?_
    show WP _ _ _ _ _ _
    refine rL [.v, .v] H10 kr fun gs11 w11 H11 => ?_
    clear H10
    show WPL _ _ _ _ _ _
    refine g_next ?_
    refine rS [.v] H11 kr fun gs12 w12 H12 => ?_
    clear H11
    refine g_seq kr ?_
    refine g_cond_t kr kr ?_
    refine g_skip kr ?_
    show WP _ _ _ _ _ _
    refine g_seq kr ?_
    refine g_block 3 kr ?_
    refine rS [.v, .v] H12 kr fun gs13 w13 H13 => ?_
    clear H12
    refine rS [.v, .v, .v, .c (head_fn 1 false (by omega)), .c (cutPrefix_fn (strB (hv (tl s))) (strB (hdP 1 false))), .v, .v, .v, .v, .v] H13 kr fun gs14 w14 H14 => ?_
    clear H13
    refine rS [.v] H14 kr fun gs15 w15 H15 => ?_
    clear H14
    refine Or.elim (Bool.eq_false_or_eq_true (isPre (strB (hv (tl s))) (strB (hdP 1 false)))).symm (fun hq2 => ?_) (fun hq2 => ?_)
    · skip
      refine g_now 10 (v := .bool (isPre (strB (hv (tl s))) (strB (hdP 1 false)))) (v' := .bool false) (bool_eq hq2) kr ?_
      refine g_now 28 (v := .bool (isPre (strB (hv (tl s))) (strB (hdP 1 false)))) (v' := .bool false) (bool_eq hq2) kr ?_
      refine g_now 25 (v := .tuple #[.string (cutS (strB (hv (tl s))) (strB (hdP 1 false))), .bool (isPre (strB (hv (tl s))) (strB (hdP 1 false)))]) (v' := .tuple #[.string (cutS (strB (hv (tl s))) (strB (hdP 1 false))), .bool false]) (by rw [hq2]) kr ?_
      refine g_now 20 (v := .tuple #[.string (cutS (strB (hv (tl s))) (strB (hdP 1 false))), .bool (isPre (strB (hv (tl s))) (strB (hdP 1 false)))]) (v' := .tuple #[.string (cutS (strB (hv (tl s))) (strB (hdP 1 false))), .bool false]) (by rw [hq2]) kr ?_
      refine g_now 27 (v := .bool (isPre (strB (hv (tl s))) (strB (hdP 1 false)))) (v' := .bool false) (bool_eq hq2) kr ?_
      refine g_keep [0, 2, 3, 4, 5, 7, 8, 9, 10, 13, 14, 15, 17, 18, 28] fun ρ2 => ?_
      have HK4 := H15.keep
      clear H15
      refine g_cond_f kr kr ?_
      refine g_skip kr ?_
      show WP _ _ _ _ _ _
      refine rL [.v, .v] HK4 kr fun gs16 w16 H16 => ?_
      clear HK4
      show WPL _ _ _ _ _ _
      refine g_next ?_
      refine rS [.v] H16 kr fun gs17 w17 H17 => ?_
      clear H16
      refine g_seq kr ?_
      refine g_cond_f kr kr ?_
      refine g_exit 2 kr ?_
      show WP _ _ _ _ _ _
      refine rL [.v, .v] H17 kr fun gs18 w18 H18 => ?_
      clear H17
      show WPL _ _ _ _ _ _
      refine g_next ?_
      refine rS [.v] H18 kr fun gs19 w19 H19 => ?_
      clear H18
      refine g_seq kr ?_
      refine g_cond_t kr kr ?_
      refine g_skip kr ?_
      show WP _ _ _ _ _ _
      refine g_seq kr ?_
      refine g_block 1 kr ?_
      refine rS [.v, .v] H19 kr fun gs20 w20 H20 => ?_
      clear H19
      refine rS [.v] H20 kr fun gs21 w21 H21 => ?_
      clear H20
      refine g_block 2 kr ?_
      have HL5 : St w.heap.size w w21 [] := H21.as kr
      clear H21
      refine g_first kr ?_
      refine rS [.v] HL5 kr fun gs22 w22 H22 => ?_
      clear HL5
      refine g_seq kr ?_
      refine g_cond_t kr kr ?_
      refine g_skip kr ?_
      show WP _ _ _ _ _ _
      refine g_seq kr ?_
      refine g_block 3 kr ?_
      refine rS [.v, .v] H22 kr fun gs23 w23 H23 => ?_
      clear H22
      refine rS [.v, .v, .v, .c (head_fn 0 true (by omega)), .c (cutPrefix_fn (strB (hv (tl s))) (strB (hdP 0 true))), .v, .v, .v, .v, .v] H23 kr fun gs24 w24 H24 => ?_
      clear H23
      refine g_keep [0, 2, 3, 4, 5, 7, 8, 9, 10, 13, 14, 15, 17, 18, 28] fun ρ3 => ?_
      have HK6 := H24.keep
      clear H24
      refine rS [.v] HK6 kr fun gs25 w25 H25 => ?_
      clear HK6
      refine Or.elim (Bool.eq_false_or_eq_true (isPre (strB (hv (tl s))) (strB (hdP 0 true)))).symm (fun hq3 => ?_) (fun hq3 => ?_)
      · skip
        refine g_now 10 (v := .bool (isPre (strB (hv (tl s))) (strB (hdP 0 true)))) (v' := .bool false) (bool_eq hq3) kr ?_
        refine g_now 28 (v := .bool (isPre (strB (hv (tl s))) (strB (hdP 0 true)))) (v' := .bool false) (bool_eq hq3) kr ?_
        refine g_cond_f kr kr ?_
        refine g_skip kr ?_
        show WP _ _ _ _ _ _
        refine rL [.v, .v] H25 kr fun gs26 w26 H26 => ?_
        clear H25
        show WPL _ _ _ _ _ _
        refine g_next ?_
        refine rS [.v] H26 kr fun gs27 w27 H27 => ?_
        clear H26
        refine g_seq kr ?_
        refine g_cond_t kr kr ?_
        refine g_skip kr ?_
        show WP _ _ _ _ _ _
        refine g_seq kr ?_
        refine g_block 3 kr ?_
        refine rS [.v, .v] H27 kr fun gs28 w28 H28 => ?_
        clear H27
        refine rS [.v, .v, .v, .c (head_fn 1 true (by omega)), .c (cutPrefix_fn (strB (hv (tl s))) (strB (hdP 1 true))), .v, .v, .v, .v, .v] H28 kr fun gs29 w29 H29 => ?_
        clear H28
        refine rS [.v] H29 kr fun gs30 w30 H30 => ?_
        clear H29
        refine Or.elim (Bool.eq_false_or_eq_true (isPre (strB (hv (tl s))) (strB (hdP 1 true)))).symm (fun hq4 => ?_) (fun hq4 => ?_)
        · skip
          refine g_now 10 (v := .bool (isPre (strB (hv (tl s))) (strB (hdP 1 true)))) (v' := .bool false) (bool_eq hq4) kr ?_
          refine g_now 28 (v := .bool (isPre (strB (hv (tl s))) (strB (hdP 1 true)))) (v' := .bool false) (bool_eq hq4) kr ?_
          refine g_now 25 (v := .tuple #[.string (cutS (strB (hv (tl s))) (strB (hdP 1 true))), .bool (isPre (strB (hv (tl s))) (strB (hdP 1 true)))]) (v' := .tuple #[.string (cutS (strB (hv (tl s))) (strB (hdP 1 true))), .bool false]) (by rw [hq4]) kr ?_
          refine g_now 20 (v := .tuple #[.string (cutS (strB (hv (tl s))) (strB (hdP 1 true))), .bool (isPre (strB (hv (tl s))) (strB (hdP 1 true)))]) (v' := .tuple #[.string (cutS (strB (hv (tl s))) (strB (hdP 1 true))), .bool false]) (by rw [hq4]) kr ?_
          refine g_now 27 (v := .bool (isPre (strB (hv (tl s))) (strB (hdP 1 true)))) (v' := .bool false) (bool_eq hq4) kr ?_
          refine g_keep [0, 2, 3, 4, 5, 7, 8, 9, 10, 13, 14, 15, 17, 18, 28] fun ρ4 => ?_
          have HK7 := H30.keep
          clear H30
          refine g_cond_f kr kr ?_
          refine g_skip kr ?_
          show WP _ _ _ _ _ _
          refine rL [.v, .v] HK7 kr fun gs31 w31 H31 => ?_
          clear HK7
          show WPL _ _ _ _ _ _
          refine g_next ?_
          refine rS [.v] H31 kr fun gs32 w32 H32 => ?_
          clear H31
          refine g_seq kr ?_
          refine g_cond_f kr kr ?_
          refine g_exit 2 kr ?_
          show WP _ _ _ _ _ _
          refine rL [.v, .v] H32 kr fun gs33 w33 H33 => ?_
          clear H32
          show WPL _ _ _ _ _ _
          refine g_next ?_
          refine rS [.v] H33 kr fun gs34 w34 H34 => ?_
          clear H33
          refine g_seq kr ?_
          refine g_cond_f kr kr ?_
          refine g_exit 0 kr ?_
          show WP _ _ _ _ _ _
          refine rS [.v, .v, .v] H34 kr fun gs35 w35 H35 => ?_
          clear H34
          refine g_ret kr ?_
          show ∃ vs, Res _ _ _ _ vs ∧ _
          refine ⟨[.string (⟨#[]⟩), .bool false, .int .i64 4], (.tmp (.string (⟨#[]⟩)) kr (.tmp (.bool false) kr (.tmp (.int .i64 4) kr .nil))), ?_, H35.below⟩
          refine (uV_none (upk_none fun n e hn => ?_)).symm
          obtain rfl | rfl : n = 0 ∨ n = 1 := by omega
          · cases e with
            | false => exact hq1
            | true => exact hq3
          · cases e with
            | false => exact hq2
            | true => exact hq4
        · skip
          refine g_now 10 (v := .bool (isPre (strB (hv (tl s))) (strB (hdP 1 true)))) (v' := .bool true) (bool_eq hq4) kr ?_
          refine g_now 28 (v := .bool (isPre (strB (hv (tl s))) (strB (hdP 1 true)))) (v' := .bool true) (bool_eq hq4) kr ?_
          refine g_now 25 (v := .tuple #[.string (cutS (strB (hv (tl s))) (strB (hdP 1 true))), .bool (isPre (strB (hv (tl s))) (strB (hdP 1 true)))]) (v' := .tuple #[.string (cutS (strB (hv (tl s))) (strB (hdP 1 true))), .bool true]) (by rw [hq4]) kr ?_
          refine g_now 20 (v := .tuple #[.string (cutS (strB (hv (tl s))) (strB (hdP 1 true))), .bool (isPre (strB (hv (tl s))) (strB (hdP 1 true)))]) (v' := .tuple #[.string (cutS (strB (hv (tl s))) (strB (hdP 1 true))), .bool true]) (by rw [hq4]) kr ?_
          refine g_now 27 (v := .bool (isPre (strB (hv (tl s))) (strB (hdP 1 true)))) (v' := .bool true) (bool_eq hq4) kr ?_
          refine g_keep [0, 2, 3, 4, 5, 7, 8, 9, 10, 13, 14, 15, 17, 18, 28] fun ρ5 => ?_
          have HK8 := H30.keep
          clear H30
          refine g_cond_t kr kr ?_
          refine rS [.v, .v, .v, .v, .v] HK8 kr fun gs36 w36 H36 => ?_
          clear HK8
          refine g_ret kr ?_
          show ∃ vs, Res _ _ _ _ vs ∧ _
          refine ⟨[.string (cutS (strB (hv (tl s))) (strB (hdP 1 true))), .bool true, .int .i64 0], (.tmp (.string (cutS (strB (hv (tl s))) (strB (hdP 1 true)))) kr (.tmp (.bool true) kr (.tmp (.int .i64 0) kr .nil))), ?_, H36.below⟩
          exact (uV_some (upk_pre hq4)).symm
      · skip
        refine g_now 10 (v := .bool (isPre (strB (hv (tl s))) (strB (hdP 0 true)))) (v' := .bool true) (bool_eq hq3) kr ?_
        refine g_now 28 (v := .bool (isPre (strB (hv (tl s))) (strB (hdP 0 true)))) (v' := .bool true) (bool_eq hq3) kr ?_
        refine g_cond_t kr kr ?_
        refine rS [.v, .v, .v, .v, .v] H25 kr fun gs37 w37 H37 => ?_
        clear H25
        refine g_ret kr ?_
        show ∃ vs, Res _ _ _ _ vs ∧ _
        refine ⟨[.string (cutS (strB (hv (tl s))) (strB (hdP 0 true))), .bool true, .int .i64 0], (.tmp (.string (cutS (strB (hv (tl s))) (strB (hdP 0 true)))) kr (.tmp (.bool true) kr (.tmp (.int .i64 0) kr .nil))), ?_, H37.below⟩
        exact (uV_some (upk_pre hq3)).symm
    · skip
      refine g_now 10 (v := .bool (isPre (strB (hv (tl s))) (strB (hdP 1 false)))) (v' := .bool true) (bool_eq hq2) kr ?_
      refine g_now 28 (v := .bool (isPre (strB (hv (tl s))) (strB (hdP 1 false)))) (v' := .bool true) (bool_eq hq2) kr ?_
      refine g_now 25 (v := .tuple #[.string (cutS (strB (hv (tl s))) (strB (hdP 1 false))), .bool (isPre (strB (hv (tl s))) (strB (hdP 1 false)))]) (v' := .tuple #[.string (cutS (strB (hv (tl s))) (strB (hdP 1 false))), .bool true]) (by rw [hq2]) kr ?_
      refine g_now 20 (v := .tuple #[.string (cutS (strB (hv (tl s))) (strB (hdP 1 false))), .bool (isPre (strB (hv (tl s))) (strB (hdP 1 false)))]) (v' := .tuple #[.string (cutS (strB (hv (tl s))) (strB (hdP 1 false))), .bool true]) (by rw [hq2]) kr ?_
      refine g_now 27 (v := .bool (isPre (strB (hv (tl s))) (strB (hdP 1 false)))) (v' := .bool true) (bool_eq hq2) kr ?_
      refine g_keep [0, 2, 3, 4, 5, 7, 8, 9, 10, 13, 14, 15, 17, 18, 28] fun ρ6 => ?_
      have HK9 := H15.keep
      clear H15
      refine g_cond_t kr kr ?_
      refine rS [.v, .v, .v, .v, .v] HK9 kr fun gs38 w38 H38 => ?_
      clear HK9
      refine g_ret kr ?_
      show ∃ vs, Res _ _ _ _ vs ∧ _
      refine ⟨[.string (cutS (strB (hv (tl s))) (strB (hdP 1 false))), .bool false, .int .i64 0], (.tmp (.string (cutS (strB (hv (tl s))) (strB (hdP 1 false)))) kr (.tmp (.bool false) kr (.tmp (.int .i64 0) kr .nil))), ?_, H38.below⟩
      exact (uV_some (upk_pre hq2)).symm
  · skip
    refine g_now 10 (v := .bool (isPre (strB (hv (tl s))) (strB (hdP 0 false)))) (v' := .bool true) (bool_eq hq1) kr ?_
    refine g_now 28 (v := .bool (isPre (strB (hv (tl s))) (strB (hdP 0 false)))) (v' := .bool true) (bool_eq hq1) kr ?_
    refine g_cond_t kr kr ?_
    refine rS [.v, .v, .v, .v, .v] H10 kr fun gs39 w39 H39 => ?_
    clear H10
    refine g_ret kr ?_
    show ∃ vs, Res _ _ _ _ vs ∧ _
    refine ⟨[.string (cutS (strB (hv (tl s))) (strB (hdP 0 false))), .bool false, .int .i64 0], (.tmp (.string (cutS (strB (hv (tl s))) (strB (hdP 0 false)))) kr (.tmp (.bool false) kr (.tmp (.int .i64 0) kr .nil))), ?_, H39.below⟩
    exact (uV_some (upk_pre hq1)).symm
end Go.Proofs.Ytafamhkdklkfiaa

namespace Go.Proofs.Ytafamhkdklkfiaa
open Go Go.RowKit
set_option linter.unusedVariables false
theorem isP_ex (l : List UInt8) (a b : Nat) : isP (tl ((strB (hv l)).extract a b)) = true := by
  rw [tl_extract, tl_strB]
  have h := hv_isP l
  unfold isP at h ⊢
  rw [List.all_eq_true] at h ⊢
  exact fun x hx => h x (List.mem_of_mem_take (List.mem_of_mem_drop hx))
theorem ex_size (l : List UInt8) (a b : Nat) : ((strB (hv l)).extract a b).size ≤ 2 * l.length := by
  rw [ByteArray.size_extract, strB_size, hv_len]; omega
theorem unR_some {s x : ByteArray} {e : Bool} (hp : isP (tl x) = true) (h : strB (pk (tl x) e) = s) : upk (tl s) = some (tl x, e) := by rw [← h, tl_strB]; exact upk_pk hp e
theorem unR_none {s : ByteArray} (h : ∀ (k : Nat) (e : Bool), k = 1 ∨ k = 2 → k ≤ (strB (hv (tl s))).size → ¬ strB (pk (tl ((strB (hv (tl s))).extract k (strB (hv (tl s))).size)) e) = s) : upk (tl s) = none := by
  cases hu : upk (tl s) with
  | none => rfl
  | some q =>
    obtain ⟨x, e⟩ := q
    obtain ⟨hp, hk⟩ := upk_some hu
    have h2 : hv (tl s) = hdP x.length e ++ x := by rw [← hk, hv_pk hp]
    have hl := (hdP_len x.length e).2
    have hsz : (strB (hv (tl s))).size = (hdP x.length e).length + x.length := by rw [strB_size, h2, List.length_append]
    refine absurd ?_ (h (hdP x.length e).length e (by omega) (by omega))
    have hx : tl ((strB (hv (tl s))).extract (hdP x.length e).length (strB (hv (tl s))).size) = x := by
      rw [tl_extract, tl_strB, strB_size, List.take_length, h2, List.drop_left]
    rw [hx, hk]; rfl
theorem unpack_none (s : ByteArray) (hs : ByteArray.size s ≤ 1000000000) (h : upk (tl s) = none) : Fn Try.prog 16 #[.string s] (.tuple #[.string ⟨#[]⟩, .bool false, .int .i64 4]) := by
  have := unpack_fn s (by omega); rwa [uV_none h] at this
theorem unpack_some (s : ByteArray) (hs : ByteArray.size s ≤ 1000000000) (x : List UInt8) (e : Bool) (h : upk (tl s) = some (x, e)) : Fn Try.prog 16 #[.string s] (.tuple #[.string (strB x), .bool e, .int .i64 0]) := by
  have := unpack_fn s (by omega); rwa [uV_some h] at this
set_option maxRecDepth 100000 in
set_option maxHeartbeats 2000000 in
theorem unpackR_fn (s : ByteArray) (hs : ByteArray.size s ≤ 1000000000) : Fn Try.prog 17 #[.string s] (uV (tl s)) := by
  refine Fn.intro (c := codeOf Try.f17) [.tmp 2, .tmp 3, .tmp 4] 33 Try.func17 kr kr kr fun w => ?_
  have H0 := St.start w
  refine rS [.v, .v, .v] H0 kr fun gs1 w1 H1 => ?_
  clear H0
  refine rS [.v, .c (ofR_fn s (by omega)), .v] H1 kr fun gs2 w2 H2 => ?_
  clear H1
  refine g_seq kr ?_
  refine rS [.v] H2 kr fun gs3 w3 H3 => ?_
  clear H2
  refine g_block 0 kr ?_
  have HL1 : St w.heap.size w w3 [] := H3.as kr
  clear H3
  refine g_first kr ?_
  refine g_seq kr ?_
  refine g_sreg [0, 1, 2, 3, 4, 5, 6, 7] kr kr ?_
  refine rp [.v, .v, .v, .v, .v, .v] HL1 kr fun gs4 w4 H4 => ?_
  show WPs _ _ _ _ [6, 7] _ _
  clear HL1
  by_cases hc2 : (1 : Nat) ≤ ByteArray.size (strB (hv (tl s)))
  · skip
    refine rp [.e (v := .bool (decide (1 ≤ ((ByteArray.size (strB (hv (tl s))) : Nat) : Int)))) (v' := .bool true) (bool_eq (decide_eq_true (by omega))), .v] H4 kr fun gs5 w5 H5 => ?_
    show WPs _ _ _ _ [] _ _
    clear H4
    refine s_nil ?_
    refine g_cond_t kr kr ?_
    refine g_skip kr ?_
    show WP _ _ _ _ _ _
    refine g_seq kr ?_
    refine g_block 1 kr ?_
    refine rS [.v, .v, .o (ins := [((.tmp 20), .string (strB (hv (tl s)))), ((.tmp 21), .int .i64 1)]) (v := .string (ByteArray.extract (strB (hv (tl s))) 1 (ByteArray.size (strB (hv (tl s)))))) (fun ρ o w ho hi => scut3_run (t := 9) (kz := .i64) kr (x := (.tmp 20)) (z := (.tmp 21)) (strB (hv (tl s))) 1 ho hi.1 hi.2.1 (by omega) w), .v] H5 kr fun gs6 w6 H6 => ?_
    clear H5
    refine g_keep [0, 2, 3, 4, 5, 6, 7, 17] fun ρ1 => ?_
    have HK3 := H6.keep
    clear H6
    refine g_seq kr ?_
    refine g_sreg [0, 1, 2, 3] kr kr ?_
    refine rp [.v, .c (packR_fn (ByteArray.extract (strB (hv (tl s))) 1 (ByteArray.size (strB (hv (tl s))))) (Nat.le_trans (ex_size _ _ _) (by rw [tl_len]; omega)) false (isP_ex _ _ _)), .v] HK3 kr fun gs7 w7 H7 => ?_
    show WPs _ _ _ _ [3] _ _
    clear HK3
    by_cases hx4 : (strB (pk (tl (ByteArray.extract (strB (hv (tl s))) 1 (ByteArray.size (strB (hv (tl s)))))) false)) = s
    · skip
      refine rp [.e (v := .bool (ByteArray.toList (strB (pk (tl (ByteArray.extract (strB (hv (tl s))) 1 (ByteArray.size (strB (hv (tl s)))))) false)) == ByteArray.toList s)) (v' := .bool true) (bool_eq (str_same (strB (pk (tl (ByteArray.extract (strB (hv (tl s))) 1 (ByteArray.size (strB (hv (tl s)))))) false)) s hx4))] H7 kr fun gs8 w8 H8 => ?_
      show WPs _ _ _ _ [] _ _
      clear H7
      refine s_nil ?_
      refine g_cond_t kr kr ?_
      refine rS [.v, .v, .v, .v] H8 kr fun gs9 w9 H9 => ?_
      clear H8
      refine g_ret kr ?_
      show ∃ vs, Res _ _ _ _ vs ∧ _
      refine ⟨[.string (ByteArray.extract (strB (hv (tl s))) 1 (ByteArray.size (strB (hv (tl s))))), .bool false, .int .i64 0], (.tmp (.string (ByteArray.extract (strB (hv (tl s))) 1 (ByteArray.size (strB (hv (tl s)))))) kr (.tmp (.bool false) kr (.tmp (.int .i64 0) kr .nil))), ?_, H9.below⟩
      exact (uV_some (unR_some (isP_ex _ _ _) hx4)).symm
    · skip
      refine rp [.e (v := .bool (ByteArray.toList (strB (pk (tl (ByteArray.extract (strB (hv (tl s))) 1 (ByteArray.size (strB (hv (tl s)))))) false)) == ByteArray.toList s)) (v' := .bool false) (bool_eq (str_other (strB (pk (tl (ByteArray.extract (strB (hv (tl s))) 1 (ByteArray.size (strB (hv (tl s)))))) false)) s hx4))] H7 kr fun gs10 w10 H10 => ?_
      show WPs _ _ _ _ [] _ _
      clear H7
      refine s_nil ?_
      refine g_cond_f kr kr ?_
      refine g_skip kr ?_
      show WP _ _ _ _ _ _
      refine g_sreg [0, 1, 2, 3] kr kr ?_
      refine rp [.v, .c (packR_fn (ByteArray.extract (strB (hv (tl s))) 1 (ByteArray.size (strB (hv (tl s))))) (Nat.le_trans (ex_size _ _ _) (by rw [tl_len]; omega)) true (isP_ex _ _ _)), .v] H10 kr fun gs11 w11 H11 => ?_
      show WPs _ _ _ _ [3] _ _
      clear H10
      by_cases hx5 : (strB (pk (tl (ByteArray.extract (strB (hv (tl s))) 1 (ByteArray.size (strB (hv (tl s)))))) true)) = s
      · skip
        refine rp [.e (v := .bool (ByteArray.toList (strB (pk (tl (ByteArray.extract (strB (hv (tl s))) 1 (ByteArray.size (strB (hv (tl s)))))) true)) == ByteArray.toList s)) (v' := .bool true) (bool_eq (str_same (strB (pk (tl (ByteArray.extract (strB (hv (tl s))) 1 (ByteArray.size (strB (hv (tl s)))))) true)) s hx5))] H11 kr fun gs12 w12 H12 => ?_
        show WPs _ _ _ _ [] _ _
        clear H11
        refine s_nil ?_
        refine g_cond_t kr kr ?_
        refine rS [.v, .v, .v, .v] H12 kr fun gs13 w13 H13 => ?_
        clear H12
        refine g_ret kr ?_
        show ∃ vs, Res _ _ _ _ vs ∧ _
        refine ⟨[.string (ByteArray.extract (strB (hv (tl s))) 1 (ByteArray.size (strB (hv (tl s))))), .bool true, .int .i64 0], (.tmp (.string (ByteArray.extract (strB (hv (tl s))) 1 (ByteArray.size (strB (hv (tl s)))))) kr (.tmp (.bool true) kr (.tmp (.int .i64 0) kr .nil))), ?_, H13.below⟩
        exact (uV_some (unR_some (isP_ex _ _ _) hx5)).symm
      · skip
        refine rp [.e (v := .bool (ByteArray.toList (strB (pk (tl (ByteArray.extract (strB (hv (tl s))) 1 (ByteArray.size (strB (hv (tl s)))))) true)) == ByteArray.toList s)) (v' := .bool false) (bool_eq (str_other (strB (pk (tl (ByteArray.extract (strB (hv (tl s))) 1 (ByteArray.size (strB (hv (tl s)))))) true)) s hx5))] H11 kr fun gs14 w14 H14 => ?_
        show WPs _ _ _ _ [] _ _
        clear H11
        refine s_nil ?_
        refine g_cond_f kr kr ?_
        refine g_skip kr ?_
        show WP _ _ _ _ _ _
        refine rL [.v, .v, .v] H14 kr fun gs15 w15 H15 => ?_
        clear H14
        show WPL _ _ _ _ _ _
        refine g_next ?_
        refine g_seq kr ?_
        refine g_sreg [0, 1, 2, 3, 4, 5, 6, 7] kr kr ?_
        refine rp [.v, .v, .v, .v, .v, .v] H15 kr fun gs16 w16 H16 => ?_
        show WPs _ _ _ _ [6, 7] _ _
        clear H15
        by_cases hc6 : (2 : Nat) ≤ ByteArray.size (strB (hv (tl s)))
        · skip
          refine rp [.e (v := .bool (decide (2 ≤ ((ByteArray.size (strB (hv (tl s))) : Nat) : Int)))) (v' := .bool true) (bool_eq (decide_eq_true (by omega))), .v] H16 kr fun gs17 w17 H17 => ?_
          show WPs _ _ _ _ [] _ _
          clear H16
          refine s_nil ?_
          refine g_keep [0, 2, 3, 4, 5, 6, 7, 17, 26, 31] fun ρ2 => ?_
          have HK7 := H17.keep
          clear H17
          refine g_cond_t kr kr ?_
          refine g_skip kr ?_
          show WP _ _ _ _ _ _
          refine g_seq kr ?_
          refine g_block 1 kr ?_
          refine rS [.v, .v, .o (ins := [((.tmp 20), .string (strB (hv (tl s)))), ((.tmp 21), .int .i64 2)]) (v := .string (ByteArray.extract (strB (hv (tl s))) 2 (ByteArray.size (strB (hv (tl s)))))) (fun ρ o w ho hi => scut3_run (t := 9) (kz := .i64) kr (x := (.tmp 20)) (z := (.tmp 21)) (strB (hv (tl s))) 2 ho hi.1 hi.2.1 (by omega) w), .v] HK7 kr fun gs18 w18 H18 => ?_
          clear HK7
          refine g_seq kr ?_
          refine g_sreg [0, 1, 2, 3] kr kr ?_
          refine rp [.v, .c (packR_fn (ByteArray.extract (strB (hv (tl s))) 2 (ByteArray.size (strB (hv (tl s))))) (Nat.le_trans (ex_size _ _ _) (by rw [tl_len]; omega)) false (isP_ex _ _ _)), .v] H18 kr fun gs19 w19 H19 => ?_
          show WPs _ _ _ _ [3] _ _
          clear H18
          by_cases hx8 : (strB (pk (tl (ByteArray.extract (strB (hv (tl s))) 2 (ByteArray.size (strB (hv (tl s)))))) false)) = s
          · skip
            refine rp [.e (v := .bool (ByteArray.toList (strB (pk (tl (ByteArray.extract (strB (hv (tl s))) 2 (ByteArray.size (strB (hv (tl s)))))) false)) == ByteArray.toList s)) (v' := .bool true) (bool_eq (str_same (strB (pk (tl (ByteArray.extract (strB (hv (tl s))) 2 (ByteArray.size (strB (hv (tl s)))))) false)) s hx8))] H19 kr fun gs20 w20 H20 => ?_
            show WPs _ _ _ _ [] _ _
            clear H19
            refine s_nil ?_
            refine g_cond_t kr kr ?_
            refine rS [.v, .v, .v, .v] H20 kr fun gs21 w21 H21 => ?_
            clear H20
            refine g_ret kr ?_
            show ∃ vs, Res _ _ _ _ vs ∧ _
            refine ⟨[.string (ByteArray.extract (strB (hv (tl s))) 2 (ByteArray.size (strB (hv (tl s))))), .bool false, .int .i64 0], (.tmp (.string (ByteArray.extract (strB (hv (tl s))) 2 (ByteArray.size (strB (hv (tl s)))))) kr (.tmp (.bool false) kr (.tmp (.int .i64 0) kr .nil))), ?_, H21.below⟩
            exact (uV_some (unR_some (isP_ex _ _ _) hx8)).symm
          · skip
            refine rp [.e (v := .bool (ByteArray.toList (strB (pk (tl (ByteArray.extract (strB (hv (tl s))) 2 (ByteArray.size (strB (hv (tl s)))))) false)) == ByteArray.toList s)) (v' := .bool false) (bool_eq (str_other (strB (pk (tl (ByteArray.extract (strB (hv (tl s))) 2 (ByteArray.size (strB (hv (tl s)))))) false)) s hx8))] H19 kr fun gs22 w22 H22 => ?_
            show WPs _ _ _ _ [] _ _
            clear H19
            refine s_nil ?_
            refine g_cond_f kr kr ?_
            refine g_skip kr ?_
            show WP _ _ _ _ _ _
            refine g_sreg [0, 1, 2, 3] kr kr ?_
            refine rp [.v, .c (packR_fn (ByteArray.extract (strB (hv (tl s))) 2 (ByteArray.size (strB (hv (tl s))))) (Nat.le_trans (ex_size _ _ _) (by rw [tl_len]; omega)) true (isP_ex _ _ _)), .v] H22 kr fun gs23 w23 H23 => ?_
            show WPs _ _ _ _ [3] _ _
            clear H22
            by_cases hx9 : (strB (pk (tl (ByteArray.extract (strB (hv (tl s))) 2 (ByteArray.size (strB (hv (tl s)))))) true)) = s
            · skip
              refine rp [.e (v := .bool (ByteArray.toList (strB (pk (tl (ByteArray.extract (strB (hv (tl s))) 2 (ByteArray.size (strB (hv (tl s)))))) true)) == ByteArray.toList s)) (v' := .bool true) (bool_eq (str_same (strB (pk (tl (ByteArray.extract (strB (hv (tl s))) 2 (ByteArray.size (strB (hv (tl s)))))) true)) s hx9))] H23 kr fun gs24 w24 H24 => ?_
              show WPs _ _ _ _ [] _ _
              clear H23
              refine s_nil ?_
              refine g_cond_t kr kr ?_
              refine rS [.v, .v, .v, .v] H24 kr fun gs25 w25 H25 => ?_
              clear H24
              refine g_ret kr ?_
              show ∃ vs, Res _ _ _ _ vs ∧ _
              refine ⟨[.string (ByteArray.extract (strB (hv (tl s))) 2 (ByteArray.size (strB (hv (tl s))))), .bool true, .int .i64 0], (.tmp (.string (ByteArray.extract (strB (hv (tl s))) 2 (ByteArray.size (strB (hv (tl s)))))) kr (.tmp (.bool true) kr (.tmp (.int .i64 0) kr .nil))), ?_, H25.below⟩
              exact (uV_some (unR_some (isP_ex _ _ _) hx9)).symm
            · skip
              refine rp [.e (v := .bool (ByteArray.toList (strB (pk (tl (ByteArray.extract (strB (hv (tl s))) 2 (ByteArray.size (strB (hv (tl s)))))) true)) == ByteArray.toList s)) (v' := .bool false) (bool_eq (str_other (strB (pk (tl (ByteArray.extract (strB (hv (tl s))) 2 (ByteArray.size (strB (hv (tl s)))))) true)) s hx9))] H23 kr fun gs26 w26 H26 => ?_
              show WPs _ _ _ _ [] _ _
              clear H23
              refine s_nil ?_
              refine g_cond_f kr kr ?_
              refine g_skip kr ?_
              show WP _ _ _ _ _ _
              refine rL [.v, .v, .v] H26 kr fun gs27 w27 H27 => ?_
              clear H26
              show WPL _ _ _ _ _ _
              refine g_next ?_
              refine g_seq kr ?_
              refine rS [.v, .v, .v, .n, .n, .n, .n, .v] H27 kr fun gs28 w28 H28 => ?_
              clear H27
              refine g_keep [0, 2, 3, 4, 5, 6, 7, 17, 26, 31] fun ρ3 => ?_
              have HK10 := H28.keep
              clear H28
              refine g_cond_f kr kr ?_
              refine g_exit 0 kr ?_
              show WP _ _ _ _ _ _
              refine rS [.v, .v, .v] HK10 kr fun gs29 w29 H29 => ?_
              clear HK10
              refine g_ret kr ?_
              show ∃ vs, Res _ _ _ _ vs ∧ _
              refine ⟨[.string (⟨#[]⟩), .bool false, .int .i64 4], (.tmp (.string (⟨#[]⟩)) kr (.tmp (.bool false) kr (.tmp (.int .i64 4) kr .nil))), ?_, H29.below⟩
              refine (uV_none (unR_none fun k e hk hle => ?_)).symm
              obtain rfl | rfl := hk
              · cases e with
                | false => exact hx4
                | true => exact hx5
              · cases e with
                | false => exact hx8
                | true => exact hx9
        · skip
          refine rp [.e (v := .bool (decide (2 ≤ ((ByteArray.size (strB (hv (tl s))) : Nat) : Int)))) (v' := .bool false) (bool_eq (decide_eq_false (by omega))), .v] H16 kr fun gs30 w30 H30 => ?_
          show WPs _ _ _ _ [] _ _
          clear H16
          refine s_nil ?_
          refine g_keep [0, 2, 3, 4, 5, 6, 7, 17, 26, 31] fun ρ4 => ?_
          have HK11 := H30.keep
          clear H30
          refine g_cond_f kr kr ?_
          refine g_exit 0 kr ?_
          show WP _ _ _ _ _ _
          refine rS [.v, .v, .v] HK11 kr fun gs31 w31 H31 => ?_
          clear HK11
          refine g_ret kr ?_
          show ∃ vs, Res _ _ _ _ vs ∧ _
          refine ⟨[.string (⟨#[]⟩), .bool false, .int .i64 4], (.tmp (.string (⟨#[]⟩)) kr (.tmp (.bool false) kr (.tmp (.int .i64 4) kr .nil))), ?_, H31.below⟩
          refine (uV_none (unR_none fun k e hk hle => ?_)).symm
          obtain rfl | rfl := hk
          · cases e with
            | false => exact hx4
            | true => exact hx5
          · cases e with
            | false => exact absurd hle (by omega)
            | true => exact absurd hle (by omega)
  · skip
    refine rp [.e (v := .bool (decide (1 ≤ ((ByteArray.size (strB (hv (tl s))) : Nat) : Int)))) (v' := .bool false) (bool_eq (decide_eq_false (by omega))), .v] H4 kr fun gs32 w32 H32 => ?_
    show WPs _ _ _ _ [] _ _
    clear H4
    refine s_nil ?_
    refine g_cond_f kr kr ?_
    refine g_exit 0 kr ?_
    show WP _ _ _ _ _ _
    refine rS [.v, .v, .v] H32 kr fun gs33 w33 H33 => ?_
    clear H32
    refine g_ret kr ?_
    show ∃ vs, Res _ _ _ _ vs ∧ _
    refine ⟨[.string (⟨#[]⟩), .bool false, .int .i64 4], (.tmp (.string (⟨#[]⟩)) kr (.tmp (.bool false) kr (.tmp (.int .i64 4) kr .nil))), ?_, H33.below⟩
    refine (uV_none (unR_none fun k e hk hle => ?_)).symm
    obtain rfl | rfl := hk
    · cases e with
      | false => exact absurd hle (by omega)
      | true => exact absurd hle (by omega)
    · cases e with
      | false => exact absurd hle (by omega)
      | true => exact absurd hle (by omega)
theorem unpackR_none (s : ByteArray) (hs : ByteArray.size s ≤ 1000000000) (h : upk (tl s) = none) : Fn Try.prog 17 #[.string s] (.tuple #[.string ⟨#[]⟩, .bool false, .int .i64 4]) := by
  have := unpackR_fn s hs; rwa [uV_none h] at this
theorem unpackR_some (s : ByteArray) (hs : ByteArray.size s ≤ 1000000000) (x : List UInt8) (e : Bool) (h : upk (tl s) = some (x, e)) : Fn Try.prog 17 #[.string s] (.tuple #[.string (strB x), .bool e, .int .i64 0]) := by
  have := unpackR_fn s hs; rwa [uV_some h] at this
theorem opt_two (o : Option (List UInt8 × Bool)) : o = none ∨ ∃ x e, o = some (x, e) := by
  cases o with
  | none => exact .inl rfl
  | some q => exact .inr ⟨q.1, q.2, rfl⟩
set_option maxRecDepth 100000 in
set_option maxHeartbeats 2000000 in
theorem short_fn (s : ByteArray) (hs : ByteArray.size s ≤ 9223372036854775807) : Fn Try.prog 7 #[.string s] (.string (cut5 s)) := by
  refine Fn.intro (c := codeOf Try.f7) [.tmp 2] 8 Try.func7 kr kr kr fun w => ?_
  have H0 := St.start w
  refine rS [.v] H0 kr fun gs1 w1 H1 => ?_
  clear H0
  refine rS [.v, .v, .v, .e (v := .int .i64 (if (500 : Int) < (((ByteArray.size s : Nat) : Int) : Int) then (500 : Int) else (((ByteArray.size s : Nat) : Int) : Int))) (v' := .int .i64 ((min (ByteArray.size s) 500 : Nat) : Int)) (int_eq (minN (ByteArray.size s) 500)), .o (ins := [((.tmp 3), .string s), ((.tmp 6), .int .i64 ((min (ByteArray.size s) 500 : Nat) : Int))]) (v := .string (ByteArray.extract s 0 (min (ByteArray.size s) 500))) (fun ρ o w ho hi => scut_run (t := 9) (kd := .i64) kr (x := (.tmp 3)) (y := (.tmp 6)) s (min (ByteArray.size s) 500) ho hi.1 hi.2.1 (by omega) w), .v] H1 kr fun gs2 w2 H2 => ?_
  clear H1
  refine g_ret kr ?_
  show ∃ vs, Res _ _ _ _ vs ∧ _
  refine ⟨[.string (ByteArray.extract s 0 (min (ByteArray.size s) 500))], (.tmp (.string (ByteArray.extract s 0 (min (ByteArray.size s) 500))) kr .nil), ?_, H2.below⟩
  rfl
set_option maxRecDepth 100000 in
set_option maxHeartbeats 2000000 in
theorem alive_fn  : Fn Try.prog 10 #[] (.bool true) := by
  refine Fn.intro (c := codeOf Try.f10) [.tmp 0] 13 Try.func10 kr kr kr fun w => ?_
  have H0 := St.start w
  refine rS [.v] H0 kr fun gs1 w1 H1 => ?_
  clear H0
  refine rS [.c (pack_yes (⟨#[1, 2, 3]⟩) (by decide) false (by rfl)), .v, .v, .v, .v, .v] H1 kr fun gs2 w2 H2 => ?_
  clear H1
  refine rS [.v, .v, .v, .v, .e (v := .bool (ByteArray.toList (strB (pk (tl (⟨#[1, 2, 3]⟩)) false)) == ByteArray.toList (⟨#[17, 35]⟩))) (v' := .bool true) (bool_eq (str_same (strB (pk (tl (⟨#[1, 2, 3]⟩)) false)) (⟨#[17, 35]⟩) (by rfl))), .v, .v] H2 kr fun gs3 w3 H3 => ?_
  clear H2
  refine g_ret kr ?_
  show ∃ vs, Res _ _ _ _ vs ∧ _
  refine ⟨[.bool true], (.tmp (.bool true) kr .nil), ?_, H3.below⟩
  rfl
end Go.Proofs.Ytafamhkdklkfiaa

namespace Go.Proofs.Ytafamhkdklkfiaa
open Go Go.RowKit
set_option linter.unusedVariables false
set_option maxRecDepth 100000 in
set_option maxHeartbeats 2000000 in
theorem nibblePacks_fn (s0 : ByteArray) (e : Bool) (s2 : ByteArray) (hz0 : ByteArray.size s0 ≤ 9223372036854775807) (hz2 : ByteArray.size s2 ≤ 9223372036854775807) : Fn Try.prog 4 #[.string s0, .bool e, .string s2] (.bool true) := by
  refine Fn.intro (c := codeOf Try.f4) [.tmp 6] 72 Try.func4 kr kr kr fun w => ?_
  have H0 := St.start w
  have hc0 := cut5_size s0
  have hc2 := cut5_size s2
  refine rS [.v] H0 kr fun gs1 w1 H1 => ?_
  clear H0
  refine rS [.v, .c (short_fn s0 (by omega)), .v, .c (short_fn s2 (by omega)), .v, .v] H1 kr fun gs2 w2 H2 => ?_
  clear H1
  refine g_sreg [0, 1, 2, 3, 4, 5, 6, 7] kr kr ?_
  refine rp [.v, .v] H2 kr fun gs3 w3 H3 => ?_
  show WPs _ _ _ _ [2, 3, 4, 5, 6, 7] _ _
  clear H2
  refine Or.elim (Bool.eq_false_or_eq_true (isP (tl (cut5 s0)))).symm (fun hpp => ?_) (fun hpp => ?_)
  · skip
    refine rp [.c (pack_no (cut5 s0) (by omega) e hpp), .v, .v, .v, .v, .v] H3 kr fun gs4 w4 H4 => ?_
    show WPs _ _ _ _ [] _ _
    clear H3
    refine s_nil ?_
    refine g_sreg [0, 1, 2, 3, 4, 5, 6, 7, 8] kr kr ?_
    refine rp [.v] H4 kr fun gs5 w5 H5 => ?_
    show WPs _ _ _ _ [1, 2, 3, 4, 5, 6, 7, 8] _ _
    clear H4
    refine Or.elim (opt_two (upk (tl (cut5 s2)))) (fun hu => ?_) (fun ⟨xz, ez, hu⟩ => ?_)
    · skip
      refine rp [.c (unpack_none (cut5 s2) (by omega) hu), .v, .v, .v, .v, .v, .v, .v] H5 kr fun gs6 w6 H6 => ?_
      show WPs _ _ _ _ [] _ _
      clear H5
      refine s_nil ?_
      refine g_keep [0, 1, 2, 6, 7, 8, 9, 10, 11] fun ρ1 => ?_
      have HK1 := H6.keep
      clear H6
      refine rS [.v, .c (unpackR_none (cut5 s2) (by omega) hu), .v, .v, .v, .v, .v, .v, .v] HK1 kr fun gs7 w7 H7 => ?_
      clear HK1
      refine g_seq kr ?_
      refine rS [.v, .v, .e (v := .bool (!(ByteArray.toList (⟨#[]⟩) == ByteArray.toList (⟨#[]⟩)))) (v' := .bool false) (bool_eq (by rw [str_self (⟨#[]⟩)]; rfl)), .v, .v, .v, .v, .v, .v, .v, .v, .v, .v, .v, .c alive_fn, .v, .v] H7 kr fun gs8 w8 H8 => ?_
      clear H7
      refine g_keep [0, 1, 2, 6, 7, 8, 9, 10, 11, 12, 13, 14, 53] fun ρ2 => ?_
      have HK2 := H8.keep
      clear H8
      refine g_cond_f kr kr ?_
      refine g_skip kr ?_
      show WP _ _ _ _ _ _
      refine g_seq kr ?_
      refine g_sreg [0, 1, 2] kr kr ?_
      refine rp [.v, .c (isPart_fn (cut5 s0) (by omega))] HK2 kr fun gs9 w9 H9 => ?_
      show WPs _ _ _ _ [2] _ _
      clear HK2
      refine s_now 55 (v := .bool (isP (tl (cut5 s0)))) (v' := .bool false) (bool_eq hpp) kr ?_
      refine rp [.v] H9 kr fun gs10 w10 H10 => ?_
      show WPs _ _ _ _ [] _ _
      clear H9
      refine s_nil ?_
      refine g_cond_t kr kr ?_
      refine rS [.v, .v, .v, .v, .e (v := .bool (ByteArray.toList (⟨#[]⟩) == ByteArray.toList (⟨#[]⟩))) (v' := .bool true) (bool_eq (str_self (⟨#[]⟩))), .v, .v] H10 kr fun gs11 w11 H11 => ?_
      clear H10
      refine g_ret kr ?_
      show ∃ vs, Res _ _ _ _ vs ∧ _
      refine ⟨[.bool true], (.tmp (.bool true) kr .nil), ?_, H11.below⟩
      rfl
    · skip
      have hxz : xz.length ≤ 2000 := by
              have h1 := congrArg List.length (upk_some hu).2
              rw [pk_len, tl_len] at h1
              omega
      refine rp [.c (unpack_some (cut5 s2) (by omega) xz ez hu), .v, .v, .v, .v, .v, .v, .v] H5 kr fun gs12 w12 H12 => ?_
      show WPs _ _ _ _ [] _ _
      clear H5
      refine s_nil ?_
      refine g_keep [0, 1, 2, 6, 7, 8, 9, 10, 11] fun ρ3 => ?_
      have HK3 := H12.keep
      clear H12
      refine rS [.v, .c (unpackR_some (cut5 s2) (by omega) xz ez hu), .v, .v, .v, .v, .v, .v, .v] HK3 kr fun gs13 w13 H13 => ?_
      clear HK3
      refine g_seq kr ?_
      refine rS [.v, .v, .e (v := .bool (!(ByteArray.toList (strB xz) == ByteArray.toList (strB xz)))) (v' := .bool false) (bool_eq (by rw [str_self (strB xz)]; rfl)), .v, .v, .v, .e (v := .bool (!(ez == ez))) (v' := .bool false) (bool_eq (by rw [beq_self_eq_true]; rfl)), .v, .v, .v, .v, .v, .v, .v, .c alive_fn, .v, .v] H13 kr fun gs14 w14 H14 => ?_
      clear H13
      refine g_keep [0, 1, 2, 6, 7, 8, 9, 10, 11, 12, 13, 14, 53] fun ρ4 => ?_
      have HK4 := H14.keep
      clear H14
      refine g_cond_f kr kr ?_
      refine g_skip kr ?_
      show WP _ _ _ _ _ _
      refine g_seq kr ?_
      refine g_sreg [0, 1, 2] kr kr ?_
      refine rp [.v, .c (isPart_fn (cut5 s0) (by omega))] HK4 kr fun gs15 w15 H15 => ?_
      show WPs _ _ _ _ [2] _ _
      clear HK4
      refine s_now 55 (v := .bool (isP (tl (cut5 s0)))) (v' := .bool false) (bool_eq hpp) kr ?_
      refine rp [.v] H15 kr fun gs16 w16 H16 => ?_
      show WPs _ _ _ _ [] _ _
      clear H15
      refine s_nil ?_
      refine g_cond_t kr kr ?_
      refine rS [.v, .v, .v, .v, .e (v := .bool (ByteArray.toList (⟨#[]⟩) == ByteArray.toList (⟨#[]⟩))) (v' := .bool true) (bool_eq (str_self (⟨#[]⟩))), .v, .v] H16 kr fun gs17 w17 H17 => ?_
      clear H16
      refine g_ret kr ?_
      show ∃ vs, Res _ _ _ _ vs ∧ _
      refine ⟨[.bool true], (.tmp (.bool true) kr .nil), ?_, H17.below⟩
      rfl
  · skip
    refine rp [.c (pack_yes (cut5 s0) (by omega) e hpp), .v, .v, .v, .v, .v] H3 kr fun gs18 w18 H18 => ?_
    show WPs _ _ _ _ [] _ _
    clear H3
    refine s_nil ?_
    refine g_sreg [0, 1, 2, 3, 4, 5, 6, 7, 8] kr kr ?_
    refine rp [.v] H18 kr fun gs19 w19 H19 => ?_
    show WPs _ _ _ _ [1, 2, 3, 4, 5, 6, 7, 8] _ _
    clear H18
    refine Or.elim (opt_two (upk (tl (cut5 s2)))) (fun hu => ?_) (fun ⟨xz, ez, hu⟩ => ?_)
    · skip
      refine rp [.c (unpack_none (cut5 s2) (by omega) hu), .v, .v, .v, .v, .v, .v, .v] H19 kr fun gs20 w20 H20 => ?_
      show WPs _ _ _ _ [] _ _
      clear H19
      refine s_nil ?_
      refine g_keep [0, 1, 2, 6, 7, 8, 9, 10, 11] fun ρ5 => ?_
      have HK5 := H20.keep
      clear H20
      refine rS [.v, .c (unpackR_none (cut5 s2) (by omega) hu), .v, .v, .v, .v, .v, .v, .v] HK5 kr fun gs21 w21 H21 => ?_
      clear HK5
      refine g_seq kr ?_
      refine rS [.v, .v, .e (v := .bool (!(ByteArray.toList (⟨#[]⟩) == ByteArray.toList (⟨#[]⟩)))) (v' := .bool false) (bool_eq (by rw [str_self (⟨#[]⟩)]; rfl)), .v, .v, .v, .v, .v, .v, .v, .v, .v, .v, .v, .c alive_fn, .v, .v] H21 kr fun gs22 w22 H22 => ?_
      clear H21
      refine g_keep [0, 1, 2, 6, 7, 8, 9, 10, 11, 12, 13, 14, 53] fun ρ6 => ?_
      have HK6 := H22.keep
      clear H22
      refine g_cond_f kr kr ?_
      refine g_skip kr ?_
      show WP _ _ _ _ _ _
      refine g_seq kr ?_
      refine g_sreg [0, 1, 2] kr kr ?_
      refine rp [.v, .c (isPart_fn (cut5 s0) (by omega))] HK6 kr fun gs23 w23 H23 => ?_
      show WPs _ _ _ _ [2] _ _
      clear HK6
      refine s_now 55 (v := .bool (isP (tl (cut5 s0)))) (v' := .bool true) (bool_eq hpp) kr ?_
      refine rp [.v] H23 kr fun gs24 w24 H24 => ?_
      show WPs _ _ _ _ [] _ _
      clear H23
      refine s_nil ?_
      refine g_cond_f kr kr ?_
      refine g_skip kr ?_
      show WP _ _ _ _ _ _
      refine rS [.v, .v, .v, .v, .v, .v, .c (packR_fn (cut5 s0) (by omega) e hpp), .e (v := .bool (ByteArray.toList (strB (pk (tl (cut5 s0)) e)) == ByteArray.toList (strB (pk (tl (cut5 s0)) e)))) (v' := .bool true) (bool_eq (str_self (strB (pk (tl (cut5 s0)) e)))), .v, .v] H24 kr fun gs25 w25 H25 => ?_
      clear H24
      refine g_ret kr ?_
      show ∃ vs, Res _ _ _ _ vs ∧ _
      refine ⟨[.bool true], (.tmp (.bool true) kr .nil), ?_, H25.below⟩
      rfl
    · skip
      have hxz : xz.length ≤ 2000 := by
              have h1 := congrArg List.length (upk_some hu).2
              rw [pk_len, tl_len] at h1
              omega
      refine rp [.c (unpack_some (cut5 s2) (by omega) xz ez hu), .v, .v, .v, .v, .v, .v, .v] H19 kr fun gs26 w26 H26 => ?_
      show WPs _ _ _ _ [] _ _
      clear H19
      refine s_nil ?_
      refine g_keep [0, 1, 2, 6, 7, 8, 9, 10, 11] fun ρ7 => ?_
      have HK7 := H26.keep
      clear H26
      refine rS [.v, .c (unpackR_some (cut5 s2) (by omega) xz ez hu), .v, .v, .v, .v, .v, .v, .v] HK7 kr fun gs27 w27 H27 => ?_
      clear HK7
      refine g_seq kr ?_
      refine rS [.v, .v, .e (v := .bool (!(ByteArray.toList (strB xz) == ByteArray.toList (strB xz)))) (v' := .bool false) (bool_eq (by rw [str_self (strB xz)]; rfl)), .v, .v, .v, .e (v := .bool (!(ez == ez))) (v' := .bool false) (bool_eq (by rw [beq_self_eq_true]; rfl)), .v, .v, .v, .v, .v, .v, .v, .c alive_fn, .v, .v] H27 kr fun gs28 w28 H28 => ?_
      clear H27
      refine g_keep [0, 1, 2, 6, 7, 8, 9, 10, 11, 12, 13, 14, 53] fun ρ8 => ?_
      have HK8 := H28.keep
      clear H28
      refine g_cond_f kr kr ?_
      refine g_skip kr ?_
      show WP _ _ _ _ _ _
      refine g_seq kr ?_
      refine g_sreg [0, 1, 2] kr kr ?_
      refine rp [.v, .c (isPart_fn (cut5 s0) (by omega))] HK8 kr fun gs29 w29 H29 => ?_
      show WPs _ _ _ _ [2] _ _
      clear HK8
      refine s_now 55 (v := .bool (isP (tl (cut5 s0)))) (v' := .bool true) (bool_eq hpp) kr ?_
      refine rp [.v] H29 kr fun gs30 w30 H30 => ?_
      show WPs _ _ _ _ [] _ _
      clear H29
      refine s_nil ?_
      refine g_cond_f kr kr ?_
      refine g_skip kr ?_
      show WP _ _ _ _ _ _
      refine rS [.v, .v, .v, .v, .v, .v, .c (packR_fn (cut5 s0) (by omega) e hpp), .e (v := .bool (ByteArray.toList (strB (pk (tl (cut5 s0)) e)) == ByteArray.toList (strB (pk (tl (cut5 s0)) e)))) (v' := .bool true) (bool_eq (str_self (strB (pk (tl (cut5 s0)) e)))), .v, .v] H30 kr fun gs31 w31 H31 => ?_
      clear H30
      refine g_ret kr ?_
      show ∃ vs, Res _ _ _ _ vs ∧ _
      refine ⟨[.bool true], (.tmp (.bool true) kr .nil), ?_, H31.below⟩
      rfl
theorem nibblePacks_at (s0 : ByteArray) (z0 : ByteArray.size s0 ≤ 9223372036854775807) (e : Bool) (s2 : ByteArray) (z2 : ByteArray.size s2 ≤ 9223372036854775807) : Fn Try.prog 4 #[.string s0, .bool e, .string s2] (.bool true) := nibblePacks_fn s0 e s2 z0 z2
end Go.Proofs.Ytafamhkdklkfiaa
