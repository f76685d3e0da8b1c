/-
  Texts of the proof, part 2.
-/
import Derived.Laws.CopyRow
import Derived.Laws.Concat
import Derived.Lib.BufferWrite
import Derived.Laws.IdiomStrings
import Derived.Lib.UnsafeStr
import Derived.Lib.AppendZeros
import Derived.Lib.Overlaps
import Derived.Scope
import Derived.Deep.Upon
import Derived.Test.YthpiojejhellhaaProg
import Derived.Test.YthpiojejhellhaaWW1

namespace Go.Proofs.Ythpiojejhellhaa
open Go Go.RowKit
set_option linter.unusedVariables false
/-- n cells, each by its number. -/
def arrF (n : Nat) (f : Nat → Value) : List Value := (List.range n).map f
theorem arrF_len (n : Nat) (f : Nat → Value) : (arrF n f).length = n := by unfold arrF; simp
theorem arrF_get {n : Nat} {f : Nat → Value} {k : Nat} (h : k < n) : (arrF n f)[k]? = some (f k) := by unfold arrF; simp [h]
theorem arrF_congr {n : Nat} {f g : Nat → Value} (h : ∀ j, j < n → f j = g j) : arrF n f = arrF n g := by
  unfold arrF; exact List.map_congr_left fun j hj => h j (by simpa using hj)
theorem arrF_set {n : Nat} {f g : Nat → Value} {k : Nat} {v : Value} (h : k < n) (hg : ∀ j, j < n → g j = if j = k then v else f j) : (arrF n f).set k v = arrF n g := by
  apply List.ext_getElem?
  intro j
  rw [List.getElem?_set]
  by_cases hj : j < n
  · rw [arrF_get hj, arrF_get hj, hg j hj]
    by_cases hkj : k = j
    · subst hkj; rw [if_pos rfl, if_pos (by rw [arrF_len]; exact hj), if_pos rfl]
    · rw [if_neg hkj, if_neg (fun e => hkj e.symm)]
  · have e1 : (arrF n f)[j]? = none := List.getElem?_eq_none (by rw [arrF_len]; omega)
    have e2 : (arrF n g)[j]? = none := List.getElem?_eq_none (by rw [arrF_len]; omega)
    rw [e1, e2, if_neg (by omega)]
theorem seg_at {C : Array Value} {pre post : List Value} {n : Nat} {f : Nat → Value} (hC : C.toList = pre ++ arrF n f ++ post) {off k : Nat} (ho : off = pre.length + k * 1) (hk : k < n) : C[off]? = some (f k) := by
  subst ho
  rw [← Array.getElem?_toList, hC, List.append_assoc, List.getElem?_append_right (by omega), show pre.length + k * 1 - pre.length = k by omega,
    List.getElem?_append_left (by rw [arrF_len]; exact hk), arrF_get hk]
theorem seg_put {C : Array Value} {pre post : List Value} {n : Nat} {f g : Nat → Value} (hC : C.toList = pre ++ arrF n f ++ post) {off k : Nat} {v : Value} (hv : v.cells = #[v]) (ho : off = pre.length + k * 1) (hk : k < n)
    (hg : ∀ j, j < n → g j = if j = k then v else f j) : (C.toList.take off ++ v.cells.toList ++ C.toList.drop (off + v.cells.size)).toArray = (pre ++ arrF n g ++ post).toArray := by
  subst ho
  congr 1
  have hlt : pre.length + k * 1 < C.toList.length := by rw [hC]; simp [arrF_len]; omega
  rw [hv]
  show List.take _ _ ++ [v] ++ List.drop (_ + 1) _ = _
  have e : List.take (pre.length + k * 1) C.toList ++ [v] ++ List.drop (pre.length + k * 1 + 1) C.toList = C.toList.set (pre.length + k * 1) v := by
    rw [List.set_eq_take_append_cons_drop, if_pos hlt, List.append_assoc]; rfl
  rw [e, hC, List.append_assoc, List.set_append_right _ _ (by omega), show pre.length + k * 1 - pre.length = k by omega, List.set_append_left _ _ (by rw [arrF_len]; exact hk), arrF_set hk hg, List.append_assoc]
theorem sadd_run {P : Program} {ρ : Env} {t t' : TypeId} {x y : Operand} {o : Oper} (a b : ByteArray) (w : World) (ho : o.op = .binOp .add t x y t') (hx : ev ρ x = .string a) (hy : ev ρ y = .string b) (h : a.size + b.size ≤ 9223372036854775807) :
    (execOp (ev ρ) o).run P w = .ok (.value (.string (a ++ b))) w := by
  unfold execOp
  simp [ho, hx, hy, eqGuard, binOp, run_string_add_sum w a b h]
theorem tl_add (a b : ByteArray) : tl (a ++ b) = tl a ++ tl b := by unfold tl; simp
theorem bv_not_u32 (x : BitVec 32) : Value.int .u32 (Go.bits .xor .u32 4294967295 ((BitVec.toNat x : Nat) : Int)) = .int .u32 ((BitVec.toNat (~~~x) : Nat) : Int) := by
  have h := bv_xor_u32 (4294967295 : BitVec 32) x
  have e : (4294967295 : BitVec 32) ^^^ x = ~~~x := by rw [show (4294967295 : BitVec 32) = BitVec.allOnes 32 from rfl, BitVec.allOnes_xor]
  rw [e] at h
  exact h
def copyOp (dT sT : TypeId) (x y : Operand) : Op := .call { callee := .builtin .copy, args := #[x, y], argTypes := #[dT, sT] }
/-- Bytes as cells. -/
def cellsB (l : List UInt8) : List Value := l.map fun b => Value.int .u8 ((b.toNat : Nat) : Int)
theorem cellsB_len (l : List UInt8) : (cellsB l).length = l.length := by unfold cellsB; simp
theorem cellsB_get (l : List UInt8) (i : Nat) (hi : i < l.length) : (cellsB l)[i]? = some (.int .u8 (((l.getD i 0).toNat : Nat) : Int)) := by
  unfold cellsB; simp [hi]
theorem copyStr_run {P : Program} {ρ : Env} {w : World} {dT sT e : TypeId} {bytes : Nat} {x y : Operand} {bd dLen dCap : Nat} {C C' : Array Value} {T : TypeId} {s : ByteArray}
    (ht : sliceOf P dT = some (e, 1, bytes)) (hx : ev ρ x = .slice (some ⟨bd, 0, none⟩) dLen dCap) (hy : ev ρ y = .string s)
    (hD : w.heap[bd]? = some (.cells C T (0, 0))) (hle : s.size ≤ dLen) (hfit : s.size ≤ C.size)
    (hC : (cellsB (tl s) ++ C.toList.drop s.size).toArray = C') (o : Oper) (ho : o.op = copyOp dT sT x y) : (execOp (ev ρ) o).run P w = .ok (.value (.int .i64 (s.size : Int))) (w.setRow bd C') := by
  obtain ⟨it, z, hu, hi, hz, hsz, hby, hzs, h0⟩ := sliceOf_spec ht
  have hs1 : (P.info? e).map (·.size) = some 1 := by rw [hi]; simp [hsz]
  have hr := Go.Lib.run_copy_row_string (P := P) w dT sT o.type e bd 0 dLen dCap s C T hu hs1 hD hle (by omega)
  rw [show C.toList.take 0 ++ Go.Lib.byteCells s.data.toList ++ C.toList.drop (0 + s.size) = cellsB (tl s) ++ C.toList.drop s.size by unfold tl cellsB Go.Lib.byteCells; simp, hC] at hr
  unfold execOp
  simp only [ho, copyOp, resolve, invoke, builtin, Sem.run_bind, Sem.run_pure, Result.andThen_ok, List.map_toArray, List.map_cons, List.map_nil, hx, hy, hr]
  rfl
/-- Bytes laid together as a text. -/
def strB (l : List UInt8) : ByteArray := ⟨l.toArray⟩
theorem tl_strB (l : List UInt8) : tl (strB l) = l := rfl
theorem strB_tl (s : ByteArray) : strB (tl s) = s := rfl
theorem strB_size (l : List UInt8) : (strB l).size = l.length := rfl
theorem strOfNums_map (l : List UInt8) : strOfNums (l.map fun b => ((b.toNat : Nat) : Int)) = strB l := by
  unfold strOfNums strB
  refine congrArg (fun l : List UInt8 => ByteArray.mk l.toArray) ?_
  rw [List.map_map]
  conv => rhs; rw [← List.map_id l]
  refine List.map_congr_left fun b _ => ?_
  apply UInt8.toNat_inj.1
  simp
/-- A row of bytes. -/
theorem Rw.atB {cur : Array Value} {cap n : Nat} {l : List UInt8} (h : Rw 1 cur cap n (cellsB l)) {i : Nat} (hi : i < n) (hn : n = l.length) : cur[0 + i * 1]? = some (.int .u8 (((l.getD i 0).toNat : Nat) : Int)) :=
  h.at1 hi (cellsB_get l i (by omega))
/-- Words of 32 bits as cells. -/
def cellsW (l : List (BitVec 32)) : List Value := l.map fun b => Value.int .u32 ((b.toNat : Nat) : Int)
theorem cellsW_get (l : List (BitVec 32)) (i : Nat) (hi : i < l.length) : (cellsW l)[i]? = some (.int .u32 (((l.getD i 0).toNat : Nat) : Int)) := by
  unfold cellsW; simp [hi]
theorem cellsB_zeros' (z : Nat) : cellsB (List.replicate z 0) = List.replicate z (.int .u8 0) := by unfold cellsB; rw [List.map_replicate]; rfl
theorem Rw.atW {cur : Array Value} {cap n : Nat} {l : List (BitVec 32)} (h : Rw 1 cur cap n (cellsW l)) {i : Nat} (hi : i < n) (hn : n = l.length) : cur[0 + i * 1]? = some (.int .u32 (((l.getD i 0).toNat : Nat) : Int)) :=
  h.at1 hi (cellsW_get l i (by omega))
theorem Rw.putG {cur : Array Value} {cap n : Nat} {xs : List Value} {x : Value} (hx : x.cells = #[x]) (h : Rw 1 cur cap n xs) (i : Nat) (hi : i < n) :
    ∃ cur', (cur.toList.take (0 + i * 1) ++ x.cells.toList ++ cur.toList.drop (0 + i * 1 + x.cells.size)).toArray = cur' ∧ (0 + i * 1 + x.cells.size ≤ cur.size) ∧ Rw 1 cur' cap n (xs.set i x) := by
  have hsz := h.sz; have hle := h.le
  have hlt : i < cur.toList.length := by simp; omega
  have e : cur.toList.take (0 + i * 1) ++ x.cells.toList ++ cur.toList.drop (0 + i * 1 + x.cells.size) = cur.toList.set i x := by
    rw [hx, Nat.zero_add, Nat.mul_one, List.set_eq_take_append_cons_drop, if_pos hlt]
    simp
  refine ⟨_, rfl, by rw [hx]; simp; omega, ?_⟩
  rw [e]
  refine ⟨?_, h.le, h.max, ?_, by simpa using hsz⟩
  · have := h.len; simpa using this
  · have := h.take
    simp only [List.take_set, Nat.mul_one] at this ⊢
    rw [this]
theorem Rw.putW {cur : Array Value} {cap n : Nat} {l : List (BitVec 32)} (h : Rw 1 cur cap n (cellsW l)) (i : Nat) (v : BitVec 32) (hi : i < n) :
    ∃ cur', (cur.toList.take (0 + i * 1) ++ (Value.int .u32 ((v.toNat : Nat) : Int)).cells.toList ++ cur.toList.drop (0 + i * 1 + (Value.int .u32 ((v.toNat : Nat) : Int)).cells.size)).toArray = cur' ∧ (0 + i * 1 + (Value.int .u32 ((v.toNat : Nat) : Int)).cells.size ≤ cur.size) ∧ Rw 1 cur' cap n (cellsW (l.set i v)) := by
  obtain ⟨c, h1, h2, h3⟩ := Rw.putG (x := Value.int .u32 ((v.toNat : Nat) : Int)) rfl h i hi
  exact ⟨c, h1, h2, by unfold cellsW at h3 ⊢; rw [List.map_set]; exact h3⟩
theorem Rw.putB {cur : Array Value} {cap n : Nat} {l : List UInt8} (h : Rw 1 cur cap n (cellsB l)) (i : Nat) (v : UInt8) (hi : i < n) :
    ∃ cur', (cur.toList.take (0 + i * 1) ++ (Value.int .u8 ((v.toNat : Nat) : Int)).cells.toList ++ cur.toList.drop (0 + i * 1 + (Value.int .u8 ((v.toNat : Nat) : Int)).cells.size)).toArray = cur' ∧ (0 + i * 1 + (Value.int .u8 ((v.toNat : Nat) : Int)).cells.size ≤ cur.size) ∧ Rw 1 cur' cap n (cellsB (l.set i v)) := by
  have h1 : (Value.int .u8 ((v.toNat : Nat) : Int)).cells = #[.int .u8 ((v.toNat : Nat) : Int)] := rfl
  have hsz := h.sz; have hle := h.le
  have hlt : i < cur.toList.length := by simp; omega
  have e : cur.toList.take (0 + i * 1) ++ (Value.int .u8 ((v.toNat : Nat) : Int)).cells.toList ++ cur.toList.drop (0 + i * 1 + (Value.int .u8 ((v.toNat : Nat) : Int)).cells.size) = cur.toList.set i (.int .u8 ((v.toNat : Nat) : Int)) := by
    rw [h1, Nat.zero_add, Nat.mul_one, List.set_eq_take_append_cons_drop, if_pos hlt]
    simp
  refine ⟨_, rfl, by rw [h1]; simp; omega, ?_⟩
  rw [e]
  refine ⟨?_, h.le, h.max, ?_, by simpa using hsz⟩
  · have := h.len; unfold cellsB at this ⊢; simpa using this
  · have := h.take
    simp only [List.take_set, Nat.mul_one] at this ⊢
    rw [this]; unfold cellsB; simp [List.map_set]
theorem Rw.ints {cur : Array Value} {cap n : Nat} {l : List UInt8} (h : Rw 1 cur cap n (cellsB l)) : Rw 1 cur cap n ((l.map fun b => ((b.toNat : Nat) : Int)).map (Value.int .u8)) := by
  rw [List.map_map]; exact h
/-- An array of zeros. -/
def zeroV (k : IntKind) (n : Nat) : Value := .agg (Array.replicate n (.int k 0))
/-- An array of bytes by their places. -/
def arrB (n : Nat) (f : Nat → BitVec 8) : Value := .agg (arrF n fun j => .int .u8 ((BitVec.toNat (f j) : Nat) : Int)).toArray
section
variable {P : Program} {N : Nat} {ops : Array Oper} {i : Nat} {r : List Nat} {K : Env → World → Prop} {ρ : Env} {w : World} {B : Nat} {w0 : World} {l : List (Nat × Obj)}
theorem s_copyStr (HS : St B w0 w l) (d : Option Nat) (dT sT e bytes : Nat) (x y : Operand) (jd bd dLen dCap : Nat) (s : ByteArray) (C C' : Array Value) (T : TypeId) (l' : List (Nat × Obj))
    (h : opk ops i ρ = some (d, true, copyOp dT sT x y)) (hd : dOK d N = true) (ht : sliceOf P dT = some (e, 1, bytes)) (hx : ev ρ x = .slice (some ⟨bd, 0, none⟩) dLen dCap) (hy : ev ρ y = .string s)
    (hj : l[jd]? = some (bd, .cells C T (0, 0))) (hle : s.size ≤ dLen) (hfit : s.size ≤ C.size)
    (hC : (cellsB (tl s) ++ C.toList.drop s.size).toArray = C') (hl' : l.set jd (bd, .cells C' T (0, 0)) = l') (kk : ∀ w', St B w0 w' l' → WPs P N ops K r (updO ρ d (.int .i64 (s.size : Int))) w') : WPs P N ops K (i :: r) ρ w := by
  subst hl'
  exact s_genw d _ _ _ h hd (copyStr_run ht hx hy (HS.get jd hj) hle hfit hC) (kk _ (HS.store jd hj))
/-- 'string(b)', of bytes in a block of the list. -/
theorem s_bytesStrB (HS : St B w0 w l) (d : Option Nat) (t t' e : TypeId) (x : Operand) (j b n cap : Nat) (cur : Array Value) (T : TypeId) (fz : Nat × Nat) (xs : List UInt8) (h : opk ops i ρ = some (d, true, .convert t t' x)) (hd : dOK d N = true)
    (ht : P.underlying t = some (.slice e)) (he : P.underlying e = some (.int .u8)) (ht' : P.underlying t' = some .string)
    (hx : ev ρ x = .slice (some ⟨b, 0, none⟩) n cap) (hj : l[j]? = some (b, .cells cur T fz)) (hr : Rw 1 cur cap n (cellsB xs))
    (kk : WPs P N ops K r (updO ρ d (.string (strB xs))) w) : WPs P N ops K (i :: r) ρ w :=
  s_bytesStr HS d t t' e x j b n cap cur T fz _ h hd ht he ht' hx hj hr.ints (by rw [strOfNums_map]; exact kk)
end
namespace D2
section
variable {P : Program} {ops : Array Oper} {R : (Nat → Gh) → Env} {i : Nat} {d : Option Nat}
variable {E : (Nat → Bool) → (Nat → Gh) → List Ent} {F : (Nat → Bool) → (Nat → Gh) → Prop} {B : Nat} {w0 : World}
end
end D2
end Go.Proofs.Ythpiojejhellhaa

namespace Go.Proofs.Ythpiojejhellhaa
open Go Go.RowKit
set_option linter.unusedVariables false
/-- No cell of the row is frozen. -/
def Clr (fz : Nat × Nat) (cur : Array Value) : Prop := fz.2 = 0 ∨ cur.size ≤ fz.1
theorem Clr.zero (cur : Array Value) : Clr (0, 0) cur := .inl rfl
theorem Clr.no {fz : Nat × Nat} {cur : Array Value} (h : Clr fz cur) {w : World} {g k : Nat} {t : TypeId} (hg : w.heap[g]? = some (.cells cur t fz)) (hk : k < cur.size) : w.frozen? ⟨g, k, none⟩ = false := by
  obtain ⟨lo, hi⟩ := fz
  simp only [World.frozen?, hg, Bool.and_eq_false_iff, decide_eq_false_iff_not]
  rcases h with h | h
  · right; simp only at h; omega
  · left; simp only at h; omega
theorem run_storeCells_atM (P : Program) (g o : Nat) (t : TypeId) (fz : Nat × Nat) : ∀ (vs : List Value) (i : Nat) (cur : Array Value) (w : World), w.heap[g]? = some (.cells cur t fz) → o + i + vs.length ≤ cur.size → Clr fz cur → (∀ v ∈ vs, v.oneCell' = true) →
    (storeCells ⟨g, o, none⟩ vs i).run P w = .ok () (w.setRow g (cur.toList.take (o + i) ++ vs ++ cur.toList.drop (o + i + vs.length)).toArray)
  | [], i, cur, w, hg, _, _, _ => by
    simp only [storeCells, List.append_nil, List.length_nil, Nat.add_zero, List.take_append_drop, Array.toArray_toList]
    rw [setRow_self w g cur t fz hg]
    rfl
  | v :: rest, i, cur, w, hg, hl, hfz, h1 => by
    have hi : o + i < cur.size := by simp at hl; omega
    have hadd : (⟨g, o, none⟩ : Addr).add i = ⟨g, o + i, none⟩ := by unfold Addr.add; split <;> simp_all
    have hcell : w.cell? ⟨g, o + i, none⟩ = some cur[o + i] := by simp [World.cell?, hg, hi]
    have hfro : w.frozen? ⟨g, o + i, none⟩ = false := hfz.no hg hi
    have hst : (store ((⟨g, o, none⟩ : Addr).add i) v).run P w = .ok () (w.setRow g (cur.setIfInBounds (o + i) v)) := by
      rw [hadd, run_store P w _ v _ (h1 v (by simp)), hcell]
      simp [hfro, setCell_eq_setRow w g (o + i) cur t fz v hg]
    have ih := run_storeCells_atM P g o t fz rest (i + 1) (cur.setIfInBounds (o + i) v) (w.setRow g (cur.setIfInBounds (o + i) v)) (setRow_heap w g cur _ t _ hg) (by simp at hl ⊢; omega) (by unfold Clr at hfz ⊢; simpa using hfz) (fun x hx => h1 x (by simp [hx]))
    simp only [storeCells, Sem.run_bind, hst, Result.andThen_ok, ih, setRow_setRow]
    congr 3
    have e := list_seg_step cur.toList (o + i) v rest (by simp at hl ⊢; omega)
    simpa [Array.toList_setIfInBounds, Nat.add_assoc] using e
section
variable {P : Program} {N : Nat} {ops : Array Oper} {i : Nat} {r : List Nat} {K : Env → World → Prop} {ρ : Env} {w : World} {B : Nat} {w0 : World} {l : List (Nat × Obj)}
end
namespace D2
section
variable {P : Program} {ops : Array Oper} {R : (Nat → Gh) → Env} {i : Nat} {d : Option Nat}
variable {E : (Nat → Bool) → (Nat → Gh) → List Ent} {F : (Nat → Bool) → (Nat → Gh) → Prop} {B : Nat} {w0 : World}
end
end D2
end Go.Proofs.Ythpiojejhellhaa

namespace Go.Proofs.Ythpiojejhellhaa
open Go Go.RowKit
set_option linter.unusedVariables false
/-- Texts as cells. -/
def cellsS (l : List ByteArray) : List Value := l.map Value.string
theorem cellsS_append (a b : List ByteArray) : cellsS (a ++ b) = cellsS a ++ cellsS b := by unfold cellsS; simp
theorem cellsS_get (l : List ByteArray) (i : Nat) (hi : i < l.length) : (cellsS l)[i]? = some (.string (l.getD i .empty)) := by
  unfold cellsS; simp [hi]
theorem Rw.atS {cur : Array Value} {cap n : Nat} {l : List ByteArray} (h : Rw 1 cur cap n (cellsS l)) {i : Nat} (hi : i < n) (hn : n = l.length) : cur[0 + i * 1]? = some (.string (l.getD i .empty)) :=
  h.at1 hi (cellsS_get l i (by omega))
theorem toList_eq (s : ByteArray) : s.toList = tl s := ByteArray.toList_eq s
theorem str_same (a b : ByteArray) (h : a = b) : (a.toList == b.toList) = true := by subst h; exact str_self a
theorem str_other (a b : ByteArray) (h : ¬ a = b) : (a.toList == b.toList) = false := by
  rw [beq_eq_false_iff_ne]
  intro e
  rw [toList_eq, toList_eq] at e
  exact h (by rw [← strB_tl a, e, strB_tl])
theorem tl_inj {a b : ByteArray} (h : tl a = tl b) : a = b := by rw [← strB_tl a, h, strB_tl]
/-- A row of texts, or none: what a value is. -/
def RetT (T : Nat) (S : List ByteArray → Nat → Prop) : Nat → Value → World → Prop := fun B v w' =>
  ∃ (rs : List ByteArray) (p : Nat), S rs p ∧ ((rs = [] ∧ v = .tuple #[.slice none 0 0, .int .i64 ((p : Nat) : Int)]) ∨
    ∃ (b cap n : Nat) (cur : Array Value), v = .tuple #[.slice (some ⟨b, 0, none⟩) n cap, .int .i64 ((p : Nat) : Int)] ∧ B ≤ b ∧ w'.heap[b]? = some (.cells cur T (0, 0)) ∧ n = rs.length ∧ Rw 1 cur cap n (cellsS rs))
section
variable {P : Program} {N : Nat} {ops : Array Oper} {i : Nat} {r : List Nat} {K : Env → World → Prop} {ρ : Env} {w : World} {B : Nat} {w0 : World} {l : List (Nat × Obj)}
/-- 'append(nil, x...)'. -/
theorem s_appendNil (HS : St B w0 w l) (d : Option Nat) (t e : TypeId) (size bytes : Nat) (s x : Operand) (k bx m c : Nat) (CX : Array Value) (TX : TypeId) (fz : Nat × Nat) (news : List Value)
    (h : opk ops i ρ = some (d, true, appendOp t s x)) (hd : dOK d N = true) (ht : sliceOf P t = some (e, size, bytes))
    (hs : ev ρ s = .slice none 0 0) (hx : ev ρ x = .slice (some ⟨bx, 0, none⟩) m c) (hk : l[k]? = some (bx, .cells CX TX fz)) (hn : CX.toList.take (m * size) = news) (hl : news.length = m * size) (h1 : ∀ u ∈ news, u.oneCell' = true)
    (h0m : 0 < m) (hb : m * bytes ≤ 140737488355328) (hm : m ≤ maxLen)
    (kk : ∀ b' cap' cur' w', St B w0 w' ((b', .cells cur' e (0, 0)) :: l) → Rw size cur' cap' m news → WPs P N ops K r (updO ρ d (.slice (some ⟨b', 0, none⟩) m cap')) w') : WPs P N ops K (i :: r) ρ w := by
  obtain ⟨o, ho, rfl, hw, hop⟩ := opk_some h
  obtain ⟨it, z, hu, hi, hz, hsz, hby, hzs, h0⟩ := sliceOf_spec ht
  have hnews : ∀ q u, news[q]? = some u → w.cell? ((⟨bx, 0, none⟩ : Addr).add q) = some u := fun q u hq => by
    have hql : q < m * size := by rw [← hl]; exact (List.getElem?_eq_some_iff.1 hq).1
    rw [← hn, List.getElem?_take, if_pos hql, Array.getElem?_toList] at hq
    rw [addr_add, Nat.zero_add]
    simp [World.cell?, HS.get k hk, hq]
  obtain ⟨v', w', hrun, hown, hgr, hnil, hblk⟩ := run_append_own_at (P := P) w B t o.type e it z size bytes hu hi hz hsz hby hzs h0 (.slice none 0 0) 0 [] (World.ownsRow_nil w B e size) ⟨bx, 0, none⟩ m c news hl hnews h1 (by omega) (by rw [Nat.zero_add]; exact hb) HS.le
  have hown' := hown
  rcases hown'.2 with ⟨hv, _⟩ | ⟨g, cap', cur', rfl, hbg, hg, hnc, hcm, hcs, htk⟩
  · have := (hnil.1 hv).2; omega
  · have hgb : g = w.heap.size := by
      rcases hblk with hq | hq
      · simp [Value.ownBlock] at hq
      · injection hq
    have hbel : Below w.heap.size w w' := (Below.refl _ w).grown hgr (Nat.le_refl _) (fun k hk => by simp [Value.ownBlock] at hk)
    have HS' := HS.add hbel (by omega) hg
    refine WPo.run ho hw fun a ha => ?_
    have hex : (execOp (ev ρ) o).run P w = .ok (.value (.slice (some ⟨g, 0, none⟩) (0 + m) cap')) w' := by
      unfold execOp
      simp only [hop, appendOp, resolve, invoke, builtin, Sem.run_bind, Sem.run_pure, Result.andThen_ok, List.map_toArray, List.map_cons, List.map_nil, hs, hx, hrun]
    rw [hex, Oper.upon_value, Nat.zero_add]
    rw [Nat.zero_add] at hnc htk
    have hr : Rw size cur' cap' m news := ⟨hl, hnc, hcm, htk, hcs⟩
    exact ⟨_, ha.put _ (dOK_lt hd) _, kk g cap' cur' w' HS' hr⟩
def unsafeOp (t t' : TypeId) (x y : Operand) : Op := .call { callee := .builtin .unsafeString, args := #[x, y], argTypes := #[t, t'] }
/-- 'unsafe.String(&b[0], len(b))': the bytes of a row of the call's own, which is laid aside. -/
theorem s_unsafeStr {b : Nat} {C : Array Value} {T : TypeId} (HS : St B w0 w [(b, .cells C T (0, 0))]) (d : Option Nat) (t t' e : TypeId) (x y : Operand) (n cap : Nat) (xs : List UInt8)
    (h : opk ops i ρ = some (d, true, unsafeOp t t' x y)) (hd : dOK d N = true) (ht : P.underlying t = some (.pointer e)) (hc : P.cellsOf e = 1) (hT : T = e)
    (hx : ev ρ x = .pointer (some ⟨b, 0, none⟩)) (hy : ev ρ y = .int .i64 (n : Int)) (hr : Rw 1 C cap n (cellsB xs)) (h0 : 0 < n) (hm : n ≤ 9223372036854775807)
    (kk : ∀ w', St B w0 w' [] → WPs P N ops K r (updO ρ d (.string (strB xs))) w') : WPs P N ops K (i :: r) ρ w := by
  obtain ⟨o, ho, rfl, hw, hop⟩ := opk_some h
  subst hT
  have hb := HS.get 0 rfl
  have hB := HS.ge 0 rfl
  have hlen : xs.length = n := by have := hr.len; rw [cellsB_len] at this; omega
  have hsz := hr.sz
  have hle := hr.le
  have hrun := Lib.run_unsafeString_row (P := P) w t t' o.type T ht hc b C.size (by unfold World.shape?; rw [hb]) xs (by intro e; subst e; simp at hlen; omega) (by omega) (by omega) (fun j u hj => by
    have hjl : j < xs.length := (List.getElem?_eq_some_iff.1 hj).1
    have h2 := hr.get j (by omega)
    rw [addr_add, Nat.zero_add]
    have h3 : (cellsB xs)[j]? = some (.int .u8 ((u.toNat : Nat) : Int)) := by unfold cellsB; rw [List.getElem?_map, hj]; rfl
    simp [World.cell?, hb, h2, h3])
  rw [hlen] at hrun
  refine WPo.run ho hw fun a ha => ?_
  have hex : (execOp (ev ρ) o).run P w = .ok (.value (.string (strB xs))) (w.freeze ⟨b, 0, none⟩ n) := by
    unfold execOp
    simp only [hop, unsafeOp, resolve, invoke, builtin, Sem.run_bind, Sem.run_pure, Result.andThen_ok, List.map_toArray, List.map_cons, List.map_nil, hx, hy, hrun]
    rfl
  rw [hex, Oper.upon_value]
  have hbel := Lib.below_freeze HS.below (p := ⟨b, 0, none⟩) hB n
  refine ⟨_, ha.put _ (dOK_lt hd) _, kk _ ⟨hbel, Nat.le_trans HS.le ?_, (fun e he => nomatch he), List.nodup_nil⟩⟩
  unfold World.freeze
  split <;> simp
/-- A row that the caller laid: parts, places, loads. -/
theorem cutG_run {t e : TypeId} {size bytes : Nat} (ht : sliceOf P t = some (e, size, bytes)) {x y : Operand} {o : Oper} {kd : IntKind} (a : Addr) (n c k : Nat) (ho : o.op = .slice t x none (some y) none) (hx : ev ρ x = .slice (some a) n c) (hy : ev ρ y = .int kd (k : Int)) (hk : k ≤ c) :
    ∀ w, (execOp (ev ρ) o).run P w = .ok (.value (.slice (some a) k c)) w := fun w => by
  obtain ⟨it, z, hu, hi, hz, hsz, hby, hzs, h0⟩ := sliceOf_spec ht
  have hS : (sizeOf e).run P w = .ok size w := by simp [sizeOf, typeInfo, hi, hsz]
  have ha : a.add 0 = a := rfl
  unfold execOp
  simp [ho, hx, hy, Instr.sliceAt, Instr.slice, Instr.sliceBounds, Instr.sliceBound, asIntOf, run_underlying hu, hS, hk, ha]
end
end Go.Proofs.Ythpiojejhellhaa

namespace Go.Proofs.Ythpiojejhellhaa
open Go Go.RowKit
set_option linter.unusedVariables false
/-- Lists of nodes: the first one's own, what is in it; the others. -/
inductive Fr (α : Type)
  | nil
  | cons (a : α) (k r : Fr α)
/-- A shape: how many cells, those but the last, what is known of each; how many at most. -/
structure Sh (α : Type) where
  K : Nat
  hd : α → List Value
  ok : α → Prop
  mx : Nat
  len : ∀ a, (hd a).length + 1 = K
  one : ∀ a, ∀ u ∈ hd a, u.oneCell' = true
section
variable {α : Type} {S : Sh α}
def Fr.len : Fr α → Nat
  | .nil => 0
  | .cons _ _ r => r.len + 1
/-- The one at a place, or none. -/
def Fr.at : Fr α → Nat → Option (α × Fr α)
  | .nil, _ => none
  | .cons a k _, 0 => some (a, k)
  | .cons _ _ r, i + 1 => r.at i
theorem Fr.at_none : ∀ {k : Fr α} {i : Nat}, k.len ≤ i → k.at i = none
  | .nil, _, _ => rfl
  | .cons _ _ r, 0, h => by simp only [Fr.len] at h; omega
  | .cons _ _ r, i + 1, h => Fr.at_none (k := r) (by simp only [Fr.len] at h; omega)
def FrAt (S : Sh α) (B : Nat) (w : World) : Fr α → Nat → Nat → Prop
  | .nil, _, _ => True
  | .cons a k r, b, off => (∃ (C : Array Value) (T : TypeId) (fz : Nat × Nat) (p : Option Addr) (n c : Nat), b < B ∧ w.heap[b]? = some (.cells C T fz) ∧ off + S.K ≤ C.size ∧
      C.extract off (off + S.K) = (S.hd a ++ [Value.slice p n c]).toArray ∧ S.ok a ∧ n = k.len ∧ n ≤ S.mx ∧ (k = .nil ∨ ∃ b' off', p = some ⟨b', off', none⟩ ∧ FrAt S B w k b' off')) ∧ FrAt S B w r b (off + S.K)
/-- The list lies where a slice says. -/
def SlR (S : Sh α) (B : Nat) (w : World) (p : Option Addr) (n : Nat) (k : Fr α) : Prop := n = k.len ∧ n ≤ S.mx ∧ (k = .nil ∨ ∃ b off, p = some ⟨b, off, none⟩ ∧ FrAt S B w k b off)
/-- What is left of it from element i on. -/
def FrR (S : Sh α) (B : Nat) (w : World) (p : Option Addr) (i : Nat) (r : Fr α) : Prop := r = .nil ∨ ∃ b off, p = some ⟨b, off, none⟩ ∧ FrAt S B w r b (off + i * S.K)
theorem FrAt.up {B B' : Nat} {w w' : World} (hb : Below B w w') (hB : B ≤ B') : ∀ {k : Fr α} {b off : Nat}, FrAt S B w k b off → FrAt S B' w' k b off
  | .nil, _, _, _ => trivial
  | .cons a k r, b, off, ⟨⟨C, T, fz, p, n, c, h1, h2, h3, h4, h5, h6, h7, h8⟩, h9⟩ =>
    ⟨⟨C, T, fz, p, n, c, Nat.lt_of_lt_of_le h1 hB, by rw [hb.block b h1]; exact h2, h3, h4, h5, h6, h7, h8.imp id fun ⟨b', o', e, h⟩ => ⟨b', o', e, FrAt.up hb hB h⟩⟩, FrAt.up hb hB h9⟩
theorem SlR.up {B B' : Nat} {w w' : World} {p : Option Addr} {n : Nat} {k : Fr α} (h : SlR S B w p n k) (hb : Below B w w') (hB : B ≤ B') : SlR S B' w' p n k :=
  ⟨h.1, h.2.1, h.2.2.imp id fun ⟨b, o, e, h⟩ => ⟨b, o, e, h.up hb hB⟩⟩
theorem SlR.call {w0 w : World} {p : Option Addr} {n : Nat} {k : Fr α} (h : SlR S w0.heap.size w0 p n k) (hb : Below w0.heap.size w0 w) : SlR S w.heap.size w p n k := h.up hb hb.size
theorem SlR.nil (B : Nat) (w : World) (p : Option Addr) : SlR S B w p 0 .nil := ⟨rfl, by omega, .inl rfl⟩
theorem SlR.zero {B : Nat} {w : World} {p : Option Addr} {n : Nat} {k : Fr α} (h : SlR S B w p n k) (h0 : n = 0) : k = .nil := by
  cases k with
  | nil => rfl
  | cons a k r => have := h.1; simp only [Fr.len] at this; omega
theorem SlR.start {B : Nat} {w : World} {p : Option Addr} {n : Nat} {k : Fr α} (h : SlR S B w p n k) : FrR S B w p 0 k :=
  h.2.2.imp id fun ⟨b, o, e, h⟩ => ⟨b, o, e, by rw [Nat.zero_mul, Nat.add_zero]; exact h⟩
theorem FrR.open {B : Nat} {w : World} {p : Option Addr} {i n : Nat} {r : Fr α} (h : FrR S B w p i r) (hn : i + r.len = n) (hi : i < n) :
    ∃ a k r' b off C T fz p' n' c', r = .cons a k r' ∧ p = some ⟨b, off, none⟩ ∧ b < B ∧ w.heap[b]? = some (.cells C T fz) ∧ off + i * S.K + S.K ≤ C.size ∧
      C.extract (off + i * S.K) (off + i * S.K + S.K) = (S.hd a ++ [Value.slice p' n' c']).toArray ∧ S.ok a ∧ SlR S B w p' n' k ∧ FrR S B w p (i + 1) r' ∧ i + 1 + r'.len = n := by
  cases r with
  | nil => simp only [Fr.len] at hn; omega
  | cons a k r' =>
    rcases h with h | ⟨b, off, e, ⟨C, T, fz, p', n', c', h1, h2, h3, h4, h5, h6, h7, h8⟩, h9⟩
    · cases h
    · refine ⟨a, k, r', b, off, C, T, fz, p', n', c', rfl, e, h1, h2, h3, h4, h5, ⟨h6, h7, h8⟩, .inr ⟨b, off, e, ?_⟩, ?_⟩
      · rw [show off + (i + 1) * S.K = off + i * S.K + S.K by rw [Nat.succ_mul]; omega]; exact h9
      · simp only [Fr.len] at hn; omega
theorem FrR.done {i n : Nat} {r : Fr α} (hn : i + r.len = n) (hi : ¬ i < n) : r = .nil := by
  cases r with
  | nil => rfl
  | cons a k r' => simp only [Fr.len] at hn; omega
/-- The element at a place. -/
theorem FrAt.at {B : Nat} {w : World} : ∀ {k : Fr α} {b off i : Nat} {a : α} {q : Fr α}, FrAt S B w k b off → k.at i = some (a, q) → ∃ C T fz p n c, b < B ∧ w.heap[b]? = some (.cells C T fz) ∧ off + i * S.K + S.K ≤ C.size ∧
      C.extract (off + i * S.K) (off + i * S.K + S.K) = (S.hd a ++ [Value.slice p n c]).toArray ∧ S.ok a ∧ SlR S B w p n q
  | .cons a0 k0 r, b, off, 0, a, q, ⟨⟨C, T, fz, p, n, c, h1, h2, h3, h4, h5, h6, h7, h8⟩, h9⟩, hi => by
    obtain ⟨rfl, rfl⟩ : a0 = a ∧ k0 = q := by simp only [Fr.at, Option.some.injEq, Prod.mk.injEq] at hi; exact hi
    rw [Nat.zero_mul, Nat.add_zero]
    exact ⟨C, T, fz, p, n, c, h1, h2, h3, h4, h5, h6, h7, h8⟩
  | .cons a0 k0 r, b, off, i + 1, a, q, ⟨_, h9⟩, hi => by
    obtain ⟨C, T, fz, p, n, c, h⟩ := FrAt.at h9 hi
    rw [show off + S.K + i * S.K = off + (i + 1) * S.K by rw [Nat.succ_mul]; omega] at h
    exact ⟨C, T, fz, p, n, c, h⟩
theorem Fr.at_some : ∀ {k : Fr α} {i : Nat}, i < k.len → ∃ a q, k.at i = some (a, q)
  | .cons a k r, 0, _ => ⟨a, k, rfl⟩
  | .cons a k r, i + 1, h => Fr.at_some (k := r) (by simp only [Fr.len] at h; omega)
/-! ### In blocks of a list -/
def LyR (S : Sh α) (T : List (Nat × Obj)) : Fr α → Nat → Nat → Prop
  | .nil, _, _ => True
  | .cons a k r, b, off => (∃ (C : Array Value) (ty : TypeId) (fz : Nat × Nat) (p : Option Addr) (n c : Nat), (b, Obj.cells C ty fz) ∈ T ∧ off + S.K ≤ C.size ∧
      C.extract off (off + S.K) = (S.hd a ++ [Value.slice p n c]).toArray ∧ S.ok a ∧ n = k.len ∧ n ≤ S.mx ∧ (k = .nil ∨ ∃ b' off', p = some ⟨b', off', none⟩ ∧ LyR S T k b' off')) ∧ LyR S T r b (off + S.K)
def RIn (S : Sh α) (T : List (Nat × Obj)) (p : Option Addr) (n : Nat) (k : Fr α) : Prop := n = k.len ∧ n ≤ S.mx ∧ (k = .nil ∨ ∃ b off, p = some ⟨b, off, none⟩ ∧ LyR S T k b off)
theorem LyR.mono {T T' : List (Nat × Obj)} (h : ∀ e ∈ T, e ∈ T') : ∀ {k : Fr α} {b off : Nat}, LyR S T k b off → LyR S T' k b off
  | .nil, _, _, _ => trivial
  | .cons a k r, b, off, ⟨⟨C, ty, fz, p, n, c, h1, h2, h3, h4, h5, h6, h7⟩, h8⟩ => ⟨⟨C, ty, fz, p, n, c, h _ h1, h2, h3, h4, h5, h6, h7.imp id fun ⟨b', o', e, q⟩ => ⟨b', o', e, LyR.mono h q⟩⟩, LyR.mono h h8⟩
theorem RIn.mono {T T' : List (Nat × Obj)} {p : Option Addr} {n : Nat} {k : Fr α} (hs : RIn S T p n k) (h : ∀ e ∈ T, e ∈ T') : RIn S T' p n k :=
  ⟨hs.1, hs.2.1, hs.2.2.imp id fun ⟨b, o, e, q⟩ => ⟨b, o, e, q.mono h⟩⟩
theorem RIn.none (T : List (Nat × Obj)) (p : Option Addr) : RIn S T p 0 .nil := ⟨rfl, by omega, .inl rfl⟩
theorem LyR.at {B : Nat} {w0 w : World} {l T : List (Nat × Obj)} (hS : St B w0 w l) (h : ∀ e ∈ T, e ∈ l) : ∀ {k : Fr α} {b off : Nat}, LyR S T k b off → FrAt S w.heap.size w k b off
  | .nil, _, _, _ => trivial
  | .cons a k r, b, off, ⟨⟨C, ty, fz, p, n, c, h1, h2, h3, h4, h5, h6, h7⟩, h8⟩ =>
    have hh := (hS.own _ (h _ h1)).2
    ⟨⟨C, ty, fz, p, n, c, lt_of_heap hh, hh, h2, h3, h4, h5, h6, h7.imp id fun ⟨b', o', e, q⟩ => ⟨b', o', e, LyR.at hS h q⟩⟩, LyR.at hS h h8⟩
theorem RIn.at {B : Nat} {w0 w : World} {l T : List (Nat × Obj)} {p : Option Addr} {n : Nat} {k : Fr α} (hs : RIn S T p n k) (hS : St B w0 w l) (h : ∀ e ∈ T, e ∈ l) : SlR S w.heap.size w p n k :=
  ⟨hs.1, hs.2.1, hs.2.2.imp id fun ⟨b, o, e, q⟩ => ⟨b, o, e, q.at hS h⟩⟩
/-! ### Rows of such structs -/
structure El (α : Type) where
  a : α
  p : Option Addr
  n : Nat
  c : Nat
  k : Fr α
def El.cs (S : Sh α) (x : El α) : List Value := S.hd x.a ++ [Value.slice x.p x.n x.c]
def cellsE (S : Sh α) : List (El α) → List Value
  | [] => []
  | x :: r => x.cs S ++ cellsE S r
def toFr : List (El α) → Fr α
  | [] => .nil
  | x :: r => .cons x.a x.k (toFr r)
theorem toFr_len : ∀ L : List (El α), (toFr L).len = L.length
  | [] => rfl
  | x :: r => by simp only [toFr, Fr.len, List.length_cons, toFr_len r]
theorem El.cs_len (x : El α) : (x.cs S).length = S.K := by
  unfold El.cs; rw [List.length_append]; exact S.len x.a
theorem El.cs_one (x : El α) : ∀ u ∈ x.cs S, u.oneCell' = true := fun u hu => by
  rcases List.mem_append.1 hu with h | h
  · exact S.one x.a u h
  · obtain rfl := List.mem_singleton.1 h; rfl
theorem cellsE_len : ∀ L : List (El α), (cellsE S L).length = L.length * S.K
  | [] => by simp [cellsE]
  | x :: r => by simp only [cellsE, List.length_append, cellsE_len r, El.cs_len, List.length_cons, Nat.succ_mul]; omega
theorem cellsE_snoc (x : El α) : ∀ L : List (El α), cellsE S (L ++ [x]) = cellsE S L ++ x.cs S
  | [] => by simp [cellsE]
  | y :: r => by simp only [List.cons_append, cellsE, cellsE_snoc x r, List.append_assoc]
theorem cellsE_append : ∀ L M : List (El α), cellsE S (L ++ M) = cellsE S L ++ cellsE S M
  | [], M => by simp [cellsE]
  | y :: r, M => by simp only [List.cons_append, cellsE, cellsE_append r M, List.append_assoc]
theorem cellsE_one : ∀ L : List (El α), ∀ u ∈ cellsE S L, u.oneCell' = true
  | [], u, h => by simp [cellsE] at h
  | x :: r, u, h => by
    rcases List.mem_append.1 h with q | q
    · exact x.cs_one u q
    · exact cellsE_one r u q
theorem cellsE_get : ∀ (L : List (El α)) (i : Nat) (x : El α), L[i]? = some x → ∀ j, j < S.K → (cellsE S L)[i * S.K + j]? = (x.cs S)[j]?
  | y :: r, 0, x, h, j, hj => by
    obtain rfl : y = x := by simpa using h
    rw [Nat.zero_mul, Nat.zero_add]; unfold cellsE
    rw [List.getElem?_append_left (by rw [El.cs_len]; exact hj)]
  | y :: r, i + 1, x, h, j, hj => by
    unfold cellsE
    rw [List.getElem?_append_right (by rw [El.cs_len, Nat.succ_mul]; omega), El.cs_len, show (i + 1) * S.K + j - S.K = i * S.K + j by rw [Nat.succ_mul]; omega]
    exact cellsE_get r i x (by simpa using h) j hj
/-- An element's cells, cut out. -/
theorem exE {C : Array Value} {o : Nat} {x : List Value} {K : Nat} (hl : x.length = K) (h : ∀ j, j < K → C[o + j]? = x[j]?) (h0 : 0 < K) : o + K ≤ C.size ∧ C.extract o (o + K) = x.toArray := by
  have hz : o + K ≤ C.size := by
    have h1 := h (K - 1) (by omega)
    rw [List.getElem?_eq_getElem (by omega)] at h1
    obtain ⟨h2, _⟩ := Array.getElem?_eq_some_iff.1 h1
    omega
  refine ⟨hz, ?_⟩
  apply Array.ext_getElem?
  intro j
  have e : x.toArray[j]? = x[j]? := by simp
  rw [Array.getElem?_extract, e]
  split
  · rename_i hj
    exact h j (by omega)
  · rename_i hj
    rw [List.getElem?_eq_none (by omega)]
theorem Sh.pos (S : Sh α) (a : α) : 0 < S.K := by have := S.len a; omega
theorem Rw.atE {cur : Array Value} {cap n : Nat} {L : List (El α)} (h : Rw S.K cur cap n (cellsE S L)) {i : Nat} {x : El α} (hx : L[i]? = some x) : i * S.K + S.K ≤ cur.size ∧ cur.extract (i * S.K) (i * S.K + S.K) = (x.cs S).toArray := by
  have hl := h.len
  rw [cellsE_len] at hl
  have hi : i < L.length := (List.getElem?_eq_some_iff.1 hx).1
  refine exE x.cs_len (fun j hj => ?_) (S.pos x.a)
  rw [h.get _ (by
    rw [← hl]
    have : i * S.K + S.K ≤ L.length * S.K := by rw [← Nat.succ_mul]; exact Nat.mul_le_mul_right _ hi
    omega), cellsE_get L i x hx j hj]
def AllE (S : Sh α) (T : List (Nat × Obj)) (L : List (El α)) : Prop := ∀ x ∈ L, RIn S T x.p x.n x.k ∧ S.ok x.a
theorem AllE.mono {T T' : List (Nat × Obj)} {M : List (El α)} (h : AllE S T M) (hs : ∀ e ∈ T, e ∈ T') : AllE S T' M := fun x hx => ⟨(h x hx).1.mono hs, (h x hx).2⟩
theorem AllE.snoc {T : List (Nat × Obj)} {M : List (El α)} {x : El α} (h : AllE S T M) (hx : RIn S T x.p x.n x.k) (hz : S.ok x.a) : AllE S T (M ++ [x]) := fun y hy => by
  rcases List.mem_append.1 hy with q | q
  · exact h y q
  · obtain rfl := List.mem_singleton.1 q
    exact ⟨hx, hz⟩
theorem ly_rowE {T : List (Nat × Obj)} {b : Nat} {C : Array Value} {ty : TypeId} {fz : Nat × Nat} (hm : (b, Obj.cells C ty fz) ∈ T) : ∀ (L : List (El α)) (o : Nat),
    (∀ (i : Nat) (x : El α), L[i]? = some x → o + i * S.K + S.K ≤ C.size ∧ C.extract (o + i * S.K) (o + i * S.K + S.K) = (x.cs S).toArray) → AllE S T L → LyR S T (toFr L) b o
  | [], _, _, _ => trivial
  | x :: r, o, h, hA => by
    have h1 := h 0 x rfl
    rw [Nat.zero_mul, Nat.add_zero] at h1
    have ha := hA x (List.mem_cons_self ..)
    refine ⟨⟨C, ty, fz, x.p, x.n, x.c, hm, h1.1, h1.2, ha.2, ha.1.1, ha.1.2.1, ha.1.2.2⟩, ?_⟩
    refine ly_rowE hm r (o + S.K) (fun i y hy => ?_) fun y hy => hA y (List.mem_cons_of_mem _ hy)
    have := h (i + 1) y (by simpa using hy)
    rw [show o + (i + 1) * S.K = o + S.K + i * S.K by rw [Nat.succ_mul]; omega] at this
    exact this
theorem Rw.rIn {cur : Array Value} {cap n : Nat} {L : List (El α)} (h : Rw S.K cur cap n (cellsE S L)) (hK : 0 < S.K) {T : List (Nat × Obj)} {b : Nat} {ty : TypeId} {fz : Nat × Nat} (hm : (b, Obj.cells cur ty fz) ∈ T) (hA : AllE S T L) (hn : n ≤ S.mx) : RIn S T (some ⟨b, 0, none⟩) n (toFr L) := by
  have hl := h.len
  rw [cellsE_len] at hl
  have hln : L.length = n := Nat.eq_of_mul_eq_mul_right hK hl
  refine ⟨by rw [toFr_len]; omega, hn, .inr ⟨b, 0, rfl, ly_rowE hm L 0 (fun i x hx => ?_) hA⟩⟩
  rw [Nat.zero_add]; exact h.atE hx
/-- A row that is nil, or lies in a block of one's own. -/
def RowE (S : Sh α) (ty : TypeId) (p : Option Addr) (n c : Nat) (row : List (Nat × Obj)) (L : List (El α)) : Prop := (p = none ∧ n = 0 ∧ c = 0 ∧ row = [] ∧ L = []) ∨ ∃ b cur, p = some ⟨b, 0, none⟩ ∧ row = [(b, .cells cur ty (0, 0))] ∧ Rw S.K cur c n (cellsE S L)
theorem RowE.len {ty : TypeId} {p : Option Addr} {n c : Nat} {row : List (Nat × Obj)} {L : List (El α)} (h : RowE S ty p n c row L) (hK : 0 < S.K) : n = L.length := by
  rcases h with ⟨_, rfl, _, _, rfl⟩ | ⟨b, cur, _, _, hr⟩
  · rfl
  · have hl := hr.len
    rw [cellsE_len] at hl
    exact (Nat.eq_of_mul_eq_mul_right hK hl).symm
theorem RowE.rIn {ty : TypeId} {p : Option Addr} {n c : Nat} {row T : List (Nat × Obj)} {L : List (El α)} (h : RowE S ty p n c row L) (hK : 0 < S.K) (hA : AllE S T L) (hn : n ≤ S.mx) : RIn S (row ++ T) p n (toFr L) := by
  rcases h with ⟨rfl, rfl, rfl, rfl, rfl⟩ | ⟨b, cur, rfl, rfl, hr⟩
  · exact RIn.none _ _
  · exact hr.rIn (b := b) (ty := ty) (fz := (0, 0)) hK (by simp) (hA.mono fun e he => List.mem_append_right _ he) hn
end
theorem St.perm {B : Nat} {w0 w : World} {l l' : List (Nat × Obj)} (h : St B w0 w l) (hp : l'.Perm l) : St B w0 w l' :=
  ⟨h.below, h.le, fun x hx => h.own x (hp.mem_iff.1 hx), ((hp.map (·.1)).nodup_iff).2 h.nd⟩
/-- A call of one's own blocks, and those it made. -/
theorem St.addAll {B : Nat} {w0 w w' : World} {l T : List (Nat × Obj)} (h : St B w0 w l) (hT : St w.heap.size w w' T) : St B w0 w' (T ++ l) := by
  have h' := h.call hT.below
  refine ⟨h'.below, h'.le, ?_, ?_⟩
  · intro e he
    rcases List.mem_append.1 he with he | he
    · exact ⟨Nat.le_trans h.le (hT.own e he).1, (hT.own e he).2⟩
    · exact h'.own e he
  · rw [List.map_append, List.nodup_append]
    refine ⟨hT.nd, h'.nd, ?_⟩
    intro x hx y hy q
    obtain ⟨e, he, rfl⟩ := List.mem_map.1 hx
    obtain ⟨e', he', rfl⟩ := List.mem_map.1 hy
    have h1 := (hT.own e he).1
    have h2 := lt_of_heap (h.own e' he').2
    omega
/-! ### A row grows by one -/
section
variable {P : Program} {ρ : Env} {w w0 : World} {B : Nat} {l : List (Nat × Obj)}
theorem grow_own {K : Nat} (HS : St B w0 w l) {t e bytes : Nat} {s x : Operand} {o : Oper} {j k b bx n cap c : Nat} {cur Y : Array Value} {xs : List Value} (ht : sliceOf P t = some (e, K, bytes)) (ho : o.op = appendOp t s x)
    (hs : ev ρ s = .slice (some ⟨b, 0, none⟩) n cap) (hj : l[j]? = some (b, .cells cur e (0, 0))) (hr : Rw K cur cap n xs) (hx : ev ρ x = .slice (some ⟨bx, 0, none⟩) 1 c) (hk : l[k]? = some (bx, .cells Y e (0, 0)))
    (hY : Y.size = K) (hone : ∀ u ∈ Y.toList, u.oneCell' = true)
    (hb : (n + 1) * bytes ≤ 140737488355328) (hm : n + 1 ≤ maxLen) : ∃ b' cap' cur' w', (execOp (ev ρ) o).run P w = .ok (.value (.slice (some ⟨b', 0, none⟩) (n + 1) cap')) w' ∧ St B w0 w' (l.set j (b', .cells cur' e (0, 0))) ∧ Rw K cur' cap' (n + 1) (xs ++ Y.toList) := by
  obtain ⟨it, z, hu, hi, hz, hsz, hby, hzs, h0⟩ := sliceOf_spec ht
  have hnews : ∀ q u, (Y.toList)[q]? = some u → w.cell? ((⟨bx, 0, none⟩ : Addr).add q) = some u := fun q u hq => by
    rw [Array.getElem?_toList] at hq
    rw [addr_add, Nat.zero_add]
    simp [World.cell?, HS.get k hk, hq]
  obtain ⟨v', w', hrun, hown, hgr, hnil, hblk⟩ := run_append_own_at (P := P) w B t o.type e it z K bytes hu hi hz hsz hby hzs h0 _ n xs (hr.owns (HS.ge j hj) (HS.get j hj)) ⟨bx, 0, none⟩ 1 c Y.toList (by rw [Array.length_toList, hY, Nat.one_mul]) hnews hone hm hb HS.le
  have hown' := hown
  rcases hown'.2 with ⟨hv, _⟩ | ⟨g, cap', cur', rfl, hbg, hg, hnc, hcm, hcs, htk⟩
  · exact absurd (hnil.1 hv).1 (by simp)
  · have hgb : g = b ∨ g = w.heap.size := by
      rcases hblk with hq | hq
      · left; injection hq
      · right; injection hq
    refine ⟨g, cap', cur', w', ?_, HS.grown j hj hgr hgb hg, ?_⟩
    · unfold execOp
      simp only [ho, appendOp, resolve, invoke, builtin, Sem.run_bind, Sem.run_pure, Result.andThen_ok, List.map_toArray, List.map_cons, List.map_nil, hs, hx, hrun]
    · exact ⟨hown.1, hnc, hcm, htk, hcs⟩
theorem grow_nil {K : Nat} (HS : St B w0 w l) {t e bytes : Nat} {s x : Operand} {o : Oper} {k bx c : Nat} {Y : Array Value} (ht : sliceOf P t = some (e, K, bytes)) (ho : o.op = appendOp t s x)
    (hs : ev ρ s = .slice none 0 0) (hx : ev ρ x = .slice (some ⟨bx, 0, none⟩) 1 c) (hk : l[k]? = some (bx, .cells Y e (0, 0)))
    (hY : Y.size = K) (hone : ∀ u ∈ Y.toList, u.oneCell' = true)
    (hb : (0 + 1) * bytes ≤ 140737488355328) : ∃ b' cap' cur' w', (execOp (ev ρ) o).run P w = .ok (.value (.slice (some ⟨b', 0, none⟩) 1 cap')) w' ∧ St B w0 w' ((b', .cells cur' e (0, 0)) :: l) ∧ Rw K cur' cap' 1 Y.toList := by
  obtain ⟨it, z, hu, hi, hz, hsz, hby, hzs, h0⟩ := sliceOf_spec ht
  have hnews : ∀ q u, (Y.toList)[q]? = some u → w.cell? ((⟨bx, 0, none⟩ : Addr).add q) = some u := fun q u hq => by
    rw [Array.getElem?_toList] at hq
    rw [addr_add, Nat.zero_add]
    simp [World.cell?, HS.get k hk, hq]
  obtain ⟨v', w', hrun, hown, hgr, hnil, hblk⟩ := run_append_own_at (P := P) w B t o.type e it z K bytes hu hi hz hsz hby hzs h0 (.slice none 0 0) 0 [] (World.ownsRow_nil w B e K) ⟨bx, 0, none⟩ 1 c Y.toList (by rw [Array.length_toList, hY, Nat.one_mul]) hnews hone (by unfold maxLen; omega) hb HS.le
  have hown' := hown
  rcases hown'.2 with ⟨hv, _⟩ | ⟨g, cap', cur', rfl, hbg, hg, hnc, hcm, hcs, htk⟩
  · exact absurd (hnil.1 hv).2 (by simp)
  · have hgb : g = w.heap.size := by
      rcases hblk with hq | hq
      · simp [Value.ownBlock] at hq
      · injection hq
    have hbel : Below w.heap.size w w' := (Below.refl _ w).grown hgr (Nat.le_refl _) (fun k hk => by simp [Value.ownBlock] at hk)
    have HS' := HS.add hbel (by omega) hg
    rw [Nat.zero_add] at hnc htk
    refine ⟨g, cap', cur', w', ?_, HS', ⟨by rw [Array.length_toList, hY, Nat.one_mul], hnc, hcm, htk, hcs⟩⟩
    unfold execOp
    simp only [ho, appendOp, resolve, invoke, builtin, Sem.run_bind, Sem.run_pure, Result.andThen_ok, List.map_toArray, List.map_cons, List.map_nil, hs, hx, hrun]
/-- What a call lays for good. -/
def FnT (P : Program) (f : Nat) (args : Array Value) (pre : World → Prop) (ok : Value → List (Nat × Obj) → Prop) : Prop :=
  ∀ w, pre w → Calls P f args w fun e w' => ∃ v T, e = .returned v ∧ ok v T ∧ St w.heap.size w w' T
end
end Go.Proofs.Ythpiojejhellhaa

namespace Go.Proofs.Ythpiojejhellhaa
open Go Go.RowKit
set_option linter.unusedVariables false
namespace D2
section
variable {P : Program} {ops : Array Oper} {R : (Nat → Gh) → Env} {i : Nat} {d : Option Nat} {pre : (Nat → Bool) → (Nat → Gh) → World → Prop}
theorem gv_opW {V : Value} (hs : ∀ L g w, pre L g w → pre (put1 L i) g w) (op : Op) (h : ∀ g, opk ops i (R g) = some (d, true, op)) (hr : ∀ L g (o : Oper) w, Now ops i L → pre L g w → o.op = op → (execOp (ev (R g)) o).run P w = .ok (.value V) w) : Gives P ops R pre i d (fun _ => V) :=
  gives_of fun L g w hp hN => by
    obtain ⟨o, ho, hd, hw, hop⟩ := opk_some (h g)
    exact ⟨o, ho, hd, .inr ⟨hw, by rw [hr L g o w hN hp hop]; exact ⟨g i, rfl, by rw [setN_self]; exact hs _ _ _ hp⟩⟩⟩
theorem gv_ld {V : Value} (hs : ∀ L g w, pre L g w → pre (put1 L i) g w) (t : TypeId) (x : Operand) (b : (Nat → Gh) → Nat) (off : Nat) (C : Array Value) (T : TypeId) (fz : Nat × Nat) (h : ∀ g, opk ops i (R g) = some (d, true, .load t x))
    (hx : ∀ g, ev (R g) x = .pointer (some ⟨b g, off, none⟩)) (hh : ∀ L g w, Now ops i L → pre L g w → w.heap[b g]? = some (.cells C T fz)) (hok : ldOK P t off C = true) (hV : ldv P t off C = V) : Gives P ops R pre i d (fun _ => V) :=
  gv_opW hs _ h fun L g o w hN hp ho => by
    have := ldOK_run (P := P) hok (hh L g w hN hp)
    rw [hV] at this
    simp [execOp, ho, Instr.loadAt, Instr.sureAddr, hx, this]
theorem gv_cpW {V : Value} (hs : ∀ L g w, pre L g w → pre (put1 L i) g w) (f : Nat) (args : Array Value) {pr : World → Prop} (hc : FnP P f args pr V) (hpr : ∀ L g w, Now ops i L → pre L g w → pr w) (hb : ∀ L g w w', Now ops i L → pre L g w → Below w.heap.size w w' → pre L g w') (h : ∀ g w, opv P ops i (R g) w = some (d, true, .ok (.enter f args) w)) : Gives P ops R pre i d (fun _ => V) :=
  gives_of fun L g w hp hN => by
    obtain ⟨o, ho, hd, hw, hr⟩ := opv_some (h g w)
    refine ⟨o, ho, hd, .inr ⟨hw, ?_⟩⟩
    rw [hr]
    refine Calls.mono (hc w (hpr L g w hN hp)) ?_
    rintro e w' ⟨rfl, hbl⟩
    exact ⟨V, rfl, g i, rfl, by rw [setN_self]; exact hs _ _ _ (hb L g w w' hN hp hbl)⟩
/-- A region of which one operation alone changes what lies. -/
def two (k : Nat) (Pre : World → Prop) (Post : Gh → World → Prop) : (Nat → Bool) → (Nat → Gh) → World → Prop := fun L g w => bif L k then Post (g k) w else Pre w
theorem two.bef {k : Nat} {Pre : World → Prop} {Post : Gh → World → Prop} {L : Nat → Bool} {g : Nat → Gh} {w : World} (h : two k Pre Post L g w) (hk : L k = false) : Pre w := by
  unfold two at h; rw [hk] at h; exact h
theorem two.aft {k : Nat} {Pre : World → Prop} {Post : Gh → World → Prop} {L : Nat → Bool} {g : Nat → Gh} {w : World} (h : two k Pre Post L g w) (hk : L k = true) : Post (g k) w := by
  unfold two at h; rw [hk] at h; exact h
theorem two.call {k : Nat} {Pre : World → Prop} {Post : Gh → World → Prop} {L : Nat → Bool} {g : Nat → Gh} {w w' : World} (h : two k Pre Post L g w) (h1 : Pre w → Pre w') (h2 : ∀ x, Post x w → Post x w') : two k Pre Post L g w' := by
  unfold two at h ⊢
  cases hk : L k with
  | true => rw [hk] at h; exact h2 _ h
  | false => rw [hk] at h; exact h1 h
theorem two.to {k : Nat} {Pre : World → Prop} {Post : Gh → World → Prop} {L : Nat → Bool} {g : Nat → Gh} {w : World} {x : Gh} (h : Post x w) : two k Pre Post (put1 L k) (setN g k x) w := by
  unfold two
  rw [show put1 L k k = true from put1_self L k, show setN g k x k = x by unfold setN; rw [Nat.beq_refl]; rfl]
  exact h
end
end D2
abbrev outT (B : Nat) (w0 : World) (ok : Value → List (Nat × Obj) → Prop) : Value → World → Prop := fun v' w' => ∃ T, ok v' T ∧ St B w0 w' T
theorem FnT.intro {P : Program} {f : Nat} {fn : Func} {c : Code} (rs : List ResultVar) (N : Nat) {args : Array Value} {pre : World → Prop} {ok : Value → List (Nat × Obj) → Prop} (hf : P.funcs[f]? = some fn) (hb : fn.body = some c) (hr : fn.results.toList = rs) (hn : args.size + (fn.ntmps - args.size) = N)
    (h : ∀ w, pre w → WP P N c (ends P rs (outT w.heap.size w ok)) (ini args) w) : FnT P f args pre ok := fun w hp =>
  (calls_intro hf hb hr hn (h w hp)).mono fun e w' ⟨v', he, T, hv⟩ => ⟨v', T, he, hv⟩
section
variable {P : Program} {N : Nat} {ops : Array Oper} {i : Nat} {r : List Nat} {K : Env → World → Prop} {ρ : Env} {w : World} {B : Nat} {w0 : World} {l : List (Nat × Obj)}
theorem s_callFT (HS : St B w0 w l) (d : Option Nat) (f : Nat) (args : Array Value) {pre : World → Prop} {ok : Value → List (Nat × Obj) → Prop} (hc : FnT P f args pre ok) (hp : pre w)
    (h : opv P ops i ρ w = some (d, true, .ok (.enter f args) w)) (hd : dOK d N = true)
    (kk : ∀ v T w', ok v T → St B w0 w' (T ++ l) → WPs P N ops K r (updO ρ d v) w') : WPs P N ops K (i :: r) ρ w := by
  obtain ⟨o, ho, rfl, hw, hr⟩ := opv_some h
  refine WPo.run ho hw fun a ha => ?_
  rw [hr, Oper.upon_enter]
  refine (hc w hp).mono ?_
  rintro e w' ⟨v, T, rfl, hok, hT⟩
  exact ⟨_, ha.put _ (dOK_lt hd) _, kk v T w' hok (HS.addAll hT)⟩
end
end Go.Proofs.Ythpiojejhellhaa

namespace Go.Proofs.Ythpiojejhellhaa
open Go Go.RowKit
set_option linter.unusedVariables false
/-- A plain struct: how many cells, which. -/
structure Fl (α : Type) where
  K : Nat
  cs : α → List Value
  pos : 0 < K
  len : ∀ a, (cs a).length = K
  one : ∀ a, ∀ u ∈ cs a, u.oneCell' = true
section
variable {α : Type} {S : Fl α}
def cellsF (S : Fl α) : List α → List Value
  | [] => []
  | x :: r => S.cs x ++ cellsF S r
theorem cellsF_len : ∀ L : List α, (cellsF S L).length = L.length * S.K
  | [] => by simp [cellsF]
  | x :: r => by simp only [cellsF, List.length_append, cellsF_len r, S.len, List.length_cons, Nat.succ_mul]; omega
theorem cellsF_append : ∀ L M : List α, cellsF S (L ++ M) = cellsF S L ++ cellsF S M
  | [], M => by simp [cellsF]
  | y :: r, M => by simp only [List.cons_append, cellsF, cellsF_append r M, List.append_assoc]
theorem cellsF_snoc (x : α) (L : List α) : cellsF S (L ++ [x]) = cellsF S L ++ S.cs x := by
  rw [cellsF_append]; simp [cellsF]
theorem cellsF_one : ∀ L : List α, ∀ u ∈ cellsF S L, u.oneCell' = true
  | [], u, h => by simp [cellsF] at h
  | x :: r, u, h => by
    rcases List.mem_append.1 h with q | q
    · exact S.one x u q
    · exact cellsF_one r u q
theorem cellsF_get : ∀ (L : List α) (i : Nat) (x : α), L[i]? = some x → ∀ j, j < S.K → (cellsF S L)[i * S.K + j]? = (S.cs x)[j]?
  | y :: r, 0, x, h, j, hj => by
    obtain rfl : y = x := by simpa using h
    rw [Nat.zero_mul, Nat.zero_add]; unfold cellsF
    rw [List.getElem?_append_left (by rw [S.len]; exact hj)]
  | y :: r, i + 1, x, h, j, hj => by
    unfold cellsF
    rw [List.getElem?_append_right (by rw [S.len, Nat.succ_mul]; omega), S.len, show (i + 1) * S.K + j - S.K = i * S.K + j by rw [Nat.succ_mul]; omega]
    exact cellsF_get r i x (by simpa using h) j hj
/-- The structs lie in these cells, from a place on. -/
def RowAt (S : Fl α) (C : Array Value) (off : Nat) (L : List α) : Prop := ∀ (i : Nat) (x : α), L[i]? = some x → off + i * S.K + S.K ≤ C.size ∧ C.extract (off + i * S.K) (off + i * S.K + S.K) = (S.cs x).toArray
theorem RowAt.nil (C : Array Value) (off : Nat) : RowAt S C off [] := fun i x h => by simp at h
theorem RowAt.drop {C : Array Value} {off : Nat} {L : List α} (h : RowAt S C off L) (k : Nat) : RowAt S C (off + k * S.K) (L.drop k) := fun i x hx => by
  rw [List.getElem?_drop] at hx
  have := h (k + i) x hx
  rw [Nat.add_mul] at this
  rw [show off + k * S.K + i * S.K = off + (k * S.K + i * S.K) by omega]
  exact this
theorem RowAt.take {C : Array Value} {off : Nat} {L : List α} (h : RowAt S C off L) (k : Nat) : RowAt S C off (L.take k) := fun i x hx => by
  rw [List.getElem?_take] at hx
  split at hx
  · exact h i x hx
  · cases hx
/-- A cell of one of them. -/
theorem RowAt.cell {C : Array Value} {off : Nat} {L : List α} (h : RowAt S C off L) {i : Nat} {x : α} (hx : L[i]? = some x) (j : Nat) (hj : j < S.K) : C[off + i * S.K + j]? = (S.cs x)[j]? := by
  obtain ⟨h1, h2⟩ := h i x hx
  have e : (C.extract (off + i * S.K) (off + i * S.K + S.K))[j]? = C[off + i * S.K + j]? := by
    rw [Array.getElem?_extract, if_pos (by omega)]
  rw [← e, h2]; simp
theorem Rw.rowAt {cur : Array Value} {cap n : Nat} {L : List α} (h : Rw S.K cur cap n (cellsF S L)) : RowAt S cur 0 L := fun i x hx => by
  have hl := h.len
  rw [cellsF_len] at hl
  have hi : i < L.length := (List.getElem?_eq_some_iff.1 hx).1
  rw [Nat.zero_add]
  refine exE (S.len x) (fun j hj => ?_) S.pos
  rw [h.get _ (by
    rw [← hl]
    have : i * S.K + S.K ≤ L.length * S.K := by rw [← Nat.succ_mul]; exact Nat.mul_le_mul_right _ hi
    omega), cellsF_get L i x hx j hj]
theorem Rw.lenF {cur : Array Value} {cap n : Nat} {L : List α} (h : Rw S.K cur cap n (cellsF S L)) : L.length = n := by
  have hl := h.len
  rw [cellsF_len] at hl
  exact Nat.eq_of_mul_eq_mul_right S.pos hl
/-- A row that is nil, or lies in a block of one's own. -/
def RowF (S : Fl α) (ty : TypeId) (p : Option Addr) (n c : Nat) (row : List (Nat × Obj)) (L : List α) : Prop := (p = none ∧ n = 0 ∧ c = 0 ∧ row = [] ∧ L = []) ∨ ∃ b cur, p = some ⟨b, 0, none⟩ ∧ row = [(b, .cells cur ty (0, 0))] ∧ Rw S.K cur c n (cellsF S L)
theorem RowF.len {ty : TypeId} {p : Option Addr} {n c : Nat} {row : List (Nat × Obj)} {L : List α} (h : RowF S ty p n c row L) : L.length = n := by
  rcases h with ⟨_, rfl, _, _, rfl⟩ | ⟨b, cur, _, _, hr⟩
  · rfl
  · exact hr.lenF
/-- A row with room for n structs, the first i of which are there. -/
structure FillF (S : Fl α) (C : Array Value) (n i : Nat) (M : List α) : Prop where
  sz : C.size = n * S.K
  len : M.length = i
  take : C.toList.take (i * S.K) = cellsF S M
theorem FillF.start {C : Array Value} {n : Nat} (h : C.size = n * S.K) : FillF S C n 0 [] := ⟨h, rfl, by simp [cellsF]⟩
def putC' (C : Array Value) (off : Nat) (v : Value) : Array Value := (C.toList.take off ++ v.cells.toList ++ C.toList.drop (off + v.cells.size)).toArray
theorem FillF.put {C : Array Value} {n i : Nat} {M : List α} (h : FillF S C n i M) (x : α) {v : Value} (hv : v.cells.toList = S.cs x) (hi : i < n) :
    0 + i * S.K + v.cells.size ≤ C.size ∧ FillF S (putC' C (0 + i * S.K) v) n (i + 1) (M ++ [x]) := by
  have hsv : v.cells.size = S.K := by rw [← Array.length_toList, hv, S.len]
  have hsz := h.sz
  have hle : i * S.K + S.K ≤ C.size := by rw [hsz, ← Nat.succ_mul]; exact Nat.mul_le_mul_right _ hi
  rw [Nat.zero_add]
  refine ⟨by omega, ?_, by rw [List.length_append, h.len]; rfl, ?_⟩
  · unfold putC'
    rw [List.size_toArray, List.length_append, List.length_append, List.length_take, List.length_drop, Array.length_toList, Array.length_toList, hsv]; omega
  · have e1 : (C.toList.take (i * S.K)).length = i * S.K := by rw [List.length_take, Array.length_toList]; omega
    have e2 : (C.toList.take (i * S.K)).take (i * S.K + S.K) = C.toList.take (i * S.K) := List.take_of_length_le (by omega)
    have e3 : (S.cs x).take S.K = S.cs x := List.take_of_length_le (by rw [S.len]; exact Nat.le_refl _)
    unfold putC'
    rw [Nat.succ_mul, List.toList_toArray, List.append_assoc, List.take_append, e1, e2, Nat.add_sub_cancel_left, List.take_append, hv, S.len, Nat.sub_self, List.take_zero, List.append_nil, e3, cellsF_snoc, h.take]
theorem FillF.done {C : Array Value} {n : Nat} {M : List α} (h : FillF S C n n M) (hm : n ≤ maxLen) : Rw S.K C n n (cellsF S M) := ⟨by rw [cellsF_len, h.len], Nat.le_refl _, hm, h.take, h.sz⟩
end
end Go.Proofs.Ythpiojejhellhaa

namespace Go.Proofs.Ythpiojejhellhaa
open Go Go.RowKit
set_option linter.unusedVariables false
namespace D2
/-- Operation ka lays a row of one, operation kb puts it behind another, operation kc takes it. -/
def ApP (ka kb kc : Nat) (P0 : World → Prop) (P1 P2 : Gh → World → Prop) : (Nat → Bool) → (Nat → Gh) → World → Prop := fun L g w => bif L kc then P2 (g kc) w else bif L kb then P2 (g kb) w else bif L ka then P1 (g ka) w else P0 w
theorem ApP.get {ka kb kc : Nat} {P0 : World → Prop} {P1 P2 : Gh → World → Prop} {L : Nat → Bool} {g : Nat → Gh} {w : World} {Φ : Prop} (h : ApP ka kb kc P0 P1 P2 L g w) (h0 : P0 w → Φ) (h1 : ∀ y, P1 y w → Φ) (h2 : ∀ y, P2 y w → Φ) : Φ := by
  unfold ApP at h
  cases hc : L kc with
  | true => rw [hc] at h; exact h2 _ h
  | false =>
    rw [hc] at h
    cases hb : L kb with
    | true => rw [hb] at h; exact h2 _ h
    | false =>
      rw [hb] at h
      cases ha : L ka with
      | true => rw [ha] at h; exact h1 _ h
      | false => rw [ha] at h; exact h0 h
theorem ApP.call {ka kb kc : Nat} {P0 : World → Prop} {P1 P2 : Gh → World → Prop} {L : Nat → Bool} {g : Nat → Gh} {w w' : World} (h : ApP ka kb kc P0 P1 P2 L g w) (h0 : P0 w → P0 w') (h1 : ∀ y, P1 y w → P1 y w') (h2 : ∀ y, P2 y w → P2 y w') : ApP ka kb kc P0 P1 P2 L g w' := by
  unfold ApP at h ⊢
  cases hc : L kc with
  | true => rw [hc] at h; exact h2 _ h
  | false =>
    rw [hc] at h
    cases hb : L kb with
    | true => rw [hb] at h; exact h2 _ h
    | false =>
      rw [hb] at h
      cases ha : L ka with
      | true => rw [ha] at h; exact h1 _ h
      | false => rw [ha] at h; exact h0 h
section
variable {P : Program} {ops : Array Oper} {R : (Nat → Gh) → Env} {d : Option Nat}
theorem gv_cW {pre : (Nat → Bool) → (Nat → Gh) → World → Prop} {i : Nat} {V : Value} (hs : ∀ L g w, pre L g w → pre (put1 L i) g w) (f : Nat) (args : Array Value) (hc : Fn P f args V) (hb : ∀ L g w w', Now ops i L → pre L g w → Below w.heap.size w w' → pre L g w') (h : ∀ g w, opv P ops i (R g) w = some (d, true, .ok (.enter f args) w)) : Gives P ops R pre i d (fun _ => V) :=
  gv_cpW hs f args (pr := fun _ => True) (fun w _ => hc w) (fun _ _ _ _ _ => trivial) hb h
variable {B : Nat} {w0 : World} {E row : List (Nat × Obj)} {Y : Array Value} {ty : TypeId} {n : Nat} {K : Nat} {xs : List Value}
abbrev ap0 (B : Nat) (w0 : World) (row E : List (Nat × Obj)) : World → Prop := fun w => St B w0 w (row ++ E)
abbrev ap1 (B : Nat) (w0 : World) (row E : List (Nat × Obj)) (Y : Array Value) (ty : TypeId) : Gh → World → Prop := fun y w => St B w0 w ((y.b, .cells Y ty (0, 0)) :: (row ++ E))
abbrev ap2 (B : Nat) (w0 : World) (E : List (Nat × Obj)) (Y : Array Value) (ty : TypeId) (K n : Nat) (xs : List Value) : Gh → World → Prop := fun y w => Rw K y.cur y.cap (n + 1) (xs ++ Y.toList) ∧ St B w0 w ((y.b, .cells y.cur ty (0, 0)) :: E)
end
end D2
section
variable {α : Type} {S : Fl α}
theorem RowAt.at {C : Array Value} {off : Nat} {L : List α} (h : RowAt S C off L) {q : Nat} {u : Value} (hq : (cellsF S L)[q]? = some u) : C[off + q]? = some u := by
  have hlt := (List.getElem?_eq_some_iff.1 hq).1
  rw [cellsF_len] at hlt
  have hK := S.pos
  have hi : q / S.K < L.length := (Nat.div_lt_iff_lt_mul hK).2 hlt
  obtain ⟨x, hx⟩ : ∃ x, L[q / S.K]? = some x := ⟨_, List.getElem?_eq_getElem hi⟩
  have hj := Nat.mod_lt q hK
  have e : q / S.K * S.K + q % S.K = q := Nat.div_add_mod' q S.K
  have h1 := cellsF_get L _ x hx (q % S.K) hj
  have h2 := h.cell hx (q % S.K) hj
  rw [e] at h1
  rw [Nat.add_assoc, e] at h2
  rw [h2, ← h1, hq]
variable {P : Program} {ρ : Env} {w w0 : World} {B : Nat} {l : List (Nat × Obj)}
variable {N : Nat} {ops : Array Oper} {i : Nat} {r : List Nat} {K : Env → World → Prop}
end
theorem D2.two.get {k : Nat} {Pre : World → Prop} {Post : D2.Gh → World → Prop} {L : Nat → Bool} {g : Nat → D2.Gh} {w : World} {Φ : Prop} (h : D2.two k Pre Post L g w) (h1 : Pre w → Φ) (h2 : ∀ x, Post x w → Φ) : Φ := by
  unfold D2.two at h
  cases hk : L k with
  | true => rw [hk] at h; exact h2 _ h
  | false => rw [hk] at h; exact h1 h
def pG (y : D2.Gh) : Option Addr := match y.l with
  | [] => none
  | _ => some ⟨y.b, 0, none⟩
end Go.Proofs.Ythpiojejhellhaa

namespace Go.Proofs.Ythpiojejhellhaa
open Go Go.RowKit
set_option linter.unusedVariables false
def putL (C : Array Value) (o : Nat) (vs : List Value) : Array Value := (C.toList.take o ++ vs ++ C.toList.drop (o + vs.length)).toArray
section
variable {P : Program} {w w0 : World}
end
section
variable {P : Program} {N : Nat} {ops : Array Oper} {i : Nat} {r : List Nat} {K : Env → World → Prop} {ρ : Env} {w : World} {B : Nat} {w0 : World} {l : List (Nat × Obj)}
end
end Go.Proofs.Ythpiojejhellhaa

namespace Go.Proofs.Ythpiojejhellhaa
open Go Go.RowKit
set_option linter.unusedVariables false
namespace D2
/-- How many of the changes have been. -/
def stg : List Nat → (Nat → Bool) → Nat
  | [], _ => 0
  | k :: r, L => bif L k then stg r L + 1 else 0
def chn (ks : List Nat) (Q : Nat → (Nat → Gh) → World → Prop) : (Nat → Bool) → (Nat → Gh) → World → Prop := fun L g w => Q (stg ks L) g w
theorem stg_le : ∀ (ks : List Nat) (L : Nat → Bool), stg ks L ≤ ks.length
  | [], _ => Nat.le_refl _
  | k :: r, L => by
    unfold stg
    cases L k with
    | true => exact Nat.succ_le_succ (stg_le r L)
    | false => exact Nat.zero_le _
theorem chn.get {ks : List Nat} {Q : Nat → (Nat → Gh) → World → Prop} {L : Nat → Bool} {g : Nat → Gh} {w : World} {Φ : Prop} (h : chn ks Q L g w) (hQ : ∀ j, j ≤ ks.length → Q j g w → Φ) : Φ := hQ _ (stg_le ks L) h
theorem chn.fin {Q : Nat → (Nat → Gh) → World → Prop} {g : Nat → Gh} {w : World} : ∀ {ks : List Nat} {L : Nat → Bool}, chn ks Q L g w → (∀ k ∈ ks, L k = true) → Q ks.length g w := by
  intro ks L h hk
  have : stg ks L = ks.length := by
    clear h
    induction ks with
    | nil => rfl
    | cons k r ih =>
      unfold stg
      rw [hk k (List.mem_cons_self ..), ih fun x hx => hk x (List.mem_cons_of_mem _ hx)]; rfl
  unfold chn at h
  rwa [this] at h
section
variable {P : Program} {ops : Array Oper} {R : (Nat → Gh) → Env} {d : Option Nat}
theorem gv_chn {V : Gh → Value} {ks : List Nat} {Q : Nat → (Nat → Gh) → World → Prop} (k j : Nat) (hN : ∀ L, Now ops k L → stg ks L = j ∧ stg ks (put1 L k) = j + 1)
    (hr : ∀ g w, Q j g w → ∃ o, ops[k]? = some o ∧ o.dst = d ∧ Region.wanted o (nyield ops (R g)) = true ∧ Runs P (fun v w' => ∃ x, v = V x ∧ Q (j + 1) (setN g k x) w') ((execOp (ev (R g)) o).run P w)) : Gives P ops R (chn ks Q) k d V := by
  refine gives_of fun L g w hp hNw => ?_
  obtain ⟨e1, e2⟩ := hN L hNw
  unfold chn at hp
  rw [e1] at hp
  obtain ⟨o, ho, hd, hw, hq⟩ := hr g w hp
  refine ⟨o, ho, hd, .inr ⟨hw, ?_⟩⟩
  unfold chn
  rw [e2]; exact hq
variable {ρ : Env} {k : Nat} {w : World} {S : Value → World → Prop}
theorem run_new {F : Nat → Value} {ob : Obj} (h : opv P ops k ρ w = some (d, true, .ok (.value (F w.heap.size)) (w.alloc ob))) (hS : S (F w.heap.size) (w.alloc ob)) :
    ∃ o, ops[k]? = some o ∧ o.dst = d ∧ Region.wanted o (nyield ops ρ) = true ∧ Runs P S ((execOp (ev ρ) o).run P w) := by
  obtain ⟨o, ho, hd, hw, hr⟩ := opv_some h
  exact ⟨o, ho, hd, hw, by rw [hr]; exact hS⟩
theorem run_sto {t : TypeId} {x y : Operand} {b off : Nat} {C C' : Array Value} {T : TypeId} {v : Value} (h : opk ops k ρ = some (none, true, .store t x y)) (hx : ev ρ x = .pointer (some ⟨b, off, none⟩)) (hy : ev ρ y = v) (hi : (P.info? t).map (·.size) = some v.cells.size) (h1 : v.cells.all (·.oneCell') = true)
    (hh : w.heap[b]? = some (.cells C T (0, 0))) (hs : off + v.cells.size ≤ C.size) (hC : (C.toList.take off ++ v.cells.toList ++ C.toList.drop (off + v.cells.size)).toArray = C') (hS : S undef (w.setRow b C')) :
    ∃ o, ops[k]? = some o ∧ o.dst = none ∧ Region.wanted o (nyield ops ρ) = true ∧ Runs P S ((execOp (ev ρ) o).run P w) := by
  obtain ⟨o, ho, hd, hw, hop⟩ := opk_some h
  refine ⟨o, ho, hd, hw, ?_⟩
  have hst := store_agg (P := P) (w := w) hi h1 hh hs
  rw [hC] at hst
  have e2 : (execOp (ev ρ) o).run P w = .ok .skip (w.setRow b C') := by simp [execOp, hop, Instr.storeAt, Instr.sureAddr, hx, hy, hst]
  rw [e2]; exact hS
theorem run_of {op : Op} (h : opk ops k ρ = some (d, true, op)) (hr : ∀ o : Oper, o.op = op → ∃ v w', (execOp (ev ρ) o).run P w = .ok (.value v) w' ∧ S v w') :
    ∃ o, ops[k]? = some o ∧ o.dst = d ∧ Region.wanted o (nyield ops ρ) = true ∧ Runs P S ((execOp (ev ρ) o).run P w) := by
  obtain ⟨o, ho, hd, hw, hop⟩ := opk_some h
  obtain ⟨v, w', e, hS⟩ := hr o hop
  exact ⟨o, ho, hd, hw, by rw [e]; exact hS⟩
end
end D2
section
open D2 (Gh)
theorem D2.Now.back {ops : Array Oper} {i : Nat} {L : Nat → Bool} (h : D2.Now ops i L) {a b : Nat} (hb : L b = true) (he : D2.edge ops a b = true) : L a = true := by
  cases ha : L a with
  | true => rfl
  | false => have := h.2.2.no a b he ha; rw [hb] at this; cases this
theorem D2.Now.fwd {ops : Array Oper} {i : Nat} {L : Nat → Bool} (h : D2.Now ops i L) {a b : Nat} (ha : L a = false) (he : D2.edge ops a b = true) : L b = false := h.2.2.no a b he ha
theorem D2.stg_no : ∀ (ks : List Nat) (L : Nat → Bool) (i k : Nat), ks[i]? = some k → L k = false → D2.stg ks L ≤ i
  | [], _, _, _, h, _ => by simp at h
  | k :: r, L, 0, k', h, hk => by
    obtain rfl : k = k' := by simpa using h
    unfold D2.stg; rw [hk]; exact Nat.le_refl _
  | k :: r, L, i + 1, k', h, hk => by
    have ih := D2.stg_no r L i k' (by simpa using h) hk
    unfold D2.stg
    cases L k with
    | true => exact Nat.succ_le_succ ih
    | false => exact Nat.zero_le _
theorem D2.chn.getN {ks : List Nat} {Q : Nat → (Nat → Gh) → World → Prop} {L : Nat → Bool} {g : Nat → Gh} {w : World} {Φ : Prop} (h : D2.chn ks Q L g w) (i k : Nat) (hi : ks[i]? = some k) (hk : L k = false) (hQ : ∀ j, j ≤ i → Q j g w → Φ) : Φ := hQ _ (D2.stg_no ks L i k hi hk) h
end
end Go.Proofs.Ythpiojejhellhaa

namespace Go.Proofs.Ythpiojejhellhaa
open Go Go.RowKit
set_option linter.unusedVariables false
section
variable {P : Program} {N : Nat} {Q : Exit → Env → World → Prop} {ρ : Env} {w : World} {c : Code}
def isScope : Code → Bool | .scope _ => true | _ => false
def labelId : Code → Option Nat | .label i => some i | _ => none
def ng (Q : Exit → Env → World → Prop) : Exit → Env → World → Prop
  | .goto _, _, _ => False
  | e, ρ, w => Q e ρ w
end
section
variable {P : Program} {N : Nat} {ops : Array Oper} {i : Nat} {r : List Nat} {K : Env → World → Prop} {ρ : Env} {w : World} {B : Nat} {w0 : World} {l : List (Nat × Obj)}
end
def putA (cur : Array Value) (off : Nat) (v : Value) : Array Value := (cur.toList.take off ++ v.cells.toList ++ cur.toList.drop (off + v.cells.size)).toArray
/-- Cells are put into a row. -/
theorem Rw.putA {K : Nat} {cur : Array Value} {cap n : Nat} {xs : List Value} (h : Rw K cur cap n xs) (off : Nat) (v : Value) (hle : off + v.cells.size ≤ n * K) :
    off + v.cells.size ≤ cur.size ∧ Rw K (putA cur off v) cap n (xs.take off ++ v.cells.toList ++ xs.drop (off + v.cells.size)) := by
  have hcap : n * K ≤ cap * K := Nat.mul_le_mul_right _ h.le
  have hsz := h.sz
  have hA : cur.toList.length = cap * K := by rw [Array.length_toList, hsz]
  have hx : xs = cur.toList.take (n * K) := h.take.symm
  have hv : v.cells.toList.length = v.cells.size := Array.length_toList
  have e1 : (cur.toList.take off).length = off := by rw [List.length_take]; omega
  refine ⟨by omega, ?_, h.le, h.max, ?_, ?_⟩
  · rw [List.length_append, List.length_append, List.length_take, List.length_drop, h.len, hv]; omega
  · unfold Go.Proofs.Ythpiojejhellhaa.putA
    rw [List.toList_toArray, List.take_append, List.length_append, e1, hv, List.take_of_length_le (l := cur.toList.take off ++ v.cells.toList) (by rw [List.length_append, e1, hv]; exact hle), hx, List.take_take, Nat.min_eq_left (by omega), List.drop_take]
  · unfold Go.Proofs.Ythpiojejhellhaa.putA
    rw [List.size_toArray, List.length_append, List.length_append, e1, List.length_drop, hv, hA]; omega
end Go.Proofs.Ythpiojejhellhaa

namespace Go.Proofs.Ythpiojejhellhaa
open Go Go.RowKit
set_option linter.unusedVariables false
theorem idxQ_run {P : Program} {ρ : Env} {t e : TypeId} {K bytes : Nat} (ht : sliceOf P t = some (e, K, bytes)) {x y : Operand} {o : Oper} {kd : IntKind} {p : Option Addr} (b q n c k : Nat) (hp : p = some ⟨b, q, none⟩) (ho : o.op = .indexAddr t x y) (hx : ev ρ x = .slice p n c) (hy : ev ρ y = .int kd (k : Int)) (hk : k < n) :
    ∀ w, (execOp (ev ρ) o).run P w = .ok (.value (.pointer (some ⟨b, q + k * K, none⟩))) w := by
  subst hp; exact idxS_run ht b q n c k ho hx hy hk
section
variable {α : Type} {S : Fl α}
/-- These lie there. -/
def AtF (S : Fl α) (w : World) (p : Option Addr) (n : Nat) (L : List α) : Prop := n = L.length ∧ (L = [] ∨ ∃ b off C T fz, p = some ⟨b, off, none⟩ ∧ w.heap[b]? = some (.cells C T fz) ∧ RowAt S C off L)
theorem AtF.call {w w' : World} {p : Option Addr} {n : Nat} {L : List α} (h : AtF S w p n L) (hb : Below w.heap.size w w') : AtF S w' p n L := by
  obtain ⟨h1, h2⟩ := h
  refine ⟨h1, h2.imp id ?_⟩
  rintro ⟨b, off, C, T, fz, e, hh, hr⟩
  exact ⟨b, off, C, T, fz, e, by rw [hb.block b (lt_of_heap hh)]; exact hh, hr⟩
theorem AtF.take {w : World} {p : Option Addr} {n : Nat} {L : List α} (h : AtF S w p n L) (k : Nat) (hk : k ≤ n) : AtF S w p k (L.take k) := by
  obtain ⟨h1, h2⟩ := h
  refine ⟨by rw [List.length_take]; omega, ?_⟩
  rcases h2 with rfl | ⟨b, off, C, T, fz, e, hh, hr⟩
  · exact .inl (by simp)
  · exact .inr ⟨b, off, C, T, fz, e, hh, hr.take k⟩
theorem RowF.atF {ty : TypeId} {p : Option Addr} {n c : Nat} {row : List (Nat × Obj)} {L : List α} (h : RowF S ty p n c row L) {B : Nat} {w0 w : World} {l : List (Nat × Obj)} (hS : St B w0 w l) (hl : ∀ e ∈ row, e ∈ l) : AtF S w p n L := by
  rcases h with ⟨rfl, rfl, rfl, rfl, rfl⟩ | ⟨b, cur, rfl, rfl, hr⟩
  · exact ⟨rfl, .inl rfl⟩
  · exact ⟨hr.lenF.symm, .inr ⟨b, 0, cur, ty, (0, 0), rfl, (hS.own _ (hl _ (List.mem_singleton.2 rfl))).2, hr.rowAt⟩⟩
/-- A slice as there is one. -/
def SlOk (p : Option Addr) (n c : Nat) : Prop := (p = none ∧ n = 0 ∧ c = 0) ∨ ((∃ a, p = some a) ∧ n ≤ c)
theorem RowF.slOk {ty : TypeId} {p : Option Addr} {n c : Nat} {row : List (Nat × Obj)} {L : List α} (h : RowF S ty p n c row L) : SlOk p n c := by
  rcases h with ⟨rfl, rfl, rfl, rfl, rfl⟩ | ⟨b, cur, rfl, rfl, hr⟩
  · exact .inl ⟨rfl, rfl, rfl⟩
  · exact .inr ⟨⟨_, rfl⟩, hr.le⟩
theorem SlOk.cut {p : Option Addr} {n c k : Nat} (h : SlOk p n c) (hk : k ≤ n) : SlOk p k c := by
  rcases h with ⟨rfl, rfl, rfl⟩ | ⟨h1, h2⟩
  · exact .inl ⟨rfl, by omega, rfl⟩
  · exact .inr ⟨h1, by omega⟩
theorem cutK_run {P : Program} {ρ : Env} {t e : TypeId} {size bytes : Nat} (ht : sliceOf P t = some (e, size, bytes)) {x y : Operand} {o : Oper} {kd : IntKind} {p : Option Addr} {n c k : Nat} (h : SlOk p n c) (hk : k ≤ n) (ho : o.op = .slice t x none (some y) none) (hx : ev ρ x = .slice p n c) (hy : ev ρ y = .int kd (k : Int)) :
    ∀ w, (execOp (ev ρ) o).run P w = .ok (.value (.slice p k c)) w := fun w => by
  rcases h with ⟨rfl, rfl, rfl⟩ | ⟨⟨a, rfl⟩, h2⟩
  · obtain rfl : k = 0 := by omega
    obtain ⟨it, z, hu, hi, hz, hsz, hby, hzs, h0⟩ := sliceOf_spec ht
    have hS : (sizeOf e).run P w = .ok size w := by simp [sizeOf, typeInfo, hi, hsz]
    unfold execOp
    simp [ho, hx, hy, Instr.sliceAt, Instr.slice, Instr.sliceBounds, Instr.sliceBound, asIntOf, run_underlying hu, hS]
  · exact cutG_run ht a n c k ho hx hy (by omega) w
/-- One more behind a row that there is or isn't, in any order. -/
theorem grow_one {P : Program} {ρ : Env} {w w0 : World} {B : Nat} {bx n c mc e : Nat} {p : Option Addr} {row Z : List (Nat × Obj)} {M0 : List α} {y : α} (HS : St B w0 w ((bx, .cells (S.cs y).toArray e (0, 0)) :: (row ++ Z))) (hrow : RowF S e p n c row M0)
    {t bytes : Nat} {s x : Operand} {o : Oper} (ht : sliceOf P t = some (e, S.K, bytes)) (ho : o.op = appendOp t s x) (hs : ev ρ s = .slice p n c) (hx : ev ρ x = .slice (some ⟨bx, 0, none⟩) 1 mc) (hb : (n + 1) * bytes ≤ 140737488355328) (hm : n + 1 ≤ maxLen) :
    ∃ b' cap' cur' w', (execOp (ev ρ) o).run P w = .ok (.value (.slice (some ⟨b', 0, none⟩) (n + 1) cap')) w' ∧ St B w0 w' ((b', .cells cur' e (0, 0)) :: Z) ∧ Rw S.K cur' cap' (n + 1) (cellsF S (M0 ++ [y])) := by
  have hY : (S.cs y).toArray.size = S.K := by rw [List.size_toArray, S.len]
  have hone : ∀ u ∈ (S.cs y).toArray.toList, u.oneCell' = true := fun u hu => S.one y u (by simpa using hu)
  rcases hrow with ⟨rfl, rfl, rfl, rfl, rfl⟩ | ⟨b, cur, rfl, rfl, hrw⟩
  · obtain ⟨b', cap', cur', w', hrun, HS', hr'⟩ := grow_nil (k := 0) HS ht ho hs hx rfl hY hone hb
    refine ⟨b', cap', cur', w', hrun, HS'.sub (List.Sublist.cons_cons _ (List.sublist_cons_self ..)), ?_⟩
    rw [cellsF_snoc]; exact hr'
  · obtain ⟨b', cap', cur', w', hrun, HS', hr'⟩ := grow_own (j := 1) (k := 0) HS ht ho hs rfl hrw hx rfl hY hone hb hm
    refine ⟨b', cap', cur', w', hrun, HS'.sub (List.sublist_cons_self ..), ?_⟩
    rw [cellsF_snoc]; exact hr'
end
section
variable {P : Program} {N : Nat} {ops : Array Oper} {K : Env → World → Prop} {ρ : Env} {w w0 : World} {i B : Nat} {r : List Nat} {l : List (Nat × Obj)}
end
/-- A pure operation of a chain: its ghost is another one's. -/
theorem D2.run_val {P : Program} {ops : Array Oper} {d : Option Nat} {ρ : Env} {k : Nat} {w : World} {S : Value → World → Prop} {v : Value} (h : opv P ops k ρ w = some (d, true, .ok (.value v) w)) (hS : S v w) :
    ∃ o, ops[k]? = some o ∧ o.dst = d ∧ Region.wanted o (nyield ops ρ) = true ∧ D2.Runs P S ((execOp (ev ρ) o).run P w) := by
  obtain ⟨o, ho, hd, hw, hr⟩ := opv_some h
  exact ⟨o, ho, hd, hw, by rw [hr]; exact hS⟩
end Go.Proofs.Ythpiojejhellhaa

namespace Go.Proofs.Crc
open Go Go.Proofs.Ythpiojejhellhaa
set_option linter.unusedVariables false
abbrev W := BitVec 32
def nth (s : List W) (i : Nat) : W := s.getD i 0
def fix (n : Nat) (f : Nat → W) : List W := (List.range n).map f
theorem nth_fix {n : Nat} {f : Nat → W} (j : Nat) : nth (fix n f) j = if j < n then f j else 0 := by
  unfold nth fix
  rw [List.getD_eq_getElem?_getD, List.getElem?_map]
  by_cases h : j < n
  · simp [h]
  · simp [h, List.getElem?_eq_none (show (List.range n).length ≤ j by simp; omega)]
def poly : W := 3988292384
def mv (x : W) : W := if x &&& 1 = 0 then x >>> 1 else x >>> 1 ^^^ poly
def mvk : Nat → W → W
  | 0, x => x
  | k + 1, x => mv (mvk k x)
theorem mv_low (x : W) : mv x = if x.getLsbD 0 = false then x >>> 1 else x >>> 1 ^^^ poly := by
  unfold mv
  have e : (x &&& 1 = 0) ↔ x.getLsbD 0 = false := by
    constructor
    · intro h
      have := congrArg (fun y => BitVec.getLsbD y 0) h
      simpa using this
    · intro h
      apply BitVec.eq_of_getLsbD_eq
      intro i hi
      by_cases h0 : i = 0
      · subst h0; rw [BitVec.getLsbD_and, h]; simp
      · simp [h0, BitVec.getLsbD_one]
  by_cases h : x.getLsbD 0 = false
  · rw [if_pos (e.2 h), if_pos h]
  · rw [if_neg (fun q => h (e.1 q)), if_neg h]
theorem mv_xor (x y : W) : mv (x ^^^ y) = mv x ^^^ mv y := by
  rw [mv_low, mv_low, mv_low, BitVec.getLsbD_xor]
  have e : (x ^^^ y) >>> 1 = x >>> 1 ^^^ y >>> 1 := BitVec.ushiftRight_xor_distrib ..
  have c : ∀ a b c : W, a ^^^ (b ^^^ c) = b ^^^ (a ^^^ c) := fun a b c => by rw [← BitVec.xor_assoc, BitVec.xor_comm a b, BitVec.xor_assoc]
  rw [e]
  cases x.getLsbD 0 <;> cases y.getLsbD 0
  · rfl
  · show x >>> 1 ^^^ y >>> 1 ^^^ poly = x >>> 1 ^^^ (y >>> 1 ^^^ poly)
    rw [BitVec.xor_assoc]
  · show x >>> 1 ^^^ y >>> 1 ^^^ poly = (x >>> 1 ^^^ poly) ^^^ y >>> 1
    rw [BitVec.xor_assoc, BitVec.xor_assoc, BitVec.xor_comm poly]
  · show x >>> 1 ^^^ y >>> 1 = (x >>> 1 ^^^ poly) ^^^ (y >>> 1 ^^^ poly)
    rw [BitVec.xor_assoc, c poly, BitVec.xor_self, BitVec.xor_zero]
theorem mvk_xor (x y : W) : ∀ k, mvk k (x ^^^ y) = mvk k x ^^^ mvk k y
  | 0 => rfl
  | k + 1 => by show mv (mvk k (x ^^^ y)) = _; rw [mvk_xor x y k, mv_xor]; rfl
theorem mvk_zero : ∀ k, mvk k 0 = 0
  | 0 => rfl
  | k + 1 => by show mv (mvk k 0) = 0; rw [mvk_zero k]; rfl
theorem mvk_add (j : Nat) (x : W) : ∀ k, mvk (j + k) x = mvk k (mvk j x)
  | 0 => rfl
  | k + 1 => by show mv (mvk (j + k) x) = _; rw [mvk_add j x k]; rfl
theorem mv_inj (x : W) (h : mv x = 0) : x = 0 := by
  rw [mv_low] at h
  by_cases h0 : x.getLsbD 0 = false
  · rw [if_pos h0] at h
    apply BitVec.eq_of_getLsbD_eq
    intro i hi
    cases i with
    | zero => rw [h0]; simp
    | succ i =>
      have := congrArg (fun y => BitVec.getLsbD y i) h
      simp only [BitVec.getLsbD_ushiftRight] at this
      rw [Nat.add_comm] at this
      rw [this]; simp
  · rw [if_neg h0] at h
    have := congrArg (fun y => BitVec.getLsbD y 31) h
    simp only [BitVec.getLsbD_xor, BitVec.getLsbD_ushiftRight] at this
    rw [BitVec.getLsbD_of_ge x (1 + 31) (by omega), show poly.getLsbD 31 = true from rfl] at this
    simp at this
theorem mvk_inj : ∀ (k : Nat) (x : W), mvk k x = 0 → x = 0
  | 0, _, h => h
  | k + 1, x, h => mvk_inj k x (mv_inj _ h)
/-- A register's word below 2^(32-k) comes down unturned. -/
theorem mvk_shl (z : W) : ∀ k, (∀ i, 32 - k ≤ i → z.getLsbD i = false) → mvk k (z <<< k) = z
  | 0, _ => by show z <<< 0 = z; exact BitVec.shiftLeft_zero z
  | k + 1, h => by
    have e : mv (z <<< (k + 1)) = z <<< k := by
      rw [mv_low, if_pos (by simp)]
      apply BitVec.eq_of_getLsbD_eq
      intro i hi
      simp only [BitVec.getLsbD_ushiftRight, BitVec.getLsbD_shiftLeft]
      by_cases hik : i < k
      · simp [hik, show 1 + i < k + 1 by omega]
      · by_cases h31 : 1 + i < 32
        · simp [hik, h31, hi, show ¬ 1 + i < k + 1 by omega, show 1 + i - (k + 1) = i - k by omega]
        · have : z.getLsbD (i - k) = false := h (i - k) (by omega)
          simp [hik, h31, hi, show ¬ 1 + i < k + 1 by omega, this]
    have e2 : mvk (k + 1) (z <<< (k + 1)) = mvk k (mv (z <<< (k + 1))) := by rw [Nat.add_comm]; exact mvk_add 1 _ k
    rw [e2, e]
    exact mvk_shl z k (fun i hi => h i (by omega))
def u32 (b : UInt8) : W := BitVec.ofNat 32 b.toNat
theorem u32_high (b : UInt8) (i : Nat) (h : 8 ≤ i) : (u32 b).getLsbD i = false := by
  unfold u32
  rw [BitVec.getLsbD_ofNat, Nat.testBit_lt_two_pow (Nat.lt_of_lt_of_le (UInt8.toNat_lt b) (show 2 ^ 8 ≤ 2 ^ i from Nat.pow_le_pow_right (by omega) h))]
  simp
/-- One byte. -/
def bst (r : W) (b : UInt8) : W := mvk 8 (r ^^^ u32 b)
def reg (r : W) (l : List UInt8) : W := l.foldl bst r
def rg0 : W := 4294967295
def crc (l : List UInt8) : W := ~~~ reg rg0 l
theorem reg_append (r : W) (a b : List UInt8) : reg r (a ++ b) = reg (reg r a) b := by unfold reg; rw [List.foldl_append]
theorem reg_take (r : W) (l : List UInt8) (k : Nat) (h : k < l.length) : reg r (l.take (k + 1)) = bst (reg r (l.take k)) (l.getD k 0) := by
  rw [List.take_add_one, List.getElem?_eq_getElem h, Option.toList_some, reg_append, List.getD_eq_getElem?_getD, List.getElem?_eq_getElem h]; rfl
/-- What eight bits become, by the table. -/
theorem split8 (x : W) : mvk 8 x = x >>> 8 ^^^ mvk 8 (x &&& 255) := by
  have e : x = ((x >>> 8) <<< 8) ^^^ (x &&& 255) := by
    apply BitVec.eq_of_getLsbD_eq
    intro i hi
    rw [BitVec.getLsbD_xor, BitVec.getLsbD_shiftLeft, BitVec.getLsbD_ushiftRight, BitVec.getLsbD_and]
    have e255 : (255 : W).getLsbD i = decide (i < 8) := by
      rw [show (255 : W) = BitVec.ofNat 32 (2 ^ 8 - 1) from rfl, BitVec.getLsbD_ofNat, Nat.testBit_two_pow_sub_one]; simp [hi]
    rw [e255]
    by_cases h : i < 8
    · simp [h]
    · simp [h, hi, show 8 + (i - 8) = i by omega]
  conv => lhs; rw [e]
  rw [mvk_xor, mvk_shl (x >>> 8) 8 (fun i hi => by rw [BitVec.getLsbD_ushiftRight]; exact BitVec.getLsbD_of_ge _ _ (by omega))]
theorem byte_and (r : W) (b : UInt8) : (r ^^^ u32 b) &&& 255 = BitVec.ofNat 32 ((BitVec.setWidth 8 r) ^^^ b.toBitVec).toNat := by
  apply BitVec.eq_of_getLsbD_eq
  intro i hi
  have e255 : (255 : W).getLsbD i = decide (i < 8) := by
    rw [show (255 : W) = BitVec.ofNat 32 (2 ^ 8 - 1) from rfl, BitVec.getLsbD_ofNat, Nat.testBit_two_pow_sub_one]; simp [hi]
  rw [BitVec.getLsbD_and, e255, BitVec.getLsbD_xor]
  have eR : (BitVec.ofNat 32 ((BitVec.setWidth 8 r) ^^^ b.toBitVec).toNat).getLsbD i = ((BitVec.setWidth 8 r) ^^^ b.toBitVec).getLsbD i := by
    rw [BitVec.getLsbD_ofNat]; simp only [hi, decide_true, Bool.true_and]; rfl
  have eb : (u32 b).getLsbD i = b.toBitVec.getLsbD i := by
    unfold u32; rw [BitVec.getLsbD_ofNat]; simp only [hi, decide_true, Bool.true_and]; rfl
  rw [eR, eb, BitVec.getLsbD_xor, BitVec.getLsbD_setWidth]
  by_cases h : i < 8
  · simp [h]
  · simp [h, BitVec.getLsbD_of_ge b.toBitVec i (by omega)]
theorem bst_tab (r : W) (b : UInt8) : bst r b = r >>> 8 ^^^ mvk 8 (BitVec.ofNat 32 ((BitVec.setWidth 8 r) ^^^ b.toBitVec).toNat) := by
  unfold bst
  rw [split8, byte_and]
  have : (r ^^^ u32 b) >>> 8 = r >>> 8 := by
    rw [BitVec.ushiftRight_xor_distrib]
    have : u32 b >>> 8 = 0 := by
      apply BitVec.eq_of_getLsbD_eq
      intro i hi
      rw [BitVec.getLsbD_ushiftRight, u32_high b _ (by omega)]; simp
    rw [this]; exact BitVec.xor_zero
  rw [this]
def tabL : List W := fix 256 fun j => mvk 8 (BitVec.ofNat 32 j)
theorem bst_nth (r : W) (b : UInt8) : r >>> 8 ^^^ nth tabL ((BitVec.setWidth 8 r) ^^^ b.toBitVec).toNat = bst r b := by
  rw [bst_tab]
  unfold tabL
  rw [nth_fix, if_pos (by have := ((BitVec.setWidth 8 r) ^^^ b.toBitVec).isLt; omega)]
/-- The table as it is made: what is behind 'above' is told anew. -/
def tb (bit a : Nat) : List W := fix 256 fun j => if j % (2 * bit) = 0 ∨ (j % bit = 0 ∧ j < 2 * bit * a) then mvk 8 (BitVec.ofNat 32 j) else 0
theorem tb_go {bit a : Nat} {r : W} (hb : bit = 1 ∨ bit = 2 ∨ bit = 4 ∨ bit = 8 ∨ bit = 16 ∨ bit = 32 ∨ bit = 64 ∨ bit = 128) (ha : 2 * bit * a < 256)
    (hr : mvk 8 (BitVec.ofNat 32 (2 * bit * a + bit)) = mvk 8 (BitVec.ofNat 32 (2 * bit * a)) ^^^ r) (j : Nat) (hj : j < 256) :
    nth (tb bit (a + 1)) j = if j = 2 * bit * a + bit then nth (tb bit a) (2 * bit * a) ^^^ r else nth (tb bit a) j := by
  unfold tb
  rw [nth_fix, nth_fix, nth_fix, if_pos hj, if_pos hj, if_pos ha]
  by_cases e : j = 2 * bit * a + bit
  · have c1 : j % (2 * bit) = 0 ∨ (j % bit = 0 ∧ j < 2 * bit * (a + 1)) := Or.inr (by rcases hb with rfl | rfl | rfl | rfl | rfl | rfl | rfl | rfl <;> omega)
    have c2 : 2 * bit * a % (2 * bit) = 0 ∨ (2 * bit * a % bit = 0 ∧ 2 * bit * a < 2 * bit * a) := Or.inl (Nat.mul_mod_right _ _)
    rw [if_pos e, if_pos c1, if_pos c2, ← hr, e]
  · rw [if_neg e]
    have c : (j % (2 * bit) = 0 ∨ (j % bit = 0 ∧ j < 2 * bit * (a + 1))) ↔ (j % (2 * bit) = 0 ∨ (j % bit = 0 ∧ j < 2 * bit * a)) := by
      rcases hb with rfl | rfl | rfl | rfl | rfl | rfl | rfl | rfl <;> omega
    by_cases h : j % (2 * bit) = 0 ∨ (j % bit = 0 ∧ j < 2 * bit * a)
    · rw [if_pos h, if_pos (c.2 h)]
    · rw [if_neg h, if_neg (fun q => h (c.1 q))]
theorem tb_end {bit a : Nat} (hb : bit = 1 ∨ bit = 2 ∨ bit = 4 ∨ bit = 8 ∨ bit = 16 ∨ bit = 32 ∨ bit = 64 ∨ bit = 128) (ha : ¬ 2 * bit * a < 256) (j : Nat) (hj : j < 256) : nth (tb bit a) j = if j % bit = 0 then mvk 8 (BitVec.ofNat 32 j) else 0 := by
  unfold tb
  rw [nth_fix, if_pos hj]
  have c : (j % (2 * bit) = 0 ∨ (j % bit = 0 ∧ j < 2 * bit * a)) ↔ j % bit = 0 := by
    rcases hb with rfl | rfl | rfl | rfl | rfl | rfl | rfl | rfl <;> omega
  by_cases h : j % bit = 0
  · rw [if_pos h, if_pos (c.2 h)]
  · rw [if_neg h, if_neg (fun q => h (c.1 q))]
theorem tb_start (bit : Nat) (j : Nat) (hj : j < 256) : nth (tb bit 0) j = if j % (2 * bit) = 0 then mvk 8 (BitVec.ofNat 32 j) else 0 := by
  unfold tb
  rw [nth_fix, if_pos hj]
  by_cases h : j % (2 * bit) = 0
  · rw [if_pos h, if_pos (Or.inl h)]
  · rw [if_neg h, if_neg (fun q => by rcases q with q | ⟨_, q⟩ <;> omega)]
theorem tab_val (t : Nat) (ht : t < 8) (a : Nat) (ha : 2 * 2 ^ (7 - t) * a < 256) : mvk 8 (BitVec.ofNat 32 (2 * 2 ^ (7 - t) * a + 2 ^ (7 - t))) = mvk 8 (BitVec.ofNat 32 (2 * 2 ^ (7 - t) * a)) ^^^ mvk (t + 1) 1 := by
  have key : ∀ t, t < 8 → ∀ a, a < 2 ^ t → mvk 8 (BitVec.ofNat 32 (2 * 2 ^ (7 - t) * a + 2 ^ (7 - t))) = mvk 8 (BitVec.ofNat 32 (2 * 2 ^ (7 - t) * a)) ^^^ mvk (t + 1) 1 := by decide +kernel
  refine key t ht a ?_
  have : t = 0 ∨ t = 1 ∨ t = 2 ∨ t = 3 ∨ t = 4 ∨ t = 5 ∨ t = 6 ∨ t = 7 := by omega
  rcases this with rfl | rfl | rfl | rfl | rfl | rfl | rfl | rfl <;> simp at ha ⊢ <;> omega
/-- The reference's step: bit k of a byte. -/
theorem ref_step {q u x : W} {k : Nat} (h : q ^^^ u >>> k = mvk k x) :
    (((q % 2).toNat ≠ ((u >>> k) % 2).toNat) → (q / 2 ^^^ (3988292384 : W)) ^^^ u >>> (k + 1) = mvk (k + 1) x) ∧ (¬ ((q % 2).toNat ≠ ((u >>> k) % 2).toNat) → (q / 2) ^^^ u >>> (k + 1) = mvk (k + 1) x) := by
  have e1 : (q ^^^ u >>> k) >>> 1 = q / 2 ^^^ u >>> (k + 1) := by
    rw [BitVec.ushiftRight_xor_distrib, ← BitVec.shiftRight_add]
    congr 1
  have bit : ∀ y : W, (y % 2).toNat = (y.getLsbD 0).toNat := fun y => by
    rw [BitVec.toNat_umod, BitVec.getLsbD, Nat.testBit_zero]
    show y.toNat % 2 = _
    rcases Nat.mod_two_eq_zero_or_one y.toNat with h | h <;> simp [h]
  rw [bit, bit]
  show (_ → _ = mv (mvk k x)) ∧ (_ → _ = mv (mvk k x))
  rw [← h, mv_low, e1, BitVec.getLsbD_xor]
  have c : ∀ a b c : W, a ^^^ b ^^^ c = a ^^^ c ^^^ b := fun a b c => by rw [BitVec.xor_assoc, BitVec.xor_comm b c, ← BitVec.xor_assoc]
  cases q.getLsbD 0 <;> cases (u >>> k).getLsbD 0 <;> simp <;> exact c _ _ _
theorem ref_byte {q r : W} {b : UInt8} (h : q ^^^ u32 b >>> 8 = mvk 8 (r ^^^ u32 b)) : q = bst r b := by
  have : u32 b >>> 8 = 0 := by
    apply BitVec.eq_of_getLsbD_eq
    intro i hi
    rw [BitVec.getLsbD_ushiftRight, u32_high b _ (by omega)]; simp
  rw [this] at h
  exact (BitVec.xor_zero (x := q)).symm.trans h
end Go.Proofs.Crc

namespace Go.Proofs.Crc
open Go Go.Proofs.Ythpiojejhellhaa
set_option linter.unusedVariables false
/-! ### Bits -/
def bitL (l : List UInt8) (q : Nat) : Bool := (l.getD (q / 8) 0).toBitVec.getLsbD (q % 8)
def rb (r : W) (f : Nat → Bool) : Nat → W
  | 0 => r
  | n + 1 => mv (rb r f n ^^^ (bif f n then 1 else 0))
theorem mv_bit (y v : W) : mv (y ^^^ v) = mv (y ^^^ (bif v.getLsbD 0 then 1 else 0)) ^^^ v >>> 1 := by
  rw [mv_xor, mv_xor, BitVec.xor_assoc]
  congr 1
  rw [mv_low]
  cases v.getLsbD 0
  · show v >>> 1 = mv 0 ^^^ v >>> 1
    rw [show mv 0 = 0 from rfl]; exact (BitVec.zero_xor).symm
  · show v >>> 1 ^^^ poly = mv 1 ^^^ v >>> 1
    rw [show mv 1 = poly from by decide, BitVec.xor_comm]
theorem rb_word (r u : W) (f : Nat → Bool) : ∀ k, (∀ q, q < k → f q = u.getLsbD q) → rb r f k ^^^ u >>> k = mvk k (r ^^^ u)
  | 0, _ => by show r ^^^ u >>> 0 = r ^^^ u; rw [BitVec.ushiftRight_zero]
  | k + 1, h => by
    have ih := rb_word r u f k (fun q hq => h q (by omega))
    show mv (rb r f k ^^^ (bif f k then 1 else 0)) ^^^ u >>> (k + 1) = mv (mvk k (r ^^^ u))
    rw [← ih, mv_bit (rb r f k) (u >>> k), h k (by omega), BitVec.getLsbD_ushiftRight, BitVec.shiftRight_add]; rfl
theorem rb_add (r : W) (f : Nat → Bool) (m : Nat) : ∀ k, rb r f (m + k) = rb (rb r f m) (fun q => f (m + q)) k
  | 0 => rfl
  | k + 1 => by show mv (rb r f (m + k) ^^^ _) = _; rw [rb_add r f m k]; rfl
theorem rb_congr (r : W) {f g : Nat → Bool} : ∀ k, (∀ q, q < k → f q = g q) → rb r f k = rb r g k
  | 0, _ => rfl
  | k + 1, h => by show mv (rb r f k ^^^ _) = mv (rb r g k ^^^ _); rw [rb_congr r k (fun q hq => h q (by omega)), h k (by omega)]
theorem rb_xor (r s : W) (f g : Nat → Bool) : ∀ k, rb (r ^^^ s) (fun q => f q ^^ g q) k = rb r f k ^^^ rb s g k
  | 0 => rfl
  | k + 1 => by
    show mv (rb (r ^^^ s) _ k ^^^ (bif (f k ^^ g k) then 1 else 0)) = mv _ ^^^ mv _
    rw [rb_xor r s f g k, ← mv_xor]
    congr 1
    have e : (bif (f k ^^ g k) then (1 : W) else 0) = (bif f k then 1 else 0) ^^^ (bif g k then 1 else 0) := by cases f k <;> cases g k <;> rfl
    rw [e]
    generalize (bif f k then (1 : W) else 0) = A
    generalize (bif g k then (1 : W) else 0) = B
    rw [BitVec.xor_assoc, BitVec.xor_assoc, ← BitVec.xor_assoc (rb s g k), BitVec.xor_comm (rb s g k) A, BitVec.xor_assoc]
theorem shr8 (b : UInt8) : u32 b >>> 8 = 0 := by
  apply BitVec.eq_of_getLsbD_eq
  intro i hi
  rw [BitVec.getLsbD_ushiftRight, u32_high b _ (by omega)]; simp
theorem u32_bit (b : UInt8) (i : Nat) (h : i < 8) : (u32 b).getLsbD i = b.toBitVec.getLsbD i := by
  unfold u32; rw [BitVec.getLsbD_ofNat]; simp only [show i < 32 by omega, decide_true, Bool.true_and]; rfl
theorem reg_rb (r : W) (l : List UInt8) : ∀ k, k ≤ l.length → reg r (l.take k) = rb r (bitL l) (8 * k)
  | 0, _ => rfl
  | k + 1, h => by
    rw [reg_take r l k (by omega), reg_rb r l k (by omega), show 8 * (k + 1) = 8 * k + 8 by omega, rb_add]
    have := rb_word (rb r (bitL l) (8 * k)) (u32 (l.getD k 0)) (fun q => bitL l (8 * k + q)) 8 (fun q hq => by
      rw [u32_bit _ _ hq]; unfold bitL; rw [show (8 * k + q) / 8 = k by omega, show (8 * k + q) % 8 = q by omega])
    rw [shr8] at this
    exact this.symm.trans BitVec.xor_zero
/-- A burst that leaves the register as it was is none. -/
theorem burst {f : Nat → Bool} {u : W} {p N : Nat} (hN : p ≤ N) (hf : ∀ q, q < N → f q = (decide (p ≤ q) && u.getLsbD (q - p))) (h : rb 0 f N = 0) : ∀ q, q < N → f q = false := by
  have h0 : ∀ k, k ≤ p → rb 0 f k = 0 := by
    intro k
    induction k with
    | zero => intro _; rfl
    | succ k ih =>
      intro hk
      show mv (rb 0 f k ^^^ _) = 0
      rw [ih (by omega), hf k (by omega), decide_eq_false (by omega)]
      show mv (0 ^^^ 0) = 0
      decide
  obtain ⟨j, rfl⟩ : ∃ j, N = p + j := ⟨N - p, by omega⟩
  rw [rb_add, h0 p (Nat.le_refl _)] at h
  have hbit : ∀ q, (BitVec.setWidth 32 (BitVec.setWidth j u)).getLsbD q = (decide (q < j) && u.getLsbD q) := by
    intro q
    rw [BitVec.getLsbD_setWidth, BitVec.getLsbD_setWidth]
    by_cases h32 : q < 32
    · simp [h32]
    · simp [h32, BitVec.getLsbD_of_ge u q (by omega)]
  have hw := rb_word 0 (BitVec.setWidth 32 (BitVec.setWidth j u)) (fun q => f (p + q)) j (fun q hq => by
    rw [hbit, hf (p + q) (by omega), decide_eq_true (by omega), decide_eq_true hq, show p + q - p = q by omega])
  have hz : (BitVec.setWidth 32 (BitVec.setWidth j u)) >>> j = 0 := by
    apply BitVec.eq_of_getLsbD_eq
    intro i hi
    rw [BitVec.getLsbD_ushiftRight, hbit, decide_eq_false (by omega)]; simp
  rw [h, hz] at hw
  have hu := mvk_inj j _ (hw.symm.trans rfl)
  have hu0 : BitVec.setWidth 32 (BitVec.setWidth j u) = 0 := by rw [← hu]; exact BitVec.zero_xor.symm
  intro q hq
  rw [hf q hq]
  by_cases hpq : p ≤ q
  · have := hbit (q - p)
    rw [hu0, decide_eq_true (show q - p < j by omega)] at this
    rw [decide_eq_true hpq]
    simpa using this.symm
  · rw [decide_eq_false hpq]; rfl
/-! ### Numbers in bytes -/
def le (n : W) (c : Nat) : List UInt8 := (List.range c).map fun i => UInt8.ofBitVec (BitVec.setWidth 8 (n >>> (8 * i)))
theorem le_len (n : W) (c : Nat) : (le n c).length = c := by unfold le; simp
theorem le_get (n : W) (c i : Nat) (h : i < c) : (le n c).getD i 0 = UInt8.ofBitVec (BitVec.setWidth 8 (n >>> (8 * i))) := by
  unfold le; rw [List.getD_eq_getElem?_getD, List.getElem?_map, List.getElem?_range h]; rfl
def num (l : List UInt8) : Nat → W
  | 0 => 0
  | i + 1 => num l i ||| u32 (l.getD i 0) <<< (8 * i)
def numB (l : List UInt8) : W := num l l.length
theorem num_bit (l : List UInt8) (j : Nat) (hj : j < 32) : ∀ k, (num l k).getLsbD j = (decide (j < 8 * k) && bitL l j)
  | 0 => by show (0 : W).getLsbD j = _; rw [decide_eq_false (by omega)]; simp
  | k + 1 => by
    show (num l k ||| u32 (l.getD k 0) <<< (8 * k)).getLsbD j = _
    rw [BitVec.getLsbD_or, num_bit l j hj k, BitVec.getLsbD_shiftLeft]
    by_cases h1 : j < 8 * k
    · simp [h1, show j < 8 * (k + 1) by omega]
    · by_cases h2 : j < 8 * (k + 1)
      · rw [u32_bit _ _ (by omega)]
        unfold bitL
        rw [show j / 8 = k by omega, show j % 8 = j - 8 * k by omega]
        simp [h1, h2, hj]
      · rw [u32_high _ _ (by omega)]; simp [h1, h2]
theorem le_bit (n : W) (c j : Nat) (h : j < 8 * c) : bitL (le n c) j = n.getLsbD j := by
  unfold bitL
  rw [le_get n c _ (by omega)]
  show (BitVec.setWidth 8 (n >>> (8 * (j / 8)))).getLsbD (j % 8) = _
  rw [BitVec.getLsbD_setWidth, BitVec.getLsbD_ushiftRight, show 8 * (j / 8) + j % 8 = j by omega]
  simp [show j % 8 < 8 by omega]
theorem numB_le (n : W) : numB (le n 4) = n := by
  apply BitVec.eq_of_getLsbD_eq
  intro i hi
  unfold numB
  rw [le_len, num_bit _ _ hi, le_bit _ _ _ (by omega)]
  simp [show i < 8 * 4 by omega]
theorem ext_bits {a b : List UInt8} (hl : a.length = b.length) (h : ∀ q, q < 8 * a.length → bitL a q = bitL b q) : a = b := by
  apply List.ext_getElem hl
  intro i h1 h2
  apply UInt8.toBitVec_inj.1
  apply BitVec.eq_of_getLsbD_eq
  intro j hj
  have := h (8 * i + j) (by omega)
  unfold bitL at this
  rw [show (8 * i + j) / 8 = i by omega, show (8 * i + j) % 8 = j by omega] at this
  rw [List.getD_eq_getElem?_getD, List.getD_eq_getElem?_getD, List.getElem?_eq_getElem h1, List.getElem?_eq_getElem h2] at this
  exact this
theorem le_numB (l : List UInt8) (h : l.length = 4) : le (numB l) 4 = l := by
  apply ext_bits (by rw [le_len, h])
  intro q hq
  rw [le_len] at hq
  rw [le_bit _ _ _ hq]
  unfold numB
  rw [num_bit _ _ (by omega), h, decide_eq_true (by omega)]; rfl
/-! ### Frames -/
def ct (l : List UInt8) : List UInt8 := le (BitVec.ofNat 32 l.length) 2 ++ l
def frB (l : List UInt8) : List UInt8 := ct l ++ le (crc (ct l)) 4
def IsR (l : List UInt8) : Prop := 1 ≤ l.length ∧ l.length ≤ 4000
def size2 (l : List UInt8) : Nat := (l.getD 0 0).toNat + 256 * (l.getD 1 0).toNat
theorem ct_len (l : List UInt8) : (ct l).length = l.length + 2 := by unfold ct; rw [List.length_append, le_len]; omega
theorem frB_len (l : List UInt8) : (frB l).length = l.length + 6 := by unfold frB; rw [List.length_append, ct_len, le_len]
theorem size2_lt (l : List UInt8) : size2 l < 65536 := by
  unfold size2
  have h1 := UInt8.toNat_lt (l.getD 0 0)
  have h2 := UInt8.toNat_lt (l.getD 1 0)
  omega
theorem le2 (n : Nat) : le (BitVec.ofNat 32 n) 2 = [UInt8.ofNat n, UInt8.ofBitVec (BitVec.setWidth 8 (BitVec.ofNat 32 n >>> 8))] := by
  unfold le
  show [UInt8.ofBitVec (BitVec.setWidth 8 (BitVec.ofNat 32 n >>> 0)), UInt8.ofBitVec (BitVec.setWidth 8 (BitVec.ofNat 32 n >>> 8))] = _
  congr 1
  apply UInt8.toNat_inj.1
  show (BitVec.setWidth 8 (BitVec.ofNat 32 n >>> 0)).toNat = (UInt8.ofNat n).toNat
  rw [BitVec.toNat_setWidth, BitVec.ushiftRight_zero, BitVec.toNat_ofNat, UInt8.toNat_ofNat']
  omega
theorem hi2 (n : Nat) (h : n < 65536) : (UInt8.ofBitVec (BitVec.setWidth 8 (BitVec.ofNat 32 n >>> 8))).toNat = n / 256 := by
  show (BitVec.setWidth 8 (BitVec.ofNat 32 n >>> 8)).toNat = _
  rw [BitVec.toNat_setWidth, BitVec.toNat_ushiftRight, BitVec.toNat_ofNat, Nat.shiftRight_eq_div_pow]
  omega
theorem size2_ct (l m : List UInt8) (h : l.length < 65536) : size2 (ct l ++ m) = l.length := by
  unfold ct size2
  rw [le2]
  show (UInt8.ofNat l.length).toNat + 256 * (UInt8.ofBitVec (BitVec.setWidth 8 (BitVec.ofNat 32 l.length >>> 8))).toNat = _
  rw [hi2 _ h, UInt8.toNat_ofNat']
  omega
theorem two (l : List UInt8) (h : 2 ≤ l.length) : le (BitVec.ofNat 32 (size2 l)) 2 = l.take 2 := by
  obtain ⟨a, b, t, rfl⟩ : ∃ a b t, l = a :: b :: t := by
    cases l with
    | nil => simp at h
    | cons a l => cases l with
      | nil => simp at h
      | cons b t => exact ⟨a, b, t, rfl⟩
  have hs : size2 (a :: b :: t) = a.toNat + 256 * b.toNat := rfl
  have h1 := UInt8.toNat_lt a
  have h2 := UInt8.toNat_lt b
  rw [hs, le2]
  show [_, _] = [a, b]
  congr 1
  · apply UInt8.toNat_inj.1; rw [UInt8.toNat_ofNat']; omega
  · congr 1
    apply UInt8.toNat_inj.1; rw [hi2 _ (by omega)]; omega
def fst (l : List UInt8) : List UInt8 :=
  if l.length < 2 ∨ ¬ (1 ≤ size2 l ∧ size2 l ≤ 4000) ∨ l.length < size2 l + 6 ∨ numB ((l.take (size2 l + 6)).drop (size2 l + 2)) ≠ crc (l.take (size2 l + 2)) then [] else (l.take (size2 l + 2)).drop 2
theorem fst_some (r m : List UInt8) (h : IsR r) : fst (frB r ++ m) = r := by
  have hs : size2 (frB r ++ m) = r.length := by unfold frB; rw [List.append_assoc]; exact size2_ct r _ (by have := h.2; omega)
  have hl : (frB r ++ m).length = r.length + 6 + m.length := by rw [List.length_append, frB_len]
  have t6 : (frB r ++ m).take (r.length + 6) = frB r := by rw [← frB_len, List.take_left]
  have t2 : (frB r ++ m).take (r.length + 2) = ct r := by unfold frB; rw [List.append_assoc, ← ct_len, List.take_left]
  unfold fst
  rw [hs, t6, t2]
  have d : (frB r).drop (r.length + 2) = le (crc (ct r)) 4 := by unfold frB; rw [← ct_len, List.drop_left]
  rw [d, numB_le, if_neg]
  · unfold ct
    rw [List.drop_append_of_le_length (by rw [le_len]; omega), List.drop_of_length_le (by rw [le_len]; omega), List.nil_append]
  · rintro (q | q | q | q)
    · omega
    · exact q h
    · omega
    · exact q rfl
theorem fst_back {l r : List UInt8} (h : fst l = r) (hr : r ≠ []) : IsR r ∧ l = frB r ++ l.drop (r.length + 6) ∧ r.length = size2 l := by
  unfold fst at h
  split at h
  · exact absurd h.symm hr
  · rename_i hc
    have h1 : ¬ l.length < 2 := fun q => hc (Or.inl q)
    have h2 : 1 ≤ size2 l ∧ size2 l ≤ 4000 := Decidable.not_not.1 fun q => hc (Or.inr (Or.inl q))
    have h3 : ¬ l.length < size2 l + 6 := fun q => hc (Or.inr (Or.inr (Or.inl q)))
    have h4 : numB ((l.take (size2 l + 6)).drop (size2 l + 2)) = crc (l.take (size2 l + 2)) := Decidable.not_not.1 fun q => hc (Or.inr (Or.inr (Or.inr q)))
    have hrl : r.length = size2 l := by rw [← h, List.length_drop, List.length_take]; omega
    have hct : ct r = l.take (size2 l + 2) := by
      unfold ct
      rw [hrl, two l (by omega), ← h]
      conv => rhs; rw [← List.take_append_drop 2 (l.take (size2 l + 2))]
      rw [List.take_take, show min 2 (size2 l + 2) = 2 by omega]
    have hfr : frB r = l.take (size2 l + 6) := by
      unfold frB
      rw [hct, ← h4, le_numB _ (by rw [List.length_drop, List.length_take]; omega)]
      conv => rhs; rw [← List.take_append_drop (size2 l + 2) (l.take (size2 l + 6))]
      rw [List.take_take, show min (size2 l + 2) (size2 l + 6) = size2 l + 2 by omega]
    refine ⟨⟨by omega, by omega⟩, ?_, hrl⟩
    rw [hfr, hrl, List.take_append_drop]
theorem fst_short {l : List UInt8} (h : l.length < 7) : fst l = [] := by
  by_cases e : fst l = []
  · exact e
  · obtain ⟨⟨h1, _⟩, h2, _⟩ := fst_back rfl e
    have := congrArg List.length h2
    rw [List.length_append, frB_len] at this
    omega
/-! ### Scans -/
def flat (rs : List ByteArray) : List UInt8 := (rs.map fun s => frB (tl s)).flatten
def Sc (l : List UInt8) (rs : List ByteArray) (p : Nat) : Prop := (∀ s ∈ rs, IsR (tl s)) ∧ (flat rs).length = p ∧ l = flat rs ++ l.drop p ∧ fst (l.drop p) = []
theorem flat_cons (s : ByteArray) (rs : List ByteArray) : flat (s :: rs) = frB (tl s) ++ flat rs := rfl
theorem flat_snoc (s : ByteArray) (rs : List ByteArray) : flat (rs ++ [s]) = flat rs ++ frB (tl s) := by unfold flat; simp
theorem Sc.uniq {l : List UInt8} {rs rs' : List ByteArray} {p p' : Nat} (h : Sc l rs p) (h' : Sc l rs' p') : rs = rs' ∧ p = p' := by
  induction rs generalizing l rs' p p' with
  | nil =>
    obtain ⟨_, rfl, _, h0⟩ := h
    cases rs' with
    | nil => obtain ⟨_, rfl, _, _⟩ := h'; exact ⟨rfl, rfl⟩
    | cons s t =>
      obtain ⟨hr, _, he, _⟩ := h'
      have h0' : fst l = [] := h0
      rw [he, flat_cons, List.append_assoc, fst_some _ _ (hr s (by simp))] at h0'
      have := (hr s (by simp)).1
      rw [h0'] at this; simp at this
  | cons s t ih =>
    obtain ⟨hr, hp, he, h0⟩ := h
    obtain ⟨hr', hp', he', h0'⟩ := h'
    have e1 : fst l = tl s := by rw [he, flat_cons, List.append_assoc, fst_some _ _ (hr s (by simp))]
    cases rs' with
    | nil =>
      have hp0 : p' = 0 := by rw [← hp']; rfl
      rw [hp0] at h0'
      rw [show l.drop 0 = l from rfl, e1] at h0'
      have := (hr s (by simp)).1
      rw [h0'] at this; simp at this
    | cons s' t' =>
      have e2 : fst l = tl s' := by rw [he', flat_cons, List.append_assoc, fst_some _ _ (hr' s' (by simp))]
      have hss : s = s' := by rw [← strB_tl s, ← e1, e2, strB_tl]
      subst hss
      rw [flat_cons, List.length_append] at hp hp'
      have step : ∀ (t : List ByteArray) (p : Nat), (frB (tl s)).length + (flat t).length = p → l = frB (tl s) ++ flat t ++ l.drop p → fst (l.drop p) = [] → (∀ x ∈ s :: t, IsR (tl x)) → Sc (l.drop (frB (tl s)).length) t (p - (frB (tl s)).length) := by
        intro t p hp he h0 hr
        have ed : (l.drop (frB (tl s)).length).drop (p - (frB (tl s)).length) = l.drop p := by rw [List.drop_drop]; congr 1; omega
        refine ⟨fun x hx => hr x (by simp [hx]), by omega, ?_, by rw [ed]; exact h0⟩
        rw [ed]
        conv => lhs; rw [he]
        rw [List.append_assoc, List.drop_left]
      have := ih (step t p hp (by rw [← flat_cons]; exact he) h0 hr) (step t' p' hp' (by rw [← flat_cons]; exact he') h0' hr')
      refine ⟨by rw [this.1], by have := this.2; omega⟩
/-- Records' frames, and behind them what is none. -/
theorem Sc.mk' (rs : List ByteArray) (m : List UInt8) (hr : ∀ s ∈ rs, IsR (tl s)) (h : fst m = []) : Sc (flat rs ++ m) rs (flat rs).length :=
  ⟨hr, rfl, by rw [List.drop_left], by rw [List.drop_left]; exact h⟩
/-- One more. -/
theorem sc_more {l : List UInt8} {rs : List ByteArray} {p : Nat} {s : ByteArray} (hp : (flat rs).length = p) (he : l = flat rs ++ l.drop p) (h : fst (l.drop p) = tl s) (hs : tl s ≠ []) (hr : ∀ s ∈ rs, IsR (tl s)) :
    (∀ x ∈ rs ++ [s], IsR (tl x)) ∧ (flat (rs ++ [s])).length = p + (s.size + 6) ∧ l = flat (rs ++ [s]) ++ l.drop (p + (s.size + 6)) ∧ p + (s.size + 6) ≤ l.length ∧ s.size ≤ 4000 := by
  obtain ⟨h1, h2, _⟩ := fst_back h hs
  have hl : (tl s).length = s.size := tl_len s
  have e : l = flat (rs ++ [s]) ++ l.drop (p + (s.size + 6)) := by
    rw [flat_snoc, List.append_assoc]
    conv => lhs; rw [he]
    congr 1
    conv => lhs; rw [h2]
    rw [List.drop_drop, hl]
  have hlen : (flat (rs ++ [s])).length = p + (s.size + 6) := by rw [flat_snoc, List.length_append, frB_len, hp, hl]
  refine ⟨?_, hlen, e, ?_, by have := h1.2; omega⟩
  · intro x hx
    rcases List.mem_append.1 hx with q | q
    · exact hr x q
    · obtain rfl := List.mem_singleton.1 q; exact h1
  · have := congrArg List.length e
    rw [List.length_append, hlen] at this
    omega
theorem fst_cut (r : List UInt8) (h : IsR r) (c : Nat) (hc : c < (frB r).length) : fst ((frB r).take c) = [] := by
  by_cases e : fst ((frB r).take c) = []
  · exact e
  · obtain ⟨h1, h2, h3⟩ := fst_back rfl e
    have hl := congrArg List.length h2
    rw [List.length_append, frB_len, List.length_take] at hl
    rw [frB_len] at hc hl
    have hs : size2 ((frB r).take c) = size2 (frB r) := by
      unfold size2
      rw [List.getD_eq_getElem?_getD, List.getD_eq_getElem?_getD, List.getElem?_take, List.getElem?_take, if_pos (by omega), if_pos (by omega)]
      rfl
    have hs2 : size2 (frB r) = r.length := by unfold frB; exact size2_ct r _ (by have := h.2; omega)
    omega
/-! ### Turned bits -/
def turnL (l : List UInt8) (p : Nat) (u : W) : Nat → List UInt8
  | 0 => l
  | k + 1 => if p + k < 8 * l.length ∧ u.getLsbD k = true then (turnL l p u k).set ((p + k) / 8) (UInt8.ofBitVec (((turnL l p u k).getD ((p + k) / 8) 0).toBitVec ^^^ (1 : BitVec 8) <<< ((p + k) % 8))) else turnL l p u k
theorem turnL_len (l : List UInt8) (p : Nat) (u : W) : ∀ k, (turnL l p u k).length = l.length
  | 0 => rfl
  | k + 1 => by unfold turnL; split <;> simp [turnL_len l p u k]
theorem turnL_bit (l : List UInt8) (p : Nat) (u : W) (q : Nat) (hq : q < 8 * l.length) : ∀ k, bitL (turnL l p u k) q = (bitL l q ^^ (decide (p ≤ q) && decide (q < p + k) && u.getLsbD (q - p)))
  | 0 => by
    show bitL l q = _
    by_cases h : p ≤ q
    · rw [decide_eq_false (show ¬ q < p + 0 by omega)]; simp
    · simp [h]
  | k + 1 => by
    have ih := turnL_bit l p u q hq k
    have hlen := turnL_len l p u k
    unfold turnL
    by_cases hc : p + k < 8 * l.length ∧ u.getLsbD k = true
    · rw [if_pos hc]
      have hb : bitL ((turnL l p u k).set ((p + k) / 8) (UInt8.ofBitVec (((turnL l p u k).getD ((p + k) / 8) 0).toBitVec ^^^ (1 : BitVec 8) <<< ((p + k) % 8)))) q = (bitL (turnL l p u k) q ^^ decide (q = p + k)) := by
        unfold bitL
        rw [List.getD_eq_getElem?_getD (l := (turnL l p u k).set _ _), List.getElem?_set]
        by_cases e : (p + k) / 8 = q / 8
        · rw [if_pos e, if_pos (by omega), ← e]
          show (((turnL l p u k).getD ((p + k) / 8) 0).toBitVec ^^^ (1 : BitVec 8) <<< ((p + k) % 8)).getLsbD (q % 8) = _
          rw [BitVec.getLsbD_xor]
          congr 1
          rw [BitVec.getLsbD_shiftLeft, show (1 : BitVec 8) = 1#8 from rfl, BitVec.getLsbD_one]
          by_cases e2 : q = p + k
          · subst e2; simp [show (p + k) % 8 < 8 by omega]
          · have : ¬ q % 8 = (p + k) % 8 := by omega
            simp [e2]
            intro h1 h2
            omega
        · rw [if_neg e, ← List.getD_eq_getElem?_getD, decide_eq_false (show ¬ q = p + k by intro h; subst h; exact e rfl)]; simp
      rw [hb, ih]
      by_cases e : q = p + k
      · subst e
        simp [show p + k - p = k by omega, hc.2]
      · by_cases h1 : p ≤ q
        · by_cases h2 : q < p + k
          · simp [e, h1, h2, show q < p + (k + 1) by omega]
          · simp [e, h1, h2, show ¬ q < p + (k + 1) by omega]
        · simp [e, h1]
    · rw [if_neg hc, ih]
      by_cases e : q = p + k
      · subst e
        have : u.getLsbD k = false := by
          cases hu : u.getLsbD k
          · rfl
          · exact absurd ⟨hq, hu⟩ hc
        simp [show p + k - p = k by omega, this]
      · by_cases h1 : p ≤ q
        · by_cases h2 : q < p + k
          · simp [h1, h2, show q < p + (k + 1) by omega]
          · simp [h1, h2, show ¬ q < p + (k + 1) by omega]
        · simp [h1]
end Go.Proofs.Crc

namespace Go.Proofs.Ythpiojejhellhaa
open Go Go.RowKit
set_option linter.unusedVariables false
theorem rwB (s : ByteArray) (h : ByteArray.size s ≤ maxLen) : Rw 1 (cellsB (tl s)).toArray (ByteArray.size s) (ByteArray.size s) (cellsB (tl s)) :=
  ⟨by rw [cellsB_len, tl_len]; omega, Nat.le_refl _, h, by rw [List.take_of_length_le (by simp [cellsB_len, tl_len])], by simp [cellsB_len, tl_len]⟩
theorem idx0_run {P : Program} {ρ : Env} {t e : TypeId} {bytes : Nat} (ht : sliceOf P t = some (e, 1, bytes)) {x y : Operand} {o : Oper} {kd : IntKind} (b n c : Nat) (ho : o.op = .indexAddr t x y) (hx : ev ρ x = .slice (some ⟨b, 0, none⟩) n c) (hy : ev ρ y = .int kd 0) (hk : 0 < n) :
    ∀ w, (execOp (ev ρ) o).run P w = .ok (.value (.pointer (some ⟨b, 0, none⟩))) w := fun w =>
  idxS_run (P := P) (kd := kd) ht b 0 n c 0 ho hx hy hk w
set_option maxRecDepth 100000 in
set_option maxHeartbeats 2000000 in
theorem slCloneS_fn (s : ByteArray) (hs : ByteArray.size s ≤ 1000000) : Fn Try.prog 43 #[.string s] (.string s) := by
  refine Fn.intro (c := codeOf Try.f43) [.tmp 2] 18 Try.func43 kr kr kr fun w => ?_
  have H0 := St.start w
  refine g_sreg [0] kr kr ?_
  refine s_val (some 2) (.string (⟨#[]⟩)) (fun w => by kernel_rfl) kr ?_
  refine s_nil ?_
  refine g_seq kr ?_
  refine g_sreg [0, 1, 2] kr kr ?_
  refine s_val (some 4) (.string s) (fun w => by kernel_rfl) kr ?_
  refine s_val (some 5) (.int .i64 ((ByteArray.size s : Nat) : Int)) (fun w => by kernel_rfl) kr ?_
  by_cases hc1 : (ByteArray.size s : Nat) = 0
  · skip
    refine s_valE (some 6) (.bool (((ByteArray.size s : Nat) : Int) == 0)) (.bool true) (fun w => by kernel_rfl) (bool_eq (beq_iff_eq.2 (by omega))) kr ?_
    refine s_nil ?_
    refine g_cond_t kr kr ?_
    refine g_sreg [0] kr kr ?_
    refine s_val (some 2) (.string (⟨#[]⟩)) (fun w => by kernel_rfl) kr ?_
    refine s_nil ?_
    refine g_ret kr ?_
    show ∃ vs, Res _ _ _ _ vs ∧ _
    refine ⟨[.string (⟨#[]⟩)], (.tmp (.string (⟨#[]⟩)) kr .nil), ?_, H0.below⟩
    exact congrArg Value.string (tl_inj (List.eq_nil_of_length_eq_zero (by rw [tl_len]; omega) : tl s = []).symm)
  · skip
    refine s_valE (some 6) (.bool (((ByteArray.size s : Nat) : Int) == 0)) (.bool false) (fun w => by kernel_rfl) (bool_eq (beq_eq_false_iff_ne.2 (by omega))) kr ?_
    refine s_nil ?_
    refine g_cond_f kr kr ?_
    refine g_skip kr ?_
    show WP _ _ _ _ _ _
    refine g_sreg [0, 1, 2, 3] kr kr ?_
    refine s_val (some 7) (.string s) (fun w => by kernel_rfl) kr ?_
    refine s_val (some 8) (.int .i64 ((ByteArray.size s : Nat) : Int)) (fun w => by kernel_rfl) kr ?_
    refine s_make H0 (some 9) 66 5 1 (.int .u8 0) (.tmp 8) (.tmp 8) .i64 .i64 (ByteArray.size s) kr kr kr kr rfl kr kr (by omega) (by unfold maxLen; omega) ?_
    intro b_1 cur_2 w1 H1 hr_3; clear H0
    have hr_3z : Rw 1 cur_2 (ByteArray.size s) (ByteArray.size s) (cellsB (List.replicate (ByteArray.size s) 0)) := by rw [cellsB_zeros']; exact hr_3
    refine s_val (some 3) (.slice (some ⟨b_1, 0, none⟩) (ByteArray.size s) (ByteArray.size s)) (fun w => by kernel_rfl) kr ?_
    refine s_nil ?_
    refine g_sreg [0, 1, 2] kr kr ?_
    refine s_val (some 10) (.slice (some ⟨b_1, 0, none⟩) (ByteArray.size s) (ByteArray.size s)) (fun w => by kernel_rfl) kr ?_
    refine s_val (some 11) (.string s) (fun w => by kernel_rfl) kr ?_
    refine s_copyStr H1 (some 12) 66 9 5 1 (.tmp 10) (.tmp 11) 0 b_1 (ByteArray.size s) (ByteArray.size s) s cur_2 ((cellsB (tl s)).toArray) 5 [(b_1, Obj.cells ((cellsB (tl s)).toArray) 5 (0, 0))] kr kr kr kr kr kr (by omega) (Nat.le_of_eq (by have h := hr_3z.sz; rw [h]; omega)) (by rw [List.drop_of_length_le (by have h := hr_3z.sz; rw [Array.length_toList, h]; omega), List.append_nil]) kr ?_
    intro w2 H2; clear H1
    refine s_nil ?_
    refine g_sreg [0, 1, 2, 3, 4, 5] kr kr ?_
    refine s_val (some 13) (.slice (some ⟨b_1, 0, none⟩) (ByteArray.size s) (ByteArray.size s)) (fun w => by kernel_rfl) kr ?_
    refine s_op (some 14) _ (.pointer (some ⟨b_1, 0, none⟩)) kr kr (fun o w ho => idx0_run (kd := .i64) (t := 66) (e := 5) (bytes := 1) kr (x := (.tmp 13)) (y := (.const (.int .i64 0))) b_1 (ByteArray.size s) (ByteArray.size s) ho kr kr (by omega) w) ?_
    refine s_val (some 15) (.slice (some ⟨b_1, 0, none⟩) (ByteArray.size s) (ByteArray.size s)) (fun w => by kernel_rfl) kr ?_
    refine s_val (some 16) (.int .i64 ((ByteArray.size s : Nat) : Int)) (fun w => by kernel_rfl) kr ?_
    refine s_unsafeStr H2 (some 17) 71 3 5 (.tmp 14) (.tmp 16) (ByteArray.size s) (ByteArray.size s) (tl s) kr kr kr kr rfl kr kr (rwB s (by unfold maxLen; omega)) (by omega) (by omega) ?_
    intro w3 H3; clear H2
    refine s_val (some 2) (.string (strB (tl s))) (fun w => by kernel_rfl) kr ?_
    refine s_nil ?_
    refine g_ret kr ?_
    show ∃ vs, Res _ _ _ _ vs ∧ _
    refine ⟨[.string (strB (tl s))], (.tmp (.string (strB (tl s))) kr .nil), ?_, H3.below⟩
    rfl
set_option maxRecDepth 100000 in
set_option maxHeartbeats 2000000 in
theorem cloneS_fn (s : ByteArray) (hs : ByteArray.size s ≤ 1000000) : Fn Try.prog 27 #[.string s] (.string s) := by
  refine Fn.intro (c := codeOf Try.f27) [.tmp 2] 5 Try.func27 kr kr kr fun w => ?_
  have H0 := St.start w
  refine g_sreg [0] kr kr ?_
  refine s_val (some 2) (.string (⟨#[]⟩)) (fun w => by kernel_rfl) kr ?_
  refine s_nil ?_
  refine g_sreg [0, 1, 2] kr kr ?_
  refine s_val (some 3) (.string s) (fun w => by kernel_rfl) kr ?_
  refine s_call H0 (some 4) 43 #[.string s] (.string s) (slCloneS_fn s (by omega)) (fun w => by kernel_rfl) kr ?_
  intro w1 H1; clear H0
  refine s_val (some 2) (.string s) (fun w => by kernel_rfl) kr ?_
  refine s_nil ?_
  refine g_ret kr ?_
  show ∃ vs, Res _ _ _ _ vs ∧ _
  refine ⟨[.string s], (.tmp (.string s) kr .nil), ?_, H1.below⟩
  rfl
end Go.Proofs.Ythpiojejhellhaa

namespace Go.Proofs.Ythpiojejhellhaa
open Go Go.RowKit Go.Proofs.Crc
set_option linter.unusedVariables false
def arr (n : Nat) (s : List W) : Value := .agg (arrF n fun i => .int .u32 ((BitVec.toNat (nth s i) : Nat) : Int)).toArray
theorem arr_at {n : Nat} (s : List W) {k off : Nat} (ho : off = 0 + k * 1) (hk : k < n) : (Value.cells (arr n s))[off]? = some (.int .u32 ((BitVec.toNat (nth s k) : Nat) : Int)) :=
  seg_at (pre := []) (post := []) (n := n) (f := fun j => .int .u32 ((BitVec.toNat (nth s j) : Nat) : Int)) (by show arrF n _ = [] ++ arrF n _ ++ []; simp) (by simpa using ho) hk
theorem arr_put {n : Nat} {s t : List W} {k off : Nat} {x : W} (ho : off = 0 + k * 1) (hk : k < n) (hg : ∀ j, j < n → nth t j = if j = k then x else nth s j) :
    ((Value.cells (arr n s)).toList.take off ++ (Value.int .u32 ((BitVec.toNat x : Nat) : Int)).cells.toList ++ (Value.cells (arr n s)).toList.drop (off + (Value.int .u32 ((BitVec.toNat x : Nat) : Int)).cells.size)).toArray = Value.cells (arr n t) := by
  rw [seg_put (pre := []) (post := []) (n := n) (f := fun j => .int .u32 ((BitVec.toNat (nth s j) : Nat) : Int)) (g := fun j => .int .u32 ((BitVec.toNat (nth t j) : Nat) : Int)) (by show arrF n _ = [] ++ arrF n _ ++ []; simp) rfl (by simpa using ho) hk (fun j hj => by rw [hg j hj]; split <;> rfl)]
  simp; rfl
theorem arr_congr {n : Nat} {s t : List W} (h : ∀ j, j < n → nth s j = nth t j) : arr n s = arr n t := by
  unfold arr; rw [arrF_congr (fun j hj => by rw [h j hj])]
set_option maxRecDepth 100000 in
set_option maxHeartbeats 2000000 in
theorem moved_fn (x : W) : Fn Try.prog 49 #[.int .u32 ((BitVec.toNat x : Nat) : Int)] (.int .u32 ((BitVec.toNat (mv x) : Nat) : Int)) := by
  refine Fn.intro (c := codeOf Try.f49) [.tmp 2] 11 Try.func49 kr kr kr fun w => ?_
  have H0 := St.start w
  refine g_sreg [0] kr kr ?_
  refine s_val (some 2) (.int .u32 0) (fun w => by kernel_rfl) kr ?_
  refine s_nil ?_
  refine g_seq kr ?_
  refine g_sreg [0, 1, 2] kr kr ?_
  refine s_val (some 3) (.int .u32 ((BitVec.toNat x : Nat) : Int)) (fun w => by kernel_rfl) kr ?_
  refine s_valE (some 4) (.int .u32 (Go.bits .and .u32 (((BitVec.toNat x : Nat) : Int)) (1))) (.int .u32 ((BitVec.toNat (x &&& (1 : BitVec 32)) : Nat) : Int)) (fun w => by kernel_rfl) (bv_and_u32 x (1 : BitVec 32)) kr ?_
  by_cases hc1 : ((BitVec.toNat (x &&& (1 : BitVec 32))) : Nat) = 0
  · skip
    refine s_valE (some 5) (.bool (((BitVec.toNat (x &&& (1 : BitVec 32)) : Nat) : Int) == 0)) (.bool true) (fun w => by kernel_rfl) (bool_eq (beq_iff_eq.2 (by omega))) kr ?_
    refine s_nil ?_
    refine g_cond_t kr kr ?_
    refine g_sreg [0, 1, 2] kr kr ?_
    refine s_val (some 6) (.int .u32 ((BitVec.toNat x : Nat) : Int)) (fun w => by kernel_rfl) kr ?_
    refine s_valE (some 7) (.int .u32 (Int.fdiv (((BitVec.toNat x : Nat) : Int)) (2 ^ (min 1 32)))) (.int .u32 ((BitVec.toNat (x >>> 1) : Nat) : Int)) (fun w => by kernel_rfl) (bv_shr_u32 x 1) kr ?_
    refine s_val (some 2) (.int .u32 ((BitVec.toNat (x >>> 1) : Nat) : Int)) (fun w => by kernel_rfl) kr ?_
    refine s_nil ?_
    refine g_ret kr ?_
    show ∃ vs, Res _ _ _ _ vs ∧ _
    refine ⟨[.int .u32 ((BitVec.toNat (x >>> 1) : Nat) : Int)], (.tmp (.int .u32 ((BitVec.toNat (x >>> 1) : Nat) : Int)) kr .nil), ?_, H0.below⟩
    refine congrArg (fun y : W => Value.int .u32 ((BitVec.toNat y : Nat) : Int)) ?_
    unfold mv poly
    rw [if_pos (BitVec.eq_of_toNat_eq hc1)]
  · skip
    refine s_valE (some 5) (.bool (((BitVec.toNat (x &&& (1 : BitVec 32)) : Nat) : Int) == 0)) (.bool false) (fun w => by kernel_rfl) (bool_eq (beq_eq_false_iff_ne.2 (by omega))) kr ?_
    refine s_nil ?_
    refine g_cond_f kr kr ?_
    refine g_skip kr ?_
    show WP _ _ _ _ _ _
    refine g_sreg [0, 1, 2, 3] kr kr ?_
    refine s_val (some 8) (.int .u32 ((BitVec.toNat x : Nat) : Int)) (fun w => by kernel_rfl) kr ?_
    refine s_valE (some 9) (.int .u32 (Int.fdiv (((BitVec.toNat x : Nat) : Int)) (2 ^ (min 1 32)))) (.int .u32 ((BitVec.toNat (x >>> 1) : Nat) : Int)) (fun w => by kernel_rfl) (bv_shr_u32 x 1) kr ?_
    refine s_valE (some 10) (.int .u32 (Go.bits .xor .u32 (((BitVec.toNat (x >>> 1) : Nat) : Int)) (3988292384))) (.int .u32 ((BitVec.toNat ((x >>> 1) ^^^ (3988292384 : BitVec 32)) : Nat) : Int)) (fun w => by kernel_rfl) (bv_xor_u32 (x >>> 1) (3988292384 : BitVec 32)) kr ?_
    refine s_val (some 2) (.int .u32 ((BitVec.toNat ((x >>> 1) ^^^ (3988292384 : BitVec 32)) : Nat) : Int)) (fun w => by kernel_rfl) kr ?_
    refine s_nil ?_
    refine g_ret kr ?_
    show ∃ vs, Res _ _ _ _ vs ∧ _
    refine ⟨[.int .u32 ((BitVec.toNat ((x >>> 1) ^^^ (3988292384 : BitVec 32)) : Nat) : Int)], (.tmp (.int .u32 ((BitVec.toNat ((x >>> 1) ^^^ (3988292384 : BitVec 32)) : Nat) : Int)) kr .nil), ?_, H0.below⟩
    refine congrArg (fun y : W => Value.int .u32 ((BitVec.toNat y : Nat) : Int)) ?_
    unfold mv poly
    rw [if_neg (by intro q; exact hc1 (by rw [q]; rfl))]
theorem t0_nth (j : Nat) (hj : j < 256) : nth [] j = if j % (2 * 128) = 0 then mvk 8 (BitVec.ofNat 32 j) else 0 := by
  by_cases h : j % (2 * 128) = 0
  · obtain rfl : j = 0 := by omega
    rw [if_pos rfl]; decide
  · rw [if_neg h]; rfl
theorem zero_arr : zeroV .u32 256 = arr 256 [] := kr
set_option maxRecDepth 100000 in
set_option maxHeartbeats 2000000 in
theorem table_fn  : Fn Try.prog 45 #[] (arr 256 tabL) := by
  refine Fn.intro (c := codeOf Try.f45) [.cell 0 67] 27 Try.func45 kr kr kr fun w => ?_
  have H0 := St.start w
  refine g_sreg [0] kr kr ?_
  refine s_alloc H0 (some 0) 67 (zeroV .u32 256) kr kr kr ?_
  intro b1 w1 H1; clear H0
  refine s_nil ?_
  refine g_sreg [0] kr kr ?_
  refine s_alloc H1 (some 1) 67 (zeroV .u32 256) kr kr kr ?_
  intro b2 w2 H2; clear H1
  refine s_nil ?_
  refine g_sreg [0] kr kr ?_
  have HZ1 : St w.heap.size w w2 [(b2, Obj.cells (Value.cells (arr 256 ([]))) 67 (0, 0)), (b1, Obj.cells (Value.cells (zeroV .u32 256)) 67 (0, 0))] := by rw [← zero_arr]; exact H2
  refine s_val (some 2) (.int .u32 1) (fun w => by kernel_rfl) kr ?_
  refine s_nil ?_
  refine g_seq kr ?_
  refine g_sreg [0] kr kr ?_
  refine s_val (some 3) (.int .i64 128) (fun w => by kernel_rfl) kr ?_
  refine s_nil ?_
  refine g_block 0 kr ?_
  refine g_first kr ?_
  refine g_seq kr ?_
  refine g_sreg [0, 1] kr kr ?_
  refine s_val (some 5) (.int .i64 128) (fun w => by kernel_rfl) kr ?_
  refine s_val (some 6) (.bool true) (fun w => by kernel_rfl) kr ?_
  refine s_nil ?_
  refine g_cond_t kr kr ?_
  refine g_skip kr ?_
  show WP _ _ _ _ _ _
  refine g_seq kr ?_
  refine g_block 1 kr ?_
  refine g_sreg [0, 1, 2] kr kr ?_
  refine s_val (some 9) (.int .u32 1) (fun w => by kernel_rfl) kr ?_
  refine s_call HZ1 (some 10) 49 #[.int .u32 1] (.int .u32 ((BitVec.toNat (mv (1 : BitVec 32)) : Nat) : Int)) (moved_fn (1 : BitVec 32)) (fun w => by kernel_rfl) kr ?_
  intro w3 H3; clear HZ1
  refine s_val (some 2) (.int .u32 ((BitVec.toNat (mv (1 : BitVec 32)) : Nat) : Int)) (fun w => by kernel_rfl) kr ?_
  refine s_nil ?_
  refine g_sreg [0] kr kr ?_
  refine s_val (some 4) (.int .i64 0) (fun w => by kernel_rfl) kr ?_
  refine s_nil ?_
  refine g_block 2 kr ?_
  have hacc2 : arr 256 ([]) = arr 256 (tb 128 0) := arr_congr (fun j hj => by rw [tb_start 128 j hj]; exact t0_nth j hj)
  have HA2 : St w.heap.size w w3 [(b2, Obj.cells (Value.cells (arr 256 (tb 128 0))) 67 (0, 0)), (b1, Obj.cells (Value.cells (zeroV .u32 256)) 67 (0, 0))] := by rw [← hacc2]; exact H3
  refine g_loop kr (fun mz ρ ww => ∃ (a : Nat), 256 - 2 * 128 * a = mz ∧ (2 * 128 * a ≤ 256) ∧ St w.heap.size w ww [(b2, Obj.cells (Value.cells (arr 256 (tb 128 a))) 67 (0, 0)), (b1, Obj.cells (Value.cells (zeroV .u32 256)) 67 (0, 0))] ∧ Is [(0, .pointer (some ⟨b1, 0, none⟩)), (1, .pointer (some ⟨b2, 0, none⟩)), (2, .int .u32 ((BitVec.toNat (mv (1 : BitVec 32)) : Nat) : Int)), (3, .int .i64 128), (4, .int .i64 ((2 * 128 * a : Nat) : Int)), (6, .bool true)] ρ) (256 - 2 * 128 * 0) ⟨0, rfl, (by omega), HA2, (Is.of ⟨kr, kr, kr, kr, kr, kr, trivial⟩)⟩ ?_
  clear HA2
  rintro _ _ w4 ⟨a, rfl, ha, H4, _, rfl⟩
  refine g_seq kr ?_
  refine g_sreg [0, 1] kr kr ?_
  refine s_val (some 11) (.int .i64 ((2 * 128 * a : Nat) : Int)) (fun w => by kernel_rfl) kr ?_
  by_cases hc3 : (2 * 128 * a : Nat) < 256
  · skip
    refine s_valE (some 12) (.bool (decide (((2 * 128 * a : Nat) : Int) < 256))) (.bool true) (fun w => by kernel_rfl) (bool_eq (decide_eq_true (by omega))) kr ?_
    refine s_nil ?_
    refine g_cond_t kr kr ?_
    refine g_skip kr ?_
    show WP _ _ _ _ _ _
    refine g_seq kr ?_
    refine g_block 3 kr ?_
    refine g_reg0 [0, 1, 2, 3, 4, 5, 6, 7, 8, 9] kr ?_
    refine s_val (some 17) (.int .i64 ((2 * 128 * a : Nat) : Int)) (fun w => by kernel_rfl) kr ?_
    refine s_val (some 18) (.int .i64 128) (fun w => by kernel_rfl) kr ?_
    refine s_valE (some 19) (.int .i64 (IntKind.i64.wrap (((2 * 128 * a : Nat) : Int) + 128))) (.int .i64 (((2 * 128 * a) + 128 : Nat) : Int)) (fun w => by kernel_rfl) (int_eq (wrapAdd_i64 (a := 2 * 128 * a) (b := 128) (by omega))) kr ?_
    refine s_val (some 20) (.int .i64 ((2 * 128 * a : Nat) : Int)) (fun w => by kernel_rfl) kr ?_
    refine s_op (some 21) _ (.pointer (some ⟨b2, 0 + (2 * 128 * a) * 1, none⟩)) kr kr (fun o w ho => idxA_run (kd := .i64) (t := 67) (n := 256) (size := 1) kr (x := (.tmp 1)) (y := (.tmp 20)) b2 0 (2 * 128 * a) ho kr kr (by omega) w) ?_
    refine s_load1 H4 (some 22) 64 (.tmp 21) 0 b2 (0 + (2 * 128 * a) * 1) (Value.cells (arr 256 (tb 128 a))) 67 (0, 0) (.int .u32 ((BitVec.toNat (nth (tb 128 a) (2 * 128 * a)) : Nat) : Int)) kr kr kr kr kr (arr_at (n := 256) (tb 128 a) (k := (2 * 128 * a)) (by omega) (by omega)) ?_
    refine s_val (some 23) (.int .u32 ((BitVec.toNat (mv (1 : BitVec 32)) : Nat) : Int)) (fun w => by kernel_rfl) kr ?_
    refine s_valE (some 24) (.int .u32 (Go.bits .xor .u32 (((BitVec.toNat (nth (tb 128 a) (2 * 128 * a)) : Nat) : Int)) (((BitVec.toNat (mv (1 : BitVec 32)) : Nat) : Int)))) (.int .u32 ((BitVec.toNat ((nth (tb 128 a) (2 * 128 * a)) ^^^ (mv (1 : BitVec 32))) : Nat) : Int)) (fun w => by kernel_rfl) (bv_xor_u32 (nth (tb 128 a) (2 * 128 * a)) (mv (1 : BitVec 32))) kr ?_
    refine s_op (some 25) _ (.pointer (some ⟨b2, 0 + ((2 * 128 * a) + 128) * 1, none⟩)) kr kr (fun o w ho => idxA_run (kd := .i64) (t := 67) (n := 256) (size := 1) kr (x := (.tmp 1)) (y := (.tmp 19)) b2 0 ((2 * 128 * a) + 128) ho kr kr (by omega) w) ?_
    refine s_store H4 0 [(b2, Obj.cells (Value.cells (arr 256 (tb 128 (a + 1)))) 67 (0, 0)), (b1, Obj.cells (Value.cells (zeroV .u32 256)) 67 (0, 0))] 64 (.tmp 25) (.tmp 24) b2 (0 + ((2 * 128 * a) + 128) * 1) (Value.cells (arr 256 (tb 128 a))) (Value.cells (arr 256 (tb 128 (a + 1)))) 67 (.int .u32 ((BitVec.toNat ((nth (tb 128 a) (2 * 128 * a)) ^^^ (mv (1 : BitVec 32))) : Nat) : Int)) kr kr kr kr kr kr (by show _ + 1 ≤ 256; omega) (arr_put (k := ((2 * 128 * a) + 128)) (x := (nth (tb 128 a) (2 * 128 * a)) ^^^ (mv (1 : BitVec 32))) (by omega) (by omega) (fun j hj => tb_go (bit := 128) (a := a) (r := mv (1 : BitVec 32)) (by omega) (by omega) (tab_val 0 (by omega) a (by omega)) j hj)) kr ?_
    intro w5 H5; clear H4
    refine s_nil ?_
    show WP _ _ _ _ _ _
    refine g_reg0 [0, 1, 2, 3, 4] kr ?_
    refine s_val (some 13) (.int .i64 ((2 * 128 * a : Nat) : Int)) (fun w => by kernel_rfl) kr ?_
    refine s_val (some 14) (.int .i64 128) (fun w => by kernel_rfl) kr ?_
    refine s_val (some 15) (.int .i64 256) (fun w => by kernel_rfl) kr ?_
    refine s_valE (some 16) (.int .i64 (IntKind.i64.wrap (((2 * 128 * a : Nat) : Int) + 256))) (.int .i64 (((2 * 128 * a) + 256 : Nat) : Int)) (fun w => by kernel_rfl) (int_eq (wrapAdd_i64 (a := 2 * 128 * a) (b := 256) (by omega))) kr ?_
    refine s_val (some 4) (.int .i64 (((2 * 128 * a) + 256 : Nat) : Int)) (fun w => by kernel_rfl) kr ?_
    refine s_nil ?_
    rw [show (((2 * 128 * a) + 256 : Nat) : Int) = ((2 * 128 * (a + 1) : Nat) : Int) from by omega]
    show ∃ m, _ ∧ _
    exact ⟨_, (by omega), (a + 1), rfl, (by omega), H5, (Is.of ⟨kr, kr, kr, kr, kr, kr, trivial⟩)⟩
  · skip
    refine s_valE (some 12) (.bool (decide (((2 * 128 * a : Nat) : Int) < 256))) (.bool false) (fun w => by kernel_rfl) (bool_eq (decide_eq_false (by omega))) kr ?_
    refine s_nil ?_
    refine g_cond_f kr kr ?_
    refine g_exit 2 kr ?_
    show WP _ _ _ _ _ _
    refine g_reg0 [0, 1, 2] kr ?_
    refine s_val (some 7) (.int .i64 128) (fun w => by kernel_rfl) kr ?_
    refine s_val (some 8) (.int .i64 64) (fun w => by kernel_rfl) kr ?_
    refine s_val (some 3) (.int .i64 64) (fun w => by kernel_rfl) kr ?_
    refine s_nil ?_
    show WPL _ _ _ _ _ _
    refine g_next ?_
    refine g_seq kr ?_
    refine g_sreg [0, 1] kr kr ?_
    refine s_val (some 5) (.int .i64 64) (fun w => by kernel_rfl) kr ?_
    refine s_val (some 6) (.bool true) (fun w => by kernel_rfl) kr ?_
    refine s_nil ?_
    refine g_cond_t kr kr ?_
    refine g_skip kr ?_
    show WP _ _ _ _ _ _
    refine g_seq kr ?_
    refine g_block 1 kr ?_
    refine g_sreg [0, 1, 2] kr kr ?_
    refine s_val (some 9) (.int .u32 ((BitVec.toNat (mv (1 : BitVec 32)) : Nat) : Int)) (fun w => by kernel_rfl) kr ?_
    refine s_call H4 (some 10) 49 #[.int .u32 ((BitVec.toNat (mv (1 : BitVec 32)) : Nat) : Int)] (.int .u32 ((BitVec.toNat (mv (mv (1 : BitVec 32))) : Nat) : Int)) (moved_fn (mv (1 : BitVec 32))) (fun w => by kernel_rfl) kr ?_
    intro w6 H6; clear H4
    refine s_val (some 2) (.int .u32 ((BitVec.toNat (mv (mv (1 : BitVec 32))) : Nat) : Int)) (fun w => by kernel_rfl) kr ?_
    refine s_nil ?_
    refine g_sreg [0] kr kr ?_
    refine s_val (some 4) (.int .i64 0) (fun w => by kernel_rfl) kr ?_
    refine s_nil ?_
    refine g_block 2 kr ?_
    have hacc4 : arr 256 (tb 128 a) = arr 256 (tb 64 0) := arr_congr (fun j hj => by rw [tb_end (by omega) (by omega) j hj, tb_start 64 j hj])
    have HA4 : St w.heap.size w w6 [(b2, Obj.cells (Value.cells (arr 256 (tb 64 0))) 67 (0, 0)), (b1, Obj.cells (Value.cells (zeroV .u32 256)) 67 (0, 0))] := by rw [← hacc4]; exact H6
    refine g_loop kr (fun mz ρ ww => ∃ (a : Nat), 256 - 2 * 64 * a = mz ∧ (2 * 64 * a ≤ 256) ∧ St w.heap.size w ww [(b2, Obj.cells (Value.cells (arr 256 (tb 64 a))) 67 (0, 0)), (b1, Obj.cells (Value.cells (zeroV .u32 256)) 67 (0, 0))] ∧ Is [(0, .pointer (some ⟨b1, 0, none⟩)), (1, .pointer (some ⟨b2, 0, none⟩)), (2, .int .u32 ((BitVec.toNat (mv (mv (1 : BitVec 32))) : Nat) : Int)), (3, .int .i64 64), (4, .int .i64 ((2 * 64 * a : Nat) : Int)), (6, .bool true)] ρ) (256 - 2 * 64 * 0) ⟨0, rfl, (by omega), HA4, (Is.of ⟨kr, kr, kr, kr, kr, kr, trivial⟩)⟩ ?_
    clear HA4
    rintro _ _ w7 ⟨a, rfl, ha, H7, _, rfl⟩
    refine g_seq kr ?_
    refine g_sreg [0, 1] kr kr ?_
    refine s_val (some 11) (.int .i64 ((2 * 64 * a : Nat) : Int)) (fun w => by kernel_rfl) kr ?_
    by_cases hc5 : (2 * 64 * a : Nat) < 256
    · skip
      refine s_valE (some 12) (.bool (decide (((2 * 64 * a : Nat) : Int) < 256))) (.bool true) (fun w => by kernel_rfl) (bool_eq (decide_eq_true (by omega))) kr ?_
      refine s_nil ?_
      refine g_cond_t kr kr ?_
      refine g_skip kr ?_
      show WP _ _ _ _ _ _
      refine g_seq kr ?_
      refine g_block 3 kr ?_
      refine g_reg0 [0, 1, 2, 3, 4, 5, 6, 7, 8, 9] kr ?_
      refine s_val (some 17) (.int .i64 ((2 * 64 * a : Nat) : Int)) (fun w => by kernel_rfl) kr ?_
      refine s_val (some 18) (.int .i64 64) (fun w => by kernel_rfl) kr ?_
      refine s_valE (some 19) (.int .i64 (IntKind.i64.wrap (((2 * 64 * a : Nat) : Int) + 64))) (.int .i64 (((2 * 64 * a) + 64 : Nat) : Int)) (fun w => by kernel_rfl) (int_eq (wrapAdd_i64 (a := 2 * 64 * a) (b := 64) (by omega))) kr ?_
      refine s_val (some 20) (.int .i64 ((2 * 64 * a : Nat) : Int)) (fun w => by kernel_rfl) kr ?_
      refine s_op (some 21) _ (.pointer (some ⟨b2, 0 + (2 * 64 * a) * 1, none⟩)) kr kr (fun o w ho => idxA_run (kd := .i64) (t := 67) (n := 256) (size := 1) kr (x := (.tmp 1)) (y := (.tmp 20)) b2 0 (2 * 64 * a) ho kr kr (by omega) w) ?_
      refine s_load1 H7 (some 22) 64 (.tmp 21) 0 b2 (0 + (2 * 64 * a) * 1) (Value.cells (arr 256 (tb 64 a))) 67 (0, 0) (.int .u32 ((BitVec.toNat (nth (tb 64 a) (2 * 64 * a)) : Nat) : Int)) kr kr kr kr kr (arr_at (n := 256) (tb 64 a) (k := (2 * 64 * a)) (by omega) (by omega)) ?_
      refine s_val (some 23) (.int .u32 ((BitVec.toNat (mv (mv (1 : BitVec 32))) : Nat) : Int)) (fun w => by kernel_rfl) kr ?_
      refine s_valE (some 24) (.int .u32 (Go.bits .xor .u32 (((BitVec.toNat (nth (tb 64 a) (2 * 64 * a)) : Nat) : Int)) (((BitVec.toNat (mv (mv (1 : BitVec 32))) : Nat) : Int)))) (.int .u32 ((BitVec.toNat ((nth (tb 64 a) (2 * 64 * a)) ^^^ (mv (mv (1 : BitVec 32)))) : Nat) : Int)) (fun w => by kernel_rfl) (bv_xor_u32 (nth (tb 64 a) (2 * 64 * a)) (mv (mv (1 : BitVec 32)))) kr ?_
      refine s_op (some 25) _ (.pointer (some ⟨b2, 0 + ((2 * 64 * a) + 64) * 1, none⟩)) kr kr (fun o w ho => idxA_run (kd := .i64) (t := 67) (n := 256) (size := 1) kr (x := (.tmp 1)) (y := (.tmp 19)) b2 0 ((2 * 64 * a) + 64) ho kr kr (by omega) w) ?_
      refine s_store H7 0 [(b2, Obj.cells (Value.cells (arr 256 (tb 64 (a + 1)))) 67 (0, 0)), (b1, Obj.cells (Value.cells (zeroV .u32 256)) 67 (0, 0))] 64 (.tmp 25) (.tmp 24) b2 (0 + ((2 * 64 * a) + 64) * 1) (Value.cells (arr 256 (tb 64 a))) (Value.cells (arr 256 (tb 64 (a + 1)))) 67 (.int .u32 ((BitVec.toNat ((nth (tb 64 a) (2 * 64 * a)) ^^^ (mv (mv (1 : BitVec 32)))) : Nat) : Int)) kr kr kr kr kr kr (by show _ + 1 ≤ 256; omega) (arr_put (k := ((2 * 64 * a) + 64)) (x := (nth (tb 64 a) (2 * 64 * a)) ^^^ (mv (mv (1 : BitVec 32)))) (by omega) (by omega) (fun j hj => tb_go (bit := 64) (a := a) (r := mv (mv (1 : BitVec 32))) (by omega) (by omega) (tab_val 1 (by omega) a (by omega)) j hj)) kr ?_
      intro w8 H8; clear H7
      refine s_nil ?_
      show WP _ _ _ _ _ _
      refine g_reg0 [0, 1, 2, 3, 4] kr ?_
      refine s_val (some 13) (.int .i64 ((2 * 64 * a : Nat) : Int)) (fun w => by kernel_rfl) kr ?_
      refine s_val (some 14) (.int .i64 64) (fun w => by kernel_rfl) kr ?_
      refine s_val (some 15) (.int .i64 128) (fun w => by kernel_rfl) kr ?_
      refine s_valE (some 16) (.int .i64 (IntKind.i64.wrap (((2 * 64 * a : Nat) : Int) + 128))) (.int .i64 (((2 * 64 * a) + 128 : Nat) : Int)) (fun w => by kernel_rfl) (int_eq (wrapAdd_i64 (a := 2 * 64 * a) (b := 128) (by omega))) kr ?_
      refine s_val (some 4) (.int .i64 (((2 * 64 * a) + 128 : Nat) : Int)) (fun w => by kernel_rfl) kr ?_
      refine s_nil ?_
      rw [show (((2 * 64 * a) + 128 : Nat) : Int) = ((2 * 64 * (a + 1) : Nat) : Int) from by omega]
      show ∃ m, _ ∧ _
      exact ⟨_, (by omega), (a + 1), rfl, (by omega), H8, (Is.of ⟨kr, kr, kr, kr, kr, kr, trivial⟩)⟩
    · skip
      refine s_valE (some 12) (.bool (decide (((2 * 64 * a : Nat) : Int) < 256))) (.bool false) (fun w => by kernel_rfl) (bool_eq (decide_eq_false (by omega))) kr ?_
      refine s_nil ?_
      refine g_cond_f kr kr ?_
      refine g_exit 2 kr ?_
      show WP _ _ _ _ _ _
      refine g_reg0 [0, 1, 2] kr ?_
      refine s_val (some 7) (.int .i64 64) (fun w => by kernel_rfl) kr ?_
      refine s_val (some 8) (.int .i64 32) (fun w => by kernel_rfl) kr ?_
      refine s_val (some 3) (.int .i64 32) (fun w => by kernel_rfl) kr ?_
      refine s_nil ?_
      show WPL _ _ _ _ _ _
      refine g_next ?_
      refine g_seq kr ?_
      refine g_sreg [0, 1] kr kr ?_
      refine s_val (some 5) (.int .i64 32) (fun w => by kernel_rfl) kr ?_
      refine s_val (some 6) (.bool true) (fun w => by kernel_rfl) kr ?_
      refine s_nil ?_
      refine g_cond_t kr kr ?_
      refine g_skip kr ?_
      show WP _ _ _ _ _ _
      refine g_seq kr ?_
      refine g_block 1 kr ?_
      refine g_sreg [0, 1, 2] kr kr ?_
      refine s_val (some 9) (.int .u32 ((BitVec.toNat (mv (mv (1 : BitVec 32))) : Nat) : Int)) (fun w => by kernel_rfl) kr ?_
      refine s_call H7 (some 10) 49 #[.int .u32 ((BitVec.toNat (mv (mv (1 : BitVec 32))) : Nat) : Int)] (.int .u32 ((BitVec.toNat (mv (mv (mv (1 : BitVec 32)))) : Nat) : Int)) (moved_fn (mv (mv (1 : BitVec 32)))) (fun w => by kernel_rfl) kr ?_
      intro w9 H9; clear H7
      refine s_val (some 2) (.int .u32 ((BitVec.toNat (mv (mv (mv (1 : BitVec 32)))) : Nat) : Int)) (fun w => by kernel_rfl) kr ?_
      refine s_nil ?_
      refine g_sreg [0] kr kr ?_
      refine s_val (some 4) (.int .i64 0) (fun w => by kernel_rfl) kr ?_
      refine s_nil ?_
      refine g_block 2 kr ?_
      have hacc6 : arr 256 (tb 64 a) = arr 256 (tb 32 0) := arr_congr (fun j hj => by rw [tb_end (by omega) (by omega) j hj, tb_start 32 j hj])
      have HA6 : St w.heap.size w w9 [(b2, Obj.cells (Value.cells (arr 256 (tb 32 0))) 67 (0, 0)), (b1, Obj.cells (Value.cells (zeroV .u32 256)) 67 (0, 0))] := by rw [← hacc6]; exact H9
      refine g_loop kr (fun mz ρ ww => ∃ (a : Nat), 256 - 2 * 32 * a = mz ∧ (2 * 32 * a ≤ 256) ∧ St w.heap.size w ww [(b2, Obj.cells (Value.cells (arr 256 (tb 32 a))) 67 (0, 0)), (b1, Obj.cells (Value.cells (zeroV .u32 256)) 67 (0, 0))] ∧ Is [(0, .pointer (some ⟨b1, 0, none⟩)), (1, .pointer (some ⟨b2, 0, none⟩)), (2, .int .u32 ((BitVec.toNat (mv (mv (mv (1 : BitVec 32)))) : Nat) : Int)), (3, .int .i64 32), (4, .int .i64 ((2 * 32 * a : Nat) : Int)), (6, .bool true)] ρ) (256 - 2 * 32 * 0) ⟨0, rfl, (by omega), HA6, (Is.of ⟨kr, kr, kr, kr, kr, kr, trivial⟩)⟩ ?_
      clear HA6
      rintro _ _ w10 ⟨a, rfl, ha, H10, _, rfl⟩
      refine g_seq kr ?_
      refine g_sreg [0, 1] kr kr ?_
      refine s_val (some 11) (.int .i64 ((2 * 32 * a : Nat) : Int)) (fun w => by kernel_rfl) kr ?_
      by_cases hc7 : (2 * 32 * a : Nat) < 256
      · skip
        refine s_valE (some 12) (.bool (decide (((2 * 32 * a : Nat) : Int) < 256))) (.bool true) (fun w => by kernel_rfl) (bool_eq (decide_eq_true (by omega))) kr ?_
        refine s_nil ?_
        refine g_cond_t kr kr ?_
        refine g_skip kr ?_
        show WP _ _ _ _ _ _
        refine g_seq kr ?_
        refine g_block 3 kr ?_
        refine g_reg0 [0, 1, 2, 3, 4, 5, 6, 7, 8, 9] kr ?_
        refine s_val (some 17) (.int .i64 ((2 * 32 * a : Nat) : Int)) (fun w => by kernel_rfl) kr ?_
        refine s_val (some 18) (.int .i64 32) (fun w => by kernel_rfl) kr ?_
        refine s_valE (some 19) (.int .i64 (IntKind.i64.wrap (((2 * 32 * a : Nat) : Int) + 32))) (.int .i64 (((2 * 32 * a) + 32 : Nat) : Int)) (fun w => by kernel_rfl) (int_eq (wrapAdd_i64 (a := 2 * 32 * a) (b := 32) (by omega))) kr ?_
        refine s_val (some 20) (.int .i64 ((2 * 32 * a : Nat) : Int)) (fun w => by kernel_rfl) kr ?_
        refine s_op (some 21) _ (.pointer (some ⟨b2, 0 + (2 * 32 * a) * 1, none⟩)) kr kr (fun o w ho => idxA_run (kd := .i64) (t := 67) (n := 256) (size := 1) kr (x := (.tmp 1)) (y := (.tmp 20)) b2 0 (2 * 32 * a) ho kr kr (by omega) w) ?_
        refine s_load1 H10 (some 22) 64 (.tmp 21) 0 b2 (0 + (2 * 32 * a) * 1) (Value.cells (arr 256 (tb 32 a))) 67 (0, 0) (.int .u32 ((BitVec.toNat (nth (tb 32 a) (2 * 32 * a)) : Nat) : Int)) kr kr kr kr kr (arr_at (n := 256) (tb 32 a) (k := (2 * 32 * a)) (by omega) (by omega)) ?_
        refine s_val (some 23) (.int .u32 ((BitVec.toNat (mv (mv (mv (1 : BitVec 32)))) : Nat) : Int)) (fun w => by kernel_rfl) kr ?_
        refine s_valE (some 24) (.int .u32 (Go.bits .xor .u32 (((BitVec.toNat (nth (tb 32 a) (2 * 32 * a)) : Nat) : Int)) (((BitVec.toNat (mv (mv (mv (1 : BitVec 32)))) : Nat) : Int)))) (.int .u32 ((BitVec.toNat ((nth (tb 32 a) (2 * 32 * a)) ^^^ (mv (mv (mv (1 : BitVec 32))))) : Nat) : Int)) (fun w => by kernel_rfl) (bv_xor_u32 (nth (tb 32 a) (2 * 32 * a)) (mv (mv (mv (1 : BitVec 32))))) kr ?_
        refine s_op (some 25) _ (.pointer (some ⟨b2, 0 + ((2 * 32 * a) + 32) * 1, none⟩)) kr kr (fun o w ho => idxA_run (kd := .i64) (t := 67) (n := 256) (size := 1) kr (x := (.tmp 1)) (y := (.tmp 19)) b2 0 ((2 * 32 * a) + 32) ho kr kr (by omega) w) ?_
        refine s_store H10 0 [(b2, Obj.cells (Value.cells (arr 256 (tb 32 (a + 1)))) 67 (0, 0)), (b1, Obj.cells (Value.cells (zeroV .u32 256)) 67 (0, 0))] 64 (.tmp 25) (.tmp 24) b2 (0 + ((2 * 32 * a) + 32) * 1) (Value.cells (arr 256 (tb 32 a))) (Value.cells (arr 256 (tb 32 (a + 1)))) 67 (.int .u32 ((BitVec.toNat ((nth (tb 32 a) (2 * 32 * a)) ^^^ (mv (mv (mv (1 : BitVec 32))))) : Nat) : Int)) kr kr kr kr kr kr (by show _ + 1 ≤ 256; omega) (arr_put (k := ((2 * 32 * a) + 32)) (x := (nth (tb 32 a) (2 * 32 * a)) ^^^ (mv (mv (mv (1 : BitVec 32))))) (by omega) (by omega) (fun j hj => tb_go (bit := 32) (a := a) (r := mv (mv (mv (1 : BitVec 32)))) (by omega) (by omega) (tab_val 2 (by omega) a (by omega)) j hj)) kr ?_
        intro w11 H11; clear H10
        refine s_nil ?_
        show WP _ _ _ _ _ _
        refine g_reg0 [0, 1, 2, 3, 4] kr ?_
        refine s_val (some 13) (.int .i64 ((2 * 32 * a : Nat) : Int)) (fun w => by kernel_rfl) kr ?_
        refine s_val (some 14) (.int .i64 32) (fun w => by kernel_rfl) kr ?_
        refine s_val (some 15) (.int .i64 64) (fun w => by kernel_rfl) kr ?_
        refine s_valE (some 16) (.int .i64 (IntKind.i64.wrap (((2 * 32 * a : Nat) : Int) + 64))) (.int .i64 (((2 * 32 * a) + 64 : Nat) : Int)) (fun w => by kernel_rfl) (int_eq (wrapAdd_i64 (a := 2 * 32 * a) (b := 64) (by omega))) kr ?_
        refine s_val (some 4) (.int .i64 (((2 * 32 * a) + 64 : Nat) : Int)) (fun w => by kernel_rfl) kr ?_
        refine s_nil ?_
        rw [show (((2 * 32 * a) + 64 : Nat) : Int) = ((2 * 32 * (a + 1) : Nat) : Int) from by omega]
        show ∃ m, _ ∧ _
        exact ⟨_, (by omega), (a + 1), rfl, (by omega), H11, (Is.of ⟨kr, kr, kr, kr, kr, kr, trivial⟩)⟩
      · skip
        refine s_valE (some 12) (.bool (decide (((2 * 32 * a : Nat) : Int) < 256))) (.bool false) (fun w => by kernel_rfl) (bool_eq (decide_eq_false (by omega))) kr ?_
        refine s_nil ?_
        refine g_cond_f kr kr ?_
        refine g_exit 2 kr ?_
        show WP _ _ _ _ _ _
        refine g_reg0 [0, 1, 2] kr ?_
        refine s_val (some 7) (.int .i64 32) (fun w => by kernel_rfl) kr ?_
        refine s_val (some 8) (.int .i64 16) (fun w => by kernel_rfl) kr ?_
        refine s_val (some 3) (.int .i64 16) (fun w => by kernel_rfl) kr ?_
        refine s_nil ?_
        show WPL _ _ _ _ _ _
        refine g_next ?_
        refine g_seq kr ?_
        refine g_sreg [0, 1] kr kr ?_
        refine s_val (some 5) (.int .i64 16) (fun w => by kernel_rfl) kr ?_
        refine s_val (some 6) (.bool true) (fun w => by kernel_rfl) kr ?_
        refine s_nil ?_
        refine g_cond_t kr kr ?_
        refine g_skip kr ?_
        show WP _ _ _ _ _ _
        refine g_seq kr ?_
        refine g_block 1 kr ?_
        refine g_sreg [0, 1, 2] kr kr ?_
        refine s_val (some 9) (.int .u32 ((BitVec.toNat (mv (mv (mv (1 : BitVec 32)))) : Nat) : Int)) (fun w => by kernel_rfl) kr ?_
        refine s_call H10 (some 10) 49 #[.int .u32 ((BitVec.toNat (mv (mv (mv (1 : BitVec 32)))) : Nat) : Int)] (.int .u32 ((BitVec.toNat (mv (mv (mv (mv (1 : BitVec 32))))) : Nat) : Int)) (moved_fn (mv (mv (mv (1 : BitVec 32))))) (fun w => by kernel_rfl) kr ?_
        intro w12 H12; clear H10
        refine s_val (some 2) (.int .u32 ((BitVec.toNat (mv (mv (mv (mv (1 : BitVec 32))))) : Nat) : Int)) (fun w => by kernel_rfl) kr ?_
        refine s_nil ?_
        refine g_sreg [0] kr kr ?_
        refine s_val (some 4) (.int .i64 0) (fun w => by kernel_rfl) kr ?_
        refine s_nil ?_
        refine g_block 2 kr ?_
        have hacc8 : arr 256 (tb 32 a) = arr 256 (tb 16 0) := arr_congr (fun j hj => by rw [tb_end (by omega) (by omega) j hj, tb_start 16 j hj])
        have HA8 : St w.heap.size w w12 [(b2, Obj.cells (Value.cells (arr 256 (tb 16 0))) 67 (0, 0)), (b1, Obj.cells (Value.cells (zeroV .u32 256)) 67 (0, 0))] := by rw [← hacc8]; exact H12
        refine g_loop kr (fun mz ρ ww => ∃ (a : Nat), 256 - 2 * 16 * a = mz ∧ (2 * 16 * a ≤ 256) ∧ St w.heap.size w ww [(b2, Obj.cells (Value.cells (arr 256 (tb 16 a))) 67 (0, 0)), (b1, Obj.cells (Value.cells (zeroV .u32 256)) 67 (0, 0))] ∧ Is [(0, .pointer (some ⟨b1, 0, none⟩)), (1, .pointer (some ⟨b2, 0, none⟩)), (2, .int .u32 ((BitVec.toNat (mv (mv (mv (mv (1 : BitVec 32))))) : Nat) : Int)), (3, .int .i64 16), (4, .int .i64 ((2 * 16 * a : Nat) : Int)), (6, .bool true)] ρ) (256 - 2 * 16 * 0) ⟨0, rfl, (by omega), HA8, (Is.of ⟨kr, kr, kr, kr, kr, kr, trivial⟩)⟩ ?_
        clear HA8
        rintro _ _ w13 ⟨a, rfl, ha, H13, _, rfl⟩
        refine g_seq kr ?_
        refine g_sreg [0, 1] kr kr ?_
        refine s_val (some 11) (.int .i64 ((2 * 16 * a : Nat) : Int)) (fun w => by kernel_rfl) kr ?_
        by_cases hc9 : (2 * 16 * a : Nat) < 256
        · skip
          refine s_valE (some 12) (.bool (decide (((2 * 16 * a : Nat) : Int) < 256))) (.bool true) (fun w => by kernel_rfl) (bool_eq (decide_eq_true (by omega))) kr ?_
          refine s_nil ?_
          refine g_cond_t kr kr ?_
          refine g_skip kr ?_
          show WP _ _ _ _ _ _
          refine g_seq kr ?_
          refine g_block 3 kr ?_
          refine g_reg0 [0, 1, 2, 3, 4, 5, 6, 7, 8, 9] kr ?_
          refine s_val (some 17) (.int .i64 ((2 * 16 * a : Nat) : Int)) (fun w => by kernel_rfl) kr ?_
          refine s_val (some 18) (.int .i64 16) (fun w => by kernel_rfl) kr ?_
          refine s_valE (some 19) (.int .i64 (IntKind.i64.wrap (((2 * 16 * a : Nat) : Int) + 16))) (.int .i64 (((2 * 16 * a) + 16 : Nat) : Int)) (fun w => by kernel_rfl) (int_eq (wrapAdd_i64 (a := 2 * 16 * a) (b := 16) (by omega))) kr ?_
          refine s_val (some 20) (.int .i64 ((2 * 16 * a : Nat) : Int)) (fun w => by kernel_rfl) kr ?_
          refine s_op (some 21) _ (.pointer (some ⟨b2, 0 + (2 * 16 * a) * 1, none⟩)) kr kr (fun o w ho => idxA_run (kd := .i64) (t := 67) (n := 256) (size := 1) kr (x := (.tmp 1)) (y := (.tmp 20)) b2 0 (2 * 16 * a) ho kr kr (by omega) w) ?_
          refine s_load1 H13 (some 22) 64 (.tmp 21) 0 b2 (0 + (2 * 16 * a) * 1) (Value.cells (arr 256 (tb 16 a))) 67 (0, 0) (.int .u32 ((BitVec.toNat (nth (tb 16 a) (2 * 16 * a)) : Nat) : Int)) kr kr kr kr kr (arr_at (n := 256) (tb 16 a) (k := (2 * 16 * a)) (by omega) (by omega)) ?_
          refine s_val (some 23) (.int .u32 ((BitVec.toNat (mv (mv (mv (mv (1 : BitVec 32))))) : Nat) : Int)) (fun w => by kernel_rfl) kr ?_
          refine s_valE (some 24) (.int .u32 (Go.bits .xor .u32 (((BitVec.toNat (nth (tb 16 a) (2 * 16 * a)) : Nat) : Int)) (((BitVec.toNat (mv (mv (mv (mv (1 : BitVec 32))))) : Nat) : Int)))) (.int .u32 ((BitVec.toNat ((nth (tb 16 a) (2 * 16 * a)) ^^^ (mv (mv (mv (mv (1 : BitVec 32)))))) : Nat) : Int)) (fun w => by kernel_rfl) (bv_xor_u32 (nth (tb 16 a) (2 * 16 * a)) (mv (mv (mv (mv (1 : BitVec 32)))))) kr ?_
          refine s_op (some 25) _ (.pointer (some ⟨b2, 0 + ((2 * 16 * a) + 16) * 1, none⟩)) kr kr (fun o w ho => idxA_run (kd := .i64) (t := 67) (n := 256) (size := 1) kr (x := (.tmp 1)) (y := (.tmp 19)) b2 0 ((2 * 16 * a) + 16) ho kr kr (by omega) w) ?_
          refine s_store H13 0 [(b2, Obj.cells (Value.cells (arr 256 (tb 16 (a + 1)))) 67 (0, 0)), (b1, Obj.cells (Value.cells (zeroV .u32 256)) 67 (0, 0))] 64 (.tmp 25) (.tmp 24) b2 (0 + ((2 * 16 * a) + 16) * 1) (Value.cells (arr 256 (tb 16 a))) (Value.cells (arr 256 (tb 16 (a + 1)))) 67 (.int .u32 ((BitVec.toNat ((nth (tb 16 a) (2 * 16 * a)) ^^^ (mv (mv (mv (mv (1 : BitVec 32)))))) : Nat) : Int)) kr kr kr kr kr kr (by show _ + 1 ≤ 256; omega) (arr_put (k := ((2 * 16 * a) + 16)) (x := (nth (tb 16 a) (2 * 16 * a)) ^^^ (mv (mv (mv (mv (1 : BitVec 32)))))) (by omega) (by omega) (fun j hj => tb_go (bit := 16) (a := a) (r := mv (mv (mv (mv (1 : BitVec 32))))) (by omega) (by omega) (tab_val 3 (by omega) a (by omega)) j hj)) kr ?_
          intro w14 H14; clear H13
          refine s_nil ?_
          show WP _ _ _ _ _ _
          refine g_reg0 [0, 1, 2, 3, 4] kr ?_
          refine s_val (some 13) (.int .i64 ((2 * 16 * a : Nat) : Int)) (fun w => by kernel_rfl) kr ?_
          refine s_val (some 14) (.int .i64 16) (fun w => by kernel_rfl) kr ?_
          refine s_val (some 15) (.int .i64 32) (fun w => by kernel_rfl) kr ?_
          refine s_valE (some 16) (.int .i64 (IntKind.i64.wrap (((2 * 16 * a : Nat) : Int) + 32))) (.int .i64 (((2 * 16 * a) + 32 : Nat) : Int)) (fun w => by kernel_rfl) (int_eq (wrapAdd_i64 (a := 2 * 16 * a) (b := 32) (by omega))) kr ?_
          refine s_val (some 4) (.int .i64 (((2 * 16 * a) + 32 : Nat) : Int)) (fun w => by kernel_rfl) kr ?_
          refine s_nil ?_
          rw [show (((2 * 16 * a) + 32 : Nat) : Int) = ((2 * 16 * (a + 1) : Nat) : Int) from by omega]
          show ∃ m, _ ∧ _
          exact ⟨_, (by omega), (a + 1), rfl, (by omega), H14, (Is.of ⟨kr, kr, kr, kr, kr, kr, trivial⟩)⟩
        · skip
          refine s_valE (some 12) (.bool (decide (((2 * 16 * a : Nat) : Int) < 256))) (.bool false) (fun w => by kernel_rfl) (bool_eq (decide_eq_false (by omega))) kr ?_
          refine s_nil ?_
          refine g_cond_f kr kr ?_
          refine g_exit 2 kr ?_
          show WP _ _ _ _ _ _
          refine g_reg0 [0, 1, 2] kr ?_
          refine s_val (some 7) (.int .i64 16) (fun w => by kernel_rfl) kr ?_
          refine s_val (some 8) (.int .i64 8) (fun w => by kernel_rfl) kr ?_
          refine s_val (some 3) (.int .i64 8) (fun w => by kernel_rfl) kr ?_
          refine s_nil ?_
          show WPL _ _ _ _ _ _
          refine g_next ?_
          refine g_seq kr ?_
          refine g_sreg [0, 1] kr kr ?_
          refine s_val (some 5) (.int .i64 8) (fun w => by kernel_rfl) kr ?_
          refine s_val (some 6) (.bool true) (fun w => by kernel_rfl) kr ?_
          refine s_nil ?_
          refine g_cond_t kr kr ?_
          refine g_skip kr ?_
          show WP _ _ _ _ _ _
          refine g_seq kr ?_
          refine g_block 1 kr ?_
          refine g_sreg [0, 1, 2] kr kr ?_
          refine s_val (some 9) (.int .u32 ((BitVec.toNat (mv (mv (mv (mv (1 : BitVec 32))))) : Nat) : Int)) (fun w => by kernel_rfl) kr ?_
          refine s_call H13 (some 10) 49 #[.int .u32 ((BitVec.toNat (mv (mv (mv (mv (1 : BitVec 32))))) : Nat) : Int)] (.int .u32 ((BitVec.toNat (mv (mv (mv (mv (mv (1 : BitVec 32)))))) : Nat) : Int)) (moved_fn (mv (mv (mv (mv (1 : BitVec 32)))))) (fun w => by kernel_rfl) kr ?_
          intro w15 H15; clear H13
          refine s_val (some 2) (.int .u32 ((BitVec.toNat (mv (mv (mv (mv (mv (1 : BitVec 32)))))) : Nat) : Int)) (fun w => by kernel_rfl) kr ?_
          refine s_nil ?_
          refine g_sreg [0] kr kr ?_
          refine s_val (some 4) (.int .i64 0) (fun w => by kernel_rfl) kr ?_
          refine s_nil ?_
          refine g_block 2 kr ?_
          have hacc10 : arr 256 (tb 16 a) = arr 256 (tb 8 0) := arr_congr (fun j hj => by rw [tb_end (by omega) (by omega) j hj, tb_start 8 j hj])
          have HA10 : St w.heap.size w w15 [(b2, Obj.cells (Value.cells (arr 256 (tb 8 0))) 67 (0, 0)), (b1, Obj.cells (Value.cells (zeroV .u32 256)) 67 (0, 0))] := by rw [← hacc10]; exact H15
          refine g_loop kr (fun mz ρ ww => ∃ (a : Nat), 256 - 2 * 8 * a = mz ∧ (2 * 8 * a ≤ 256) ∧ St w.heap.size w ww [(b2, Obj.cells (Value.cells (arr 256 (tb 8 a))) 67 (0, 0)), (b1, Obj.cells (Value.cells (zeroV .u32 256)) 67 (0, 0))] ∧ Is [(0, .pointer (some ⟨b1, 0, none⟩)), (1, .pointer (some ⟨b2, 0, none⟩)), (2, .int .u32 ((BitVec.toNat (mv (mv (mv (mv (mv (1 : BitVec 32)))))) : Nat) : Int)), (3, .int .i64 8), (4, .int .i64 ((2 * 8 * a : Nat) : Int)), (6, .bool true)] ρ) (256 - 2 * 8 * 0) ⟨0, rfl, (by omega), HA10, (Is.of ⟨kr, kr, kr, kr, kr, kr, trivial⟩)⟩ ?_
          clear HA10
          rintro _ _ w16 ⟨a, rfl, ha, H16, _, rfl⟩
          refine g_seq kr ?_
          refine g_sreg [0, 1] kr kr ?_
          refine s_val (some 11) (.int .i64 ((2 * 8 * a : Nat) : Int)) (fun w => by kernel_rfl) kr ?_
          by_cases hc11 : (2 * 8 * a : Nat) < 256
          · skip
            refine s_valE (some 12) (.bool (decide (((2 * 8 * a : Nat) : Int) < 256))) (.bool true) (fun w => by kernel_rfl) (bool_eq (decide_eq_true (by omega))) kr ?_
            refine s_nil ?_
            refine g_cond_t kr kr ?_
            refine g_skip kr ?_
            show WP _ _ _ _ _ _
            refine g_seq kr ?_
            refine g_block 3 kr ?_
            refine g_reg0 [0, 1, 2, 3, 4, 5, 6, 7, 8, 9] kr ?_
            refine s_val (some 17) (.int .i64 ((2 * 8 * a : Nat) : Int)) (fun w => by kernel_rfl) kr ?_
            refine s_val (some 18) (.int .i64 8) (fun w => by kernel_rfl) kr ?_
            refine s_valE (some 19) (.int .i64 (IntKind.i64.wrap (((2 * 8 * a : Nat) : Int) + 8))) (.int .i64 (((2 * 8 * a) + 8 : Nat) : Int)) (fun w => by kernel_rfl) (int_eq (wrapAdd_i64 (a := 2 * 8 * a) (b := 8) (by omega))) kr ?_
            refine s_val (some 20) (.int .i64 ((2 * 8 * a : Nat) : Int)) (fun w => by kernel_rfl) kr ?_
            refine s_op (some 21) _ (.pointer (some ⟨b2, 0 + (2 * 8 * a) * 1, none⟩)) kr kr (fun o w ho => idxA_run (kd := .i64) (t := 67) (n := 256) (size := 1) kr (x := (.tmp 1)) (y := (.tmp 20)) b2 0 (2 * 8 * a) ho kr kr (by omega) w) ?_
            refine s_load1 H16 (some 22) 64 (.tmp 21) 0 b2 (0 + (2 * 8 * a) * 1) (Value.cells (arr 256 (tb 8 a))) 67 (0, 0) (.int .u32 ((BitVec.toNat (nth (tb 8 a) (2 * 8 * a)) : Nat) : Int)) kr kr kr kr kr (arr_at (n := 256) (tb 8 a) (k := (2 * 8 * a)) (by omega) (by omega)) ?_
            refine s_val (some 23) (.int .u32 ((BitVec.toNat (mv (mv (mv (mv (mv (1 : BitVec 32)))))) : Nat) : Int)) (fun w => by kernel_rfl) kr ?_
            refine s_valE (some 24) (.int .u32 (Go.bits .xor .u32 (((BitVec.toNat (nth (tb 8 a) (2 * 8 * a)) : Nat) : Int)) (((BitVec.toNat (mv (mv (mv (mv (mv (1 : BitVec 32)))))) : Nat) : Int)))) (.int .u32 ((BitVec.toNat ((nth (tb 8 a) (2 * 8 * a)) ^^^ (mv (mv (mv (mv (mv (1 : BitVec 32))))))) : Nat) : Int)) (fun w => by kernel_rfl) (bv_xor_u32 (nth (tb 8 a) (2 * 8 * a)) (mv (mv (mv (mv (mv (1 : BitVec 32))))))) kr ?_
            refine s_op (some 25) _ (.pointer (some ⟨b2, 0 + ((2 * 8 * a) + 8) * 1, none⟩)) kr kr (fun o w ho => idxA_run (kd := .i64) (t := 67) (n := 256) (size := 1) kr (x := (.tmp 1)) (y := (.tmp 19)) b2 0 ((2 * 8 * a) + 8) ho kr kr (by omega) w) ?_
            refine s_store H16 0 [(b2, Obj.cells (Value.cells (arr 256 (tb 8 (a + 1)))) 67 (0, 0)), (b1, Obj.cells (Value.cells (zeroV .u32 256)) 67 (0, 0))] 64 (.tmp 25) (.tmp 24) b2 (0 + ((2 * 8 * a) + 8) * 1) (Value.cells (arr 256 (tb 8 a))) (Value.cells (arr 256 (tb 8 (a + 1)))) 67 (.int .u32 ((BitVec.toNat ((nth (tb 8 a) (2 * 8 * a)) ^^^ (mv (mv (mv (mv (mv (1 : BitVec 32))))))) : Nat) : Int)) kr kr kr kr kr kr (by show _ + 1 ≤ 256; omega) (arr_put (k := ((2 * 8 * a) + 8)) (x := (nth (tb 8 a) (2 * 8 * a)) ^^^ (mv (mv (mv (mv (mv (1 : BitVec 32))))))) (by omega) (by omega) (fun j hj => tb_go (bit := 8) (a := a) (r := mv (mv (mv (mv (mv (1 : BitVec 32)))))) (by omega) (by omega) (tab_val 4 (by omega) a (by omega)) j hj)) kr ?_
            intro w17 H17; clear H16
            refine s_nil ?_
            show WP _ _ _ _ _ _
            refine g_reg0 [0, 1, 2, 3, 4] kr ?_
            refine s_val (some 13) (.int .i64 ((2 * 8 * a : Nat) : Int)) (fun w => by kernel_rfl) kr ?_
            refine s_val (some 14) (.int .i64 8) (fun w => by kernel_rfl) kr ?_
            refine s_val (some 15) (.int .i64 16) (fun w => by kernel_rfl) kr ?_
            refine s_valE (some 16) (.int .i64 (IntKind.i64.wrap (((2 * 8 * a : Nat) : Int) + 16))) (.int .i64 (((2 * 8 * a) + 16 : Nat) : Int)) (fun w => by kernel_rfl) (int_eq (wrapAdd_i64 (a := 2 * 8 * a) (b := 16) (by omega))) kr ?_
            refine s_val (some 4) (.int .i64 (((2 * 8 * a) + 16 : Nat) : Int)) (fun w => by kernel_rfl) kr ?_
            refine s_nil ?_
            rw [show (((2 * 8 * a) + 16 : Nat) : Int) = ((2 * 8 * (a + 1) : Nat) : Int) from by omega]
            show ∃ m, _ ∧ _
            exact ⟨_, (by omega), (a + 1), rfl, (by omega), H17, (Is.of ⟨kr, kr, kr, kr, kr, kr, trivial⟩)⟩
          · skip
            refine s_valE (some 12) (.bool (decide (((2 * 8 * a : Nat) : Int) < 256))) (.bool false) (fun w => by kernel_rfl) (bool_eq (decide_eq_false (by omega))) kr ?_
            refine s_nil ?_
            refine g_cond_f kr kr ?_
            refine g_exit 2 kr ?_
            show WP _ _ _ _ _ _
            refine g_reg0 [0, 1, 2] kr ?_
            refine s_val (some 7) (.int .i64 8) (fun w => by kernel_rfl) kr ?_
            refine s_val (some 8) (.int .i64 4) (fun w => by kernel_rfl) kr ?_
            refine s_val (some 3) (.int .i64 4) (fun w => by kernel_rfl) kr ?_
            refine s_nil ?_
            show WPL _ _ _ _ _ _
            refine g_next ?_
            refine g_seq kr ?_
            refine g_sreg [0, 1] kr kr ?_
            refine s_val (some 5) (.int .i64 4) (fun w => by kernel_rfl) kr ?_
            refine s_val (some 6) (.bool true) (fun w => by kernel_rfl) kr ?_
            refine s_nil ?_
            refine g_cond_t kr kr ?_
            refine g_skip kr ?_
            show WP _ _ _ _ _ _
            refine g_seq kr ?_
            refine g_block 1 kr ?_
            refine g_sreg [0, 1, 2] kr kr ?_
            refine s_val (some 9) (.int .u32 ((BitVec.toNat (mv (mv (mv (mv (mv (1 : BitVec 32)))))) : Nat) : Int)) (fun w => by kernel_rfl) kr ?_
            refine s_call H16 (some 10) 49 #[.int .u32 ((BitVec.toNat (mv (mv (mv (mv (mv (1 : BitVec 32)))))) : Nat) : Int)] (.int .u32 ((BitVec.toNat (mv (mv (mv (mv (mv (mv (1 : BitVec 32))))))) : Nat) : Int)) (moved_fn (mv (mv (mv (mv (mv (1 : BitVec 32))))))) (fun w => by kernel_rfl) kr ?_
            intro w18 H18; clear H16
            refine s_val (some 2) (.int .u32 ((BitVec.toNat (mv (mv (mv (mv (mv (mv (1 : BitVec 32))))))) : Nat) : Int)) (fun w => by kernel_rfl) kr ?_
            refine s_nil ?_
            refine g_sreg [0] kr kr ?_
            refine s_val (some 4) (.int .i64 0) (fun w => by kernel_rfl) kr ?_
            refine s_nil ?_
            refine g_block 2 kr ?_
            have hacc12 : arr 256 (tb 8 a) = arr 256 (tb 4 0) := arr_congr (fun j hj => by rw [tb_end (by omega) (by omega) j hj, tb_start 4 j hj])
            have HA12 : St w.heap.size w w18 [(b2, Obj.cells (Value.cells (arr 256 (tb 4 0))) 67 (0, 0)), (b1, Obj.cells (Value.cells (zeroV .u32 256)) 67 (0, 0))] := by rw [← hacc12]; exact H18
            refine g_loop kr (fun mz ρ ww => ∃ (a : Nat), 256 - 2 * 4 * a = mz ∧ (2 * 4 * a ≤ 256) ∧ St w.heap.size w ww [(b2, Obj.cells (Value.cells (arr 256 (tb 4 a))) 67 (0, 0)), (b1, Obj.cells (Value.cells (zeroV .u32 256)) 67 (0, 0))] ∧ Is [(0, .pointer (some ⟨b1, 0, none⟩)), (1, .pointer (some ⟨b2, 0, none⟩)), (2, .int .u32 ((BitVec.toNat (mv (mv (mv (mv (mv (mv (1 : BitVec 32))))))) : Nat) : Int)), (3, .int .i64 4), (4, .int .i64 ((2 * 4 * a : Nat) : Int)), (6, .bool true)] ρ) (256 - 2 * 4 * 0) ⟨0, rfl, (by omega), HA12, (Is.of ⟨kr, kr, kr, kr, kr, kr, trivial⟩)⟩ ?_
            clear HA12
            rintro _ _ w19 ⟨a, rfl, ha, H19, _, rfl⟩
            refine g_seq kr ?_
            refine g_sreg [0, 1] kr kr ?_
            refine s_val (some 11) (.int .i64 ((2 * 4 * a : Nat) : Int)) (fun w => by kernel_rfl) kr ?_
            by_cases hc13 : (2 * 4 * a : Nat) < 256
            · skip
              refine s_valE (some 12) (.bool (decide (((2 * 4 * a : Nat) : Int) < 256))) (.bool true) (fun w => by kernel_rfl) (bool_eq (decide_eq_true (by omega))) kr ?_
              refine s_nil ?_
              refine g_cond_t kr kr ?_
              refine g_skip kr ?_
              show WP _ _ _ _ _ _
              refine g_seq kr ?_
              refine g_block 3 kr ?_
              refine g_reg0 [0, 1, 2, 3, 4, 5, 6, 7, 8, 9] kr ?_
              refine s_val (some 17) (.int .i64 ((2 * 4 * a : Nat) : Int)) (fun w => by kernel_rfl) kr ?_
              refine s_val (some 18) (.int .i64 4) (fun w => by kernel_rfl) kr ?_
              refine s_valE (some 19) (.int .i64 (IntKind.i64.wrap (((2 * 4 * a : Nat) : Int) + 4))) (.int .i64 (((2 * 4 * a) + 4 : Nat) : Int)) (fun w => by kernel_rfl) (int_eq (wrapAdd_i64 (a := 2 * 4 * a) (b := 4) (by omega))) kr ?_
              refine s_val (some 20) (.int .i64 ((2 * 4 * a : Nat) : Int)) (fun w => by kernel_rfl) kr ?_
              refine s_op (some 21) _ (.pointer (some ⟨b2, 0 + (2 * 4 * a) * 1, none⟩)) kr kr (fun o w ho => idxA_run (kd := .i64) (t := 67) (n := 256) (size := 1) kr (x := (.tmp 1)) (y := (.tmp 20)) b2 0 (2 * 4 * a) ho kr kr (by omega) w) ?_
              refine s_load1 H19 (some 22) 64 (.tmp 21) 0 b2 (0 + (2 * 4 * a) * 1) (Value.cells (arr 256 (tb 4 a))) 67 (0, 0) (.int .u32 ((BitVec.toNat (nth (tb 4 a) (2 * 4 * a)) : Nat) : Int)) kr kr kr kr kr (arr_at (n := 256) (tb 4 a) (k := (2 * 4 * a)) (by omega) (by omega)) ?_
              refine s_val (some 23) (.int .u32 ((BitVec.toNat (mv (mv (mv (mv (mv (mv (1 : BitVec 32))))))) : Nat) : Int)) (fun w => by kernel_rfl) kr ?_
              refine s_valE (some 24) (.int .u32 (Go.bits .xor .u32 (((BitVec.toNat (nth (tb 4 a) (2 * 4 * a)) : Nat) : Int)) (((BitVec.toNat (mv (mv (mv (mv (mv (mv (1 : BitVec 32))))))) : Nat) : Int)))) (.int .u32 ((BitVec.toNat ((nth (tb 4 a) (2 * 4 * a)) ^^^ (mv (mv (mv (mv (mv (mv (1 : BitVec 32)))))))) : Nat) : Int)) (fun w => by kernel_rfl) (bv_xor_u32 (nth (tb 4 a) (2 * 4 * a)) (mv (mv (mv (mv (mv (mv (1 : BitVec 32)))))))) kr ?_
              refine s_op (some 25) _ (.pointer (some ⟨b2, 0 + ((2 * 4 * a) + 4) * 1, none⟩)) kr kr (fun o w ho => idxA_run (kd := .i64) (t := 67) (n := 256) (size := 1) kr (x := (.tmp 1)) (y := (.tmp 19)) b2 0 ((2 * 4 * a) + 4) ho kr kr (by omega) w) ?_
              refine s_store H19 0 [(b2, Obj.cells (Value.cells (arr 256 (tb 4 (a + 1)))) 67 (0, 0)), (b1, Obj.cells (Value.cells (zeroV .u32 256)) 67 (0, 0))] 64 (.tmp 25) (.tmp 24) b2 (0 + ((2 * 4 * a) + 4) * 1) (Value.cells (arr 256 (tb 4 a))) (Value.cells (arr 256 (tb 4 (a + 1)))) 67 (.int .u32 ((BitVec.toNat ((nth (tb 4 a) (2 * 4 * a)) ^^^ (mv (mv (mv (mv (mv (mv (1 : BitVec 32)))))))) : Nat) : Int)) kr kr kr kr kr kr (by show _ + 1 ≤ 256; omega) (arr_put (k := ((2 * 4 * a) + 4)) (x := (nth (tb 4 a) (2 * 4 * a)) ^^^ (mv (mv (mv (mv (mv (mv (1 : BitVec 32)))))))) (by omega) (by omega) (fun j hj => tb_go (bit := 4) (a := a) (r := mv (mv (mv (mv (mv (mv (1 : BitVec 32))))))) (by omega) (by omega) (tab_val 5 (by omega) a (by omega)) j hj)) kr ?_
              intro w20 H20; clear H19
              refine s_nil ?_
              show WP _ _ _ _ _ _
              refine g_reg0 [0, 1, 2, 3, 4] kr ?_
              refine s_val (some 13) (.int .i64 ((2 * 4 * a : Nat) : Int)) (fun w => by kernel_rfl) kr ?_
              refine s_val (some 14) (.int .i64 4) (fun w => by kernel_rfl) kr ?_
              refine s_val (some 15) (.int .i64 8) (fun w => by kernel_rfl) kr ?_
              refine s_valE (some 16) (.int .i64 (IntKind.i64.wrap (((2 * 4 * a : Nat) : Int) + 8))) (.int .i64 (((2 * 4 * a) + 8 : Nat) : Int)) (fun w => by kernel_rfl) (int_eq (wrapAdd_i64 (a := 2 * 4 * a) (b := 8) (by omega))) kr ?_
              refine s_val (some 4) (.int .i64 (((2 * 4 * a) + 8 : Nat) : Int)) (fun w => by kernel_rfl) kr ?_
              refine s_nil ?_
              rw [show (((2 * 4 * a) + 8 : Nat) : Int) = ((2 * 4 * (a + 1) : Nat) : Int) from by omega]
              show ∃ m, _ ∧ _
              exact ⟨_, (by omega), (a + 1), rfl, (by omega), H20, (Is.of ⟨kr, kr, kr, kr, kr, kr, trivial⟩)⟩
            · skip
              refine s_valE (some 12) (.bool (decide (((2 * 4 * a : Nat) : Int) < 256))) (.bool false) (fun w => by kernel_rfl) (bool_eq (decide_eq_false (by omega))) kr ?_
              refine s_nil ?_
              refine g_cond_f kr kr ?_
              refine g_exit 2 kr ?_
              show WP _ _ _ _ _ _
              refine g_reg0 [0, 1, 2] kr ?_
              refine s_val (some 7) (.int .i64 4) (fun w => by kernel_rfl) kr ?_
              refine s_val (some 8) (.int .i64 2) (fun w => by kernel_rfl) kr ?_
              refine s_val (some 3) (.int .i64 2) (fun w => by kernel_rfl) kr ?_
              refine s_nil ?_
              show WPL _ _ _ _ _ _
              refine g_next ?_
              refine g_seq kr ?_
              refine g_sreg [0, 1] kr kr ?_
              refine s_val (some 5) (.int .i64 2) (fun w => by kernel_rfl) kr ?_
              refine s_val (some 6) (.bool true) (fun w => by kernel_rfl) kr ?_
              refine s_nil ?_
              refine g_cond_t kr kr ?_
              refine g_skip kr ?_
              show WP _ _ _ _ _ _
              refine g_seq kr ?_
              refine g_block 1 kr ?_
              refine g_sreg [0, 1, 2] kr kr ?_
              refine s_val (some 9) (.int .u32 ((BitVec.toNat (mv (mv (mv (mv (mv (mv (1 : BitVec 32))))))) : Nat) : Int)) (fun w => by kernel_rfl) kr ?_
              refine s_call H19 (some 10) 49 #[.int .u32 ((BitVec.toNat (mv (mv (mv (mv (mv (mv (1 : BitVec 32))))))) : Nat) : Int)] (.int .u32 ((BitVec.toNat (mv (mv (mv (mv (mv (mv (mv (1 : BitVec 32)))))))) : Nat) : Int)) (moved_fn (mv (mv (mv (mv (mv (mv (1 : BitVec 32)))))))) (fun w => by kernel_rfl) kr ?_
              intro w21 H21; clear H19
              refine s_val (some 2) (.int .u32 ((BitVec.toNat (mv (mv (mv (mv (mv (mv (mv (1 : BitVec 32)))))))) : Nat) : Int)) (fun w => by kernel_rfl) kr ?_
              refine s_nil ?_
              refine g_sreg [0] kr kr ?_
              refine s_val (some 4) (.int .i64 0) (fun w => by kernel_rfl) kr ?_
              refine s_nil ?_
              refine g_block 2 kr ?_
              have hacc14 : arr 256 (tb 4 a) = arr 256 (tb 2 0) := arr_congr (fun j hj => by rw [tb_end (by omega) (by omega) j hj, tb_start 2 j hj])
              have HA14 : St w.heap.size w w21 [(b2, Obj.cells (Value.cells (arr 256 (tb 2 0))) 67 (0, 0)), (b1, Obj.cells (Value.cells (zeroV .u32 256)) 67 (0, 0))] := by rw [← hacc14]; exact H21
              refine g_loop kr (fun mz ρ ww => ∃ (a : Nat), 256 - 2 * 2 * a = mz ∧ (2 * 2 * a ≤ 256) ∧ St w.heap.size w ww [(b2, Obj.cells (Value.cells (arr 256 (tb 2 a))) 67 (0, 0)), (b1, Obj.cells (Value.cells (zeroV .u32 256)) 67 (0, 0))] ∧ Is [(0, .pointer (some ⟨b1, 0, none⟩)), (1, .pointer (some ⟨b2, 0, none⟩)), (2, .int .u32 ((BitVec.toNat (mv (mv (mv (mv (mv (mv (mv (1 : BitVec 32)))))))) : Nat) : Int)), (3, .int .i64 2), (4, .int .i64 ((2 * 2 * a : Nat) : Int)), (6, .bool true)] ρ) (256 - 2 * 2 * 0) ⟨0, rfl, (by omega), HA14, (Is.of ⟨kr, kr, kr, kr, kr, kr, trivial⟩)⟩ ?_
              clear HA14
              rintro _ _ w22 ⟨a, rfl, ha, H22, _, rfl⟩
              refine g_seq kr ?_
              refine g_sreg [0, 1] kr kr ?_
              refine s_val (some 11) (.int .i64 ((2 * 2 * a : Nat) : Int)) (fun w => by kernel_rfl) kr ?_
              by_cases hc15 : (2 * 2 * a : Nat) < 256
              · skip
                refine s_valE (some 12) (.bool (decide (((2 * 2 * a : Nat) : Int) < 256))) (.bool true) (fun w => by kernel_rfl) (bool_eq (decide_eq_true (by omega))) kr ?_
                refine s_nil ?_
                refine g_cond_t kr kr ?_
                refine g_skip kr ?_
                show WP _ _ _ _ _ _
                refine g_seq kr ?_
                refine g_block 3 kr ?_
                refine g_reg0 [0, 1, 2, 3, 4, 5, 6, 7, 8, 9] kr ?_
                refine s_val (some 17) (.int .i64 ((2 * 2 * a : Nat) : Int)) (fun w => by kernel_rfl) kr ?_
                refine s_val (some 18) (.int .i64 2) (fun w => by kernel_rfl) kr ?_
                refine s_valE (some 19) (.int .i64 (IntKind.i64.wrap (((2 * 2 * a : Nat) : Int) + 2))) (.int .i64 (((2 * 2 * a) + 2 : Nat) : Int)) (fun w => by kernel_rfl) (int_eq (wrapAdd_i64 (a := 2 * 2 * a) (b := 2) (by omega))) kr ?_
                refine s_val (some 20) (.int .i64 ((2 * 2 * a : Nat) : Int)) (fun w => by kernel_rfl) kr ?_
                refine s_op (some 21) _ (.pointer (some ⟨b2, 0 + (2 * 2 * a) * 1, none⟩)) kr kr (fun o w ho => idxA_run (kd := .i64) (t := 67) (n := 256) (size := 1) kr (x := (.tmp 1)) (y := (.tmp 20)) b2 0 (2 * 2 * a) ho kr kr (by omega) w) ?_
                refine s_load1 H22 (some 22) 64 (.tmp 21) 0 b2 (0 + (2 * 2 * a) * 1) (Value.cells (arr 256 (tb 2 a))) 67 (0, 0) (.int .u32 ((BitVec.toNat (nth (tb 2 a) (2 * 2 * a)) : Nat) : Int)) kr kr kr kr kr (arr_at (n := 256) (tb 2 a) (k := (2 * 2 * a)) (by omega) (by omega)) ?_
                refine s_val (some 23) (.int .u32 ((BitVec.toNat (mv (mv (mv (mv (mv (mv (mv (1 : BitVec 32)))))))) : Nat) : Int)) (fun w => by kernel_rfl) kr ?_
                refine s_valE (some 24) (.int .u32 (Go.bits .xor .u32 (((BitVec.toNat (nth (tb 2 a) (2 * 2 * a)) : Nat) : Int)) (((BitVec.toNat (mv (mv (mv (mv (mv (mv (mv (1 : BitVec 32)))))))) : Nat) : Int)))) (.int .u32 ((BitVec.toNat ((nth (tb 2 a) (2 * 2 * a)) ^^^ (mv (mv (mv (mv (mv (mv (mv (1 : BitVec 32))))))))) : Nat) : Int)) (fun w => by kernel_rfl) (bv_xor_u32 (nth (tb 2 a) (2 * 2 * a)) (mv (mv (mv (mv (mv (mv (mv (1 : BitVec 32))))))))) kr ?_
                refine s_op (some 25) _ (.pointer (some ⟨b2, 0 + ((2 * 2 * a) + 2) * 1, none⟩)) kr kr (fun o w ho => idxA_run (kd := .i64) (t := 67) (n := 256) (size := 1) kr (x := (.tmp 1)) (y := (.tmp 19)) b2 0 ((2 * 2 * a) + 2) ho kr kr (by omega) w) ?_
                refine s_store H22 0 [(b2, Obj.cells (Value.cells (arr 256 (tb 2 (a + 1)))) 67 (0, 0)), (b1, Obj.cells (Value.cells (zeroV .u32 256)) 67 (0, 0))] 64 (.tmp 25) (.tmp 24) b2 (0 + ((2 * 2 * a) + 2) * 1) (Value.cells (arr 256 (tb 2 a))) (Value.cells (arr 256 (tb 2 (a + 1)))) 67 (.int .u32 ((BitVec.toNat ((nth (tb 2 a) (2 * 2 * a)) ^^^ (mv (mv (mv (mv (mv (mv (mv (1 : BitVec 32))))))))) : Nat) : Int)) kr kr kr kr kr kr (by show _ + 1 ≤ 256; omega) (arr_put (k := ((2 * 2 * a) + 2)) (x := (nth (tb 2 a) (2 * 2 * a)) ^^^ (mv (mv (mv (mv (mv (mv (mv (1 : BitVec 32))))))))) (by omega) (by omega) (fun j hj => tb_go (bit := 2) (a := a) (r := mv (mv (mv (mv (mv (mv (mv (1 : BitVec 32)))))))) (by omega) (by omega) (tab_val 6 (by omega) a (by omega)) j hj)) kr ?_
                intro w23 H23; clear H22
                refine s_nil ?_
                show WP _ _ _ _ _ _
                refine g_reg0 [0, 1, 2, 3, 4] kr ?_
                refine s_val (some 13) (.int .i64 ((2 * 2 * a : Nat) : Int)) (fun w => by kernel_rfl) kr ?_
                refine s_val (some 14) (.int .i64 2) (fun w => by kernel_rfl) kr ?_
                refine s_val (some 15) (.int .i64 4) (fun w => by kernel_rfl) kr ?_
                refine s_valE (some 16) (.int .i64 (IntKind.i64.wrap (((2 * 2 * a : Nat) : Int) + 4))) (.int .i64 (((2 * 2 * a) + 4 : Nat) : Int)) (fun w => by kernel_rfl) (int_eq (wrapAdd_i64 (a := 2 * 2 * a) (b := 4) (by omega))) kr ?_
                refine s_val (some 4) (.int .i64 (((2 * 2 * a) + 4 : Nat) : Int)) (fun w => by kernel_rfl) kr ?_
                refine s_nil ?_
                rw [show (((2 * 2 * a) + 4 : Nat) : Int) = ((2 * 2 * (a + 1) : Nat) : Int) from by omega]
                show ∃ m, _ ∧ _
                exact ⟨_, (by omega), (a + 1), rfl, (by omega), H23, (Is.of ⟨kr, kr, kr, kr, kr, kr, trivial⟩)⟩
              · skip
                refine s_valE (some 12) (.bool (decide (((2 * 2 * a : Nat) : Int) < 256))) (.bool false) (fun w => by kernel_rfl) (bool_eq (decide_eq_false (by omega))) kr ?_
                refine s_nil ?_
                refine g_cond_f kr kr ?_
                refine g_exit 2 kr ?_
                show WP _ _ _ _ _ _
                refine g_reg0 [0, 1, 2] kr ?_
                refine s_val (some 7) (.int .i64 2) (fun w => by kernel_rfl) kr ?_
                refine s_val (some 8) (.int .i64 1) (fun w => by kernel_rfl) kr ?_
                refine s_val (some 3) (.int .i64 1) (fun w => by kernel_rfl) kr ?_
                refine s_nil ?_
                show WPL _ _ _ _ _ _
                refine g_next ?_
                refine g_seq kr ?_
                refine g_sreg [0, 1] kr kr ?_
                refine s_val (some 5) (.int .i64 1) (fun w => by kernel_rfl) kr ?_
                refine s_val (some 6) (.bool true) (fun w => by kernel_rfl) kr ?_
                refine s_nil ?_
                refine g_cond_t kr kr ?_
                refine g_skip kr ?_
                show WP _ _ _ _ _ _
                refine g_seq kr ?_
                refine g_block 1 kr ?_
                refine g_sreg [0, 1, 2] kr kr ?_
                refine s_val (some 9) (.int .u32 ((BitVec.toNat (mv (mv (mv (mv (mv (mv (mv (1 : BitVec 32)))))))) : Nat) : Int)) (fun w => by kernel_rfl) kr ?_
                refine s_call H22 (some 10) 49 #[.int .u32 ((BitVec.toNat (mv (mv (mv (mv (mv (mv (mv (1 : BitVec 32)))))))) : Nat) : Int)] (.int .u32 ((BitVec.toNat (mv (mv (mv (mv (mv (mv (mv (mv (1 : BitVec 32))))))))) : Nat) : Int)) (moved_fn (mv (mv (mv (mv (mv (mv (mv (1 : BitVec 32))))))))) (fun w => by kernel_rfl) kr ?_
                intro w24 H24; clear H22
                refine s_val (some 2) (.int .u32 ((BitVec.toNat (mv (mv (mv (mv (mv (mv (mv (mv (1 : BitVec 32))))))))) : Nat) : Int)) (fun w => by kernel_rfl) kr ?_
                refine s_nil ?_
                refine g_sreg [0] kr kr ?_
                refine s_val (some 4) (.int .i64 0) (fun w => by kernel_rfl) kr ?_
                refine s_nil ?_
                refine g_block 2 kr ?_
                have hacc16 : arr 256 (tb 2 a) = arr 256 (tb 1 0) := arr_congr (fun j hj => by rw [tb_end (by omega) (by omega) j hj, tb_start 1 j hj])
                have HA16 : St w.heap.size w w24 [(b2, Obj.cells (Value.cells (arr 256 (tb 1 0))) 67 (0, 0)), (b1, Obj.cells (Value.cells (zeroV .u32 256)) 67 (0, 0))] := by rw [← hacc16]; exact H24
                refine g_loop kr (fun mz ρ ww => ∃ (a : Nat), 256 - 2 * 1 * a = mz ∧ (2 * 1 * a ≤ 256) ∧ St w.heap.size w ww [(b2, Obj.cells (Value.cells (arr 256 (tb 1 a))) 67 (0, 0)), (b1, Obj.cells (Value.cells (zeroV .u32 256)) 67 (0, 0))] ∧ Is [(0, .pointer (some ⟨b1, 0, none⟩)), (1, .pointer (some ⟨b2, 0, none⟩)), (2, .int .u32 ((BitVec.toNat (mv (mv (mv (mv (mv (mv (mv (mv (1 : BitVec 32))))))))) : Nat) : Int)), (3, .int .i64 1), (4, .int .i64 ((2 * 1 * a : Nat) : Int)), (6, .bool true)] ρ) (256 - 2 * 1 * 0) ⟨0, rfl, (by omega), HA16, (Is.of ⟨kr, kr, kr, kr, kr, kr, trivial⟩)⟩ ?_
                clear HA16
                rintro _ _ w25 ⟨a, rfl, ha, H25, _, rfl⟩
                refine g_seq kr ?_
                refine g_sreg [0, 1] kr kr ?_
                refine s_val (some 11) (.int .i64 ((2 * 1 * a : Nat) : Int)) (fun w => by kernel_rfl) kr ?_
                by_cases hc17 : (2 * 1 * a : Nat) < 256
                · skip
                  refine s_valE (some 12) (.bool (decide (((2 * 1 * a : Nat) : Int) < 256))) (.bool true) (fun w => by kernel_rfl) (bool_eq (decide_eq_true (by omega))) kr ?_
                  refine s_nil ?_
                  refine g_cond_t kr kr ?_
                  refine g_skip kr ?_
                  show WP _ _ _ _ _ _
                  refine g_seq kr ?_
                  refine g_block 3 kr ?_
                  refine g_reg0 [0, 1, 2, 3, 4, 5, 6, 7, 8, 9] kr ?_
                  refine s_val (some 17) (.int .i64 ((2 * 1 * a : Nat) : Int)) (fun w => by kernel_rfl) kr ?_
                  refine s_val (some 18) (.int .i64 1) (fun w => by kernel_rfl) kr ?_
                  refine s_valE (some 19) (.int .i64 (IntKind.i64.wrap (((2 * 1 * a : Nat) : Int) + 1))) (.int .i64 (((2 * 1 * a) + 1 : Nat) : Int)) (fun w => by kernel_rfl) (int_eq (wrapAdd_i64 (a := 2 * 1 * a) (b := 1) (by omega))) kr ?_
                  refine s_val (some 20) (.int .i64 ((2 * 1 * a : Nat) : Int)) (fun w => by kernel_rfl) kr ?_
                  refine s_op (some 21) _ (.pointer (some ⟨b2, 0 + (2 * 1 * a) * 1, none⟩)) kr kr (fun o w ho => idxA_run (kd := .i64) (t := 67) (n := 256) (size := 1) kr (x := (.tmp 1)) (y := (.tmp 20)) b2 0 (2 * 1 * a) ho kr kr (by omega) w) ?_
                  refine s_load1 H25 (some 22) 64 (.tmp 21) 0 b2 (0 + (2 * 1 * a) * 1) (Value.cells (arr 256 (tb 1 a))) 67 (0, 0) (.int .u32 ((BitVec.toNat (nth (tb 1 a) (2 * 1 * a)) : Nat) : Int)) kr kr kr kr kr (arr_at (n := 256) (tb 1 a) (k := (2 * 1 * a)) (by omega) (by omega)) ?_
                  refine s_val (some 23) (.int .u32 ((BitVec.toNat (mv (mv (mv (mv (mv (mv (mv (mv (1 : BitVec 32))))))))) : Nat) : Int)) (fun w => by kernel_rfl) kr ?_
                  refine s_valE (some 24) (.int .u32 (Go.bits .xor .u32 (((BitVec.toNat (nth (tb 1 a) (2 * 1 * a)) : Nat) : Int)) (((BitVec.toNat (mv (mv (mv (mv (mv (mv (mv (mv (1 : BitVec 32))))))))) : Nat) : Int)))) (.int .u32 ((BitVec.toNat ((nth (tb 1 a) (2 * 1 * a)) ^^^ (mv (mv (mv (mv (mv (mv (mv (mv (1 : BitVec 32)))))))))) : Nat) : Int)) (fun w => by kernel_rfl) (bv_xor_u32 (nth (tb 1 a) (2 * 1 * a)) (mv (mv (mv (mv (mv (mv (mv (mv (1 : BitVec 32)))))))))) kr ?_
                  refine s_op (some 25) _ (.pointer (some ⟨b2, 0 + ((2 * 1 * a) + 1) * 1, none⟩)) kr kr (fun o w ho => idxA_run (kd := .i64) (t := 67) (n := 256) (size := 1) kr (x := (.tmp 1)) (y := (.tmp 19)) b2 0 ((2 * 1 * a) + 1) ho kr kr (by omega) w) ?_
                  refine s_store H25 0 [(b2, Obj.cells (Value.cells (arr 256 (tb 1 (a + 1)))) 67 (0, 0)), (b1, Obj.cells (Value.cells (zeroV .u32 256)) 67 (0, 0))] 64 (.tmp 25) (.tmp 24) b2 (0 + ((2 * 1 * a) + 1) * 1) (Value.cells (arr 256 (tb 1 a))) (Value.cells (arr 256 (tb 1 (a + 1)))) 67 (.int .u32 ((BitVec.toNat ((nth (tb 1 a) (2 * 1 * a)) ^^^ (mv (mv (mv (mv (mv (mv (mv (mv (1 : BitVec 32)))))))))) : Nat) : Int)) kr kr kr kr kr kr (by show _ + 1 ≤ 256; omega) (arr_put (k := ((2 * 1 * a) + 1)) (x := (nth (tb 1 a) (2 * 1 * a)) ^^^ (mv (mv (mv (mv (mv (mv (mv (mv (1 : BitVec 32)))))))))) (by omega) (by omega) (fun j hj => tb_go (bit := 1) (a := a) (r := mv (mv (mv (mv (mv (mv (mv (mv (1 : BitVec 32))))))))) (by omega) (by omega) (tab_val 7 (by omega) a (by omega)) j hj)) kr ?_
                  intro w26 H26; clear H25
                  refine s_nil ?_
                  show WP _ _ _ _ _ _
                  refine g_reg0 [0, 1, 2, 3, 4] kr ?_
                  refine s_val (some 13) (.int .i64 ((2 * 1 * a : Nat) : Int)) (fun w => by kernel_rfl) kr ?_
                  refine s_val (some 14) (.int .i64 1) (fun w => by kernel_rfl) kr ?_
                  refine s_val (some 15) (.int .i64 2) (fun w => by kernel_rfl) kr ?_
                  refine s_valE (some 16) (.int .i64 (IntKind.i64.wrap (((2 * 1 * a : Nat) : Int) + 2))) (.int .i64 (((2 * 1 * a) + 2 : Nat) : Int)) (fun w => by kernel_rfl) (int_eq (wrapAdd_i64 (a := 2 * 1 * a) (b := 2) (by omega))) kr ?_
                  refine s_val (some 4) (.int .i64 (((2 * 1 * a) + 2 : Nat) : Int)) (fun w => by kernel_rfl) kr ?_
                  refine s_nil ?_
                  rw [show (((2 * 1 * a) + 2 : Nat) : Int) = ((2 * 1 * (a + 1) : Nat) : Int) from by omega]
                  show ∃ m, _ ∧ _
                  exact ⟨_, (by omega), (a + 1), rfl, (by omega), H26, (Is.of ⟨kr, kr, kr, kr, kr, kr, trivial⟩)⟩
                · skip
                  refine s_valE (some 12) (.bool (decide (((2 * 1 * a : Nat) : Int) < 256))) (.bool false) (fun w => by kernel_rfl) (bool_eq (decide_eq_false (by omega))) kr ?_
                  refine s_nil ?_
                  refine g_cond_f kr kr ?_
                  refine g_exit 2 kr ?_
                  show WP _ _ _ _ _ _
                  refine g_reg0 [0, 1, 2] kr ?_
                  refine s_val (some 7) (.int .i64 1) (fun w => by kernel_rfl) kr ?_
                  refine s_val (some 8) (.int .i64 0) (fun w => by kernel_rfl) kr ?_
                  refine s_val (some 3) (.int .i64 0) (fun w => by kernel_rfl) kr ?_
                  refine s_nil ?_
                  show WPL _ _ _ _ _ _
                  refine g_next ?_
                  refine g_seq kr ?_
                  refine g_sreg [0, 1] kr kr ?_
                  refine s_val (some 5) (.int .i64 0) (fun w => by kernel_rfl) kr ?_
                  refine s_val (some 6) (.bool false) (fun w => by kernel_rfl) kr ?_
                  refine s_nil ?_
                  refine g_cond_f kr kr ?_
                  refine g_exit 0 kr ?_
                  show WP _ _ _ _ _ _
                  refine g_sreg [0, 1] kr kr ?_
                  refine s_load H25 (some 26) 67 (.tmp 1) 0 b2 (Value.cells (arr 256 (tb 1 a))) 67 (0, 0) kr kr kr kr kr ?_
                  refine s_store H25 1 [(b2, Obj.cells (Value.cells (arr 256 (tb 1 a))) 67 (0, 0)), (b1, Obj.cells (Value.cells (arr 256 (tb 1 a))) 67 (0, 0))] 67 (.tmp 0) (.tmp 26) b1 (0) (Value.cells (zeroV .u32 256)) (Value.cells (arr 256 (tb 1 a))) 67 (arr 256 (tb 1 a)) kr kr kr kr kr kr (of_decide_eq_true kr) kr kr ?_
                  intro w27 H27; clear H25
                  refine s_nil ?_
                  refine g_ret kr ?_
                  show ∃ vs, Res _ _ _ _ vs ∧ _
                  refine ⟨[arr 256 (tb 1 a)], (.agg (b := b1) (Value.cells (arr 256 (tb 1 a))) 67 (0, 0) kr (H27.get 1 kr) kr .nil), ?_, H27.below⟩
                  exact arr_congr (fun j hj => by rw [tb_end (by omega) (by omega) j hj, if_pos (Nat.mod_one j)]; unfold tabL; rw [nth_fix, if_pos hj])
end Go.Proofs.Ythpiojejhellhaa

namespace Go.Proofs.Ythpiojejhellhaa
open Go Go.RowKit Go.Proofs.Crc
set_option linter.unusedVariables false
theorem ext_size (s : ByteArray) (a b : Nat) (h : b ≤ ByteArray.size s) : ByteArray.size (ByteArray.extract s a b) = b - a := by
  rw [← tl_len, tl_extract, List.length_drop, List.length_take, tl_len, Nat.min_eq_left h]
theorem add_size (a b : ByteArray) : ByteArray.size (a ++ b) = ByteArray.size a + ByteArray.size b := by rw [← tl_len, tl_add, List.length_append, tl_len, tl_len]
theorem le_size (n : W) (c : Nat) : ByteArray.size (strB (le n c)) = c := by rw [strB_size, le_len]
theorem frB_size (l : List UInt8) : ByteArray.size (strB (frB l)) = l.length + 6 := by rw [strB_size, frB_len]
set_option maxRecDepth 100000 in
set_option maxHeartbeats 2000000 in
theorem sum_fn (s : ByteArray) (hs : ByteArray.size s ≤ 1000000000000000000) : Fn Try.prog 48 #[arr 256 tabL, .string s] (.int .u32 ((BitVec.toNat (crc (tl s)) : Nat) : Int)) := by
  refine Fn.intro (c := codeOf Try.f48) [.tmp 4] 26 Try.func48 kr kr kr fun w => ?_
  have H0 := St.start w
  refine g_sreg [0, 1] kr kr ?_
  refine s_box H0 (some 2) 67 (.tmp 0) (arr 256 tabL) kr kr kr ?_
  intro b1 w1 H1; clear H0
  refine s_val (some 4) (.int .u32 0) (fun w => by kernel_rfl) kr ?_
  refine s_nil ?_
  refine g_sreg [0] kr kr ?_
  refine s_val (some 5) (.int .u32 ((BitVec.toNat (reg rg0 ((tl s).take 0)) : Nat) : Int)) (fun w => by kernel_rfl) kr ?_
  refine s_nil ?_
  refine g_seq kr ?_
  refine g_sreg [0, 1, 2] kr kr ?_
  refine s_val (some 7) (.string s) (fun w => by kernel_rfl) kr ?_
  refine s_val (some 8) (.int .i64 ((ByteArray.size s : Nat) : Int)) (fun w => by kernel_rfl) kr ?_
  refine s_val (some 9) (.int .i64 0) (fun w => by kernel_rfl) kr ?_
  refine s_nil ?_
  refine g_block 0 kr ?_
  refine g_loop kr (fun mz ρ ww => ∃ (k : Nat), ByteArray.size s - k = mz ∧ (k ≤ ByteArray.size s) ∧ St w.heap.size w ww [(b1, Obj.cells (Value.cells (arr 256 tabL)) 67 (0, 0))] ∧ Is [(0, arr 256 tabL), (1, .string s), (2, .pointer (some ⟨b1, 0, none⟩)), (4, .int .u32 0), (5, .int .u32 ((BitVec.toNat (reg rg0 ((tl s).take k)) : Nat) : Int)), (8, .int .i64 ((ByteArray.size s : Nat) : Int)), (9, .int .i64 ((k : Nat) : Int))] ρ) (ByteArray.size s - 0) ⟨0, rfl, (by omega), H1, (Is.of ⟨kr, kr, kr, kr, kr, kr, kr, trivial⟩)⟩ ?_
  clear H1
  rintro _ _ w2 ⟨k, rfl, hk, H2, _, rfl⟩
  refine g_sreg [0] kr kr ?_
  by_cases hc1 : (k : Nat) < ByteArray.size s
  · skip
    refine s_valE (some 10) (.bool (decide (((k : Nat) : Int) < ((ByteArray.size s : Nat) : Int)))) (.bool true) (fun w => by kernel_rfl) (bool_eq (decide_eq_true (by omega))) kr ?_
    refine s_nil ?_
    refine g_seq kr ?_
    refine g_cond_t kr kr ?_
    refine g_skip kr ?_
    show WP _ _ _ _ _ _
    refine g_seq kr ?_
    refine g_block 1 kr ?_
    refine g_sreg [0, 1] kr kr ?_
    refine s_val (some 11) (.int .i64 ((k : Nat) : Int)) (fun w => by kernel_rfl) kr ?_
    refine s_val (some 6) (.int .i64 ((k : Nat) : Int)) (fun w => by kernel_rfl) kr ?_
    refine s_nil ?_
    refine g_reg0 [0, 1, 2, 3, 4, 5, 6, 7, 8, 9, 10, 11] kr ?_
    refine s_val (some 12) (.int .u32 ((BitVec.toNat (reg rg0 ((tl s).take k)) : Nat) : Int)) (fun w => by kernel_rfl) kr ?_
    refine s_valE (some 13) (.int .u32 (Int.fdiv (((BitVec.toNat (reg rg0 ((tl s).take k)) : Nat) : Int)) (2 ^ (min 8 32)))) (.int .u32 ((BitVec.toNat ((reg rg0 ((tl s).take k)) >>> 8) : Nat) : Int)) (fun w => by kernel_rfl) (bv_shr_u32 (reg rg0 ((tl s).take k)) 8) kr ?_
    refine s_val (some 14) (.int .u32 ((BitVec.toNat (reg rg0 ((tl s).take k)) : Nat) : Int)) (fun w => by kernel_rfl) kr ?_
    refine s_valE (some 15) (.int .u8 (IntKind.u8.wrap (((BitVec.toNat (reg rg0 ((tl s).take k)) : Nat) : Int)))) (.int .u8 ((BitVec.toNat (BitVec.setWidth 8 (reg rg0 ((tl s).take k))) : Nat) : Int)) (fun w => by kernel_rfl) (bv_conv_u8 (reg rg0 ((tl s).take k))) kr ?_
    refine s_val (some 16) (.string s) (fun w => by kernel_rfl) kr ?_
    refine s_val (some 17) (.int .i64 ((k : Nat) : Int)) (fun w => by kernel_rfl) kr ?_
    refine s_op (some 18) _ (.int .u8 ((BitVec.toNat (UInt8.toBitVec (List.getD (tl s) k 0)) : Nat) : Int)) kr kr (fun o w ho => sindex_run (t := 9) (kd := .i64) kr (x := (.tmp 16)) (y := (.tmp 17)) s k ho kr kr (by omega) w) ?_
    refine s_valE (some 19) (.int .u8 (Go.bits .xor .u8 (((BitVec.toNat (BitVec.setWidth 8 (reg rg0 ((tl s).take k))) : Nat) : Int)) (((BitVec.toNat (UInt8.toBitVec (List.getD (tl s) k 0)) : Nat) : Int)))) (.int .u8 ((BitVec.toNat ((BitVec.setWidth 8 (reg rg0 ((tl s).take k))) ^^^ (UInt8.toBitVec (List.getD (tl s) k 0))) : Nat) : Int)) (fun w => by kernel_rfl) (bv_xor_u8 (BitVec.setWidth 8 (reg rg0 ((tl s).take k))) (UInt8.toBitVec (List.getD (tl s) k 0))) kr ?_
    refine s_op (some 20) _ (.pointer (some ⟨b1, 0 + (BitVec.toNat ((BitVec.setWidth 8 (reg rg0 ((tl s).take k))) ^^^ (UInt8.toBitVec (List.getD (tl s) k 0)))) * 1, none⟩)) kr kr (fun o w ho => idxA_run (kd := .u8) (t := 67) (n := 256) (size := 1) kr (x := (.tmp 2)) (y := (.tmp 19)) b1 0 (BitVec.toNat ((BitVec.setWidth 8 (reg rg0 ((tl s).take k))) ^^^ (UInt8.toBitVec (List.getD (tl s) k 0)))) ho kr kr (BitVec.isLt _) w) ?_
    refine s_load1 H2 (some 21) 64 (.tmp 20) 0 b1 (0 + (BitVec.toNat ((BitVec.setWidth 8 (reg rg0 ((tl s).take k))) ^^^ (UInt8.toBitVec (List.getD (tl s) k 0)))) * 1) (Value.cells (arr 256 tabL)) 67 (0, 0) (.int .u32 ((BitVec.toNat (nth tabL (BitVec.toNat ((BitVec.setWidth 8 (reg rg0 ((tl s).take k))) ^^^ (UInt8.toBitVec (List.getD (tl s) k 0))))) : Nat) : Int)) kr kr kr kr kr (arr_at (n := 256) tabL (k := (BitVec.toNat ((BitVec.setWidth 8 (reg rg0 ((tl s).take k))) ^^^ (UInt8.toBitVec (List.getD (tl s) k 0))))) (by omega) (BitVec.isLt _)) ?_
    refine s_valE (some 22) (.int .u32 (Go.bits .xor .u32 (((BitVec.toNat ((reg rg0 ((tl s).take k)) >>> 8) : Nat) : Int)) (((BitVec.toNat (nth tabL (BitVec.toNat ((BitVec.setWidth 8 (reg rg0 ((tl s).take k))) ^^^ (UInt8.toBitVec (List.getD (tl s) k 0))))) : Nat) : Int)))) (.int .u32 ((BitVec.toNat (((reg rg0 ((tl s).take k)) >>> 8) ^^^ (nth tabL (BitVec.toNat ((BitVec.setWidth 8 (reg rg0 ((tl s).take k))) ^^^ (UInt8.toBitVec (List.getD (tl s) k 0)))))) : Nat) : Int)) (fun w => by kernel_rfl) (bv_xor_u32 ((reg rg0 ((tl s).take k)) >>> 8) (nth tabL (BitVec.toNat ((BitVec.setWidth 8 (reg rg0 ((tl s).take k))) ^^^ (UInt8.toBitVec (List.getD (tl s) k 0)))))) kr ?_
    refine s_val (some 5) (.int .u32 ((BitVec.toNat (((reg rg0 ((tl s).take k)) >>> 8) ^^^ (nth tabL (BitVec.toNat ((BitVec.setWidth 8 (reg rg0 ((tl s).take k))) ^^^ (UInt8.toBitVec (List.getD (tl s) k 0)))))) : Nat) : Int)) (fun w => by kernel_rfl) kr ?_
    refine s_nil ?_
    show WP _ _ _ _ _ _
    refine g_reg0 [0, 1] kr ?_
    refine s_valE (some 23) (.int .i64 (IntKind.i64.wrap (((k : Nat) : Int) + 1))) (.int .i64 ((k + 1 : Nat) : Int)) (fun w => by kernel_rfl) (int_eq (wrapAdd_i64 (a := k) (b := 1) (by omega))) kr ?_
    refine s_val (some 9) (.int .i64 ((k + 1 : Nat) : Int)) (fun w => by kernel_rfl) kr ?_
    refine s_nil ?_
    have hgo : reg rg0 ((tl s).take (k + 1)) = bst (reg rg0 ((tl s).take k)) ((tl s).getD k 0) := reg_take rg0 (tl s) k (by rw [tl_len]; omega)
    rw [show (((reg rg0 ((tl s).take k)) >>> 8) ^^^ (nth tabL (BitVec.toNat ((BitVec.setWidth 8 (reg rg0 ((tl s).take k))) ^^^ (UInt8.toBitVec (List.getD (tl s) k 0)))))) = reg rg0 ((tl s).take (k + 1)) from by rw [hgo]; exact bst_nth _ _]
    show ∃ m, _ ∧ _
    exact ⟨_, (by omega), (k + 1), rfl, (by omega), H2, (Is.of ⟨kr, kr, kr, kr, kr, kr, kr, trivial⟩)⟩
  · skip
    refine s_valE (some 10) (.bool (decide (((k : Nat) : Int) < ((ByteArray.size s : Nat) : Int)))) (.bool false) (fun w => by kernel_rfl) (bool_eq (decide_eq_false (by omega))) kr ?_
    refine s_nil ?_
    refine g_seq kr ?_
    refine g_cond_f kr kr ?_
    refine g_exit 0 kr ?_
    show WP _ _ _ _ _ _
    refine g_sreg [0, 1, 2] kr kr ?_
    refine s_val (some 24) (.int .u32 ((BitVec.toNat (reg rg0 ((tl s).take k)) : Nat) : Int)) (fun w => by kernel_rfl) kr ?_
    refine s_valE (some 25) (.int .u32 (Go.bits .xor .u32 4294967295 (((BitVec.toNat (reg rg0 ((tl s).take k)) : Nat) : Int)))) (.int .u32 ((BitVec.toNat (~~~(reg rg0 ((tl s).take k))) : Nat) : Int)) (fun w => by kernel_rfl) (bv_not_u32 (reg rg0 ((tl s).take k))) kr ?_
    refine s_val (some 4) (.int .u32 ((BitVec.toNat (~~~(reg rg0 ((tl s).take k))) : Nat) : Int)) (fun w => by kernel_rfl) kr ?_
    refine s_nil ?_
    refine g_ret kr ?_
    show ∃ vs, Res _ _ _ _ vs ∧ _
    refine ⟨[.int .u32 ((BitVec.toNat (~~~(reg rg0 ((tl s).take k))) : Nat) : Int)], (.tmp (.int .u32 ((BitVec.toNat (~~~(reg rg0 ((tl s).take k))) : Nat) : Int)) kr .nil), ?_, H2.below⟩
    rw [List.take_of_length_le (show (tl s).length ≤ k by rw [tl_len]; omega)]; rfl
set_option maxRecDepth 100000 in
set_option maxHeartbeats 2000000 in
theorem of_fn (s : ByteArray) (hs : ByteArray.size s ≤ 1000000000000000000) : Fn Try.prog 40 #[.string s] (.int .u32 ((BitVec.toNat (crc (tl s)) : Nat) : Int)) := by
  refine Fn.intro (c := codeOf Try.f40) [.tmp 2] 6 Try.func40 kr kr kr fun w => ?_
  have H0 := St.start w
  refine g_sreg [0] kr kr ?_
  refine s_val (some 2) (.int .u32 0) (fun w => by kernel_rfl) kr ?_
  refine s_nil ?_
  refine g_sreg [0, 1, 2, 3] kr kr ?_
  refine s_call H0 (some 3) 45 #[] (arr 256 tabL) table_fn (fun w => by kernel_rfl) kr ?_
  intro w1 H1; clear H0
  refine s_val (some 4) (.string s) (fun w => by kernel_rfl) kr ?_
  refine s_call H1 (some 5) 48 #[arr 256 tabL, .string s] (.int .u32 ((BitVec.toNat (crc (tl s)) : Nat) : Int)) (sum_fn s (by omega)) (fun w => by kernel_rfl) kr ?_
  intro w2 H2; clear H1
  refine s_val (some 2) (.int .u32 ((BitVec.toNat (crc (tl s)) : Nat) : Int)) (fun w => by kernel_rfl) kr ?_
  refine s_nil ?_
  refine g_ret kr ?_
  show ∃ vs, Res _ _ _ _ vs ∧ _
  refine ⟨[.int .u32 ((BitVec.toNat (crc (tl s)) : Nat) : Int)], (.tmp (.int .u32 ((BitVec.toNat (crc (tl s)) : Nat) : Int)) kr .nil), ?_, H2.below⟩
  rfl
theorem le_set (n : W) (c i : Nat) (h : i < c) : (le n i ++ List.replicate (c - i) 0).set i (UInt8.ofBitVec (BitVec.setWidth 8 (n >>> (8 * i)))) = le n (i + 1) ++ List.replicate (c - (i + 1)) 0 := by
  rw [List.set_append_right _ _ (by rw [le_len]; omega), le_len, Nat.sub_self, show c - i = (c - (i + 1)) + 1 by omega, List.replicate_succ, List.set_cons_zero]
  unfold le
  rw [List.range_succ, List.map_append, List.append_assoc]; rfl
theorem le_all (n : W) (c : Nat) : le n c ++ List.replicate (c - c) 0 = le n c := by rw [Nat.sub_self]; simp
set_option maxRecDepth 100000 in
set_option maxHeartbeats 2000000 in
theorem low_fn (x : W) (c : Nat) (hc : c ≤ 8) : Fn Try.prog 39 #[.int .u32 ((BitVec.toNat x : Nat) : Int), .int .i64 ((c : Nat) : Int)] (.string (strB (le x c))) := by
  refine Fn.intro (c := codeOf Try.f39) [.tmp 4] 25 Try.func39 kr kr kr fun w => ?_
  have H0 := St.start w
  refine g_sreg [0] kr kr ?_
  refine s_val (some 4) (.string (⟨#[]⟩)) (fun w => by kernel_rfl) kr ?_
  refine s_nil ?_
  refine g_sreg [0, 1, 2] kr kr ?_
  refine s_val (some 7) (.int .i64 ((c : Nat) : Int)) (fun w => by kernel_rfl) kr ?_
  refine s_make H0 (some 8) 66 5 1 (.int .u8 0) (.tmp 7) (.tmp 7) .i64 .i64 c kr kr kr kr rfl kr kr (by omega) (by unfold maxLen; omega) ?_
  intro b_1 cur_2 w1 H1 hr_3; clear H0
  have hr_3z : Rw 1 cur_2 (c) (c) (cellsB (List.replicate (c) 0)) := by rw [cellsB_zeros']; exact hr_3
  refine s_val (some 5) (.slice (some ⟨b_1, 0, none⟩) c c) (fun w => by kernel_rfl) kr ?_
  refine s_nil ?_
  refine g_seq kr ?_
  refine g_sreg [0, 1, 2] kr kr ?_
  refine s_val (some 9) (.slice (some ⟨b_1, 0, none⟩) c c) (fun w => by kernel_rfl) kr ?_
  refine s_val (some 10) (.int .i64 ((c : Nat) : Int)) (fun w => by kernel_rfl) kr ?_
  refine s_val (some 11) (.int .i64 0) (fun w => by kernel_rfl) kr ?_
  refine s_nil ?_
  refine g_block 0 kr ?_
  refine g_loop kr (fun mz ρ ww => ∃ (b : Nat) (cap : Nat) (n : Nat) (cur : Array Value) (i : Nat), c - i = mz ∧ (n = c) ∧ (Rw 1 cur cap n (cellsB (le x i ++ List.replicate (c - i) 0))) ∧ (i ≤ c) ∧ St w.heap.size w ww [(b, Obj.cells cur 5 (0, 0))] ∧ Is [(0, .int .u32 ((BitVec.toNat x : Nat) : Int)), (1, .int .i64 ((c : Nat) : Int)), (4, .string (⟨#[]⟩)), (5, .slice (some ⟨b, 0, none⟩) n cap), (10, .int .i64 ((n : Nat) : Int)), (11, .int .i64 ((i : Nat) : Int))] ρ) (c - 0) ⟨b_1, c, c, cur_2, 0, rfl, rfl, hr_3z, (by omega), H1, (Is.of ⟨kr, kr, kr, kr, kr, kr, trivial⟩)⟩ ?_
  clear H1
  rintro _ _ w2 ⟨b, cap, n, cur, i, rfl, hn, hr, hi, H2, _, rfl⟩
  refine g_sreg [0] kr kr ?_
  by_cases hc1 : (i : Nat) < n
  · skip
    refine s_valE (some 12) (.bool (decide (((i : Nat) : Int) < ((n : Nat) : Int)))) (.bool true) (fun w => by kernel_rfl) (bool_eq (decide_eq_true (by omega))) kr ?_
    refine s_nil ?_
    refine g_seq kr ?_
    refine g_cond_t kr kr ?_
    refine g_skip kr ?_
    show WP _ _ _ _ _ _
    refine g_seq kr ?_
    refine g_block 1 kr ?_
    refine g_sreg [0, 1] kr kr ?_
    refine s_val (some 13) (.int .i64 ((i : Nat) : Int)) (fun w => by kernel_rfl) kr ?_
    refine s_val (some 6) (.int .i64 ((i : Nat) : Int)) (fun w => by kernel_rfl) kr ?_
    refine s_nil ?_
    refine g_reg0 [0, 1, 2, 3, 4, 5, 6, 7, 8] kr ?_
    refine s_val (some 14) (.slice (some ⟨b, 0, none⟩) n cap) (fun w => by kernel_rfl) kr ?_
    refine s_val (some 15) (.int .i64 ((i : Nat) : Int)) (fun w => by kernel_rfl) kr ?_
    refine s_val (some 16) (.int .u32 ((BitVec.toNat x : Nat) : Int)) (fun w => by kernel_rfl) kr ?_
    refine s_val (some 17) (.int .i64 ((i : Nat) : Int)) (fun w => by kernel_rfl) kr ?_
    refine s_valE (some 18) (.int .i64 (IntKind.i64.wrap (8 * ((i : Nat) : Int)))) (.int .i64 ((8 * i : Nat) : Int)) (fun w => by kernel_rfl) (int_eq (wrapMul_i64 (a := 8) (b := i) (by omega))) kr ?_
    refine s_valE (some 19) (.int .u32 (Int.fdiv (((BitVec.toNat x : Nat) : Int)) (2 ^ (min (8 * i) 32)))) (.int .u32 ((BitVec.toNat (x >>> (8 * i)) : Nat) : Int)) (fun w => by kernel_rfl) (bv_shr_u32 x (8 * i)) kr ?_
    refine s_valE (some 20) (.int .u8 (IntKind.u8.wrap (((BitVec.toNat (x >>> (8 * i)) : Nat) : Int)))) (.int .u8 ((BitVec.toNat (BitVec.setWidth 8 (x >>> (8 * i))) : Nat) : Int)) (fun w => by kernel_rfl) (bv_conv_u8 (x >>> (8 * i))) kr ?_
    refine s_op (some 21) _ (.pointer (some ⟨b, 0 + i * 1, none⟩)) kr kr (fun o w ho => idxS_run (kd := .i64) (t := 66) (e := 5) (size := 1) (bytes := 1) kr (x := (.tmp 14)) (y := (.tmp 15)) b 0 n cap i ho kr kr (by omega) w) ?_
    obtain ⟨cur_4, hc_5, hs_6, hr_7⟩ := hr.putB i (UInt8.ofBitVec (BitVec.setWidth 8 (x >>> (8 * i)))) (by omega)
    refine s_store H2 0 [(b, Obj.cells cur_4 5 (0, 0))] 5 (.tmp 21) (.tmp 20) b (0 + i * 1) cur cur_4 5 (.int .u8 ((BitVec.toNat (BitVec.setWidth 8 (x >>> (8 * i))) : Nat) : Int)) kr kr kr kr kr kr hs_6 hc_5 kr ?_
    intro w3 H3; clear H2
    refine s_nil ?_
    show WP _ _ _ _ _ _
    refine g_reg0 [0, 1] kr ?_
    refine s_valE (some 22) (.int .i64 (IntKind.i64.wrap (((i : Nat) : Int) + 1))) (.int .i64 ((i + 1 : Nat) : Int)) (fun w => by kernel_rfl) (int_eq (wrapAdd_i64 (a := i) (b := 1) (by omega))) kr ?_
    refine s_val (some 11) (.int .i64 ((i + 1 : Nat) : Int)) (fun w => by kernel_rfl) kr ?_
    refine s_nil ?_
    have hrw := hr_7; rw [le_set x c i (by omega)] at hrw
    show ∃ m, _ ∧ _
    exact ⟨_, (by omega), b, cap, n, cur_4, (i + 1), rfl, hn, hrw, (by omega), H3, (Is.of ⟨kr, kr, kr, kr, kr, kr, trivial⟩)⟩
  · skip
    refine s_valE (some 12) (.bool (decide (((i : Nat) : Int) < ((n : Nat) : Int)))) (.bool false) (fun w => by kernel_rfl) (bool_eq (decide_eq_false (by omega))) kr ?_
    refine s_nil ?_
    refine g_seq kr ?_
    refine g_cond_f kr kr ?_
    refine g_exit 0 kr ?_
    show WP _ _ _ _ _ _
    refine g_sreg [0, 1, 2] kr kr ?_
    refine s_val (some 23) (.slice (some ⟨b, 0, none⟩) n cap) (fun w => by kernel_rfl) kr ?_
    refine s_bytesStrB H2 (some 24) 66 9 5 (.tmp 23) 0 b n cap cur 5 (0, 0) (le x i ++ List.replicate (c - i) 0) kr kr kr kr kr kr kr hr ?_
    refine s_val (some 4) (.string (strB (le x i ++ List.replicate (c - i) 0))) (fun w => by kernel_rfl) kr ?_
    refine s_nil ?_
    refine g_ret kr ?_
    show ∃ vs, Res _ _ _ _ vs ∧ _
    refine ⟨[.string (strB (le x i ++ List.replicate (c - i) 0))], (.tmp (.string (strB (le x i ++ List.replicate (c - i) 0))) kr .nil), ?_, H2.below⟩
    obtain rfl : i = c := by omega
    exact congrArg (fun y => Value.string (strB y)) (le_all x i)
set_option maxRecDepth 100000 in
set_option maxHeartbeats 2000000 in
theorem number_fn (s : ByteArray) (hs : ByteArray.size s ≤ 8) : Fn Try.prog 50 #[.string s] (.int .u32 ((BitVec.toNat (numB (tl s)) : Nat) : Int)) := by
  refine Fn.intro (c := codeOf Try.f50) [.tmp 2] 21 Try.func50 kr kr kr fun w => ?_
  have H0 := St.start w
  refine g_sreg [0] kr kr ?_
  refine s_val (some 2) (.int .u32 0) (fun w => by kernel_rfl) kr ?_
  refine s_nil ?_
  refine g_sreg [0] kr kr ?_
  refine s_val (some 3) (.int .u32 ((BitVec.toNat (num (tl s) 0) : Nat) : Int)) (fun w => by kernel_rfl) kr ?_
  refine s_nil ?_
  refine g_seq kr ?_
  refine g_sreg [0, 1, 2] kr kr ?_
  refine s_val (some 5) (.string s) (fun w => by kernel_rfl) kr ?_
  refine s_val (some 6) (.int .i64 ((ByteArray.size s : Nat) : Int)) (fun w => by kernel_rfl) kr ?_
  refine s_val (some 7) (.int .i64 0) (fun w => by kernel_rfl) kr ?_
  refine s_nil ?_
  refine g_block 0 kr ?_
  refine g_loop kr (fun mz ρ ww => ∃ (k : Nat), ByteArray.size s - k = mz ∧ (k ≤ ByteArray.size s) ∧ St w.heap.size w ww [] ∧ Is [(0, .string s), (2, .int .u32 0), (3, .int .u32 ((BitVec.toNat (num (tl s) k) : Nat) : Int)), (6, .int .i64 ((ByteArray.size s : Nat) : Int)), (7, .int .i64 ((k : Nat) : Int))] ρ) (ByteArray.size s - 0) ⟨0, rfl, (by omega), H0, (Is.of ⟨kr, kr, kr, kr, kr, trivial⟩)⟩ ?_
  clear H0
  rintro _ _ w1 ⟨k, rfl, hk, H1, _, rfl⟩
  refine g_sreg [0] kr kr ?_
  by_cases hc1 : (k : Nat) < ByteArray.size s
  · skip
    refine s_valE (some 8) (.bool (decide (((k : Nat) : Int) < ((ByteArray.size s : Nat) : Int)))) (.bool true) (fun w => by kernel_rfl) (bool_eq (decide_eq_true (by omega))) kr ?_
    refine s_nil ?_
    refine g_seq kr ?_
    refine g_cond_t kr kr ?_
    refine g_skip kr ?_
    show WP _ _ _ _ _ _
    refine g_seq kr ?_
    refine g_block 1 kr ?_
    refine g_sreg [0, 1] kr kr ?_
    refine s_val (some 9) (.int .i64 ((k : Nat) : Int)) (fun w => by kernel_rfl) kr ?_
    refine s_val (some 4) (.int .i64 ((k : Nat) : Int)) (fun w => by kernel_rfl) kr ?_
    refine s_nil ?_
    refine g_reg0 [0, 1, 2, 3, 4, 5, 6, 7, 8, 9] kr ?_
    refine s_val (some 10) (.int .u32 ((BitVec.toNat (num (tl s) k) : Nat) : Int)) (fun w => by kernel_rfl) kr ?_
    refine s_val (some 11) (.string s) (fun w => by kernel_rfl) kr ?_
    refine s_val (some 12) (.int .i64 ((k : Nat) : Int)) (fun w => by kernel_rfl) kr ?_
    refine s_op (some 13) _ (.int .u8 ((by_ s k : Nat) : Int)) kr kr (fun o w ho => sindex_run (t := 9) (kd := .i64) kr (x := (.tmp 11)) (y := (.tmp 12)) s k ho kr kr (by omega) w) ?_
    refine s_valE (some 14) (.int .u32 (IntKind.u32.wrap (((by_ s k : Nat) : Int)))) (.int .u32 ((BitVec.toNat (BitVec.ofNat 32 (by_ s k)) : Nat) : Int)) (fun w => by kernel_rfl) (bv_ofNat_u32 (by_ s k)) kr ?_
    refine s_val (some 15) (.int .i64 ((k : Nat) : Int)) (fun w => by kernel_rfl) kr ?_
    refine s_valE (some 16) (.int .i64 (IntKind.i64.wrap (8 * ((k : Nat) : Int)))) (.int .i64 ((8 * k : Nat) : Int)) (fun w => by kernel_rfl) (int_eq (wrapMul_i64 (a := 8) (b := k) (by omega))) kr ?_
    refine s_valE (some 17) (.int .u32 (IntKind.u32.wrap ((((BitVec.toNat (BitVec.ofNat 32 (by_ s k)) : Nat) : Int)) * 2 ^ (min (8 * k) 32)))) (.int .u32 ((BitVec.toNat ((BitVec.ofNat 32 (by_ s k)) <<< (8 * k)) : Nat) : Int)) (fun w => by kernel_rfl) (bv_shl_u32 (BitVec.ofNat 32 (by_ s k)) (8 * k)) kr ?_
    refine s_valE (some 18) (.int .u32 (Go.bits .or .u32 (((BitVec.toNat (num (tl s) k) : Nat) : Int)) (((BitVec.toNat ((BitVec.ofNat 32 (by_ s k)) <<< (8 * k)) : Nat) : Int)))) (.int .u32 ((BitVec.toNat ((num (tl s) k) ||| ((BitVec.ofNat 32 (by_ s k)) <<< (8 * k))) : Nat) : Int)) (fun w => by kernel_rfl) (bv_or_u32 (num (tl s) k) ((BitVec.ofNat 32 (by_ s k)) <<< (8 * k))) kr ?_
    refine s_val (some 3) (.int .u32 ((BitVec.toNat ((num (tl s) k) ||| ((BitVec.ofNat 32 (by_ s k)) <<< (8 * k))) : Nat) : Int)) (fun w => by kernel_rfl) kr ?_
    refine s_nil ?_
    show WP _ _ _ _ _ _
    refine g_reg0 [0, 1] kr ?_
    refine s_valE (some 19) (.int .i64 (IntKind.i64.wrap (((k : Nat) : Int) + 1))) (.int .i64 ((k + 1 : Nat) : Int)) (fun w => by kernel_rfl) (int_eq (wrapAdd_i64 (a := k) (b := 1) (by omega))) kr ?_
    refine s_val (some 7) (.int .i64 ((k + 1 : Nat) : Int)) (fun w => by kernel_rfl) kr ?_
    refine s_nil ?_
    show ∃ m, _ ∧ _
    exact ⟨_, (by omega), (k + 1), rfl, (by omega), H1, (Is.of ⟨kr, kr, kr, kr, kr, trivial⟩)⟩
  · skip
    refine s_valE (some 8) (.bool (decide (((k : Nat) : Int) < ((ByteArray.size s : Nat) : Int)))) (.bool false) (fun w => by kernel_rfl) (bool_eq (decide_eq_false (by omega))) kr ?_
    refine s_nil ?_
    refine g_seq kr ?_
    refine g_cond_f kr kr ?_
    refine g_exit 0 kr ?_
    show WP _ _ _ _ _ _
    refine g_sreg [0, 1] kr kr ?_
    refine s_val (some 20) (.int .u32 ((BitVec.toNat (num (tl s) k) : Nat) : Int)) (fun w => by kernel_rfl) kr ?_
    refine s_val (some 2) (.int .u32 ((BitVec.toNat (num (tl s) k) : Nat) : Int)) (fun w => by kernel_rfl) kr ?_
    refine s_nil ?_
    refine g_ret kr ?_
    show ∃ vs, Res _ _ _ _ vs ∧ _
    refine ⟨[.int .u32 ((BitVec.toNat (num (tl s) k) : Nat) : Int)], (.tmp (.int .u32 ((BitVec.toNat (num (tl s) k) : Nat) : Int)) kr .nil), ?_, H1.below⟩
    obtain rfl : k = ByteArray.size s := by omega
    rfl
set_option maxRecDepth 100000 in
set_option maxHeartbeats 2000000 in
theorem may_yes (n : Nat) (h : 1 ≤ n ∧ n ≤ 4000) : Fn Try.prog 38 #[.int .i64 ((n : Nat) : Int)] (.bool true) := by
  refine Fn.intro (c := codeOf Try.f38) [.tmp 2] 9 Try.func38 kr kr kr fun w => ?_
  have H0 := St.start w
  refine g_sreg [0] kr kr ?_
  refine s_val (some 2) (.bool false) (fun w => by kernel_rfl) kr ?_
  refine s_nil ?_
  refine g_sreg [0, 1, 2, 3, 4, 5, 6] kr kr ?_
  refine s_val (some 3) (.int .i64 ((n : Nat) : Int)) (fun w => by kernel_rfl) kr ?_
  refine s_valE (some 4) (.bool (decide (1 ≤ ((n : Nat) : Int)))) (.bool true) (fun w => by kernel_rfl) (bool_eq (decide_eq_true (by omega))) kr ?_
  refine s_val (some 5) (.bool true) (fun w => by kernel_rfl) kr ?_
  refine s_val (some 6) (.int .i64 ((n : Nat) : Int)) (fun w => by kernel_rfl) kr ?_
  refine s_valE (some 7) (.bool (decide (((n : Nat) : Int) ≤ 4000))) (.bool true) (fun w => by kernel_rfl) (bool_eq (decide_eq_true (by omega))) kr ?_
  refine s_val (some 8) (.bool true) (fun w => by kernel_rfl) kr ?_
  refine s_val (some 2) (.bool true) (fun w => by kernel_rfl) kr ?_
  refine s_nil ?_
  refine g_ret kr ?_
  show ∃ vs, Res _ _ _ _ vs ∧ _
  refine ⟨[.bool true], (.tmp (.bool true) kr .nil), ?_, H0.below⟩
  rfl
set_option maxRecDepth 100000 in
set_option maxHeartbeats 2000000 in
theorem may_no (n : Nat) (h : ¬ (1 ≤ n ∧ n ≤ 4000)) : Fn Try.prog 38 #[.int .i64 ((n : Nat) : Int)] (.bool false) := by
  refine Fn.intro (c := codeOf Try.f38) [.tmp 2] 9 Try.func38 kr kr kr fun w => ?_
  have H0 := St.start w
  refine g_sreg [0] kr kr ?_
  refine s_val (some 2) (.bool false) (fun w => by kernel_rfl) kr ?_
  refine s_nil ?_
  refine g_sreg [0, 1, 2, 3, 4, 5, 6] kr kr ?_
  refine s_val (some 3) (.int .i64 ((n : Nat) : Int)) (fun w => by kernel_rfl) kr ?_
  by_cases hc1 : (n : Nat) ≥ 1
  · skip
    refine s_valE (some 4) (.bool (decide (1 ≤ ((n : Nat) : Int)))) (.bool true) (fun w => by kernel_rfl) (bool_eq (decide_eq_true (by omega))) kr ?_
    refine s_val (some 5) (.bool true) (fun w => by kernel_rfl) kr ?_
    refine s_val (some 6) (.int .i64 ((n : Nat) : Int)) (fun w => by kernel_rfl) kr ?_
    refine s_valE (some 7) (.bool (decide (((n : Nat) : Int) ≤ 4000))) (.bool false) (fun w => by kernel_rfl) (bool_eq (decide_eq_false (by omega))) kr ?_
    refine s_val (some 8) (.bool false) (fun w => by kernel_rfl) kr ?_
    refine s_val (some 2) (.bool false) (fun w => by kernel_rfl) kr ?_
    refine s_nil ?_
    refine g_ret kr ?_
    show ∃ vs, Res _ _ _ _ vs ∧ _
    refine ⟨[.bool false], (.tmp (.bool false) kr .nil), ?_, H0.below⟩
    rfl
  · skip
    refine s_valE (some 4) (.bool (decide (1 ≤ ((n : Nat) : Int)))) (.bool false) (fun w => by kernel_rfl) (bool_eq (decide_eq_false (by omega))) kr ?_
    refine s_val (some 5) (.bool false) (fun w => by kernel_rfl) kr ?_
    refine s_not (some 6) kr kr ?_
    refine s_not (some 7) kr kr ?_
    refine s_val (some 8) (.bool false) (fun w => by kernel_rfl) kr ?_
    refine s_val (some 2) (.bool false) (fun w => by kernel_rfl) kr ?_
    refine s_nil ?_
    refine g_ret kr ?_
    show ∃ vs, Res _ _ _ _ vs ∧ _
    refine ⟨[.bool false], (.tmp (.bool false) kr .nil), ?_, H0.below⟩
    rfl
set_option maxRecDepth 100000 in
set_option maxHeartbeats 2000000 in
theorem frame_fn (s : ByteArray) (h : 1 ≤ ByteArray.size s ∧ ByteArray.size s ≤ 4000) : Fn Try.prog 24 #[.string s] (.tuple #[.string (strB (frB (tl s))), .int .i64 0]) := by
  refine Fn.intro (c := codeOf Try.f24) [.tmp 2, .tmp 3] 20 Try.func24 kr kr kr fun w => ?_
  have H0 := St.start w
  refine g_sreg [0, 1] kr kr ?_
  refine s_val (some 2) (.string (⟨#[]⟩)) (fun w => by kernel_rfl) kr ?_
  refine s_val (some 3) (.int .i64 0) (fun w => by kernel_rfl) kr ?_
  refine s_nil ?_
  refine g_seq kr ?_
  refine g_sreg [0, 1, 2, 3] kr kr ?_
  refine s_val (some 5) (.string s) (fun w => by kernel_rfl) kr ?_
  refine s_val (some 6) (.int .i64 ((ByteArray.size s : Nat) : Int)) (fun w => by kernel_rfl) kr ?_
  refine s_call H0 (some 7) 38 #[.int .i64 ((ByteArray.size s : Nat) : Int)] (.bool true) (may_yes (ByteArray.size s) (by omega)) (fun w => by kernel_rfl) kr ?_
  intro w1 H1; clear H0
  refine s_val (some 8) (.bool false) (fun w => by kernel_rfl) kr ?_
  refine s_nil ?_
  refine g_cond_f kr kr ?_
  refine g_skip kr ?_
  show WP _ _ _ _ _ _
  refine g_sreg [0, 1, 2, 3, 4, 5, 6] kr kr ?_
  refine s_val (some 9) (.string s) (fun w => by kernel_rfl) kr ?_
  refine s_val (some 10) (.int .i64 ((ByteArray.size s : Nat) : Int)) (fun w => by kernel_rfl) kr ?_
  refine s_valE (some 11) (.int .u32 (IntKind.u32.wrap (((ByteArray.size s : Nat) : Int)))) (.int .u32 ((BitVec.toNat (BitVec.ofNat 32 (ByteArray.size s)) : Nat) : Int)) (fun w => by kernel_rfl) (bv_ofNat_u32 (ByteArray.size s)) kr ?_
  refine s_call H1 (some 12) 39 #[.int .u32 ((BitVec.toNat (BitVec.ofNat 32 (ByteArray.size s)) : Nat) : Int), .int .i64 2] (.string (strB (le (BitVec.ofNat 32 (ByteArray.size s)) 2))) (low_fn (BitVec.ofNat 32 (ByteArray.size s)) 2 (by omega)) (fun w => by kernel_rfl) kr ?_
  intro w2 H2; clear H1
  refine s_val (some 13) (.string s) (fun w => by kernel_rfl) kr ?_
  have hz1 : ByteArray.size ((strB (le (BitVec.ofNat 32 (ByteArray.size s)) 2)) ++ s) = ByteArray.size (strB (le (BitVec.ofNat 32 (ByteArray.size s)) 2)) + ByteArray.size s := add_size _ _
  have hz2 : ByteArray.size (strB (le (BitVec.ofNat 32 (ByteArray.size s)) 2)) = 2 := le_size _ _
  refine s_op (some 14) _ (.string ((strB (le (BitVec.ofNat 32 (ByteArray.size s)) 2)) ++ s)) kr kr (fun o w ho => sadd_run (t := 9) (t' := 9) (x := (.tmp 12)) (y := (.tmp 13)) (strB (le (BitVec.ofNat 32 (ByteArray.size s)) 2)) s w ho kr kr (by omega)) ?_
  refine s_val (some 4) (.string ((strB (le (BitVec.ofNat 32 (ByteArray.size s)) 2)) ++ s)) (fun w => by kernel_rfl) kr ?_
  refine s_nil ?_
  refine g_sreg [0, 1, 2, 3, 4, 5, 6] kr kr ?_
  refine s_val (some 15) (.string ((strB (le (BitVec.ofNat 32 (ByteArray.size s)) 2)) ++ s)) (fun w => by kernel_rfl) kr ?_
  refine s_val (some 16) (.string ((strB (le (BitVec.ofNat 32 (ByteArray.size s)) 2)) ++ s)) (fun w => by kernel_rfl) kr ?_
  refine s_call H2 (some 17) 40 #[.string ((strB (le (BitVec.ofNat 32 (ByteArray.size s)) 2)) ++ s)] (.int .u32 ((BitVec.toNat (crc (tl ((strB (le (BitVec.ofNat 32 (ByteArray.size s)) 2)) ++ s))) : Nat) : Int)) (of_fn ((strB (le (BitVec.ofNat 32 (ByteArray.size s)) 2)) ++ s) (by omega)) (fun w => by kernel_rfl) kr ?_
  intro w3 H3; clear H2
  refine s_call H3 (some 18) 39 #[.int .u32 ((BitVec.toNat (crc (tl ((strB (le (BitVec.ofNat 32 (ByteArray.size s)) 2)) ++ s))) : Nat) : Int), .int .i64 4] (.string (strB (le (crc (tl ((strB (le (BitVec.ofNat 32 (ByteArray.size s)) 2)) ++ s))) 4))) (low_fn (crc (tl ((strB (le (BitVec.ofNat 32 (ByteArray.size s)) 2)) ++ s))) 4 (by omega)) (fun w => by kernel_rfl) kr ?_
  intro w4 H4; clear H3
  have hz3 : ByteArray.size (((strB (le (BitVec.ofNat 32 (ByteArray.size s)) 2)) ++ s) ++ (strB (le (crc (tl ((strB (le (BitVec.ofNat 32 (ByteArray.size s)) 2)) ++ s))) 4))) = ByteArray.size ((strB (le (BitVec.ofNat 32 (ByteArray.size s)) 2)) ++ s) + ByteArray.size (strB (le (crc (tl ((strB (le (BitVec.ofNat 32 (ByteArray.size s)) 2)) ++ s))) 4)) := add_size _ _
  have hz4 : ByteArray.size (strB (le (crc (tl ((strB (le (BitVec.ofNat 32 (ByteArray.size s)) 2)) ++ s))) 4)) = 4 := le_size _ _
  refine s_op (some 19) _ (.string (((strB (le (BitVec.ofNat 32 (ByteArray.size s)) 2)) ++ s) ++ (strB (le (crc (tl ((strB (le (BitVec.ofNat 32 (ByteArray.size s)) 2)) ++ s))) 4)))) kr kr (fun o w ho => sadd_run (t := 9) (t' := 9) (x := (.tmp 15)) (y := (.tmp 18)) ((strB (le (BitVec.ofNat 32 (ByteArray.size s)) 2)) ++ s) (strB (le (crc (tl ((strB (le (BitVec.ofNat 32 (ByteArray.size s)) 2)) ++ s))) 4)) w ho kr kr (by omega)) ?_
  refine s_val (some 2) (.string (((strB (le (BitVec.ofNat 32 (ByteArray.size s)) 2)) ++ s) ++ (strB (le (crc (tl ((strB (le (BitVec.ofNat 32 (ByteArray.size s)) 2)) ++ s))) 4)))) (fun w => by kernel_rfl) kr ?_
  refine s_val (some 3) (.int .i64 0) (fun w => by kernel_rfl) kr ?_
  refine s_nil ?_
  refine g_ret kr ?_
  show ∃ vs, Res _ _ _ _ vs ∧ _
  refine ⟨[.string (((strB (le (BitVec.ofNat 32 (ByteArray.size s)) 2)) ++ s) ++ (strB (le (crc (tl ((strB (le (BitVec.ofNat 32 (ByteArray.size s)) 2)) ++ s))) 4))), .int .i64 0], (.tmp (.string (((strB (le (BitVec.ofNat 32 (ByteArray.size s)) 2)) ++ s) ++ (strB (le (crc (tl ((strB (le (BitVec.ofNat 32 (ByteArray.size s)) 2)) ++ s))) 4)))) kr (.tmp (.int .i64 0) kr .nil)), ?_, H4.below⟩
  rfl
set_option maxRecDepth 100000 in
set_option maxHeartbeats 2000000 in
theorem frameNo_fn (s : ByteArray) (h : ¬ (1 ≤ ByteArray.size s ∧ ByteArray.size s ≤ 4000)) : Fn Try.prog 24 #[.string s] (.tuple #[.string ⟨#[]⟩, .int .i64 1]) := by
  refine Fn.intro (c := codeOf Try.f24) [.tmp 2, .tmp 3] 20 Try.func24 kr kr kr fun w => ?_
  have H0 := St.start w
  refine g_sreg [0, 1] kr kr ?_
  refine s_val (some 2) (.string (⟨#[]⟩)) (fun w => by kernel_rfl) kr ?_
  refine s_val (some 3) (.int .i64 0) (fun w => by kernel_rfl) kr ?_
  refine s_nil ?_
  refine g_seq kr ?_
  refine g_sreg [0, 1, 2, 3] kr kr ?_
  refine s_val (some 5) (.string s) (fun w => by kernel_rfl) kr ?_
  refine s_val (some 6) (.int .i64 ((ByteArray.size s : Nat) : Int)) (fun w => by kernel_rfl) kr ?_
  refine s_call H0 (some 7) 38 #[.int .i64 ((ByteArray.size s : Nat) : Int)] (.bool false) (may_no (ByteArray.size s) (by omega)) (fun w => by kernel_rfl) kr ?_
  intro w1 H1; clear H0
  refine s_val (some 8) (.bool true) (fun w => by kernel_rfl) kr ?_
  refine s_nil ?_
  refine g_cond_t kr kr ?_
  refine g_sreg [0, 1] kr kr ?_
  refine s_val (some 2) (.string (⟨#[]⟩)) (fun w => by kernel_rfl) kr ?_
  refine s_val (some 3) (.int .i64 1) (fun w => by kernel_rfl) kr ?_
  refine s_nil ?_
  refine g_ret kr ?_
  show ∃ vs, Res _ _ _ _ vs ∧ _
  refine ⟨[.string (⟨#[]⟩), .int .i64 1], (.tmp (.string (⟨#[]⟩)) kr (.tmp (.int .i64 1) kr .nil)), ?_, H1.below⟩
  rfl
end Go.Proofs.Ythpiojejhellhaa

namespace Go.Proofs.Ythpiojejhellhaa
open Go Go.RowKit Go.Proofs.Crc
set_option linter.unusedVariables false
theorem numB2 (l : List UInt8) (h : 2 ≤ l.length) : (numB (l.take 2)).toNat = size2 l := by
  have e : numB (l.take 2) = BitVec.ofNat 32 (size2 l) := by
    rw [← two l h]
    apply BitVec.eq_of_getLsbD_eq
    intro i hi
    unfold numB
    rw [le_len, num_bit _ _ hi]
    by_cases h16 : i < 16
    · rw [le_bit _ _ _ (by omega)]; simp [h16]
    · rw [BitVec.getLsbD_ofNat, Nat.testBit_lt_two_pow (Nat.lt_of_lt_of_le (size2_lt l) (show 2 ^ 16 ≤ 2 ^ i from Nat.pow_le_pow_right (by omega) (by omega)))]
      simp [show ¬ i < 8 * 2 by omega]
  have := size2_lt l
  rw [e, BitVec.toNat_ofNat]
  omega
theorem number2 (s : ByteArray) (h : 2 ≤ ByteArray.size s) : IntKind.i64.wrap ((BitVec.toNat (numB (tl (ByteArray.extract s 0 2))) : Nat) : Int) = ((size2 (tl s) : Nat) : Int) := by
  have := size2_lt (tl s)
  rw [tl_extract, List.drop_zero, numB2 _ (by rw [tl_len]; exact h)]
  exact wrapN_i64 (by omega)
theorem chk (s : ByteArray) (n : Nat) : tl (ByteArray.extract s (2 + n) (2 + n + 4)) = ((tl s).take (n + 6)).drop (n + 2) ∧ tl (ByteArray.extract s 0 (2 + n)) = (tl s).take (n + 2) := by
  constructor
  · rw [tl_extract, show 2 + n + 4 = n + 6 by omega, show 2 + n = n + 2 by omega]
  · rw [tl_extract, List.drop_zero, show 2 + n = n + 2 by omega]
theorem fst_bad (s : ByteArray) (h : ByteArray.size s < 2 ∨ ¬ (1 ≤ size2 (tl s) ∧ size2 (tl s) ≤ 4000) ∨ ByteArray.size s < 2 + size2 (tl s) + 4 ∨ (BitVec.toNat (numB (tl (ByteArray.extract s (2 + size2 (tl s)) (2 + size2 (tl s) + 4)))) : Nat) ≠ BitVec.toNat (crc (tl (ByteArray.extract s 0 (2 + size2 (tl s)))))) : (⟨#[]⟩ : ByteArray) = strB (fst (tl s)) := by
  unfold fst
  rw [if_pos]
  · rfl
  · rw [(chk s _).1, (chk s _).2] at h
    rw [tl_len]
    rcases h with h | h | h | h
    · exact Or.inl h
    · exact Or.inr (Or.inl h)
    · exact Or.inr (Or.inr (Or.inl (by omega)))
    · exact Or.inr (Or.inr (Or.inr fun q => h (by rw [q])))
theorem fst_ok (s : ByteArray) (h0 : ¬ ByteArray.size s < 2) (h1 : 1 ≤ size2 (tl s) ∧ size2 (tl s) ≤ 4000) (h2 : ¬ ByteArray.size s < 2 + size2 (tl s) + 4)
    (h3 : ¬ (BitVec.toNat (numB (tl (ByteArray.extract s (2 + size2 (tl s)) (2 + size2 (tl s) + 4)))) : Nat) ≠ BitVec.toNat (crc (tl (ByteArray.extract s 0 (2 + size2 (tl s)))))) : ByteArray.extract s 2 (2 + size2 (tl s)) = strB (fst (tl s)) := by
  unfold fst
  rw [(chk s _).1, (chk s _).2] at h3
  rw [if_neg]
  · rw [← strB_tl (ByteArray.extract s 2 _), tl_extract, show 2 + size2 (tl s) = size2 (tl s) + 2 by omega]
  · rw [tl_len]
    rintro (q | q | q | q)
    · exact h0 q
    · exact q h1
    · omega
    · exact h3 (fun e => q (BitVec.eq_of_toNat_eq e))
set_option maxRecDepth 100000 in
set_option maxHeartbeats 2000000 in
theorem firstC_fn (s : ByteArray) (hs : ByteArray.size s ≤ 1000000) : Fn Try.prog 46 #[arr 256 tabL, .string s] (.string (strB (fst (tl s)))) := by
  refine Fn.intro (c := codeOf Try.f46) [.tmp 4] 41 Try.func46 kr kr kr fun w => ?_
  have H0 := St.start w
  refine g_sreg [0, 1] kr kr ?_
  refine s_box H0 (some 2) 67 (.tmp 0) (arr 256 tabL) kr kr kr ?_
  intro b1 w1 H1; clear H0
  refine s_val (some 4) (.string (⟨#[]⟩)) (fun w => by kernel_rfl) kr ?_
  refine s_nil ?_
  refine g_seq kr ?_
  refine g_sreg [0, 1, 2] kr kr ?_
  refine s_val (some 7) (.string s) (fun w => by kernel_rfl) kr ?_
  refine s_val (some 8) (.int .i64 ((ByteArray.size s : Nat) : Int)) (fun w => by kernel_rfl) kr ?_
  by_cases hc1 : (ByteArray.size s : Nat) < 2
  · skip
    refine s_valE (some 9) (.bool (decide (((ByteArray.size s : Nat) : Int) < 2))) (.bool true) (fun w => by kernel_rfl) (bool_eq (decide_eq_true (by omega))) kr ?_
    refine s_nil ?_
    refine g_cond_t kr kr ?_
    refine g_sreg [0] kr kr ?_
    refine s_val (some 4) (.string (⟨#[]⟩)) (fun w => by kernel_rfl) kr ?_
    refine s_nil ?_
    refine g_ret kr ?_
    show ∃ vs, Res _ _ _ _ vs ∧ _
    refine ⟨[.string (⟨#[]⟩)], (.tmp (.string (⟨#[]⟩)) kr .nil), ?_, H1.below⟩
    exact congrArg Value.string (fst_bad s (by omega))
  · skip
    refine s_valE (some 9) (.bool (decide (((ByteArray.size s : Nat) : Int) < 2))) (.bool false) (fun w => by kernel_rfl) (bool_eq (decide_eq_false (by omega))) kr ?_
    refine s_nil ?_
    refine g_cond_f kr kr ?_
    refine g_skip kr ?_
    show WP _ _ _ _ _ _
    refine g_sreg [0, 1, 2, 3, 4] kr kr ?_
    have hlt := size2_lt (tl s)
    refine s_val (some 10) (.string s) (fun w => by kernel_rfl) kr ?_
    refine s_op (some 11) _ (.string (ByteArray.extract s 0 2)) kr kr (fun o w ho => scut_run (t := 9) (kd := .i64) kr (x := (.tmp 10)) (y := (.const (.int .i64 2))) s 2 ho kr kr (by omega) w) ?_
    refine s_call H1 (some 12) 50 #[.string (ByteArray.extract s 0 2)] (.int .u32 ((BitVec.toNat (numB (tl (ByteArray.extract s 0 2))) : Nat) : Int)) (number_fn (ByteArray.extract s 0 2) (by rw [ext_size _ _ _ (by omega)]; omega)) (fun w => by kernel_rfl) kr ?_
    intro w2 H2; clear H1
    refine s_valE (some 13) (.int .i64 (IntKind.i64.wrap (((BitVec.toNat (numB (tl (ByteArray.extract s 0 2))) : Nat) : Int)))) (.int .i64 ((size2 (tl s) : Nat) : Int)) (fun w => by kernel_rfl) (int_eq (number2 s (by omega))) kr ?_
    refine s_val (some 5) (.int .i64 ((size2 (tl s) : Nat) : Int)) (fun w => by kernel_rfl) kr ?_
    refine s_nil ?_
    refine g_sreg [0, 1, 2] kr kr ?_
    refine s_val (some 14) (.int .i64 ((size2 (tl s) : Nat) : Int)) (fun w => by kernel_rfl) kr ?_
    refine s_valE (some 15) (.int .i64 (IntKind.i64.wrap (2 + ((size2 (tl s) : Nat) : Int)))) (.int .i64 ((2 + (size2 (tl s)) : Nat) : Int)) (fun w => by kernel_rfl) (int_eq (wrapAdd_i64 (a := 2) (b := size2 (tl s)) (by omega))) kr ?_
    refine s_val (some 6) (.int .i64 ((2 + (size2 (tl s)) : Nat) : Int)) (fun w => by kernel_rfl) kr ?_
    refine s_nil ?_
    refine g_seq kr ?_
    refine g_sreg [0, 1, 2, 3, 4, 5, 6, 7, 8, 9] kr kr ?_
    by_cases hx2 : 1 ≤ size2 (tl s) ∧ size2 (tl s) ≤ 4000
    · skip
      refine s_val (some 16) (.int .i64 ((size2 (tl s) : Nat) : Int)) (fun w => by kernel_rfl) kr ?_
      refine s_call H2 (some 17) 38 #[.int .i64 ((size2 (tl s) : Nat) : Int)] (.bool true) (may_yes (size2 (tl s)) (by omega)) (fun w => by kernel_rfl) kr ?_
      intro w3 H3; clear H2
      refine s_val (some 18) (.bool false) (fun w => by kernel_rfl) kr ?_
      refine s_val (some 19) (.bool false) (fun w => by kernel_rfl) kr ?_
      refine s_val (some 20) (.string s) (fun w => by kernel_rfl) kr ?_
      refine s_val (some 21) (.int .i64 ((ByteArray.size s : Nat) : Int)) (fun w => by kernel_rfl) kr ?_
      refine s_val (some 22) (.int .i64 ((2 + (size2 (tl s)) : Nat) : Int)) (fun w => by kernel_rfl) kr ?_
      refine s_valE (some 23) (.int .i64 (IntKind.i64.wrap (((2 + (size2 (tl s)) : Nat) : Int) + 4))) (.int .i64 (((2 + (size2 (tl s))) + 4 : Nat) : Int)) (fun w => by kernel_rfl) (int_eq (wrapAdd_i64 (a := 2 + (size2 (tl s))) (b := 4) (by omega))) kr ?_
      by_cases hc3 : (ByteArray.size s : Nat) < (2 + (size2 (tl s))) + 4
      · skip
        refine s_valE (some 24) (.bool (decide (((ByteArray.size s : Nat) : Int) < (((2 + (size2 (tl s))) + 4 : Nat) : Int)))) (.bool true) (fun w => by kernel_rfl) (bool_eq (decide_eq_true (by omega))) kr ?_
        refine s_val (some 25) (.bool true) (fun w => by kernel_rfl) kr ?_
        refine s_nil ?_
        refine g_cond_t kr kr ?_
        refine g_sreg [0] kr kr ?_
        refine s_val (some 4) (.string (⟨#[]⟩)) (fun w => by kernel_rfl) kr ?_
        refine s_nil ?_
        refine g_ret kr ?_
        show ∃ vs, Res _ _ _ _ vs ∧ _
        refine ⟨[.string (⟨#[]⟩)], (.tmp (.string (⟨#[]⟩)) kr .nil), ?_, H3.below⟩
        exact congrArg Value.string (fst_bad s (by omega))
      · skip
        refine s_valE (some 24) (.bool (decide (((ByteArray.size s : Nat) : Int) < (((2 + (size2 (tl s))) + 4 : Nat) : Int)))) (.bool false) (fun w => by kernel_rfl) (bool_eq (decide_eq_false (by omega))) kr ?_
        refine s_val (some 25) (.bool false) (fun w => by kernel_rfl) kr ?_
        refine s_nil ?_
        refine g_cond_f kr kr ?_
        refine g_skip kr ?_
        show WP _ _ _ _ _ _
        refine g_seq kr ?_
        by_cases hx4 : ((BitVec.toNat (numB (tl (ByteArray.extract s (2 + (size2 (tl s))) ((2 + (size2 (tl s))) + 4))))) : Nat) ≠ (BitVec.toNat (crc (tl (ByteArray.extract s 0 (2 + (size2 (tl s)))))))
        · skip
          refine D2.g_sdraw [0, 1, 2, 3, 4, 5, 6, 7, 8, 9, 10, 11] [((some 26), fun _ => .string s), ((some 27), fun _ => .int .i64 ((2 + (size2 (tl s)) : Nat) : Int)), ((some 28), fun _ => .int .i64 ((2 + (size2 (tl s)) : Nat) : Int)), ((some 29), fun _ => .int .i64 (((2 + (size2 (tl s))) + 4 : Nat) : Int)), ((some 30), fun _ => .string (ByteArray.extract s (2 + (size2 (tl s))) ((2 + (size2 (tl s))) + 4))), ((some 31), fun _ => .int .u32 ((BitVec.toNat (numB (tl (ByteArray.extract s (2 + (size2 (tl s))) ((2 + (size2 (tl s))) + 4)))) : Nat) : Int)), ((some 32), fun _ => arr 256 tabL), ((some 33), fun _ => .string s), ((some 34), fun _ => .int .i64 ((2 + (size2 (tl s)) : Nat) : Int)), ((some 35), fun _ => .string (ByteArray.extract s 0 (2 + (size2 (tl s))))), ((some 36), fun _ => .int .u32 ((BitVec.toNat (crc (tl (ByteArray.extract s 0 (2 + (size2 (tl s)))))) : Nat) : Int)), ((some 37), fun _ => .bool true)] (D2.Pre w.heap.size w (fun L g => [(true, (b1, Obj.cells (Value.cells (arr 256 tabL)) 67 (0, 0)))]) (fun L g => True)) kr kr kr kr ⟨D2.StE.of H3.drew _ kr, trivial⟩ ⟨?_, ?_, ?_, ?_, ?_, ?_, ?_, ?_, ?_, ?_, ?_, ?_, trivial⟩ ?_
          · exact D2.gv_val (fun _ _ _ h => h) (fun g w => by kernel_rfl)
          · exact D2.gv_val (fun _ _ _ h => h) (fun g w => by kernel_rfl)
          · exact D2.gv_val (fun _ _ _ h => h) (fun g w => by kernel_rfl)
          · exact D2.gv_valE (fun _ _ _ h => h) (V' := .int .i64 (IntKind.i64.wrap (((2 + (size2 (tl s)) : Nat) : Int) + 4))) (fun g w => by kernel_rfl) (int_eq (wrapAdd_i64 (a := 2 + (size2 (tl s))) (b := 4) (by omega)))
          · exact D2.gv_op (fun _ _ _ h => h) _ (fun g => by kernel_rfl) (fun g => (fun o w ho => scut2_run (t := 9) (kd := .i64) (kz := .i64) kr (x := (.tmp 26)) (y := (.tmp 29)) (z := (.tmp 27)) s (2 + (size2 (tl s))) ((2 + (size2 (tl s))) + 4) ho kr kr kr (by omega) (by omega) w))
          · exact D2.gv_call 50 #[.string (ByteArray.extract s (2 + (size2 (tl s))) ((2 + (size2 (tl s))) + 4))] (fun _ _ _ h => h) (number_fn (ByteArray.extract s (2 + (size2 (tl s))) ((2 + (size2 (tl s))) + 4)) (by rw [ext_size _ _ _ (by omega)]; omega)) (fun g w => by kernel_rfl)
          · exact D2.gv_load 67 (.tmp 2) 0 (fun g => b1) (Value.cells (arr 256 tabL)) 67 (0, 0) (fun _ _ _ h => h) (fun g => by kernel_rfl) (fun g => by kernel_rfl) (fun L g hN => kr) kr
          · exact D2.gv_val (fun _ _ _ h => h) (fun g w => by kernel_rfl)
          · exact D2.gv_val (fun _ _ _ h => h) (fun g w => by kernel_rfl)
          · exact D2.gv_op (fun _ _ _ h => h) _ (fun g => by kernel_rfl) (fun g => (fun o w ho => scut_run (t := 9) (kd := .i64) kr (x := (.tmp 33)) (y := (.tmp 34)) s (2 + (size2 (tl s))) ho kr kr (by omega) w))
          · exact D2.gv_call 48 #[arr 256 tabL, .string (ByteArray.extract s 0 (2 + (size2 (tl s))))] (fun _ _ _ h => h) (sum_fn (ByteArray.extract s 0 (2 + (size2 (tl s)))) (by first | omega | (rw [ext_size _ _ _ (by omega)]; omega))) (fun g w => by kernel_rfl)
          · exact D2.gv_valE (fun _ _ _ h => h) (V' := .bool (!(((BitVec.toNat (numB (tl (ByteArray.extract s (2 + (size2 (tl s))) ((2 + (size2 (tl s))) + 4)))) : Nat) : Int) == ((BitVec.toNat (crc (tl (ByteArray.extract s 0 (2 + (size2 (tl s)))))) : Nat) : Int)))) (fun g w => by kernel_rfl) (bool_eq (by rw [beq_eq_false_iff_ne.2 (by omega)]; rfl))
          intro L0 G4 w4 hall HL; clear H3
          have H4 : St w.heap.size w w4 [(b1, Obj.cells (Value.cells (arr 256 tabL)) 67 (0, 0))] := D2.StE.st HL.1
          clear HL hall
          refine g_cond_t kr kr ?_
          refine g_sreg [0] kr kr ?_
          refine s_val (some 4) (.string (⟨#[]⟩)) (fun w => by kernel_rfl) kr ?_
          refine s_nil ?_
          refine g_ret kr ?_
          show ∃ vs, Res _ _ _ _ vs ∧ _
          refine ⟨[.string (⟨#[]⟩)], (.tmp (.string (⟨#[]⟩)) kr .nil), ?_, H4.below⟩
          exact congrArg Value.string (fst_bad s (by omega))
        · skip
          refine D2.g_sdraw [0, 1, 2, 3, 4, 5, 6, 7, 8, 9, 10, 11] [((some 26), fun _ => .string s), ((some 27), fun _ => .int .i64 ((2 + (size2 (tl s)) : Nat) : Int)), ((some 28), fun _ => .int .i64 ((2 + (size2 (tl s)) : Nat) : Int)), ((some 29), fun _ => .int .i64 (((2 + (size2 (tl s))) + 4 : Nat) : Int)), ((some 30), fun _ => .string (ByteArray.extract s (2 + (size2 (tl s))) ((2 + (size2 (tl s))) + 4))), ((some 31), fun _ => .int .u32 ((BitVec.toNat (numB (tl (ByteArray.extract s (2 + (size2 (tl s))) ((2 + (size2 (tl s))) + 4)))) : Nat) : Int)), ((some 32), fun _ => arr 256 tabL), ((some 33), fun _ => .string s), ((some 34), fun _ => .int .i64 ((2 + (size2 (tl s)) : Nat) : Int)), ((some 35), fun _ => .string (ByteArray.extract s 0 (2 + (size2 (tl s))))), ((some 36), fun _ => .int .u32 ((BitVec.toNat (crc (tl (ByteArray.extract s 0 (2 + (size2 (tl s)))))) : Nat) : Int)), ((some 37), fun _ => .bool false)] (D2.Pre w.heap.size w (fun L g => [(true, (b1, Obj.cells (Value.cells (arr 256 tabL)) 67 (0, 0)))]) (fun L g => True)) kr kr kr kr ⟨D2.StE.of H3.drew _ kr, trivial⟩ ⟨?_, ?_, ?_, ?_, ?_, ?_, ?_, ?_, ?_, ?_, ?_, ?_, trivial⟩ ?_
          · exact D2.gv_val (fun _ _ _ h => h) (fun g w => by kernel_rfl)
          · exact D2.gv_val (fun _ _ _ h => h) (fun g w => by kernel_rfl)
          · exact D2.gv_val (fun _ _ _ h => h) (fun g w => by kernel_rfl)
          · exact D2.gv_valE (fun _ _ _ h => h) (V' := .int .i64 (IntKind.i64.wrap (((2 + (size2 (tl s)) : Nat) : Int) + 4))) (fun g w => by kernel_rfl) (int_eq (wrapAdd_i64 (a := 2 + (size2 (tl s))) (b := 4) (by omega)))
          · exact D2.gv_op (fun _ _ _ h => h) _ (fun g => by kernel_rfl) (fun g => (fun o w ho => scut2_run (t := 9) (kd := .i64) (kz := .i64) kr (x := (.tmp 26)) (y := (.tmp 29)) (z := (.tmp 27)) s (2 + (size2 (tl s))) ((2 + (size2 (tl s))) + 4) ho kr kr kr (by omega) (by omega) w))
          · exact D2.gv_call 50 #[.string (ByteArray.extract s (2 + (size2 (tl s))) ((2 + (size2 (tl s))) + 4))] (fun _ _ _ h => h) (number_fn (ByteArray.extract s (2 + (size2 (tl s))) ((2 + (size2 (tl s))) + 4)) (by rw [ext_size _ _ _ (by omega)]; omega)) (fun g w => by kernel_rfl)
          · exact D2.gv_load 67 (.tmp 2) 0 (fun g => b1) (Value.cells (arr 256 tabL)) 67 (0, 0) (fun _ _ _ h => h) (fun g => by kernel_rfl) (fun g => by kernel_rfl) (fun L g hN => kr) kr
          · exact D2.gv_val (fun _ _ _ h => h) (fun g w => by kernel_rfl)
          · exact D2.gv_val (fun _ _ _ h => h) (fun g w => by kernel_rfl)
          · exact D2.gv_op (fun _ _ _ h => h) _ (fun g => by kernel_rfl) (fun g => (fun o w ho => scut_run (t := 9) (kd := .i64) kr (x := (.tmp 33)) (y := (.tmp 34)) s (2 + (size2 (tl s))) ho kr kr (by omega) w))
          · exact D2.gv_call 48 #[arr 256 tabL, .string (ByteArray.extract s 0 (2 + (size2 (tl s))))] (fun _ _ _ h => h) (sum_fn (ByteArray.extract s 0 (2 + (size2 (tl s)))) (by first | omega | (rw [ext_size _ _ _ (by omega)]; omega))) (fun g w => by kernel_rfl)
          · exact D2.gv_valE (fun _ _ _ h => h) (V' := .bool (!(((BitVec.toNat (numB (tl (ByteArray.extract s (2 + (size2 (tl s))) ((2 + (size2 (tl s))) + 4)))) : Nat) : Int) == ((BitVec.toNat (crc (tl (ByteArray.extract s 0 (2 + (size2 (tl s)))))) : Nat) : Int)))) (fun g w => by kernel_rfl) (bool_eq (by rw [beq_iff_eq.2 (by omega)]; rfl))
          intro L0 G5 w5 hall HL; clear H3
          have H5 : St w.heap.size w w5 [(b1, Obj.cells (Value.cells (arr 256 tabL)) 67 (0, 0))] := D2.StE.st HL.1
          clear HL hall
          refine g_cond_f kr kr ?_
          refine g_skip kr ?_
          show WP _ _ _ _ _ _
          refine g_sreg [0, 1, 2, 3] kr kr ?_
          refine s_val (some 38) (.string s) (fun w => by kernel_rfl) kr ?_
          refine s_val (some 39) (.int .i64 ((2 + (size2 (tl s)) : Nat) : Int)) (fun w => by kernel_rfl) kr ?_
          refine s_op (some 40) _ (.string (ByteArray.extract s 2 (2 + (size2 (tl s))))) kr kr (fun o w ho => scut2_run (t := 9) (kd := .i64) (kz := .i64) kr (x := (.tmp 38)) (y := (.tmp 39)) (z := (.const (.int .i64 2))) s 2 (2 + (size2 (tl s))) ho kr kr kr (by omega) (by omega) w) ?_
          refine s_val (some 4) (.string (ByteArray.extract s 2 (2 + (size2 (tl s))))) (fun w => by kernel_rfl) kr ?_
          refine s_nil ?_
          refine g_ret kr ?_
          show ∃ vs, Res _ _ _ _ vs ∧ _
          refine ⟨[.string (ByteArray.extract s 2 (2 + (size2 (tl s))))], (.tmp (.string (ByteArray.extract s 2 (2 + (size2 (tl s))))) kr .nil), ?_, H5.below⟩
          exact congrArg Value.string (fst_ok s (by omega) (by omega) (by omega) (by omega))
    · skip
      refine s_val (some 16) (.int .i64 ((size2 (tl s) : Nat) : Int)) (fun w => by kernel_rfl) kr ?_
      refine s_call H2 (some 17) 38 #[.int .i64 ((size2 (tl s) : Nat) : Int)] (.bool false) (may_no (size2 (tl s)) (by omega)) (fun w => by kernel_rfl) kr ?_
      intro w6 H6; clear H2
      refine s_val (some 18) (.bool true) (fun w => by kernel_rfl) kr ?_
      refine s_val (some 19) (.bool true) (fun w => by kernel_rfl) kr ?_
      refine s_not (some 20) kr kr ?_
      refine s_not (some 21) kr kr ?_
      refine s_not (some 22) kr kr ?_
      refine s_not (some 23) kr kr ?_
      refine s_not (some 24) kr kr ?_
      refine s_val (some 25) (.bool true) (fun w => by kernel_rfl) kr ?_
      refine s_nil ?_
      refine g_cond_t kr kr ?_
      refine g_sreg [0] kr kr ?_
      refine s_val (some 4) (.string (⟨#[]⟩)) (fun w => by kernel_rfl) kr ?_
      refine s_nil ?_
      refine g_ret kr ?_
      show ∃ vs, Res _ _ _ _ vs ∧ _
      refine ⟨[.string (⟨#[]⟩)], (.tmp (.string (⟨#[]⟩)) kr .nil), ?_, H6.below⟩
      exact congrArg Value.string (fst_bad s (by omega))
end Go.Proofs.Ythpiojejhellhaa

namespace Go.Proofs.Ythpiojejhellhaa
open Go Go.RowKit Go.Proofs.Crc
set_option linter.unusedVariables false
theorem drop_ext (s : ByteArray) (p : Nat) : tl (ByteArray.extract s p (ByteArray.size s)) = (tl s).drop p := by
  rw [tl_extract, show ByteArray.size s = (tl s).length from rfl, List.take_length]
theorem strB_ne {l : List UInt8} (h : ¬ strB l = ⟨#[]⟩) : l ≠ [] := fun e => h (by rw [e]; rfl)
/-- Records so far. -/
def So (l : List UInt8) (rs : List ByteArray) (p : Nat) : Prop := (∀ x ∈ rs, IsR (tl x)) ∧ (flat rs).length = p ∧ l = flat rs ++ l.drop p ∧ p ≤ l.length
theorem So.start (l : List UInt8) : So l [] 0 := ⟨fun _ h => (by cases h), rfl, rfl, Nat.zero_le _⟩
theorem So.step {s : ByteArray} {rs : List ByteArray} {p : Nat} (h : So (tl s) rs p) (hne : ¬ strB (fst (tl (ByteArray.extract s p (ByteArray.size s)))) = ⟨#[]⟩) :
    So (tl s) (rs ++ [strB (fst (tl (ByteArray.extract s p (ByteArray.size s))))]) (p + (2 + ByteArray.size (strB (fst (tl (ByteArray.extract s p (ByteArray.size s))))) + 4)) ∧ p + (2 + ByteArray.size (strB (fst (tl (ByteArray.extract s p (ByteArray.size s))))) + 4) ≤ ByteArray.size s := by
  rw [drop_ext] at hne ⊢
  have := sc_more (s := strB (fst ((tl s).drop p))) h.2.1 h.2.2.1 rfl (strB_ne hne) h.1
  rw [show p + (2 + ByteArray.size (strB (fst ((tl s).drop p))) + 4) = p + ((strB (fst ((tl s).drop p))).size + 6) by omega]
  exact ⟨⟨this.1, this.2.1, this.2.2.1, this.2.2.2.1⟩, this.2.2.2.1⟩
theorem So.done {s : ByteArray} {rs : List ByteArray} {p : Nat} (h : So (tl s) rs p) (he : strB (fst (tl (ByteArray.extract s p (ByteArray.size s)))) = ⟨#[]⟩) : Sc (tl s) rs p := by
  rw [drop_ext] at he
  exact ⟨h.1, h.2.1, h.2.2.1, congrArg tl he⟩
theorem flat_ge (rs : List ByteArray) : rs.length ≤ (flat rs).length := by
  induction rs with
  | nil => exact Nat.le_refl _
  | cons x t ih => rw [flat_cons, List.length_append, frB_len, List.length_cons]; omega
theorem len_size (s : ByteArray) (l : List ByteArray) (p n : Nat) (h : So (tl s) l p) (hn : n = l.length) : n ≤ ByteArray.size s := by
  have h1 := flat_ge l
  have h2 := h.2.1
  have h3 : p ≤ ByteArray.size s := h.2.2.2
  omega
set_option maxRecDepth 100000 in
set_option maxHeartbeats 2000000 in
theorem scan_fn (s : ByteArray) (hs : ByteArray.size s ≤ 1000000) : FnR Try.prog 31 #[.string s] (fun _ => True) (RetT 9 (fun rs p => Sc (tl s) rs p)) := by
  refine FnR.intro (c := codeOf Try.f31) [.tmp 2, .tmp 3] 29 Try.func31 kr kr kr fun w hpre => ?_
  have H0 := St.start w
  refine g_sreg [0, 1] kr kr ?_
  refine s_val (some 2) (.slice none 0 0) (fun w => by kernel_rfl) kr ?_
  refine s_val (some 3) (.int .i64 0) (fun w => by kernel_rfl) kr ?_
  refine s_nil ?_
  refine g_sreg [0] kr kr ?_
  refine s_val (some 4) (.slice none 0 0) (fun w => by kernel_rfl) kr ?_
  refine s_nil ?_
  refine g_sreg [0, 1, 2, 3] kr kr ?_
  refine s_call H0 (some 8) 45 #[] (arr 256 tabL) table_fn (fun w => by kernel_rfl) kr ?_
  intro w1 H1; clear H0
  refine s_alloc H1 (some 5) 67 (zeroV .u32 256) kr kr kr ?_
  intro b1 w2 H2; clear H1
  refine s_store H2 0 [(b1, Obj.cells (Value.cells (arr 256 tabL)) 67 (0, 0))] 67 (.tmp 5) (.tmp 8) b1 (0) (Value.cells (zeroV .u32 256)) (Value.cells (arr 256 tabL)) 67 (arr 256 tabL) kr kr kr kr kr kr (of_decide_eq_true kr) kr kr ?_
  intro w3 H3; clear H2
  refine s_val (some 6) (.int .i64 0) (fun w => by kernel_rfl) kr ?_
  refine s_nil ?_
  refine g_block 0 kr ?_
  refine g_loop kr (fun mz ρ ww => (ByteArray.size s + 1 = mz ∧ St w.heap.size w ww [(b1, Obj.cells (Value.cells (arr 256 tabL)) 67 (0, 0))] ∧ Is [(0, .string s), (4, .slice none 0 0), (5, .pointer (some ⟨b1, 0, none⟩)), (6, .int .i64 ((0 : Nat) : Int))] ρ) ∨ (∃ (b : Nat) (cap : Nat) (n : Nat) (cur : Array Value) (l : List ByteArray) (p : Nat), ByteArray.size s - p = mz ∧ (n = List.length l) ∧ (Rw 1 cur cap n (cellsS l)) ∧ (So (tl s) l p) ∧ St w.heap.size w ww [(b, Obj.cells cur 9 (0, 0)), (b1, Obj.cells (Value.cells (arr 256 tabL)) 67 (0, 0))] ∧ Is [(0, .string s), (4, .slice (some ⟨b, 0, none⟩) n cap), (5, .pointer (some ⟨b1, 0, none⟩)), (6, .int .i64 ((p : Nat) : Int))] ρ)) (ByteArray.size s + 1) (Or.inl ⟨rfl, H3, (Is.of ⟨kr, kr, kr, kr, trivial⟩)⟩) ?_
  clear H3
  rintro _ _ w4 (⟨rfl, H4, _, rfl⟩ | ⟨b, cap, n, cur, l, p, rfl, hn, hr, hso, H4, _, rfl⟩)
  · skip
    refine g_block 1 kr ?_
    refine D2.g_sdraw [0, 1, 2, 3, 4, 5] [((some 9), fun _ => arr 256 tabL), ((some 10), fun _ => .string s), ((some 11), fun _ => .int .i64 ((0 : Nat) : Int)), ((some 12), fun _ => .string (ByteArray.extract s 0 (ByteArray.size s))), ((some 13), fun _ => .string (strB (fst (tl (ByteArray.extract s 0 (ByteArray.size s)))))), ((some 7), fun _ => .string (strB (fst (tl (ByteArray.extract s 0 (ByteArray.size s))))))] (D2.Pre w.heap.size w (fun L g => [(true, (b1, Obj.cells (Value.cells (arr 256 tabL)) 67 (0, 0)))]) (fun L g => True)) kr kr kr kr ⟨D2.StE.of H4.drew _ kr, trivial⟩ ⟨?_, ?_, ?_, ?_, ?_, ?_, trivial⟩ ?_
    · exact D2.gv_load 67 (.tmp 5) 0 (fun g => b1) (Value.cells (arr 256 tabL)) 67 (0, 0) (fun _ _ _ h => h) (fun g => by kernel_rfl) (fun g => by kernel_rfl) (fun L g hN => kr) kr
    · exact D2.gv_val (fun _ _ _ h => h) (fun g w => by kernel_rfl)
    · exact D2.gv_val (fun _ _ _ h => h) (fun g w => by kernel_rfl)
    · exact D2.gv_op (fun _ _ _ h => h) _ (fun g => by kernel_rfl) (fun g => (fun o w ho => scut3_run (t := 9) (kz := .i64) kr (x := (.tmp 10)) (z := (.tmp 11)) s 0 ho kr kr (by omega) w))
    · exact D2.gv_call 46 #[arr 256 tabL, .string (ByteArray.extract s 0 (ByteArray.size s))] (fun _ _ _ h => h) (firstC_fn (ByteArray.extract s 0 (ByteArray.size s)) (by first | omega | (rw [ext_size _ _ _ (by omega)]; omega))) (fun g w => by kernel_rfl)
    · exact D2.gv_val (fun _ _ _ h => h) (fun g w => by kernel_rfl)
    intro L0 G5 w5 hall HL; clear H4
    have H5 : St w.heap.size w w5 [(b1, Obj.cells (Value.cells (arr 256 tabL)) 67 (0, 0))] := D2.StE.st HL.1
    clear HL hall
    refine g_seq kr ?_
    refine g_sreg [0, 1] kr kr ?_
    refine s_val (some 14) (.string (strB (fst (tl (ByteArray.extract s 0 (ByteArray.size s)))))) (fun w => by kernel_rfl) kr ?_
    by_cases hx1 : (strB (fst (tl (ByteArray.extract s 0 (ByteArray.size s))))) = ⟨#[]⟩
    · skip
      refine s_valE (some 15) (.bool (ByteArray.toList (strB (fst (tl (ByteArray.extract s 0 (ByteArray.size s))))) == ByteArray.toList (⟨#[]⟩))) (.bool true) (fun w => by kernel_rfl) (bool_eq (str_same (strB (fst (tl (ByteArray.extract s 0 (ByteArray.size s))))) (⟨#[]⟩) hx1)) kr ?_
      refine s_nil ?_
      refine g_cond_t kr kr ?_
      refine g_sreg [0, 1, 2, 3] kr kr ?_
      refine s_val (some 16) (.slice none 0 0) (fun w => by kernel_rfl) kr ?_
      refine s_val (some 17) (.int .i64 ((0 : Nat) : Int)) (fun w => by kernel_rfl) kr ?_
      refine s_val (some 2) (.slice none 0 0) (fun w => by kernel_rfl) kr ?_
      refine s_val (some 3) (.int .i64 ((0 : Nat) : Int)) (fun w => by kernel_rfl) kr ?_
      refine s_nil ?_
      refine g_ret kr ?_
      show ∃ vs, Res _ _ _ _ vs ∧ _
      refine ⟨[.slice none 0 0, .int .i64 ((0 : Nat) : Int)], (.tmp (.slice none 0 0) kr (.tmp (.int .i64 ((0 : Nat) : Int)) kr .nil)), H5.below, ?_⟩
      exact ⟨[], 0, So.done (s := s) (So.start (tl s)) hx1, Or.inl ⟨rfl, rfl⟩⟩
    · skip
      refine s_valE (some 15) (.bool (ByteArray.toList (strB (fst (tl (ByteArray.extract s 0 (ByteArray.size s))))) == ByteArray.toList (⟨#[]⟩))) (.bool false) (fun w => by kernel_rfl) (bool_eq (str_other (strB (fst (tl (ByteArray.extract s 0 (ByteArray.size s))))) (⟨#[]⟩) hx1)) kr ?_
      refine s_nil ?_
      refine g_cond_f kr kr ?_
      refine g_skip kr ?_
      show WP _ _ _ _ _ _
      refine g_sreg [0, 1, 2, 3, 4, 5] kr kr ?_
      have hstep := So.step (s := s) (So.start (tl s)) hx1
      rw [Nat.zero_add] at hstep
      have hsz2 := hstep.2
      refine s_val (some 18) (.slice none 0 0) (fun w => by kernel_rfl) kr ?_
      refine s_val (some 19) (.string (strB (fst (tl (ByteArray.extract s 0 (ByteArray.size s)))))) (fun w => by kernel_rfl) kr ?_
      refine s_call H5 (some 20) 27 #[.string (strB (fst (tl (ByteArray.extract s 0 (ByteArray.size s)))))] (.string (strB (fst (tl (ByteArray.extract s 0 (ByteArray.size s)))))) (cloneS_fn (strB (fst (tl (ByteArray.extract s 0 (ByteArray.size s))))) (by omega)) (fun w => by kernel_rfl) kr ?_
      intro w6 H6; clear H5
      refine s_new H6 (some 21) (fun b => .slice (some ⟨b, 0, none⟩) 1 1) #[.string (strB (fst (tl (ByteArray.extract s 0 (ByteArray.size s)))))] 9 (fun w => by kernel_rfl) kr ?_
      intro b2 w7 H7; clear H6
      refine s_appendNil H7 (some 22) 24 9 1 16 (.tmp 18) (.tmp 21) 0 b2 1 1 #[.string (strB (fst (tl (ByteArray.extract s 0 (ByteArray.size s)))))] 9 (0, 0) ([.string (strB (fst (tl (ByteArray.extract s 0 (ByteArray.size s)))))]) kr kr kr kr kr kr (by rfl) (by rfl) (by intro u hu; simp at hu; first | exact hu.elim | (rcases hu with rfl | rfl | rfl | rfl <;> rfl) | (rcases hu with rfl | rfl <;> rfl) | (subst hu; rfl)) (by omega) (by omega) (by unfold maxLen; omega) ?_
      intro b_1 cap_2 cur_3 w8 H8 hr_4; clear H7
      have hr_4t : Rw 1 cur_3 cap_2 1 (cellsS ([strB (fst (tl (ByteArray.extract s 0 (ByteArray.size s))))])) := hr_4
      refine s_val (some 4) (.slice (some ⟨b_1, 0, none⟩) 1 cap_2) (fun w => by kernel_rfl) kr ?_
      refine s_nil ?_
      refine g_reg0 [0, 1, 2, 3, 4, 5, 6] kr ?_
      refine s_val (some 23) (.int .i64 ((0 : Nat) : Int)) (fun w => by kernel_rfl) kr ?_
      refine s_val (some 24) (.string (strB (fst (tl (ByteArray.extract s 0 (ByteArray.size s)))))) (fun w => by kernel_rfl) kr ?_
      refine s_val (some 25) (.int .i64 ((ByteArray.size (strB (fst (tl (ByteArray.extract s 0 (ByteArray.size s))))) : Nat) : Int)) (fun w => by kernel_rfl) kr ?_
      refine s_valE (some 26) (.int .i64 (IntKind.i64.wrap (2 + ((ByteArray.size (strB (fst (tl (ByteArray.extract s 0 (ByteArray.size s))))) : Nat) : Int)))) (.int .i64 ((2 + (ByteArray.size (strB (fst (tl (ByteArray.extract s 0 (ByteArray.size s)))))) : Nat) : Int)) (fun w => by kernel_rfl) (int_eq (wrapAdd_i64 (a := 2) (b := ByteArray.size (strB (fst (tl (ByteArray.extract s 0 (ByteArray.size s)))))) (by omega))) kr ?_
      refine s_valE (some 27) (.int .i64 (IntKind.i64.wrap (((2 + (ByteArray.size (strB (fst (tl (ByteArray.extract s 0 (ByteArray.size s)))))) : Nat) : Int) + 4))) (.int .i64 (((2 + (ByteArray.size (strB (fst (tl (ByteArray.extract s 0 (ByteArray.size s))))))) + 4 : Nat) : Int)) (fun w => by kernel_rfl) (int_eq (wrapAdd_i64 (a := 2 + (ByteArray.size (strB (fst (tl (ByteArray.extract s 0 (ByteArray.size s))))))) (b := 4) (by omega))) kr ?_
      refine s_valE (some 28) (.int .i64 (IntKind.i64.wrap (((0 : Nat) : Int) + (((2 + (ByteArray.size (strB (fst (tl (ByteArray.extract s 0 (ByteArray.size s))))))) + 4 : Nat) : Int)))) (.int .i64 (((2 + (ByteArray.size (strB (fst (tl (ByteArray.extract s 0 (ByteArray.size s))))))) + 4 : Nat) : Int)) (fun w => by kernel_rfl) (int_eq (show IntKind.i64.wrap ((0 : Int) + (((2 + (ByteArray.size (strB (fst (tl (ByteArray.extract s 0 (ByteArray.size s))))))) + 4 : Nat) : Int)) = _ by rw [Int.zero_add]; exact wrapN_i64 (by omega))) kr ?_
      refine s_val (some 6) (.int .i64 (((2 + (ByteArray.size (strB (fst (tl (ByteArray.extract s 0 (ByteArray.size s))))))) + 4 : Nat) : Int)) (fun w => by kernel_rfl) kr ?_
      refine s_nil ?_
      have HD2 : St w.heap.size w w8 [(b_1, Obj.cells cur_3 9 (0, 0)), (b1, Obj.cells (Value.cells (arr 256 tabL)) 67 (0, 0))] := H8.sub (List.Sublist.cons_cons _ (List.Sublist.cons _ (List.Sublist.cons_cons _ List.Sublist.slnil)))
      show ∃ m, _ ∧ _
      exact ⟨_, (by omega), Or.inr (⟨b_1, cap_2, 1, cur_3, [strB (fst (tl (ByteArray.extract s 0 (ByteArray.size s))))], ((2 + (ByteArray.size (strB (fst (tl (ByteArray.extract s 0 (ByteArray.size s))))))) + 4), rfl, rfl, hr_4t, hstep.1, HD2, (Is.of ⟨kr, kr, kr, kr, trivial⟩)⟩)⟩
  · skip
    have hpl : p ≤ ByteArray.size s := hso.2.2.2
    have hlp := len_size s l p n hso hn
    refine g_block 1 kr ?_
    refine D2.g_sdraw [0, 1, 2, 3, 4, 5] [((some 9), fun _ => arr 256 tabL), ((some 10), fun _ => .string s), ((some 11), fun _ => .int .i64 ((p : Nat) : Int)), ((some 12), fun _ => .string (ByteArray.extract s p (ByteArray.size s))), ((some 13), fun _ => .string (strB (fst (tl (ByteArray.extract s p (ByteArray.size s)))))), ((some 7), fun _ => .string (strB (fst (tl (ByteArray.extract s p (ByteArray.size s))))))] (D2.Pre w.heap.size w (fun L g => [(true, (b, Obj.cells cur 9 (0, 0))), (true, (b1, Obj.cells (Value.cells (arr 256 tabL)) 67 (0, 0)))]) (fun L g => True)) kr kr kr kr ⟨D2.StE.of H4.drew _ kr, trivial⟩ ⟨?_, ?_, ?_, ?_, ?_, ?_, trivial⟩ ?_
    · exact D2.gv_load 67 (.tmp 5) 1 (fun g => b1) (Value.cells (arr 256 tabL)) 67 (0, 0) (fun _ _ _ h => h) (fun g => by kernel_rfl) (fun g => by kernel_rfl) (fun L g hN => kr) kr
    · exact D2.gv_val (fun _ _ _ h => h) (fun g w => by kernel_rfl)
    · exact D2.gv_val (fun _ _ _ h => h) (fun g w => by kernel_rfl)
    · exact D2.gv_op (fun _ _ _ h => h) _ (fun g => by kernel_rfl) (fun g => (fun o w ho => scut3_run (t := 9) (kz := .i64) kr (x := (.tmp 10)) (z := (.tmp 11)) s p ho kr kr (by omega) w))
    · exact D2.gv_call 46 #[arr 256 tabL, .string (ByteArray.extract s p (ByteArray.size s))] (fun _ _ _ h => h) (firstC_fn (ByteArray.extract s p (ByteArray.size s)) (by first | omega | (rw [ext_size _ _ _ (by omega)]; omega))) (fun g w => by kernel_rfl)
    · exact D2.gv_val (fun _ _ _ h => h) (fun g w => by kernel_rfl)
    intro L0 G9 w9 hall HL; clear H4
    have H9 : St w.heap.size w w9 [(b, Obj.cells cur 9 (0, 0)), (b1, Obj.cells (Value.cells (arr 256 tabL)) 67 (0, 0))] := D2.StE.st HL.1
    clear HL hall
    refine g_seq kr ?_
    refine g_sreg [0, 1] kr kr ?_
    refine s_val (some 14) (.string (strB (fst (tl (ByteArray.extract s p (ByteArray.size s)))))) (fun w => by kernel_rfl) kr ?_
    by_cases hx3 : (strB (fst (tl (ByteArray.extract s p (ByteArray.size s))))) = ⟨#[]⟩
    · skip
      refine s_valE (some 15) (.bool (ByteArray.toList (strB (fst (tl (ByteArray.extract s p (ByteArray.size s))))) == ByteArray.toList (⟨#[]⟩))) (.bool true) (fun w => by kernel_rfl) (bool_eq (str_same (strB (fst (tl (ByteArray.extract s p (ByteArray.size s))))) (⟨#[]⟩) hx3)) kr ?_
      refine s_nil ?_
      refine g_cond_t kr kr ?_
      refine g_sreg [0, 1, 2, 3] kr kr ?_
      refine s_val (some 16) (.slice (some ⟨b, 0, none⟩) n cap) (fun w => by kernel_rfl) kr ?_
      refine s_val (some 17) (.int .i64 ((p : Nat) : Int)) (fun w => by kernel_rfl) kr ?_
      refine s_val (some 2) (.slice (some ⟨b, 0, none⟩) n cap) (fun w => by kernel_rfl) kr ?_
      refine s_val (some 3) (.int .i64 ((p : Nat) : Int)) (fun w => by kernel_rfl) kr ?_
      refine s_nil ?_
      refine g_ret kr ?_
      show ∃ vs, Res _ _ _ _ vs ∧ _
      refine ⟨[.slice (some ⟨b, 0, none⟩) n cap, .int .i64 ((p : Nat) : Int)], (.tmp (.slice (some ⟨b, 0, none⟩) n cap) kr (.tmp (.int .i64 ((p : Nat) : Int)) kr .nil)), H9.below, ?_⟩
      exact ⟨l, p, So.done (s := s) hso hx3, Or.inr ⟨b, cap, n, cur, rfl, H9.ge 0 (o := .cells cur 9 (0, 0)) kr, H9.get 0 kr, hn, hr⟩⟩
    · skip
      refine s_valE (some 15) (.bool (ByteArray.toList (strB (fst (tl (ByteArray.extract s p (ByteArray.size s))))) == ByteArray.toList (⟨#[]⟩))) (.bool false) (fun w => by kernel_rfl) (bool_eq (str_other (strB (fst (tl (ByteArray.extract s p (ByteArray.size s))))) (⟨#[]⟩) hx3)) kr ?_
      refine s_nil ?_
      refine g_cond_f kr kr ?_
      refine g_skip kr ?_
      show WP _ _ _ _ _ _
      refine g_sreg [0, 1, 2, 3, 4, 5] kr kr ?_
      have hstep := So.step (s := s) hso hx3
      have hsz2 := hstep.2
      refine s_val (some 18) (.slice (some ⟨b, 0, none⟩) n cap) (fun w => by kernel_rfl) kr ?_
      refine s_val (some 19) (.string (strB (fst (tl (ByteArray.extract s p (ByteArray.size s)))))) (fun w => by kernel_rfl) kr ?_
      refine s_call H9 (some 20) 27 #[.string (strB (fst (tl (ByteArray.extract s p (ByteArray.size s)))))] (.string (strB (fst (tl (ByteArray.extract s p (ByteArray.size s)))))) (cloneS_fn (strB (fst (tl (ByteArray.extract s p (ByteArray.size s))))) (by omega)) (fun w => by kernel_rfl) kr ?_
      intro w10 H10; clear H9
      refine s_new H10 (some 21) (fun b => .slice (some ⟨b, 0, none⟩) 1 1) #[.string (strB (fst (tl (ByteArray.extract s p (ByteArray.size s)))))] 9 (fun w => by kernel_rfl) kr ?_
      intro b3 w11 H11; clear H10
      refine s_append H11 (some 22) 24 9 1 16 (.tmp 18) (.tmp 21) 1 0 b b3 n 1 cap 1 cur #[.string (strB (fst (tl (ByteArray.extract s p (ByteArray.size s)))))] 9 (0, 0) (cellsS l) ([.string (strB (fst (tl (ByteArray.extract s p (ByteArray.size s)))))]) (fun b_5 cur_7 => [(b3, Obj.cells #[.string (strB (fst (tl (ByteArray.extract s p (ByteArray.size s)))))] 9 (0, 0)), (b_5, Obj.cells cur_7 9 (0, 0)), (b1, Obj.cells (Value.cells (arr 256 tabL)) 67 (0, 0))]) kr kr kr kr kr hr kr kr (by rfl) (by rfl) (by intro u hu; simp at hu; first | exact hu.elim | (rcases hu with rfl | rfl | rfl | rfl <;> rfl) | (rcases hu with rfl | rfl <;> rfl) | (subst hu; rfl)) (by omega) (by unfold maxLen; omega) (fun _ _ => by kernel_rfl) ?_
      intro b_5 cap_6 cur_7 w12 H12 hr_8; clear H11
      have hr_8t : Rw 1 cur_7 cap_6 (n + 1) (cellsS (l ++ [strB (fst (tl (ByteArray.extract s p (ByteArray.size s))))])) := by rw [cellsS_append]; exact hr_8
      have hr_8n : n + 1 = List.length (l ++ [strB (fst (tl (ByteArray.extract s p (ByteArray.size s))))]) := by have h0 : n = List.length l := hn; rw [List.length_append, ← h0]; rfl
      refine s_val (some 4) (.slice (some ⟨b_5, 0, none⟩) (n + 1) cap_6) (fun w => by kernel_rfl) kr ?_
      refine s_nil ?_
      refine g_reg0 [0, 1, 2, 3, 4, 5, 6] kr ?_
      refine s_val (some 23) (.int .i64 ((p : Nat) : Int)) (fun w => by kernel_rfl) kr ?_
      refine s_val (some 24) (.string (strB (fst (tl (ByteArray.extract s p (ByteArray.size s)))))) (fun w => by kernel_rfl) kr ?_
      refine s_val (some 25) (.int .i64 ((ByteArray.size (strB (fst (tl (ByteArray.extract s p (ByteArray.size s))))) : Nat) : Int)) (fun w => by kernel_rfl) kr ?_
      refine s_valE (some 26) (.int .i64 (IntKind.i64.wrap (2 + ((ByteArray.size (strB (fst (tl (ByteArray.extract s p (ByteArray.size s))))) : Nat) : Int)))) (.int .i64 ((2 + (ByteArray.size (strB (fst (tl (ByteArray.extract s p (ByteArray.size s)))))) : Nat) : Int)) (fun w => by kernel_rfl) (int_eq (wrapAdd_i64 (a := 2) (b := ByteArray.size (strB (fst (tl (ByteArray.extract s p (ByteArray.size s)))))) (by omega))) kr ?_
      refine s_valE (some 27) (.int .i64 (IntKind.i64.wrap (((2 + (ByteArray.size (strB (fst (tl (ByteArray.extract s p (ByteArray.size s)))))) : Nat) : Int) + 4))) (.int .i64 (((2 + (ByteArray.size (strB (fst (tl (ByteArray.extract s p (ByteArray.size s))))))) + 4 : Nat) : Int)) (fun w => by kernel_rfl) (int_eq (wrapAdd_i64 (a := 2 + (ByteArray.size (strB (fst (tl (ByteArray.extract s p (ByteArray.size s))))))) (b := 4) (by omega))) kr ?_
      refine s_valE (some 28) (.int .i64 (IntKind.i64.wrap (((p : Nat) : Int) + (((2 + (ByteArray.size (strB (fst (tl (ByteArray.extract s p (ByteArray.size s))))))) + 4 : Nat) : Int)))) (.int .i64 ((p + ((2 + (ByteArray.size (strB (fst (tl (ByteArray.extract s p (ByteArray.size s))))))) + 4) : Nat) : Int)) (fun w => by kernel_rfl) (int_eq (wrapAdd_i64 (a := p) (b := (2 + (ByteArray.size (strB (fst (tl (ByteArray.extract s p (ByteArray.size s))))))) + 4) (by omega))) kr ?_
      refine s_val (some 6) (.int .i64 ((p + ((2 + (ByteArray.size (strB (fst (tl (ByteArray.extract s p (ByteArray.size s))))))) + 4) : Nat) : Int)) (fun w => by kernel_rfl) kr ?_
      refine s_nil ?_
      have HD4 : St w.heap.size w w12 [(b_5, Obj.cells cur_7 9 (0, 0)), (b1, Obj.cells (Value.cells (arr 256 tabL)) 67 (0, 0))] := H12.sub (List.Sublist.cons _ (List.Sublist.cons_cons _ (List.Sublist.cons_cons _ List.Sublist.slnil)))
      show ∃ m, _ ∧ _
      exact ⟨_, (by omega), Or.inr (⟨b_5, cap_6, n + 1, cur_7, (l ++ [strB (fst (tl (ByteArray.extract s p (ByteArray.size s))))]), (p + ((2 + (ByteArray.size (strB (fst (tl (ByteArray.extract s p (ByteArray.size s))))))) + 4)), rfl, hr_8n, hr_8t, hstep.1, HD4, (Is.of ⟨kr, kr, kr, kr, trivial⟩)⟩)⟩
end Go.Proofs.Ythpiojejhellhaa
