/-
  Arrays by their elements; copies; parts of array values; negation; slices with room.
-/
import Derived.Test.YtljhbhhpfkmemaaStr
import Derived.Laws.CopyRow
import Derived.Laws.Concat
import Derived.Lib.BufferWrite
namespace Go.Proofs.Ytljhbhhpfkmemaa
open Go Go.RowKit
set_option linter.unusedVariables false

/-- n cells, each by its number. -/
def arrF (n : Nat) (f : Nat → Value) : List Value := (List.range n).map f
theorem arrF_len (n : Nat) (f : Nat → Value) : (arrF n f).length = n := by unfold arrF; simp
theorem arrF_get {n : Nat} {f : Nat → Value} {k : Nat} (h : k < n) : (arrF n f)[k]? = some (f k) := by unfold arrF; simp [h]
theorem arrF_congr {n : Nat} {f g : Nat → Value} (h : ∀ j, j < n → f j = g j) : arrF n f = arrF n g := by
  unfold arrF; exact List.map_congr_left fun j hj => h j (by simpa using hj)
theorem arrF_set {n : Nat} {f g : Nat → Value} {k : Nat} {v : Value} (h : k < n) (hg : ∀ j, j < n → g j = if j = k then v else f j) : (arrF n f).set k v = arrF n g := by
  apply List.ext_getElem?
  intro j
  rw [List.getElem?_set]
  by_cases hj : j < n
  · rw [arrF_get hj, arrF_get hj, hg j hj]
    by_cases hkj : k = j
    · subst hkj; rw [if_pos rfl, if_pos (by rw [arrF_len]; exact hj), if_pos rfl]
    · rw [if_neg hkj, if_neg (fun e => hkj e.symm)]
  · have e1 : (arrF n f)[j]? = none := List.getElem?_eq_none (by rw [arrF_len]; omega)
    have e2 : (arrF n g)[j]? = none := List.getElem?_eq_none (by rw [arrF_len]; omega)
    rw [e1, e2, if_neg (by omega)]
theorem arrF_one {n : Nat} {f : Nat → Value} (h : ∀ j, j < n → (f j).oneCell' = true) : ∀ u ∈ arrF n f, u.oneCell' = true := by
  intro u hu; unfold arrF at hu; obtain ⟨j, hj, rfl⟩ := List.mem_map.1 hu; exact h j (by simpa using hj)
theorem seg_at {C : Array Value} {pre post : List Value} {n : Nat} {f : Nat → Value} (hC : C.toList = pre ++ arrF n f ++ post) {off k : Nat} (ho : off = pre.length + k * 1) (hk : k < n) : C[off]? = some (f k) := by
  subst ho
  rw [← Array.getElem?_toList, hC, List.append_assoc, List.getElem?_append_right (by omega), show pre.length + k * 1 - pre.length = k by omega,
    List.getElem?_append_left (by rw [arrF_len]; exact hk), arrF_get hk]
theorem seg_put {C : Array Value} {pre post : List Value} {n : Nat} {f g : Nat → Value} (hC : C.toList = pre ++ arrF n f ++ post) {off k : Nat} {v : Value} (hv : v.cells = #[v]) (ho : off = pre.length + k * 1) (hk : k < n)
    (hg : ∀ j, j < n → g j = if j = k then v else f j) : (C.toList.take off ++ v.cells.toList ++ C.toList.drop (off + v.cells.size)).toArray = (pre ++ arrF n g ++ post).toArray := by
  subst ho
  congr 1
  have hlt : pre.length + k * 1 < C.toList.length := by rw [hC]; simp [arrF_len]; omega
  rw [hv]
  show List.take _ _ ++ [v] ++ List.drop (_ + 1) _ = _
  have e : List.take (pre.length + k * 1) C.toList ++ [v] ++ List.drop (pre.length + k * 1 + 1) C.toList = C.toList.set (pre.length + k * 1) v := by
    rw [List.set_eq_take_append_cons_drop, if_pos hlt, List.append_assoc]; rfl
  rw [e, hC, List.append_assoc, List.set_append_right _ _ (by omega), show pre.length + k * 1 - pre.length = k by omega, List.set_append_left _ _ (by rw [arrF_len]; exact hk), arrF_set hk hg, List.append_assoc]
theorem arr_index {P : Program} {ρ : Env} {t e : TypeId} {n : Nat} (ht : P.underlying t = some (.array n e)) (he : P.plainKey e = true) (hz : (P.info? e).map (·.size) = some 1) {x y : Operand} {o : Oper} {kd : IntKind} (C : Array Value) (k : Nat) (v : Value)
    (ho : o.op = .index t x y) (hx : ev ρ x = .agg C) (hy : ev ρ y = .int kd (k : Int)) (hk : k < n) (hv : C[0 + k * 1]? = some v) : ∀ w, (execOp (ev ρ) o).run P w = .ok (.value v) w := fun w => by
  obtain ⟨it, hi, hsz⟩ := Option.map_eq_some_iff.1 hz
  have hS : (sizeOf e).run P w = .ok 1 w := by simp [sizeOf, typeInfo, hi, hsz]
  have hp : (part e C (k * 1)).run P w = .ok v w := run_part_plain w he (by rw [Nat.zero_add] at hv; exact hv)
  have h1 : (0 : Int) ≤ (k : Int) ∧ (k : Int) < (n : Int) := by omega
  unfold execOp
  simp only [Nat.mul_one] at hp
  simp [ho, hx, hy, Instr.index, asIntOf, run_underlying ht, hS, hp, hk]
theorem sadd_run {P : Program} {ρ : Env} {t t' : TypeId} {x y : Operand} {o : Oper} (a b : ByteArray) (w : World) (ho : o.op = .binOp .add t x y t') (hx : ev ρ x = .string a) (hy : ev ρ y = .string b) (h : a.size + b.size ≤ 9223372036854775807) :
    (execOp (ev ρ) o).run P w = .ok (.value (.string (a ++ b))) w := by
  unfold execOp
  simp [ho, hx, hy, eqGuard, binOp, run_string_add_sum w a b h]
theorem tl_add (a b : ByteArray) : tl (a ++ b) = tl a ++ tl b := by unfold tl; simp
theorem bv_not_u32 (x : BitVec 32) : Value.int .u32 (Go.bits .xor .u32 4294967295 ((BitVec.toNat x : Nat) : Int)) = .int .u32 ((BitVec.toNat (~~~x) : Nat) : Int) := by
  have h := bv_xor_u32 (4294967295 : BitVec 32) x
  have e : (4294967295 : BitVec 32) ^^^ x = ~~~x := by rw [show (4294967295 : BitVec 32) = BitVec.allOnes 32 from rfl, BitVec.allOnes_xor]
  rw [e] at h
  exact h
def copyOp (dT sT : TypeId) (x y : Operand) : Op := .call { callee := .builtin .copy, args := #[x, y], argTypes := #[dT, sT] }
theorem copy_run {P : Program} {ρ : Env} {w : World} {dT sT e : TypeId} {bytes : Nat} {x y : Operand} {bd dLen dCap bs m mc q : Nat} {C CS C' : Array Value} {T TS : TypeId} {fz : Nat × Nat} {cs : List Value}
    (ht : sliceOf P dT = some (e, 1, bytes)) (hx : ev ρ x = .slice (some ⟨bd, 0, none⟩) dLen dCap) (hy : ev ρ y = .slice (some ⟨bs, 0, none⟩) m mc)
    (hD : w.heap[bd]? = some (.cells C T (0, 0))) (hS : w.heap[bs]? = some (.cells CS TS fz)) (hq : Nat.min m dLen = q) (hcs : CS.toList.take q = cs) (hl : cs.length = q) (h1 : ∀ u ∈ cs, u.oneCell' = true) (hfit : q ≤ C.size)
    (hC : (cs ++ C.toList.drop q).toArray = C') (o : Oper) (ho : o.op = copyOp dT sT x y) : (execOp (ev ρ) o).run P w = .ok (.value (.int .i64 (q : Int))) (w.setRow bd C') := by
  obtain ⟨it, z, hu, hi, hz, hsz, hby, hzs, h0⟩ := sliceOf_spec ht
  have hs1 : (P.info? e).map (·.size) = some 1 := by rw [hi]; simp [hsz]
  have hr := run_copy_row (P := P) w dT sT o.type e bd 0 dLen dCap ⟨bs, 0, none⟩ m mc C T cs hu hs1 hD (by rw [hl, hq]) (fun j v hj => by
    have hjl : j < q := by rw [← hl]; exact (List.getElem?_eq_some_iff.1 hj).1
    rw [← hcs, List.getElem?_take, if_pos hjl, Array.getElem?_toList] at hj
    rw [addr_add, Nat.zero_add]
    simp [World.cell?, hS, hj]) (by omega) h1
  rw [show C.toList.take 0 ++ cs ++ C.toList.drop (0 + cs.length) = cs ++ C.toList.drop q by rw [hl]; simp, hC, hl] at hr
  unfold execOp
  simp only [ho, copyOp, resolve, invoke, builtin, Sem.run_bind, Sem.run_pure, Result.andThen_ok, List.map_toArray, List.map_cons, List.map_nil, hx, hy, hr]
  rfl
/-- Bytes as cells. -/
def cellsB (l : List UInt8) : List Value := l.map fun b => Value.int .u8 ((b.toNat : Nat) : Int)
theorem cellsB_len (l : List UInt8) : (cellsB l).length = l.length := by unfold cellsB; simp
theorem cellsB_one (l : List UInt8) : ∀ u ∈ cellsB l, u.oneCell' = true := by
  intro u hu; unfold cellsB at hu; obtain ⟨d, _, rfl⟩ := List.mem_map.1 hu; rfl
theorem cellsB_append (a b : List UInt8) : cellsB (a ++ b) = cellsB a ++ cellsB b := by unfold cellsB; simp
theorem cellsB_get (l : List UInt8) (i : Nat) (hi : i < l.length) : (cellsB l)[i]? = some (.int .u8 (((l.getD i 0).toNat : Nat) : Int)) := by
  unfold cellsB; simp [hi]
theorem copyStr_run {P : Program} {ρ : Env} {w : World} {dT sT e : TypeId} {bytes : Nat} {x y : Operand} {bd dLen dCap : Nat} {C C' : Array Value} {T : TypeId} {s : ByteArray}
    (ht : sliceOf P dT = some (e, 1, bytes)) (hx : ev ρ x = .slice (some ⟨bd, 0, none⟩) dLen dCap) (hy : ev ρ y = .string s)
    (hD : w.heap[bd]? = some (.cells C T (0, 0))) (hle : s.size ≤ dLen) (hfit : s.size ≤ C.size)
    (hC : (cellsB (tl s) ++ C.toList.drop s.size).toArray = C') (o : Oper) (ho : o.op = copyOp dT sT x y) : (execOp (ev ρ) o).run P w = .ok (.value (.int .i64 (s.size : Int))) (w.setRow bd C') := by
  obtain ⟨it, z, hu, hi, hz, hsz, hby, hzs, h0⟩ := sliceOf_spec ht
  have hs1 : (P.info? e).map (·.size) = some 1 := by rw [hi]; simp [hsz]
  have hr := Go.Lib.run_copy_row_string (P := P) w dT sT o.type e bd 0 dLen dCap s C T hu hs1 hD hle (by omega)
  rw [show C.toList.take 0 ++ Go.Lib.byteCells s.data.toList ++ C.toList.drop (0 + s.size) = cellsB (tl s) ++ C.toList.drop s.size by unfold tl cellsB Go.Lib.byteCells; simp, hC] at hr
  unfold execOp
  simp only [ho, copyOp, resolve, invoke, builtin, Sem.run_bind, Sem.run_pure, Result.andThen_ok, List.map_toArray, List.map_cons, List.map_nil, hx, hy, hr]
  rfl
/-- Bytes laid together as a text. -/
def strB (l : List UInt8) : ByteArray := ⟨l.toArray⟩
theorem tl_strB (l : List UInt8) : tl (strB l) = l := rfl
theorem strB_tl (s : ByteArray) : strB (tl s) = s := rfl
theorem strB_size (l : List UInt8) : (strB l).size = l.length := rfl
theorem slArr_run {P : Program} {ρ : Env} {t e : TypeId} {n z : Nat} (ht : P.underlying t = some (.array n e)) (hz : (P.info? e).map (·.size) = some z) {x : Operand} {o : Oper} (b : Nat) (ho : o.op = .slice t x none none none) (hx : ev ρ x = .pointer (some ⟨b, 0, none⟩)) :
    ∀ w, (execOp (ev ρ) o).run P w = .ok (.value (.slice (some ⟨b, 0, none⟩) n n)) w := fun w => by
  obtain ⟨it, hi, hsz⟩ := Option.map_eq_some_iff.1 hz
  have hS : (sizeOf e).run P w = .ok z w := by simp [sizeOf, typeInfo, hi, hsz]
  unfold execOp
  simp [ho, hx, Instr.sliceAt, Instr.slice, Instr.sliceBounds, Instr.sureAddr, run_underlying ht, hS, addr_add]
theorem strOfNums_map (l : List UInt8) : strOfNums (l.map fun b => ((b.toNat : Nat) : Int)) = strB l := by
  unfold strOfNums strB
  refine congrArg (fun l : List UInt8 => ByteArray.mk l.toArray) ?_
  rw [List.map_map]
  conv => rhs; rw [← List.map_id l]
  refine List.map_congr_left fun b _ => ?_
  apply UInt8.toNat_inj.1
  simp
/-- A row of bytes. -/
theorem Rw.atB {cur : Array Value} {cap n : Nat} {l : List UInt8} (h : Rw 1 cur cap n (cellsB l)) {i : Nat} (hi : i < n) (hn : n = l.length) : cur[0 + i * 1]? = some (.int .u8 (((l.getD i 0).toNat : Nat) : Int)) :=
  h.at1 hi (cellsB_get l i (by omega))
/-- Words of 32 bits as cells. -/
def cellsW (l : List (BitVec 32)) : List Value := l.map fun b => Value.int .u32 ((b.toNat : Nat) : Int)
theorem cellsW_len (l : List (BitVec 32)) : (cellsW l).length = l.length := by unfold cellsW; simp
theorem cellsW_one (l : List (BitVec 32)) : ∀ u ∈ cellsW l, u.oneCell' = true := by
  intro u hu; unfold cellsW at hu; obtain ⟨d, _, rfl⟩ := List.mem_map.1 hu; rfl
theorem cellsW_append (a b : List (BitVec 32)) : cellsW (a ++ b) = cellsW a ++ cellsW b := by unfold cellsW; simp
theorem cellsW_get (l : List (BitVec 32)) (i : Nat) (hi : i < l.length) : (cellsW l)[i]? = some (.int .u32 (((l.getD i 0).toNat : Nat) : Int)) := by
  unfold cellsW; simp [hi]
theorem cellsW_zeros (z : Nat) : cellsW (List.replicate z 0) = List.replicate z (.int .u32 0) := by unfold cellsW; rw [List.map_replicate]; rfl
theorem cellsB_zeros' (z : Nat) : cellsB (List.replicate z 0) = List.replicate z (.int .u8 0) := by unfold cellsB; rw [List.map_replicate]; rfl
theorem cellsD_zeros (z : Nat) : cellsD (List.replicate z 0) = List.replicate z (.int .i64 0) := by unfold cellsD; rw [List.map_replicate]; rfl
theorem Rw.atW {cur : Array Value} {cap n : Nat} {l : List (BitVec 32)} (h : Rw 1 cur cap n (cellsW l)) {i : Nat} (hi : i < n) (hn : n = l.length) : cur[0 + i * 1]? = some (.int .u32 (((l.getD i 0).toNat : Nat) : Int)) :=
  h.at1 hi (cellsW_get l i (by omega))
theorem Rw.putG {cur : Array Value} {cap n : Nat} {xs : List Value} {x : Value} (hx : x.cells = #[x]) (h : Rw 1 cur cap n xs) (i : Nat) (hi : i < n) :
    ∃ cur', (cur.toList.take (0 + i * 1) ++ x.cells.toList ++ cur.toList.drop (0 + i * 1 + x.cells.size)).toArray = cur' ∧ (0 + i * 1 + x.cells.size ≤ cur.size) ∧ Rw 1 cur' cap n (xs.set i x) := by
  have hsz := h.sz; have hle := h.le
  have hlt : i < cur.toList.length := by simp; omega
  have e : cur.toList.take (0 + i * 1) ++ x.cells.toList ++ cur.toList.drop (0 + i * 1 + x.cells.size) = cur.toList.set i x := by
    rw [hx, Nat.zero_add, Nat.mul_one, List.set_eq_take_append_cons_drop, if_pos hlt]
    simp
  refine ⟨_, rfl, by rw [hx]; simp; omega, ?_⟩
  rw [e]
  refine ⟨?_, h.le, h.max, ?_, by simpa using hsz⟩
  · have := h.len; simpa using this
  · have := h.take
    simp only [List.take_set, Nat.mul_one] at this ⊢
    rw [this]
theorem Rw.putW {cur : Array Value} {cap n : Nat} {l : List (BitVec 32)} (h : Rw 1 cur cap n (cellsW l)) (i : Nat) (v : BitVec 32) (hi : i < n) :
    ∃ cur', (cur.toList.take (0 + i * 1) ++ (Value.int .u32 ((v.toNat : Nat) : Int)).cells.toList ++ cur.toList.drop (0 + i * 1 + (Value.int .u32 ((v.toNat : Nat) : Int)).cells.size)).toArray = cur' ∧ (0 + i * 1 + (Value.int .u32 ((v.toNat : Nat) : Int)).cells.size ≤ cur.size) ∧ Rw 1 cur' cap n (cellsW (l.set i v)) := by
  obtain ⟨c, h1, h2, h3⟩ := Rw.putG (x := Value.int .u32 ((v.toNat : Nat) : Int)) rfl h i hi
  exact ⟨c, h1, h2, by unfold cellsW at h3 ⊢; rw [List.map_set]; exact h3⟩
theorem neg_i64 {a : Int} (h1 : -9223372036854775807 ≤ a) (h2 : a ≤ 9223372036854775807) : IntKind.i64.wrap (0 - a) = -a := by
  rw [wrap_i64 (by omega) (by omega)]; omega
theorem Rw.putB {cur : Array Value} {cap n : Nat} {l : List UInt8} (h : Rw 1 cur cap n (cellsB l)) (i : Nat) (v : UInt8) (hi : i < n) :
    ∃ cur', (cur.toList.take (0 + i * 1) ++ (Value.int .u8 ((v.toNat : Nat) : Int)).cells.toList ++ cur.toList.drop (0 + i * 1 + (Value.int .u8 ((v.toNat : Nat) : Int)).cells.size)).toArray = cur' ∧ (0 + i * 1 + (Value.int .u8 ((v.toNat : Nat) : Int)).cells.size ≤ cur.size) ∧ Rw 1 cur' cap n (cellsB (l.set i v)) := by
  have h1 : (Value.int .u8 ((v.toNat : Nat) : Int)).cells = #[.int .u8 ((v.toNat : Nat) : Int)] := rfl
  have hsz := h.sz; have hle := h.le
  have hlt : i < cur.toList.length := by simp; omega
  have e : cur.toList.take (0 + i * 1) ++ (Value.int .u8 ((v.toNat : Nat) : Int)).cells.toList ++ cur.toList.drop (0 + i * 1 + (Value.int .u8 ((v.toNat : Nat) : Int)).cells.size) = cur.toList.set i (.int .u8 ((v.toNat : Nat) : Int)) := by
    rw [h1, Nat.zero_add, Nat.mul_one, List.set_eq_take_append_cons_drop, if_pos hlt]
    simp
  refine ⟨_, rfl, by rw [h1]; simp; omega, ?_⟩
  rw [e]
  refine ⟨?_, h.le, h.max, ?_, by simpa using hsz⟩
  · have := h.len; unfold cellsB at this ⊢; simpa using this
  · have := h.take
    simp only [List.take_set, Nat.mul_one] at this ⊢
    rw [this]; unfold cellsB; simp [List.map_set]
theorem Rw.ints {cur : Array Value} {cap n : Nat} {l : List UInt8} (h : Rw 1 cur cap n (cellsB l)) : Rw 1 cur cap n ((l.map fun b => ((b.toNat : Nat) : Int)).map (Value.int .u8)) := by
  rw [List.map_map]; exact h
/-- An array of zeros. -/
def zeroV (k : IntKind) (n : Nat) : Value := .agg (Array.replicate n (.int k 0))
/-- An array of bytes by their places. -/
def arrB (n : Nat) (f : Nat → BitVec 8) : Value := .agg (arrF n fun j => .int .u8 ((BitVec.toNat (f j) : Nat) : Int)).toArray
theorem arrB_at {n : Nat} (f : Nat → BitVec 8) {k off : Nat} (ho : off = 0 + k * 1) (hk : k < n) : (Value.cells (arrB n f))[off]? = some (.int .u8 ((BitVec.toNat (f k) : Nat) : Int)) :=
  seg_at (pre := []) (post := []) (n := n) (f := fun j => .int .u8 ((BitVec.toNat (f j) : Nat) : Int)) (by show arrF n _ = [] ++ arrF n _ ++ []; simp) (by simpa using ho) hk
theorem arrB_put {n : Nat} {f g : Nat → BitVec 8} {k off : Nat} {x : BitVec 8} (ho : off = 0 + k * 1) (hk : k < n) (hg : ∀ j, j < n → g j = if j = k then x else f j) :
    ((Value.cells (arrB n f)).toList.take off ++ (Value.int .u8 ((BitVec.toNat x : Nat) : Int)).cells.toList ++ (Value.cells (arrB n f)).toList.drop (off + (Value.int .u8 ((BitVec.toNat x : Nat) : Int)).cells.size)).toArray = Value.cells (arrB n g) := by
  rw [seg_put (pre := []) (post := []) (n := n) (f := fun j => .int .u8 ((BitVec.toNat (f j) : Nat) : Int)) (g := fun j => .int .u8 ((BitVec.toNat (g j) : Nat) : Int)) (by show arrF n _ = [] ++ arrF n _ ++ []; simp) rfl (by simpa using ho) hk (fun j hj => by rw [hg j hj]; split <;> rfl)]
  simp; rfl
theorem arrB_rw (n : Nat) (f : Nat → BitVec 8) (hn : n ≤ maxLen) : Rw 1 (Value.cells (arrB n f)) n n (cellsB ((List.range n).map fun i => UInt8.ofBitVec (f i))) := by
  have e : (Value.cells (arrB n f)).toList = cellsB ((List.range n).map fun i => UInt8.ofBitVec (f i)) := by
    show arrF n _ = _
    unfold arrF cellsB; rw [List.map_map]; rfl
  rw [← e]
  have h2 : (Value.cells (arrB n f)).size = n * 1 := by
    rw [← Array.length_toList, e, cellsB_len]; simp
  exact Rw.lit _ n h2 hn
section
variable {P : Program} {N : Nat} {ops : Array Oper} {i : Nat} {r : List Nat} {K : Env → World → Prop} {ρ : Env} {w : World} {B : Nat} {w0 : World} {l : List (Nat × Obj)}
theorem s_copy (HS : St B w0 w l) (d : Option Nat) (dT sT e bytes : Nat) (x y : Operand) (jd js bd dLen dCap bs m mc q : Nat) (C CS C' : Array Value) (T TS : TypeId) (fz : Nat × Nat) (cs : List Value) (l' : List (Nat × Obj))
    (h : opk ops i ρ = some (d, true, copyOp dT sT x y)) (hd : dOK d N = true) (ht : sliceOf P dT = some (e, 1, bytes)) (hx : ev ρ x = .slice (some ⟨bd, 0, none⟩) dLen dCap) (hy : ev ρ y = .slice (some ⟨bs, 0, none⟩) m mc)
    (hj : l[jd]? = some (bd, .cells C T (0, 0))) (hjs : l[js]? = some (bs, .cells CS TS fz)) (hq : Nat.min m dLen = q) (hcs : CS.toList.take q = cs) (hl : cs.length = q) (h1 : ∀ u ∈ cs, u.oneCell' = true) (hfit : q ≤ C.size)
    (hC : (cs ++ C.toList.drop q).toArray = C') (hl' : l.set jd (bd, .cells C' T (0, 0)) = l') (kk : ∀ w', St B w0 w' l' → WPs P N ops K r (updO ρ d (.int .i64 (q : Int))) w') : WPs P N ops K (i :: r) ρ w := by
  subst hl'
  exact s_genw d _ _ _ h hd (copy_run ht hx hy (HS.get jd hj) (HS.get js hjs) hq hcs hl h1 hfit hC) (kk _ (HS.store jd hj))
theorem s_copyStr (HS : St B w0 w l) (d : Option Nat) (dT sT e bytes : Nat) (x y : Operand) (jd bd dLen dCap : Nat) (s : ByteArray) (C C' : Array Value) (T : TypeId) (l' : List (Nat × Obj))
    (h : opk ops i ρ = some (d, true, copyOp dT sT x y)) (hd : dOK d N = true) (ht : sliceOf P dT = some (e, 1, bytes)) (hx : ev ρ x = .slice (some ⟨bd, 0, none⟩) dLen dCap) (hy : ev ρ y = .string s)
    (hj : l[jd]? = some (bd, .cells C T (0, 0))) (hle : s.size ≤ dLen) (hfit : s.size ≤ C.size)
    (hC : (cellsB (tl s) ++ C.toList.drop s.size).toArray = C') (hl' : l.set jd (bd, .cells C' T (0, 0)) = l') (kk : ∀ w', St B w0 w' l' → WPs P N ops K r (updO ρ d (.int .i64 (s.size : Int))) w') : WPs P N ops K (i :: r) ρ w := by
  subst hl'
  exact s_genw d _ _ _ h hd (copyStr_run ht hx hy (HS.get jd hj) hle hfit hC) (kk _ (HS.store jd hj))
/-- 'make([]T, n, c)', of elements of one cell. -/
theorem s_make2 (HS : St B w0 w l) (d : Option Nat) (t e : TypeId) (bytes : Nat) (z : Value) (x y : Operand) (kl kc : IntKind) (n c : Nat) (h : opk ops i ρ = some (d, true, .makeSlice t x y)) (hd : dOK d N = true) (ht : sliceOf P t = some (e, 1, bytes)) (hz : (P.info? e).bind (·.zero) = some z) (hzz : z.cells = #[z])
    (hx : ev ρ x = .int kl (n : Int)) (hy : ev ρ y = .int kc (c : Int)) (hnc : n ≤ c) (hb : bytes * c ≤ 281474976710656) (hm : c ≤ maxLen)
    (kk : ∀ b cur w', St B w0 w' ((b, .cells cur e (0, 0)) :: l) → Rw 1 cur c n (List.replicate n z) → WPs P N ops K r (updO ρ d (.slice (some ⟨b, 0, none⟩) n c)) w') : WPs P N ops K (i :: r) ρ w := by
  obtain ⟨o, ho, rfl, hw, hop⟩ := opk_some h
  obtain ⟨it, z', hu, hi, hz', hsz, hby, hzs, h0⟩ := sliceOf_spec ht
  obtain rfl : z' = z := by rw [hi] at hz; simp [hz'] at hz; exact hz
  have hml : c ≤ 9223372036854775807 := by have := hm; simp only [maxLen] at this; omega
  have hbi : (it.bytes : Int) * (c : Int) ≤ 281474976710656 := by
    rw [hby, ← Int.natCast_mul]; omega
  have hr := run_make (P := P) w t e it z' hu hi hz' kl kc (n : Int) (c : Int) (by omega) (by omega) hbi (by omega)
  simp only [Int.toNat_natCast, hsz, Nat.mul_one] at hr
  have hmade : madeCells z'.cells c = Array.replicate c z' := by
    unfold madeCells
    apply Array.ext
    · simp
    · intro q h1 h2
      simp [hzz, Nat.mod_one]
  rw [hmade] at hr
  refine WPo.run ho hw fun a ha => ?_
  have hex : (execOp (ev ρ) o).run P w = .ok (.value (.slice (some ⟨w.heap.size, 0, none⟩) n c)) (w.alloc (.cells (Array.replicate c z') e)) := by
    unfold execOp
    simp only [hop, hx, hy, Sem.run_bind, hr, Result.andThen_ok]; rfl
  rw [hex, Oper.upon_value]
  exact ⟨_, ha.put _ (dOK_lt hd) _, kk _ _ _ (HS.alloc _) ⟨by simp, hnc, hm, by simp [List.take_replicate, Nat.min_eq_left hnc], by simp⟩⟩
/-- 'string(b)', of bytes in a block of the list. -/
theorem s_bytesStrB (HS : St B w0 w l) (d : Option Nat) (t t' e : TypeId) (x : Operand) (j b n cap : Nat) (cur : Array Value) (T : TypeId) (fz : Nat × Nat) (xs : List UInt8) (h : opk ops i ρ = some (d, true, .convert t t' x)) (hd : dOK d N = true)
    (ht : P.underlying t = some (.slice e)) (he : P.underlying e = some (.int .u8)) (ht' : P.underlying t' = some .string)
    (hx : ev ρ x = .slice (some ⟨b, 0, none⟩) n cap) (hj : l[j]? = some (b, .cells cur T fz)) (hr : Rw 1 cur cap n (cellsB xs))
    (kk : WPs P N ops K r (updO ρ d (.string (strB xs))) w) : WPs P N ops K (i :: r) ρ w :=
  s_bytesStr HS d t t' e x j b n cap cur T fz _ h hd ht he ht' hx hj hr.ints (by rw [strOfNums_map]; exact kk)
end
namespace D2
section
variable {P : Program} {ops : Array Oper} {R : (Nat → Gh) → Env} {i : Nat} {d : Option Nat}
variable {E : (Nat → Bool) → (Nat → Gh) → List Ent} {F : (Nat → Bool) → (Nat → Gh) → Prop} {B : Nat} {w0 : World}
theorem gv_copy (k ks : Nat) (dT sT e bytes : Nat) (x y : Operand) (bd bs : (Nat → Gh) → Nat) (dLen dCap m mc q : Nat) (C CS C' : Array Value) (T TS : TypeId) (fz : Nat × Nat) (cs : List Value)
    (h : ∀ g, opk ops i (R g) = some (d, true, copyOp dT sT x y)) (ht : sliceOf P dT = some (e, 1, bytes)) (hx : ∀ g, ev (R g) x = .slice (some ⟨bd g, 0, none⟩) dLen dCap) (hy : ∀ g, ev (R g) y = .slice (some ⟨bs g, 0, none⟩) m mc)
    (hq : Nat.min m dLen = q) (hcs : CS.toList.take q = cs) (hl : cs.length = q) (h1 : ∀ u ∈ cs, u.oneCell' = true) (hfit : q ≤ C.size) (hC : (cs ++ C.toList.drop q).toArray = C')
    (hj : ∀ L g, Now ops i L → (E L g)[k]? = some (true, (bd g, .cells C T (0, 0))) ∧ (E L g).set k (true, (bd g, .cells C' T (0, 0))) = E (put1 L i) g)
    (hjs : ∀ L g, Now ops i L → (E L g)[ks]? = some (true, (bs g, .cells CS TS fz))) (hF : ∀ L g, Now ops i L → F L g → F (put1 L i) g) : Gives P ops R (Pre B w0 E F) i d (fun _ => .int .i64 (q : Int)) := gives_of fun L g w hp hN => by
  obtain ⟨o, ho, hd, hw, hop⟩ := opk_some (h g)
  obtain ⟨hk, hl2⟩ := hj L g hN
  have e2 := copy_run ht (hx g) (hy g) (hp.1.get k hk) (hp.1.get ks (hjs L g hN)) hq hcs hl h1 hfit hC o hop
  exact ⟨o, ho, hd, .inr ⟨hw, by rw [e2]; exact ⟨g i, rfl, by rw [setN_self, Pre, ← hl2]; exact ⟨hp.1.store k hk, hF L g hN hp.2⟩⟩⟩⟩
end
end D2
end Go.Proofs.Ytljhbhhpfkmemaa
