/-
  Texts of the proof, part 2.
-/
import Derived.Laws.IdiomStrings
import Derived.Lib.UnsafeStr
import Derived.Test.YtkkbkpneodecnaaDoorRows
import Derived.LaidLaws
import Derived.LaidHandle
import Derived.MakeChecks
import Derived.WalkKit
import Derived.Test.YtkkbkpneodecnaaDoorProg
import Derived.Lib.AppendStr
import Derived.Lib.Builder
import Derived.Test.YtkkbkpneodecnaaDoorFB1

namespace Go.Proofs.YtkkbkpneodecnaaDoor
open Go Go.RowKit
set_option linter.unusedVariables false
/-- No cell of the row is frozen. -/
def Clr (fz : Nat × Nat) (cur : Array Value) : Prop := fz.2 = 0 ∨ cur.size ≤ fz.1
theorem Clr.zero (cur : Array Value) : Clr (0, 0) cur := .inl rfl
theorem Clr.no {fz : Nat × Nat} {cur : Array Value} (h : Clr fz cur) {w : World} {g k : Nat} {t : TypeId} (hg : w.heap[g]? = some (.cells cur t fz)) (hk : k < cur.size) : w.frozen? ⟨g, k, none⟩ = false := by
  obtain ⟨lo, hi⟩ := fz
  simp only [World.frozen?, hg, Bool.and_eq_false_iff, decide_eq_false_iff_not]
  rcases h with h | h
  · right; simp only at h; omega
  · left; simp only at h; omega
theorem run_storeCells_atM (P : Program) (g o : Nat) (t : TypeId) (fz : Nat × Nat) : ∀ (vs : List Value) (i : Nat) (cur : Array Value) (w : World), w.heap[g]? = some (.cells cur t fz) → o + i + vs.length ≤ cur.size → Clr fz cur → (∀ v ∈ vs, v.oneCell' = true) →
    (storeCells ⟨g, o, none⟩ vs i).run P w = .ok () (w.setRow g (cur.toList.take (o + i) ++ vs ++ cur.toList.drop (o + i + vs.length)).toArray)
  | [], i, cur, w, hg, _, _, _ => by
    simp only [storeCells, List.append_nil, List.length_nil, Nat.add_zero, List.take_append_drop, Array.toArray_toList]
    rw [setRow_self w g cur t fz hg]
    rfl
  | v :: rest, i, cur, w, hg, hl, hfz, h1 => by
    have hi : o + i < cur.size := by simp at hl; omega
    have hadd : (⟨g, o, none⟩ : Addr).add i = ⟨g, o + i, none⟩ := by unfold Addr.add; split <;> simp_all
    have hcell : w.cell? ⟨g, o + i, none⟩ = some cur[o + i] := by simp [World.cell?, hg, hi]
    have hfro : w.frozen? ⟨g, o + i, none⟩ = false := hfz.no hg hi
    have hst : (store ((⟨g, o, none⟩ : Addr).add i) v).run P w = .ok () (w.setRow g (cur.setIfInBounds (o + i) v)) := by
      rw [hadd, run_store P w _ v _ (h1 v (by simp)), hcell]
      simp [hfro, setCell_eq_setRow w g (o + i) cur t fz v hg]
    have ih := run_storeCells_atM P g o t fz rest (i + 1) (cur.setIfInBounds (o + i) v) (w.setRow g (cur.setIfInBounds (o + i) v)) (setRow_heap w g cur _ t _ hg) (by simp at hl ⊢; omega) (by unfold Clr at hfz ⊢; simpa using hfz) (fun x hx => h1 x (by simp [hx]))
    simp only [storeCells, Sem.run_bind, hst, Result.andThen_ok, ih, setRow_setRow]
    congr 3
    have e := list_seg_step cur.toList (o + i) v rest (by simp at hl ⊢; omega)
    simpa [Array.toList_setIfInBounds, Nat.add_assoc] using e
section
variable {P : Program} {N : Nat} {ops : Array Oper} {i : Nat} {r : List Nat} {K : Env → World → Prop} {ρ : Env} {w : World} {B : Nat} {w0 : World} {l : List (Nat × Obj)}
end
namespace D2
section
variable {P : Program} {ops : Array Oper} {R : (Nat → Gh) → Env} {i : Nat} {d : Option Nat}
variable {E : (Nat → Bool) → (Nat → Gh) → List Ent} {F : (Nat → Bool) → (Nat → Gh) → Prop} {B : Nat} {w0 : World}
end
end D2
end Go.Proofs.YtkkbkpneodecnaaDoor

namespace Go.Proofs.YtkkbkpneodecnaaDoor
open Go Go.RowKit
set_option linter.unusedVariables false
/-- Texts as cells. -/
def cellsS (l : List ByteArray) : List Value := l.map Value.string
theorem cellsS_get (l : List ByteArray) (i : Nat) (hi : i < l.length) : (cellsS l)[i]? = some (.string (l.getD i .empty)) := by
  unfold cellsS; simp [hi]
theorem Rw.atS {cur : Array Value} {cap n : Nat} {l : List ByteArray} (h : Rw 1 cur cap n (cellsS l)) {i : Nat} (hi : i < n) (hn : n = l.length) : cur[0 + i * 1]? = some (.string (l.getD i .empty)) :=
  h.at1 hi (cellsS_get l i (by omega))
theorem toList_eq (s : ByteArray) : s.toList = tl s := ByteArray.toList_eq s
theorem str_same (a b : ByteArray) (h : a = b) : (a.toList == b.toList) = true := by subst h; exact str_self a
theorem str_other (a b : ByteArray) (h : ¬ a = b) : (a.toList == b.toList) = false := by
  rw [beq_eq_false_iff_ne]
  intro e
  rw [toList_eq, toList_eq] at e
  exact h (by rw [← strB_tl a, e, strB_tl])
theorem tl_inj {a b : ByteArray} (h : tl a = tl b) : a = b := by rw [← strB_tl a, h, strB_tl]
/-- A row of texts, or none: what a value is. -/
def RetT (T : Nat) (S : List ByteArray → Nat → Prop) : Nat → Value → World → Prop := fun B v w' =>
  ∃ (rs : List ByteArray) (p : Nat), S rs p ∧ ((rs = [] ∧ v = .tuple #[.slice none 0 0, .int .i64 ((p : Nat) : Int)]) ∨
    ∃ (b cap n : Nat) (cur : Array Value), v = .tuple #[.slice (some ⟨b, 0, none⟩) n cap, .int .i64 ((p : Nat) : Int)] ∧ B ≤ b ∧ w'.heap[b]? = some (.cells cur T (0, 0)) ∧ n = rs.length ∧ Rw 1 cur cap n (cellsS rs))
section
variable {P : Program} {N : Nat} {ops : Array Oper} {i : Nat} {r : List Nat} {K : Env → World → Prop} {ρ : Env} {w : World} {B : Nat} {w0 : World} {l : List (Nat × Obj)}
def unsafeOp (t t' : TypeId) (x y : Operand) : Op := .call { callee := .builtin .unsafeString, args := #[x, y], argTypes := #[t, t'] }
/-- 'unsafe.String(&b[0], len(b))': the bytes of a row of the call's own, which is laid aside. -/
theorem s_unsafeStr {b : Nat} {C : Array Value} {T : TypeId} (HS : St B w0 w [(b, .cells C T (0, 0))]) (d : Option Nat) (t t' e : TypeId) (x y : Operand) (n cap : Nat) (xs : List UInt8)
    (h : opk ops i ρ = some (d, true, unsafeOp t t' x y)) (hd : dOK d N = true) (ht : P.underlying t = some (.pointer e)) (hc : P.cellsOf e = 1) (hT : T = e)
    (hx : ev ρ x = .pointer (some ⟨b, 0, none⟩)) (hy : ev ρ y = .int .i64 (n : Int)) (hr : Rw 1 C cap n (cellsB xs)) (h0 : 0 < n) (hm : n ≤ 9223372036854775807)
    (kk : ∀ w', St B w0 w' [] → WPs P N ops K r (updO ρ d (.string (strB xs))) w') : WPs P N ops K (i :: r) ρ w := by
  obtain ⟨o, ho, rfl, hw, hop⟩ := opk_some h
  subst hT
  have hb := HS.get 0 rfl
  have hB := HS.ge 0 rfl
  have hlen : xs.length = n := by have := hr.len; rw [cellsB_len] at this; omega
  have hsz := hr.sz
  have hle := hr.le
  have hrun := Lib.run_unsafeString_row (P := P) w t t' o.type T ht hc b C.size (by unfold World.shape?; rw [hb]) xs (by intro e; subst e; simp at hlen; omega) (by omega) (by omega) (fun j u hj => by
    have hjl : j < xs.length := (List.getElem?_eq_some_iff.1 hj).1
    have h2 := hr.get j (by omega)
    rw [addr_add, Nat.zero_add]
    have h3 : (cellsB xs)[j]? = some (.int .u8 ((u.toNat : Nat) : Int)) := by unfold cellsB; rw [List.getElem?_map, hj]; rfl
    simp [World.cell?, hb, h2, h3])
  rw [hlen] at hrun
  refine WPo.run ho hw fun a ha => ?_
  have hex : (execOp (ev ρ) o).run P w = .ok (.value (.string (strB xs))) (w.freeze ⟨b, 0, none⟩ n) := by
    unfold execOp
    simp only [hop, unsafeOp, resolve, invoke, builtin, Sem.run_bind, Sem.run_pure, Result.andThen_ok, List.map_toArray, List.map_cons, List.map_nil, hx, hy, hrun]
    rfl
  rw [hex, Oper.upon_value]
  have hbel := Lib.below_freeze HS.below (p := ⟨b, 0, none⟩) hB n
  refine ⟨_, ha.put _ (dOK_lt hd) _, kk _ ⟨hbel, Nat.le_trans HS.le ?_, (fun e he => nomatch he), List.nodup_nil⟩⟩
  unfold World.freeze
  split <;> simp
end
end Go.Proofs.YtkkbkpneodecnaaDoor

namespace Go.Proofs.YtkkbkpneodecnaaDoor
open Go Go.RowKit
set_option linter.unusedVariables false
/-- Lists of items: the first one's flag, its bytes, its kids; the others. -/
inductive Fo
  | nil
  | cons (l : Bool) (s : ByteArray) (k r : Fo)
def Fo.len : Fo → Nat
  | .nil => 0
  | .cons _ _ _ r => r.len + 1
/-- How many items are in it. -/
def Fo.cnt : Fo → Nat
  | .nil => 0
  | .cons _ _ k r => 1 + k.cnt + r.cnt
/-- The list lies in block b from cell off on. -/
def FoAt (B : Nat) (w : World) : Fo → Nat → Nat → Prop
  | .nil, _, _ => True
  | .cons l s k r, b, off => (∃ (C : Array Value) (T : TypeId) (fz : Nat × Nat) (p : Option Addr) (n c : Nat), b < B ∧ w.heap[b]? = some (.cells C T fz) ∧ off + 3 ≤ C.size ∧
      C.extract off (off + 3) = #[.bool l, .string s, .slice p n c] ∧ s.size ≤ 140737488355328 ∧ n = k.len ∧ n ≤ 140737488355328 ∧ (k = .nil ∨ ∃ b' off', p = some ⟨b', off', none⟩ ∧ FoAt B w k b' off')) ∧ FoAt B w r b (off + 3)
/-- The list lies where a slice says. -/
def SlAt (B : Nat) (w : World) (p : Option Addr) (n : Nat) (k : Fo) : Prop := n = k.len ∧ n ≤ 140737488355328 ∧ (k = .nil ∨ ∃ b off, p = some ⟨b, off, none⟩ ∧ FoAt B w k b off)
/-- What is left of it from element i on. -/
def FoR (B : Nat) (w : World) (p : Option Addr) (i : Nat) (r : Fo) : Prop := r = .nil ∨ ∃ b off, p = some ⟨b, off, none⟩ ∧ FoAt B w r b (off + i * 3)
theorem FoAt.up {B B' : Nat} {w w' : World} (hb : Below B w w') (hB : B ≤ B') : ∀ {k : Fo} {b off : Nat}, FoAt B w k b off → FoAt B' w' k b off
  | .nil, _, _, _ => trivial
  | .cons l s k r, b, off, ⟨⟨C, T, fz, p, n, c, h1, h2, h3, h4, h5, h6, h7, h8⟩, h9⟩ =>
    ⟨⟨C, T, fz, p, n, c, Nat.lt_of_lt_of_le h1 hB, by rw [hb.block b h1]; exact h2, h3, h4, h5, h6, h7, h8.imp id fun ⟨b', o', e, h⟩ => ⟨b', o', e, FoAt.up hb hB h⟩⟩, FoAt.up hb hB h9⟩
theorem SlAt.up {B B' : Nat} {w w' : World} {p : Option Addr} {n : Nat} {k : Fo} (h : SlAt B w p n k) (hb : Below B w w') (hB : B ≤ B') : SlAt B' w' p n k :=
  ⟨h.1, h.2.1, h.2.2.imp id fun ⟨b, o, e, h⟩ => ⟨b, o, e, h.up hb hB⟩⟩
theorem SlAt.call {w0 w : World} {p : Option Addr} {n : Nat} {k : Fo} (h : SlAt w0.heap.size w0 p n k) (hb : Below w0.heap.size w0 w) : SlAt w.heap.size w p n k := h.up hb hb.size
theorem SlAt.nil (B : Nat) (w : World) (p : Option Addr) : SlAt B w p 0 .nil := ⟨rfl, by omega, .inl rfl⟩
theorem SlAt.zero {B : Nat} {w : World} {p : Option Addr} {n : Nat} {k : Fo} (h : SlAt B w p n k) (h0 : n = 0) : k = .nil := by
  cases k with
  | nil => rfl
  | cons l s k r => have := h.1; simp only [Fo.len] at this; omega
theorem SlAt.start {B : Nat} {w : World} {p : Option Addr} {n : Nat} {k : Fo} (h : SlAt B w p n k) : FoR B w p 0 k :=
  h.2.2.imp id fun ⟨b, o, e, h⟩ => ⟨b, o, e, by rw [Nat.zero_mul, Nat.add_zero]; exact h⟩
theorem FoR.open {B : Nat} {w : World} {p : Option Addr} {i n : Nat} {r : Fo} (h : FoR B w p i r) (hn : i + r.len = n) (hi : i < n) :
    ∃ l s k r' b off C T fz p' n' c', r = .cons l s k r' ∧ p = some ⟨b, off, none⟩ ∧ b < B ∧ w.heap[b]? = some (.cells C T fz) ∧ off + i * 3 + 3 ≤ C.size ∧
      C.extract (off + i * 3) (off + i * 3 + 3) = #[.bool l, .string s, .slice p' n' c'] ∧ s.size ≤ 140737488355328 ∧ SlAt B w p' n' k ∧ FoR B w p (i + 1) r' ∧ i + 1 + r'.len = n := by
  cases r with
  | nil => simp only [Fo.len] at hn; omega
  | cons l s k r' =>
    rcases h with h | ⟨b, off, e, ⟨C, T, fz, p', n', c', h1, h2, h3, h4, h5, h6, h7, h8⟩, h9⟩
    · cases h
    · refine ⟨l, s, k, r', b, off, C, T, fz, p', n', c', rfl, e, h1, h2, h3, h4, h5, ⟨h6, h7, h8⟩, .inr ⟨b, off, e, ?_⟩, ?_⟩
      · rw [show off + (i + 1) * 3 = off + i * 3 + 3 by omega]; exact h9
      · simp only [Fo.len] at hn; omega
theorem FoR.done {i n : Nat} {r : Fo} (hn : i + r.len = n) (hi : ¬ i < n) : r = .nil := by
  cases r with
  | nil => rfl
  | cons l s k r' => simp only [Fo.len] at hn; omega
theorem idxO_run {P : Program} {ρ : Env} {t e : TypeId} {bytes : Nat} (ht : sliceOf P t = some (e, 3, bytes)) {x y : Operand} {o : Oper} {kd : IntKind} {p : Option Addr} (b q n c k : Nat) (hp : p = some ⟨b, q, none⟩) (ho : o.op = .indexAddr t x y) (hx : ev ρ x = .slice p n c) (hy : ev ρ y = .int kd (k : Int)) (hk : k < n) :
    ∀ w, (execOp (ev ρ) o).run P w = .ok (.value (.pointer (some ⟨b, q + k * 3, none⟩))) w := by
  subst hp; exact idxS_run ht b q n c k ho hx hy hk
theorem Fo.len_le : ∀ k : Fo, k.len ≤ k.cnt
  | .nil => Nat.le_refl _
  | .cons _ _ k r => by have := Fo.len_le r; simp only [Fo.len, Fo.cnt]; omega
end Go.Proofs.YtkkbkpneodecnaaDoor

namespace Go.Proofs.YtkkbkpneodecnaaDoor
open Go Go.RowKit
set_option linter.unusedVariables false
/-- A number's digits, the highest first. -/
def dgI : Nat → Nat → List UInt8
  | 0, _ => []
  | m + 1, n => if n = 0 then [] else dgI m (n / 256) ++ [UInt8.ofNat n]
def dg (n : Nat) : List UInt8 := dgI 8 n
def hd (f n : Nat) : List UInt8 := if n ≤ 55 then [UInt8.ofNat (f + n)] else UInt8.ofNat (f + 55 + (dg n).length) :: dg n
def frm (l : Bool) : Nat := if l then 192 else 128
def single (s : ByteArray) : Bool := decide (s.size = 1) && decide (by_ s 0 < 128)
def mixed (l : Bool) (s : ByteArray) (n : Nat) : Bool := if l then decide (s.size ≠ 0) else decide (n ≠ 0)
def wr1 (l : Bool) (s : ByteArray) (m : Nat) (ks : List UInt8) : List UInt8 := (if single s then [] else hd (frm l) (s.size + m)) ++ (tl s ++ ks)
def sz1 (l : Bool) (s : ByteArray) (m : Nat) : Nat := if single s then 1 else (hd (frm l) (s.size + m)).length + (s.size + m)
/-- Of all in a list: how many bytes; the bytes; the depth. -/
def szF : Fo → Nat
  | .nil => 0
  | .cons l s k r => sz1 l s (szF k) + szF r
def wrF : Fo → List UInt8
  | .nil => []
  | .cons l s k r => wr1 l s (szF k) (wrF k) ++ wrF r
def dp1 (l : Bool) (d : Nat) : Nat := if l then 1 + d else 0
def dpF : Fo → Nat
  | .nil => 0
  | .cons l s k r => max (dp1 l (dpF k)) (dpF r)
def pureF : Fo → Bool
  | .nil => true
  | .cons l s k r => (!mixed l s k.len && pureF k) && pureF r
def lf1 (l : Bool) (s : ByteArray) (k : Nat) (f : Nat → Option Nat) (room : Nat) : Option Nat := if room = 0 ∨ mixed l s k = true then none else f (room - 1)
def lfF : Fo → Nat → Option Nat
  | .nil, room => some room
  | .cons l s k r, room => (lf1 l s k.len (lfF k) room).bind (lfF r)
def lfV : Option Nat → Int
  | none => -1
  | some q => (q : Int)
theorem lfF_eq : ∀ (k : Fo) (room : Nat), lfF k room = if pureF k = true ∧ k.cnt ≤ room then some (room - k.cnt) else none
  | .nil, room => by simp [lfF, pureF, Fo.cnt]
  | .cons l s k r, room => by
    have h1 := lfF_eq k (room - 1)
    have e1 : pureF (.cons l s k r) = ((!mixed l s k.len && pureF k) && pureF r) := rfl
    have e2 : (Fo.cons l s k r).cnt = 1 + k.cnt + r.cnt := rfl
    rw [show lfF (.cons l s k r) room = (lf1 l s k.len (lfF k) room).bind (lfF r) from rfl]
    unfold lf1
    by_cases hr : room = 0
    · subst hr; rw [if_pos (Or.inl rfl), if_neg (by rw [e2]; omega)]; rfl
    · cases hm : mixed l s k.len with
      | true => rw [if_pos (Or.inr rfl), if_neg (by rw [e1, hm]; simp)]; rfl
      | false =>
        rw [if_neg (by simp [hr]), h1]
        cases hp : pureF k with
        | false => rw [if_neg (by simp), if_neg (by rw [e1, hp]; simp)]; rfl
        | true =>
          by_cases hc : k.cnt ≤ room - 1
          · rw [if_pos ⟨rfl, hc⟩, Option.bind_some, lfF_eq r]
            cases hq : pureF r with
            | false => rw [if_neg (by simp), if_neg (by rw [e1, hq]; simp)]
            | true =>
              by_cases hd : r.cnt ≤ room - 1 - k.cnt
              · rw [if_pos ⟨rfl, hd⟩, if_pos ⟨by rw [e1, hm, hp, hq]; rfl, by rw [e2]; omega⟩, e2]; congr 1; omega
              · rw [if_neg (by simp [hd]), if_neg (by rw [e2]; rintro ⟨_, h⟩; omega)]
          · rw [if_neg (by simp [hc]), if_neg (by rw [e2]; rintro ⟨_, h⟩; omega)]; rfl
theorem lfF_le {k : Fo} {room q : Nat} (h : lfF k room = some q) : q ≤ room := by
  rw [lfF_eq] at h; split at h
  · injection h with h; omega
  · cases h
theorem dgI_len : ∀ m n, (dgI m n).length ≤ m
  | 0, _ => Nat.le_refl _
  | m + 1, n => by unfold dgI; split; · simp
                   · simp; exact dgI_len m _
theorem dg_len (n : Nat) : (dg n).length ≤ 8 := dgI_len 8 n
theorem hd_len (f n : Nat) : 1 ≤ (hd f n).length ∧ (hd f n).length ≤ 9 := by
  unfold hd; have := dg_len n; split <;> simp <;> omega
theorem sz1_le (l : Bool) (s : ByteArray) (m : Nat) : sz1 l s m ≤ 9 + (s.size + m) := by
  unfold sz1; have := hd_len (frm l) (s.size + m); split <;> omega
theorem single_size {s : ByteArray} (h : single s = true) : s.size = 1 := by
  unfold single at h; simp only [Bool.and_eq_true, decide_eq_true_eq] at h; exact h.1
theorem sz_pos (l : Bool) (s : ByteArray) (m : Nat) : 1 ≤ sz1 l s m := by
  unfold sz1; have := hd_len (frm l) (s.size + m); split <;> omega
theorem size_ne {s : ByteArray} (h : ¬ s = ⟨#[]⟩) : s.size ≠ 0 := fun e => h (by
  obtain ⟨d⟩ := s
  have : d.size = 0 := e
  rw [Array.eq_empty_of_size_eq_zero this])
theorem lf1_le {l : Bool} {s : ByteArray} {n : Nat} {k : Fo} {room q : Nat} (h : lf1 l s n (lfF k) room = some q) : q ≤ room := by
  unfold lf1 at h; split at h
  · cases h
  · have := lfF_le h; omega
theorem lf1_zero {l : Bool} {s : ByteArray} {n : Nat} {f : Nat → Option Nat} {room : Nat} (h : room = 0) : lfV (lf1 l s n f room) = -1 := by unfold lf1; rw [if_pos (Or.inl h)]; rfl
theorem lf1_mixed {l : Bool} {s : ByteArray} {n : Nat} {f : Nat → Option Nat} {room : Nat} (h : mixed l s n = true) : lfV (lf1 l s n f room) = -1 := by unfold lf1; rw [if_pos (Or.inr h)]; rfl
theorem lf1_go {l : Bool} {s : ByteArray} {n : Nat} {f : Nat → Option Nat} {room : Nat} (h0 : room ≠ 0) (h : mixed l s n = false) : lf1 l s n f room = f (room - 1) := by unfold lf1; rw [if_neg (by simp [h0, h])]
theorem lfF_next {l : Bool} {s : ByteArray} {n : Nat} {k r : Fo} {q y : Nat} (hn : n = k.len) (h : lf1 l s n (lfF k) q = some y) : lfF (.cons l s k r) q = lfF r y := by
  subst hn; show (lf1 l s k.len (lfF k) q).bind (lfF r) = _; rw [h]; rfl
theorem lfF_stop {l : Bool} {s : ByteArray} {n : Nat} {k r : Fo} {q : Nat} (hn : n = k.len) (h : lf1 l s n (lfF k) q = none) : lfV (lfF (.cons l s k r) q) = -1 := by
  subst hn; show lfV ((lf1 l s k.len (lfF k) q).bind (lfF r)) = _; rw [h]; rfl
theorem shr0 {a : Nat} (h : a < 18446744073709551616) : Int.fdiv (a : Int) (2 ^ 0) = (a : Int) := by rw [Int.pow_zero, Int.fdiv_one]
/-- A bound of how many bytes. -/
def wtF : Fo → Nat
  | .nil => 0
  | .cons l s k r => 9 + s.size + wtF k + wtF r
theorem szF_le : ∀ k : Fo, szF k ≤ wtF k
  | .nil => Nat.le_refl _
  | .cons l s k r => by
    have h1 := szF_le k; have h2 := szF_le r; have h3 := sz1_le l s (szF k)
    simp only [szF, wtF]; omega
theorem FoAt.wt {B : Nat} {w : World} : ∀ {k : Fo} {b off : Nat}, FoAt B w k b off → wtF k ≤ k.cnt * 140737488355337
  | .nil, _, _, _ => Nat.zero_le _
  | .cons l s k r, b, off, ⟨⟨C, T, fz, p, n, c, h1, h2, h3, h4, h5, h6, h7, h8⟩, h9⟩ => by
    have hr := FoAt.wt h9
    have hk : wtF k ≤ k.cnt * 140737488355337 := by
      rcases h8 with rfl | ⟨b', o', e, h⟩
      · exact Nat.zero_le _
      · exact FoAt.wt h
    simp only [wtF, Fo.cnt]; omega
theorem SlAt.wt {B : Nat} {w : World} {p : Option Addr} {n : Nat} {k : Fo} (h : SlAt B w p n k) : wtF k ≤ k.cnt * 140737488355337 := by
  rcases h.2.2 with rfl | ⟨b, o, e, h⟩
  · exact Nat.zero_le _
  · exact h.wt
theorem hd_small {f : Nat} (b : BitVec 8) (hb : b.toNat = f) (n : Nat) (h : n ≤ 55) (hf : f ≤ 192) : strOfNums [((BitVec.toNat (b + BitVec.ofNat 8 n) : Nat) : Int)] = strB (hd f n) := by
  unfold hd; rw [if_pos h]
  show (⟨#[UInt8.ofNat (Int.toNat _)]⟩ : ByteArray) = ⟨#[UInt8.ofNat (f + n)]⟩
  rw [Int.toNat_natCast, BitVec.toNat_add, BitVec.toNat_ofNat, hb]
  rw [show (f + n % 2 ^ 8) % 2 ^ 8 = f + n by omega]
theorem hd_big {f : Nat} (b : BitVec 8) (hb : b.toNat = f + 55) (n : Nat) (h : ¬ n ≤ 55) (hf : f ≤ 192) : strOfNums [((BitVec.toNat (b + BitVec.ofNat 8 (ByteArray.size (strB (dg n)))) : Nat) : Int)] ++ strB (dg n) = strB (hd f n) := by
  have hl := dg_len n
  have e : UInt8.ofNat (Int.toNat ((BitVec.toNat (b + BitVec.ofNat 8 (ByteArray.size (strB (dg n)))) : Nat) : Int)) = UInt8.ofNat (f + 55 + (dg n).length) := by
    rw [Int.toNat_natCast, BitVec.toNat_add, BitVec.toNat_ofNat, hb, strB_size]
    rw [show (f + 55 + (dg n).length % 2 ^ 8) % 2 ^ 8 = f + 55 + (dg n).length by omega]
  apply tl_inj
  rw [tl_add]
  show [UInt8.ofNat _] ++ dg n = hd f n
  unfold hd; rw [if_neg h, e]; rfl
theorem wrF_len : ∀ k : Fo, (wrF k).length ≤ wtF k
  | .nil => Nat.le_refl _
  | .cons l s k r => by
    have h1 := wrF_len k; have h2 := wrF_len r
    simp only [wrF, wtF, wr1, List.length_append, tl_len]
    split
    · simp only [List.length_nil]; omega
    · have := hd_len (frm l) (s.size + szF k); omega
theorem pure_wt : ∀ {k : Fo}, pureF k = true → wtF k ≤ szF k + 9 * k.cnt
  | .nil, _ => Nat.zero_le _
  | .cons l s k r, h => by
    simp only [pureF, Bool.and_eq_true, Bool.not_eq_true'] at h
    have h1 := pure_wt h.1.2; have h2 := pure_wt h.2
    simp only [wtF, szF, Fo.cnt, sz1]
    split
    · rename_i hs
      have hz := single_size hs
      have hk : k = .nil := by
        have hm := h.1.1
        unfold mixed at hm
        cases l with
        | true => simp [hz] at hm
        | false =>
          cases k with
          | nil => rfl
          | cons => simp [Fo.len] at hm
      subst hk
      simp only [wtF, Fo.cnt]; omega
    · have := hd_len (frm l) (s.size + szF k); omega
theorem opt_cases {α : Type} (x : Option α) : x = none ∨ ∃ y, x = some y := by cases x with
  | none => exact .inl rfl
  | some y => exact .inr ⟨y, rfl⟩
theorem dpF_le : ∀ k : Fo, dpF k ≤ k.cnt
  | .nil => Nat.le_refl _
  | .cons l s k r => by
    have h1 := dpF_le k; have h2 := dpF_le r
    simp only [dpF, Fo.cnt, dp1]; split <;> omega
theorem cut1_size (t : ByteArray) (h : t.size ≠ 0) : (t.extract 1 t.size).size = t.size - 1 := by simp
theorem tl_cut1 (t : ByteArray) : tl (t.extract 1 t.size) = (tl t).drop 1 := by
  rw [tl_extract, List.take_of_length_le (by rw [tl_len]; exact Nat.le_refl _)]
theorem by0_eq {t : ByteArray} (h : t.size ≠ 0) : ∃ l, tl t = UInt8.ofNat (by_ t 0) :: l := by
  have hl : (tl t).length ≠ 0 := by rw [tl_len]; exact h
  unfold by_
  cases e : tl t with
  | nil => rw [e] at hl; simp at hl
  | cons x l => exact ⟨l, by simp⟩
theorem trim_next (t : ByteArray) (h : t.size ≠ 0) (h0 : by_ t 0 = 0) : (tl (t.extract 1 t.size)).dropWhile (· == 0) = (tl t).dropWhile (· == 0) := by
  obtain ⟨l, e⟩ := by0_eq h
  rw [tl_cut1, e, h0]; rfl
theorem trim_empty {t : ByteArray} (h : t = ⟨#[]⟩) : strB ((tl t).dropWhile (· == 0)) = t := by subst h; rfl
theorem trim_done (t : ByteArray) (h : t.size = 0 ∨ by_ t 0 ≠ 0) : strB ((tl t).dropWhile (· == 0)) = t := by
  rcases h with h | h
  · exact trim_empty (Decidable.not_not.1 fun q => size_ne q h)
  · by_cases h2 : t.size = 0
    · exact trim_empty (Decidable.not_not.1 fun q => size_ne q h2)
    · obtain ⟨l, e⟩ := by0_eq h2
      have hb := by_lt t 0
      have hne : (UInt8.ofNat (by_ t 0) == 0) = false := by
        rw [beq_eq_false_iff_ne]; intro q
        have := congrArg UInt8.toNat q
        rw [UInt8.toNat_ofNat_of_lt' (by simpa using hb)] at this
        exact h this
      rw [e, List.dropWhile_cons, hne]
      show strB (UInt8.ofNat (by_ t 0) :: l) = t
      rw [← e]; exact strB_tl t
theorem dropW_nil : ∀ {l : List UInt8}, (∀ x ∈ l, (x == 0) = true) → l.dropWhile (· == 0) = []
  | [], _ => rfl
  | x :: l, h => by rw [List.dropWhile_cons, if_pos (h x (List.mem_cons_self ..))]; exact dropW_nil fun y hy => h y (List.mem_cons_of_mem _ hy)
/-- All of m digits. -/
def beI : Nat → Nat → List UInt8
  | 0, _ => []
  | m + 1, n => beI m (n / 256) ++ [UInt8.ofNat n]
theorem beI_zero : ∀ m, (beI m 0).dropWhile (· == 0) = [] ∧ ∀ x ∈ beI m 0, (x == 0) = true
  | 0 => ⟨rfl, fun _ h => nomatch h⟩
  | m + 1 => by
    have h := (beI_zero m).2
    have h2 : ∀ x ∈ beI (m + 1) 0, (x == 0) = true := by
      intro x hx
      simp only [beI, Nat.zero_div, List.mem_append, List.mem_singleton] at hx
      rcases hx with hx | rfl
      · exact h x hx
      · rfl
    exact ⟨dropW_nil h2, h2⟩
theorem dgI_zero (m : Nat) : dgI m 0 = [] := by cases m <;> rfl
theorem drop_append {l r : List UInt8} (h : l.dropWhile (· == 0) ≠ []) : (l ++ r).dropWhile (· == 0) = l.dropWhile (· == 0) ++ r := by
  induction l with
  | nil => exact absurd rfl h
  | cons x l ih =>
    rw [List.cons_append, List.dropWhile_cons, List.dropWhile_cons]
    split
    · rename_i hx; rw [List.dropWhile_cons, if_pos hx] at h; exact ih h
    · rfl
theorem beI_drop : ∀ m n, n < 256 ^ m → (beI m n).dropWhile (· == 0) = dgI m n
  | 0, n, h => rfl
  | m + 1, n, h => by
    have hlt : n / 256 < 256 ^ m := by rw [Nat.pow_succ] at h; omega
    have ih := beI_drop m (n / 256) hlt
    unfold dgI
    split
    · rename_i h0; subst h0; exact (beI_zero (m + 1)).1
    · rename_i h0
      show (beI m (n / 256) ++ [UInt8.ofNat n]).dropWhile (· == 0) = _
      by_cases hq : n / 256 = 0
      · rw [hq, dgI_zero, List.dropWhile_append, (beI_zero m).1]
        have hx : (UInt8.ofNat n == 0) = false := by
          rw [beq_eq_false_iff_ne]; intro q
          have := congrArg UInt8.toNat q
          rw [UInt8.toNat_ofNat_of_lt' (by simp only [UInt8.size]; omega)] at this
          exact h0 this
        simp [hx]
      · rw [drop_append, ih]
        rw [ih]; intro q
        cases m with
        | zero => simp at hlt; omega
        | succ m => unfold dgI at q; rw [if_neg hq] at q; simp at q
def dgB (n d : Nat) : BitVec 8 := BitVec.ofNat 8 (n / d)
theorem dgB_conv (n d : Nat) : Value.int .u8 (IntKind.u8.wrap (((n / d : Nat) : Int))) = .int .u8 ((BitVec.toNat (dgB n d) : Nat) : Int) := bv_ofNat_u8 (n / d)
theorem dgB_conv1 (n : Nat) : Value.int .u8 (IntKind.u8.wrap (((n : Nat) : Int))) = .int .u8 ((BitVec.toNat (dgB n 1) : Nat) : Int) := by
  have h := dgB_conv n 1; rw [Nat.div_one] at h; exact h
theorem dgB_ofNat (n d : Nat) : UInt8.ofNat (Int.toNat ((BitVec.toNat (dgB n d) : Nat) : Int)) = UInt8.ofNat (n / d) := by
  rw [Int.toNat_natCast]
  apply UInt8.toNat_inj.1
  rw [UInt8.toNat_ofNat', UInt8.toNat_ofNat']
  unfold dgB; rw [BitVec.toNat_ofNat]; omega
theorem be_list (n : Nat) : tl (strOfNums [((BitVec.toNat (dgB n 72057594037927936) : Nat) : Int), ((BitVec.toNat (dgB n 281474976710656) : Nat) : Int), ((BitVec.toNat (dgB n 1099511627776) : Nat) : Int), ((BitVec.toNat (dgB n 4294967296) : Nat) : Int), ((BitVec.toNat (dgB n 16777216) : Nat) : Int), ((BitVec.toNat (dgB n 65536) : Nat) : Int), ((BitVec.toNat (dgB n 256) : Nat) : Int), ((BitVec.toNat (dgB n 1) : Nat) : Int)]) = beI 8 n := by
  unfold tl
  rw [strOfNums_data]
  simp only [List.map_cons, List.map_nil, dgB_ofNat, beI, List.nil_append, List.append_assoc, List.cons_append, Nat.div_div_eq_div_mul, Nat.div_one]
theorem be_drop (n : Nat) (h : n < 18446744073709551616) : (tl (strOfNums [((BitVec.toNat (dgB n 72057594037927936) : Nat) : Int), ((BitVec.toNat (dgB n 281474976710656) : Nat) : Int), ((BitVec.toNat (dgB n 1099511627776) : Nat) : Int), ((BitVec.toNat (dgB n 4294967296) : Nat) : Int), ((BitVec.toNat (dgB n 16777216) : Nat) : Int), ((BitVec.toNat (dgB n 65536) : Nat) : Int), ((BitVec.toNat (dgB n 256) : Nat) : Int), ((BitVec.toNat (dgB n 1) : Nat) : Int)])).dropWhile (· == 0) = dg n := by
  rw [be_list]; exact beI_drop 8 n h
/-- What Encode answers: the bytes, and the error's number. -/
def encS (l : Bool) (s : ByteArray) (n : Nat) (k : Fo) : ByteArray × Nat :=
  match lf1 l s n (lfF k) 4000 with
  | none => (⟨#[]⟩, 1)
  | some _ => if 8 < dp1 l (dpF k) then (⟨#[]⟩, 5) else if 4000 < sz1 l s (szF k) then (⟨#[]⟩, 2) else (strB (wr1 l s (szF k) (wrF k)), 0)
def encV (x : ByteArray × Nat) : Value := .tuple #[.string x.1, .int .i64 ((x.2 : Nat) : Int)]
section
variable {l : Bool} {s : ByteArray} {n y : Nat} {k : Fo}
theorem encS_1 (h : lf1 l s n (lfF k) 4000 = none) : encV (encS l s n k) = .tuple #[.string ⟨#[]⟩, .int .i64 1] := by unfold encS; rw [h]; rfl
theorem encS_5 (h : lf1 l s n (lfF k) 4000 = some y) (hd : 8 < dp1 l (dpF k)) : encV (encS l s n k) = .tuple #[.string ⟨#[]⟩, .int .i64 5] := by unfold encS; rw [h]; simp only []; rw [if_pos hd]; rfl
theorem encS_2 (h : lf1 l s n (lfF k) 4000 = some y) (hd : ¬ 8 < dp1 l (dpF k)) (hz : 4000 < sz1 l s (szF k)) : encV (encS l s n k) = .tuple #[.string ⟨#[]⟩, .int .i64 2] := by unfold encS; rw [h]; simp only []; rw [if_neg hd, if_pos hz]; rfl
theorem encS_0 (h : lf1 l s n (lfF k) 4000 = some y) (hd : ¬ 8 < dp1 l (dpF k)) (hz : ¬ 4000 < sz1 l s (szF k)) : encV (encS l s n k) = .tuple #[.string (strB (wr1 l s (szF k) (wrF k))), .int .i64 0] := by unfold encS; rw [h]; simp only []; rw [if_neg hd, if_neg hz]; rfl
theorem lf1_some {room : Nat} (h : lf1 l s n (lfF k) room = some y) : mixed l s n = false ∧ pureF k = true ∧ k.cnt < room := by
  unfold lf1 at h
  split at h
  · cases h
  · rename_i h0
    rw [lfF_eq] at h
    split at h
    · rename_i h1
      refine ⟨?_, h1.1, by omega⟩
      cases hm : mixed l s n with
      | true => exact absurd (.inr hm) h0
      | false => rfl
    · cases h
theorem mixed_single (hm : mixed l s n = false) (h : single s = true) : n = 0 := by
  have hz := single_size h
  unfold mixed at hm
  cases l with
  | true => simp [hz] at hm
  | false => simpa using hm
theorem len_zero {k : Fo} (h : k.len = 0) : k = .nil := by cases k with
  | nil => rfl
  | cons => simp [Fo.len] at h
theorem wr1_sz (hm : mixed l s k.len = false) (hk : (wrF k).length = szF k) : (wr1 l s (szF k) (wrF k)).length = sz1 l s (szF k) := by
  unfold wr1 sz1
  rw [List.length_append, List.length_append, tl_len, hk]
  split
  · rename_i h
    have := len_zero (mixed_single hm h)
    subst this
    have hz := single_size h
    simp only [szF, List.length_nil]; omega
  · omega
theorem pure_len : ∀ {k : Fo}, pureF k = true → (wrF k).length = szF k
  | .nil, _ => rfl
  | .cons l s k r, h => by
    simp only [pureF, Bool.and_eq_true, Bool.not_eq_true'] at h
    simp only [wrF, szF, List.length_append]
    rw [wr1_sz h.1.1 (pure_len h.1.2), pure_len h.2]
theorem wr1_len (hm : mixed l s n = false) (hp : pureF k = true) (hn : n = k.len) : 0 < (wr1 l s (szF k) (wrF k)).length ∧ (wr1 l s (szF k) (wrF k)).length ≤ sz1 l s (szF k) := by
  subst hn
  rw [wr1_sz hm (pure_len hp)]
  exact ⟨sz_pos l s (szF k), Nat.le_refl _⟩
theorem pure_wt1 (hm : mixed l s n = false) (hp : pureF k = true) (hz : sz1 l s (szF k) ≤ 4000) (hn : n = k.len) : s.size + wtF k ≤ 4000 + 9 * k.cnt := by
  have h1 := pure_wt hp
  unfold sz1 at hz
  split at hz
  · rename_i h
    have h2 := mixed_single hm h
    have := len_zero (hn ▸ h2)
    subst this
    have := single_size h
    simp only [wtF]; omega
  · omega
end
theorem mixed_t {s : ByteArray} {n : Nat} {b : Bool} (h : decide (s.size ≠ 0) = b) : b = mixed true s n := h.symm
theorem mixed_f {s : ByteArray} {n : Nat} {b : Bool} (h : decide (n ≠ 0) = b) : b = mixed false s n := h.symm
end Go.Proofs.YtkkbkpneodecnaaDoor

namespace Go.Proofs.YtkkbkpneodecnaaDoor
open Go Go.RowKit
set_option linter.unusedVariables false
def firstC : Array Value := (Go.Pinned.utf8FirstZ.map fun n => Value.int .u8 ((n : Nat) : Int)).toArray
def rangesC : Array Value := #[.int .u8 128, .int .u8 191, .int .u8 160, .int .u8 191, .int .u8 128, .int .u8 159, .int .u8 144, .int .u8 191, .int .u8 128, .int .u8 143, .int .u8 0, .int .u8 0, .int .u8 0, .int .u8 0, .int .u8 0, .int .u8 0, .int .u8 0, .int .u8 0, .int .u8 0, .int .u8 0, .int .u8 0, .int .u8 0, .int .u8 0, .int .u8 0, .int .u8 0, .int .u8 0, .int .u8 0, .int .u8 0, .int .u8 0, .int .u8 0, .int .u8 0, .int .u8 0]
/-- The settled world, the tables laid. -/
noncomputable def laidWorld (os : Os) : World :=
  let w0 := World.holding Tryd.prog os ⟨#[], #[], []⟩
  { w0 with heap := (w0.heap.modify 0 fun
      | .cells _ t frozen => .cells firstC t frozen
      | o => o).modify 1 fun
      | .cells _ t frozen => .cells rangesC t frozen
      | o => o }
abbrev laidL : List (String × DataW Unit) := [("unicode/utf8.acceptRanges", Rows.laid_unicode_utf8_acceptRanges), ("unicode/utf8.first", Rows.laid_unicode_utf8_first)]
theorem laidWorld_met (os : Os) (args : Array Value) : laidMetH Tryd.prog [("unicode/utf8.acceptRanges", Rows.laid_unicode_utf8_acceptRanges), ("unicode/utf8.first", Rows.laid_unicode_utf8_first)] ((laidWorld os).forCall (fun _ _ => 0) ⟨#[], args, []⟩).memory := by
  rw [MakeChecks.laidMetH_plain _ _ _ kr]
  exact laidMet_of_run' 8 kr kr
end Go.Proofs.YtkkbkpneodecnaaDoor

namespace Go.Proofs.YtkkbkpneodecnaaDoor
open Go Go.RowKit
set_option linter.unusedVariables false
/-- Lists of nodes: the first one's own, what is in it; the others. -/
inductive Fr (α : Type)
  | nil
  | cons (a : α) (k r : Fr α)
/-- A shape: how many cells, those but the last, what is known of each; how many at most. -/
structure Sh (α : Type) where
  K : Nat
  hd : α → List Value
  ok : α → Prop
  mx : Nat
  len : ∀ a, (hd a).length + 1 = K
  one : ∀ a, ∀ u ∈ hd a, u.oneCell' = true
section
variable {α : Type} {S : Sh α}
def Fr.len : Fr α → Nat
  | .nil => 0
  | .cons _ _ r => r.len + 1
/-- The one at a place, or none. -/
def Fr.at : Fr α → Nat → Option (α × Fr α)
  | .nil, _ => none
  | .cons a k _, 0 => some (a, k)
  | .cons _ _ r, i + 1 => r.at i
theorem Fr.at_none : ∀ {k : Fr α} {i : Nat}, k.len ≤ i → k.at i = none
  | .nil, _, _ => rfl
  | .cons _ _ r, 0, h => by simp only [Fr.len] at h; omega
  | .cons _ _ r, i + 1, h => Fr.at_none (k := r) (by simp only [Fr.len] at h; omega)
def FrAt (S : Sh α) (B : Nat) (w : World) : Fr α → Nat → Nat → Prop
  | .nil, _, _ => True
  | .cons a k r, b, off => (∃ (C : Array Value) (T : TypeId) (fz : Nat × Nat) (p : Option Addr) (n c : Nat), b < B ∧ w.heap[b]? = some (.cells C T fz) ∧ off + S.K ≤ C.size ∧
      C.extract off (off + S.K) = (S.hd a ++ [Value.slice p n c]).toArray ∧ S.ok a ∧ n = k.len ∧ n ≤ S.mx ∧ (k = .nil ∨ ∃ b' off', p = some ⟨b', off', none⟩ ∧ FrAt S B w k b' off')) ∧ FrAt S B w r b (off + S.K)
/-- The list lies where a slice says. -/
def SlR (S : Sh α) (B : Nat) (w : World) (p : Option Addr) (n : Nat) (k : Fr α) : Prop := n = k.len ∧ n ≤ S.mx ∧ (k = .nil ∨ ∃ b off, p = some ⟨b, off, none⟩ ∧ FrAt S B w k b off)
/-- What is left of it from element i on. -/
def FrR (S : Sh α) (B : Nat) (w : World) (p : Option Addr) (i : Nat) (r : Fr α) : Prop := r = .nil ∨ ∃ b off, p = some ⟨b, off, none⟩ ∧ FrAt S B w r b (off + i * S.K)
theorem FrAt.up {B B' : Nat} {w w' : World} (hb : Below B w w') (hB : B ≤ B') : ∀ {k : Fr α} {b off : Nat}, FrAt S B w k b off → FrAt S B' w' k b off
  | .nil, _, _, _ => trivial
  | .cons a k r, b, off, ⟨⟨C, T, fz, p, n, c, h1, h2, h3, h4, h5, h6, h7, h8⟩, h9⟩ =>
    ⟨⟨C, T, fz, p, n, c, Nat.lt_of_lt_of_le h1 hB, by rw [hb.block b h1]; exact h2, h3, h4, h5, h6, h7, h8.imp id fun ⟨b', o', e, h⟩ => ⟨b', o', e, FrAt.up hb hB h⟩⟩, FrAt.up hb hB h9⟩
theorem SlR.up {B B' : Nat} {w w' : World} {p : Option Addr} {n : Nat} {k : Fr α} (h : SlR S B w p n k) (hb : Below B w w') (hB : B ≤ B') : SlR S B' w' p n k :=
  ⟨h.1, h.2.1, h.2.2.imp id fun ⟨b, o, e, h⟩ => ⟨b, o, e, h.up hb hB⟩⟩
theorem SlR.call {w0 w : World} {p : Option Addr} {n : Nat} {k : Fr α} (h : SlR S w0.heap.size w0 p n k) (hb : Below w0.heap.size w0 w) : SlR S w.heap.size w p n k := h.up hb hb.size
theorem SlR.nil (B : Nat) (w : World) (p : Option Addr) : SlR S B w p 0 .nil := ⟨rfl, by omega, .inl rfl⟩
theorem SlR.zero {B : Nat} {w : World} {p : Option Addr} {n : Nat} {k : Fr α} (h : SlR S B w p n k) (h0 : n = 0) : k = .nil := by
  cases k with
  | nil => rfl
  | cons a k r => have := h.1; simp only [Fr.len] at this; omega
theorem SlR.start {B : Nat} {w : World} {p : Option Addr} {n : Nat} {k : Fr α} (h : SlR S B w p n k) : FrR S B w p 0 k :=
  h.2.2.imp id fun ⟨b, o, e, h⟩ => ⟨b, o, e, by rw [Nat.zero_mul, Nat.add_zero]; exact h⟩
theorem FrR.open {B : Nat} {w : World} {p : Option Addr} {i n : Nat} {r : Fr α} (h : FrR S B w p i r) (hn : i + r.len = n) (hi : i < n) :
    ∃ a k r' b off C T fz p' n' c', r = .cons a k r' ∧ p = some ⟨b, off, none⟩ ∧ b < B ∧ w.heap[b]? = some (.cells C T fz) ∧ off + i * S.K + S.K ≤ C.size ∧
      C.extract (off + i * S.K) (off + i * S.K + S.K) = (S.hd a ++ [Value.slice p' n' c']).toArray ∧ S.ok a ∧ SlR S B w p' n' k ∧ FrR S B w p (i + 1) r' ∧ i + 1 + r'.len = n := by
  cases r with
  | nil => simp only [Fr.len] at hn; omega
  | cons a k r' =>
    rcases h with h | ⟨b, off, e, ⟨C, T, fz, p', n', c', h1, h2, h3, h4, h5, h6, h7, h8⟩, h9⟩
    · cases h
    · refine ⟨a, k, r', b, off, C, T, fz, p', n', c', rfl, e, h1, h2, h3, h4, h5, ⟨h6, h7, h8⟩, .inr ⟨b, off, e, ?_⟩, ?_⟩
      · rw [show off + (i + 1) * S.K = off + i * S.K + S.K by rw [Nat.succ_mul]; omega]; exact h9
      · simp only [Fr.len] at hn; omega
theorem FrR.done {i n : Nat} {r : Fr α} (hn : i + r.len = n) (hi : ¬ i < n) : r = .nil := by
  cases r with
  | nil => rfl
  | cons a k r' => simp only [Fr.len] at hn; omega
/-- The element at a place. -/
theorem FrAt.at {B : Nat} {w : World} : ∀ {k : Fr α} {b off i : Nat} {a : α} {q : Fr α}, FrAt S B w k b off → k.at i = some (a, q) → ∃ C T fz p n c, b < B ∧ w.heap[b]? = some (.cells C T fz) ∧ off + i * S.K + S.K ≤ C.size ∧
      C.extract (off + i * S.K) (off + i * S.K + S.K) = (S.hd a ++ [Value.slice p n c]).toArray ∧ S.ok a ∧ SlR S B w p n q
  | .cons a0 k0 r, b, off, 0, a, q, ⟨⟨C, T, fz, p, n, c, h1, h2, h3, h4, h5, h6, h7, h8⟩, h9⟩, hi => by
    obtain ⟨rfl, rfl⟩ : a0 = a ∧ k0 = q := by simp only [Fr.at, Option.some.injEq, Prod.mk.injEq] at hi; exact hi
    rw [Nat.zero_mul, Nat.add_zero]
    exact ⟨C, T, fz, p, n, c, h1, h2, h3, h4, h5, h6, h7, h8⟩
  | .cons a0 k0 r, b, off, i + 1, a, q, ⟨_, h9⟩, hi => by
    obtain ⟨C, T, fz, p, n, c, h⟩ := FrAt.at h9 hi
    rw [show off + S.K + i * S.K = off + (i + 1) * S.K by rw [Nat.succ_mul]; omega] at h
    exact ⟨C, T, fz, p, n, c, h⟩
theorem Fr.at_some : ∀ {k : Fr α} {i : Nat}, i < k.len → ∃ a q, k.at i = some (a, q)
  | .cons a k r, 0, _ => ⟨a, k, rfl⟩
  | .cons a k r, i + 1, h => Fr.at_some (k := r) (by simp only [Fr.len] at h; omega)
/-! ### In blocks of a list -/
def LyR (S : Sh α) (T : List (Nat × Obj)) : Fr α → Nat → Nat → Prop
  | .nil, _, _ => True
  | .cons a k r, b, off => (∃ (C : Array Value) (ty : TypeId) (fz : Nat × Nat) (p : Option Addr) (n c : Nat), (b, Obj.cells C ty fz) ∈ T ∧ off + S.K ≤ C.size ∧
      C.extract off (off + S.K) = (S.hd a ++ [Value.slice p n c]).toArray ∧ S.ok a ∧ n = k.len ∧ n ≤ S.mx ∧ (k = .nil ∨ ∃ b' off', p = some ⟨b', off', none⟩ ∧ LyR S T k b' off')) ∧ LyR S T r b (off + S.K)
def RIn (S : Sh α) (T : List (Nat × Obj)) (p : Option Addr) (n : Nat) (k : Fr α) : Prop := n = k.len ∧ n ≤ S.mx ∧ (k = .nil ∨ ∃ b off, p = some ⟨b, off, none⟩ ∧ LyR S T k b off)
theorem LyR.mono {T T' : List (Nat × Obj)} (h : ∀ e ∈ T, e ∈ T') : ∀ {k : Fr α} {b off : Nat}, LyR S T k b off → LyR S T' k b off
  | .nil, _, _, _ => trivial
  | .cons a k r, b, off, ⟨⟨C, ty, fz, p, n, c, h1, h2, h3, h4, h5, h6, h7⟩, h8⟩ => ⟨⟨C, ty, fz, p, n, c, h _ h1, h2, h3, h4, h5, h6, h7.imp id fun ⟨b', o', e, q⟩ => ⟨b', o', e, LyR.mono h q⟩⟩, LyR.mono h h8⟩
theorem RIn.mono {T T' : List (Nat × Obj)} {p : Option Addr} {n : Nat} {k : Fr α} (hs : RIn S T p n k) (h : ∀ e ∈ T, e ∈ T') : RIn S T' p n k :=
  ⟨hs.1, hs.2.1, hs.2.2.imp id fun ⟨b, o, e, q⟩ => ⟨b, o, e, q.mono h⟩⟩
theorem RIn.none (T : List (Nat × Obj)) (p : Option Addr) : RIn S T p 0 .nil := ⟨rfl, by omega, .inl rfl⟩
theorem LyR.at {B : Nat} {w0 w : World} {l T : List (Nat × Obj)} (hS : St B w0 w l) (h : ∀ e ∈ T, e ∈ l) : ∀ {k : Fr α} {b off : Nat}, LyR S T k b off → FrAt S w.heap.size w k b off
  | .nil, _, _, _ => trivial
  | .cons a k r, b, off, ⟨⟨C, ty, fz, p, n, c, h1, h2, h3, h4, h5, h6, h7⟩, h8⟩ =>
    have hh := (hS.own _ (h _ h1)).2
    ⟨⟨C, ty, fz, p, n, c, lt_of_heap hh, hh, h2, h3, h4, h5, h6, h7.imp id fun ⟨b', o', e, q⟩ => ⟨b', o', e, LyR.at hS h q⟩⟩, LyR.at hS h h8⟩
theorem RIn.at {B : Nat} {w0 w : World} {l T : List (Nat × Obj)} {p : Option Addr} {n : Nat} {k : Fr α} (hs : RIn S T p n k) (hS : St B w0 w l) (h : ∀ e ∈ T, e ∈ l) : SlR S w.heap.size w p n k :=
  ⟨hs.1, hs.2.1, hs.2.2.imp id fun ⟨b, o, e, q⟩ => ⟨b, o, e, q.at hS h⟩⟩
/-! ### Rows of such structs -/
structure El (α : Type) where
  a : α
  p : Option Addr
  n : Nat
  c : Nat
  k : Fr α
def El.cs (S : Sh α) (x : El α) : List Value := S.hd x.a ++ [Value.slice x.p x.n x.c]
def cellsE (S : Sh α) : List (El α) → List Value
  | [] => []
  | x :: r => x.cs S ++ cellsE S r
def toFr : List (El α) → Fr α
  | [] => .nil
  | x :: r => .cons x.a x.k (toFr r)
theorem toFr_len : ∀ L : List (El α), (toFr L).len = L.length
  | [] => rfl
  | x :: r => by simp only [toFr, Fr.len, List.length_cons, toFr_len r]
theorem El.cs_len (x : El α) : (x.cs S).length = S.K := by
  unfold El.cs; rw [List.length_append]; exact S.len x.a
theorem El.cs_one (x : El α) : ∀ u ∈ x.cs S, u.oneCell' = true := fun u hu => by
  rcases List.mem_append.1 hu with h | h
  · exact S.one x.a u h
  · obtain rfl := List.mem_singleton.1 h; rfl
theorem cellsE_len : ∀ L : List (El α), (cellsE S L).length = L.length * S.K
  | [] => by simp [cellsE]
  | x :: r => by simp only [cellsE, List.length_append, cellsE_len r, El.cs_len, List.length_cons, Nat.succ_mul]; omega
theorem cellsE_snoc (x : El α) : ∀ L : List (El α), cellsE S (L ++ [x]) = cellsE S L ++ x.cs S
  | [] => by simp [cellsE]
  | y :: r => by simp only [List.cons_append, cellsE, cellsE_snoc x r, List.append_assoc]
theorem cellsE_append : ∀ L M : List (El α), cellsE S (L ++ M) = cellsE S L ++ cellsE S M
  | [], M => by simp [cellsE]
  | y :: r, M => by simp only [List.cons_append, cellsE, cellsE_append r M, List.append_assoc]
theorem cellsE_one : ∀ L : List (El α), ∀ u ∈ cellsE S L, u.oneCell' = true
  | [], u, h => by simp [cellsE] at h
  | x :: r, u, h => by
    rcases List.mem_append.1 h with q | q
    · exact x.cs_one u q
    · exact cellsE_one r u q
theorem cellsE_get : ∀ (L : List (El α)) (i : Nat) (x : El α), L[i]? = some x → ∀ j, j < S.K → (cellsE S L)[i * S.K + j]? = (x.cs S)[j]?
  | y :: r, 0, x, h, j, hj => by
    obtain rfl : y = x := by simpa using h
    rw [Nat.zero_mul, Nat.zero_add]; unfold cellsE
    rw [List.getElem?_append_left (by rw [El.cs_len]; exact hj)]
  | y :: r, i + 1, x, h, j, hj => by
    unfold cellsE
    rw [List.getElem?_append_right (by rw [El.cs_len, Nat.succ_mul]; omega), El.cs_len, show (i + 1) * S.K + j - S.K = i * S.K + j by rw [Nat.succ_mul]; omega]
    exact cellsE_get r i x (by simpa using h) j hj
/-- An element's cells, cut out. -/
theorem exE {C : Array Value} {o : Nat} {x : List Value} {K : Nat} (hl : x.length = K) (h : ∀ j, j < K → C[o + j]? = x[j]?) (h0 : 0 < K) : o + K ≤ C.size ∧ C.extract o (o + K) = x.toArray := by
  have hz : o + K ≤ C.size := by
    have h1 := h (K - 1) (by omega)
    rw [List.getElem?_eq_getElem (by omega)] at h1
    obtain ⟨h2, _⟩ := Array.getElem?_eq_some_iff.1 h1
    omega
  refine ⟨hz, ?_⟩
  apply Array.ext_getElem?
  intro j
  have e : x.toArray[j]? = x[j]? := by simp
  rw [Array.getElem?_extract, e]
  split
  · rename_i hj
    exact h j (by omega)
  · rename_i hj
    rw [List.getElem?_eq_none (by omega)]
theorem Sh.pos (S : Sh α) (a : α) : 0 < S.K := by have := S.len a; omega
theorem Rw.atE {cur : Array Value} {cap n : Nat} {L : List (El α)} (h : Rw S.K cur cap n (cellsE S L)) {i : Nat} {x : El α} (hx : L[i]? = some x) : i * S.K + S.K ≤ cur.size ∧ cur.extract (i * S.K) (i * S.K + S.K) = (x.cs S).toArray := by
  have hl := h.len
  rw [cellsE_len] at hl
  have hi : i < L.length := (List.getElem?_eq_some_iff.1 hx).1
  refine exE x.cs_len (fun j hj => ?_) (S.pos x.a)
  rw [h.get _ (by
    rw [← hl]
    have : i * S.K + S.K ≤ L.length * S.K := by rw [← Nat.succ_mul]; exact Nat.mul_le_mul_right _ hi
    omega), cellsE_get L i x hx j hj]
def AllE (S : Sh α) (T : List (Nat × Obj)) (L : List (El α)) : Prop := ∀ x ∈ L, RIn S T x.p x.n x.k ∧ S.ok x.a
theorem AllE.mono {T T' : List (Nat × Obj)} {M : List (El α)} (h : AllE S T M) (hs : ∀ e ∈ T, e ∈ T') : AllE S T' M := fun x hx => ⟨(h x hx).1.mono hs, (h x hx).2⟩
theorem AllE.snoc {T : List (Nat × Obj)} {M : List (El α)} {x : El α} (h : AllE S T M) (hx : RIn S T x.p x.n x.k) (hz : S.ok x.a) : AllE S T (M ++ [x]) := fun y hy => by
  rcases List.mem_append.1 hy with q | q
  · exact h y q
  · obtain rfl := List.mem_singleton.1 q
    exact ⟨hx, hz⟩
theorem ly_rowE {T : List (Nat × Obj)} {b : Nat} {C : Array Value} {ty : TypeId} {fz : Nat × Nat} (hm : (b, Obj.cells C ty fz) ∈ T) : ∀ (L : List (El α)) (o : Nat),
    (∀ (i : Nat) (x : El α), L[i]? = some x → o + i * S.K + S.K ≤ C.size ∧ C.extract (o + i * S.K) (o + i * S.K + S.K) = (x.cs S).toArray) → AllE S T L → LyR S T (toFr L) b o
  | [], _, _, _ => trivial
  | x :: r, o, h, hA => by
    have h1 := h 0 x rfl
    rw [Nat.zero_mul, Nat.add_zero] at h1
    have ha := hA x (List.mem_cons_self ..)
    refine ⟨⟨C, ty, fz, x.p, x.n, x.c, hm, h1.1, h1.2, ha.2, ha.1.1, ha.1.2.1, ha.1.2.2⟩, ?_⟩
    refine ly_rowE hm r (o + S.K) (fun i y hy => ?_) fun y hy => hA y (List.mem_cons_of_mem _ hy)
    have := h (i + 1) y (by simpa using hy)
    rw [show o + (i + 1) * S.K = o + S.K + i * S.K by rw [Nat.succ_mul]; omega] at this
    exact this
theorem Rw.rIn {cur : Array Value} {cap n : Nat} {L : List (El α)} (h : Rw S.K cur cap n (cellsE S L)) (hK : 0 < S.K) {T : List (Nat × Obj)} {b : Nat} {ty : TypeId} {fz : Nat × Nat} (hm : (b, Obj.cells cur ty fz) ∈ T) (hA : AllE S T L) (hn : n ≤ S.mx) : RIn S T (some ⟨b, 0, none⟩) n (toFr L) := by
  have hl := h.len
  rw [cellsE_len] at hl
  have hln : L.length = n := Nat.eq_of_mul_eq_mul_right hK hl
  refine ⟨by rw [toFr_len]; omega, hn, .inr ⟨b, 0, rfl, ly_rowE hm L 0 (fun i x hx => ?_) hA⟩⟩
  rw [Nat.zero_add]; exact h.atE hx
/-- A row that is nil, or lies in a block of one's own. -/
def RowE (S : Sh α) (ty : TypeId) (p : Option Addr) (n c : Nat) (row : List (Nat × Obj)) (L : List (El α)) : Prop := (p = none ∧ n = 0 ∧ c = 0 ∧ row = [] ∧ L = []) ∨ ∃ b cur, p = some ⟨b, 0, none⟩ ∧ row = [(b, .cells cur ty (0, 0))] ∧ Rw S.K cur c n (cellsE S L)
theorem RowE.len {ty : TypeId} {p : Option Addr} {n c : Nat} {row : List (Nat × Obj)} {L : List (El α)} (h : RowE S ty p n c row L) (hK : 0 < S.K) : n = L.length := by
  rcases h with ⟨_, rfl, _, _, rfl⟩ | ⟨b, cur, _, _, hr⟩
  · rfl
  · have hl := hr.len
    rw [cellsE_len] at hl
    exact (Nat.eq_of_mul_eq_mul_right hK hl).symm
theorem RowE.rIn {ty : TypeId} {p : Option Addr} {n c : Nat} {row T : List (Nat × Obj)} {L : List (El α)} (h : RowE S ty p n c row L) (hK : 0 < S.K) (hA : AllE S T L) (hn : n ≤ S.mx) : RIn S (row ++ T) p n (toFr L) := by
  rcases h with ⟨rfl, rfl, rfl, rfl, rfl⟩ | ⟨b, cur, rfl, rfl, hr⟩
  · exact RIn.none _ _
  · exact hr.rIn (b := b) (ty := ty) (fz := (0, 0)) hK (by simp) (hA.mono fun e he => List.mem_append_right _ he) hn
end
/-! ### A row grows by one -/
section
variable {P : Program} {ρ : Env} {w w0 : World} {B : Nat} {l : List (Nat × Obj)}
theorem grow_own {K : Nat} (HS : St B w0 w l) {t e bytes : Nat} {s x : Operand} {o : Oper} {j k b bx n cap c : Nat} {cur Y : Array Value} {xs : List Value} (ht : sliceOf P t = some (e, K, bytes)) (ho : o.op = appendOp t s x)
    (hs : ev ρ s = .slice (some ⟨b, 0, none⟩) n cap) (hj : l[j]? = some (b, .cells cur e (0, 0))) (hr : Rw K cur cap n xs) (hx : ev ρ x = .slice (some ⟨bx, 0, none⟩) 1 c) (hk : l[k]? = some (bx, .cells Y e (0, 0)))
    (hY : Y.size = K) (hone : ∀ u ∈ Y.toList, u.oneCell' = true)
    (hb : (n + 1) * bytes ≤ 140737488355328) (hm : n + 1 ≤ maxLen) : ∃ b' cap' cur' w', (execOp (ev ρ) o).run P w = .ok (.value (.slice (some ⟨b', 0, none⟩) (n + 1) cap')) w' ∧ St B w0 w' (l.set j (b', .cells cur' e (0, 0))) ∧ Rw K cur' cap' (n + 1) (xs ++ Y.toList) := by
  obtain ⟨it, z, hu, hi, hz, hsz, hby, hzs, h0⟩ := sliceOf_spec ht
  have hnews : ∀ q u, (Y.toList)[q]? = some u → w.cell? ((⟨bx, 0, none⟩ : Addr).add q) = some u := fun q u hq => by
    rw [Array.getElem?_toList] at hq
    rw [addr_add, Nat.zero_add]
    simp [World.cell?, HS.get k hk, hq]
  obtain ⟨v', w', hrun, hown, hgr, hnil, hblk⟩ := run_append_own_at (P := P) w B t o.type e it z K bytes hu hi hz hsz hby hzs h0 _ n xs (hr.owns (HS.ge j hj) (HS.get j hj)) ⟨bx, 0, none⟩ 1 c Y.toList (by rw [Array.length_toList, hY, Nat.one_mul]) hnews hone hm hb HS.le
  have hown' := hown
  rcases hown'.2 with ⟨hv, _⟩ | ⟨g, cap', cur', rfl, hbg, hg, hnc, hcm, hcs, htk⟩
  · exact absurd (hnil.1 hv).1 (by simp)
  · have hgb : g = b ∨ g = w.heap.size := by
      rcases hblk with hq | hq
      · left; injection hq
      · right; injection hq
    refine ⟨g, cap', cur', w', ?_, HS.grown j hj hgr hgb hg, ?_⟩
    · unfold execOp
      simp only [ho, appendOp, resolve, invoke, builtin, Sem.run_bind, Sem.run_pure, Result.andThen_ok, List.map_toArray, List.map_cons, List.map_nil, hs, hx, hrun]
    · exact ⟨hown.1, hnc, hcm, htk, hcs⟩
theorem grow_nil {K : Nat} (HS : St B w0 w l) {t e bytes : Nat} {s x : Operand} {o : Oper} {k bx c : Nat} {Y : Array Value} (ht : sliceOf P t = some (e, K, bytes)) (ho : o.op = appendOp t s x)
    (hs : ev ρ s = .slice none 0 0) (hx : ev ρ x = .slice (some ⟨bx, 0, none⟩) 1 c) (hk : l[k]? = some (bx, .cells Y e (0, 0)))
    (hY : Y.size = K) (hone : ∀ u ∈ Y.toList, u.oneCell' = true)
    (hb : (0 + 1) * bytes ≤ 140737488355328) : ∃ b' cap' cur' w', (execOp (ev ρ) o).run P w = .ok (.value (.slice (some ⟨b', 0, none⟩) 1 cap')) w' ∧ St B w0 w' ((b', .cells cur' e (0, 0)) :: l) ∧ Rw K cur' cap' 1 Y.toList := by
  obtain ⟨it, z, hu, hi, hz, hsz, hby, hzs, h0⟩ := sliceOf_spec ht
  have hnews : ∀ q u, (Y.toList)[q]? = some u → w.cell? ((⟨bx, 0, none⟩ : Addr).add q) = some u := fun q u hq => by
    rw [Array.getElem?_toList] at hq
    rw [addr_add, Nat.zero_add]
    simp [World.cell?, HS.get k hk, hq]
  obtain ⟨v', w', hrun, hown, hgr, hnil, hblk⟩ := run_append_own_at (P := P) w B t o.type e it z K bytes hu hi hz hsz hby hzs h0 (.slice none 0 0) 0 [] (World.ownsRow_nil w B e K) ⟨bx, 0, none⟩ 1 c Y.toList (by rw [Array.length_toList, hY, Nat.one_mul]) hnews hone (by unfold maxLen; omega) hb HS.le
  have hown' := hown
  rcases hown'.2 with ⟨hv, _⟩ | ⟨g, cap', cur', rfl, hbg, hg, hnc, hcm, hcs, htk⟩
  · exact absurd (hnil.1 hv).2 (by simp)
  · have hgb : g = w.heap.size := by
      rcases hblk with hq | hq
      · simp [Value.ownBlock] at hq
      · injection hq
    have hbel : Below w.heap.size w w' := (Below.refl _ w).grown hgr (Nat.le_refl _) (fun k hk => by simp [Value.ownBlock] at hk)
    have HS' := HS.add hbel (by omega) hg
    rw [Nat.zero_add] at hnc htk
    refine ⟨g, cap', cur', w', ?_, HS', ⟨by rw [Array.length_toList, hY, Nat.one_mul], hnc, hcm, htk, hcs⟩⟩
    unfold execOp
    simp only [ho, appendOp, resolve, invoke, builtin, Sem.run_bind, Sem.run_pure, Result.andThen_ok, List.map_toArray, List.map_cons, List.map_nil, hs, hx, hrun]
/-- What a call lays for good. -/
def FnT (P : Program) (f : Nat) (args : Array Value) (pre : World → Prop) (ok : Value → List (Nat × Obj) → Prop) : Prop :=
  ∀ w, pre w → Calls P f args w fun e w' => ∃ v T, e = .returned v ∧ ok v T ∧ St w.heap.size w w' T
end
end Go.Proofs.YtkkbkpneodecnaaDoor

namespace Go.Proofs.YtkkbkpneodecnaaDoor
open Go Go.RowKit
set_option linter.unusedVariables false
set_option maxRecDepth 100000 in
set_option maxHeartbeats 2000000 in
theorem mixed_fn (l : Bool) (s : ByteArray) (p : Option Addr) (n c : Nat) (k : Fo) (hs : s.size ≤ 140737488355328) : FnP Tryd.prog 33 #[.agg #[.bool l, .string s, .slice p n c]] (fun w => SlAt w.heap.size w p n k) (.bool (mixed l s n)) := by
  refine FnP.intro (c := codeOf Tryd.f33) [.tmp 2] 12 Tryd.func33 kr kr kr fun w hpre => ?_
  have H0 := St.start w
  have hn := hpre.1
  have hnm := hpre.2.1
  refine rS [.b, .v] H0 kr fun gs1 w1 H1 => ?_
  clear H0
  refine g_seq kr ?_
  refine rS [.v, .l 0] H1 kr fun gs2 w2 H2 => ?_
  clear H1
  refine Or.elim (Bool.eq_false_or_eq_true (l)).symm (fun hq1 => ?_) (fun hq1 => ?_)
  · skip
    refine g_now 4 (v := .bool l) (v' := .bool false) (bool_eq hq1) kr ?_
    refine g_cond_f kr kr ?_
    refine g_skip kr ?_
    show WP _ _ _ _ _ _
    refine g_sreg [0, 1, 2, 3, 4] kr kr ?_
    refine rp [.v, .l 0, .v] H2 kr fun gs3 w3 H3 => ?_
    show WPs _ _ _ _ [3, 4] _ _
    clear H2
    by_cases hc1 : (n : Nat) > 0
    · skip
      refine rp [.e (v := .bool (decide (0 < ((n : Nat) : Int)))) (v' := .bool true) (bool_eq (decide_eq_true (by omega))), .v] H3 kr fun gs4 w4 H4 => ?_
      show WPs _ _ _ _ [] _ _
      clear H3
      refine s_nil ?_
      refine g_ret kr ?_
      show ∃ vs, Res _ _ _ _ vs ∧ _
      refine ⟨[.bool true], (.tmp (.bool true) kr .nil), ?_, H4.below⟩
      rw [hq1]; exact bool_eq (mixed_f (decide_eq_true (by omega)))
    · skip
      refine rp [.e (v := .bool (decide (0 < ((n : Nat) : Int)))) (v' := .bool false) (bool_eq (decide_eq_false (by omega))), .v] H3 kr fun gs5 w5 H5 => ?_
      show WPs _ _ _ _ [] _ _
      clear H3
      refine s_nil ?_
      refine g_ret kr ?_
      show ∃ vs, Res _ _ _ _ vs ∧ _
      refine ⟨[.bool false], (.tmp (.bool false) kr .nil), ?_, H5.below⟩
      rw [hq1]; exact bool_eq (mixed_f (decide_eq_false (by omega)))
  · skip
    refine g_now 4 (v := .bool l) (v' := .bool true) (bool_eq hq1) kr ?_
    refine g_cond_t kr kr ?_
    refine g_sreg [0, 1, 2, 3] kr kr ?_
    refine rp [.v, .l 0] H2 kr fun gs6 w6 H6 => ?_
    show WPs _ _ _ _ [2, 3] _ _
    clear H2
    by_cases hx2 : s = ⟨#[]⟩
    · skip
      refine rp [.e (v := .bool (!(ByteArray.toList s == ByteArray.toList (⟨#[]⟩)))) (v' := .bool false) (bool_eq (by rw [str_same s (⟨#[]⟩) hx2]; rfl)), .v] H6 kr fun gs7 w7 H7 => ?_
      show WPs _ _ _ _ [] _ _
      clear H6
      refine s_nil ?_
      refine g_ret kr ?_
      show ∃ vs, Res _ _ _ _ vs ∧ _
      refine ⟨[.bool false], (.tmp (.bool false) kr .nil), ?_, H7.below⟩
      rw [hq1]; exact bool_eq (mixed_t (decide_eq_false (by rw [hx2]; decide)))
    · skip
      refine rp [.e (v := .bool (!(ByteArray.toList s == ByteArray.toList (⟨#[]⟩)))) (v' := .bool true) (bool_eq (by rw [str_other s (⟨#[]⟩) hx2]; rfl)), .v] H6 kr fun gs8 w8 H8 => ?_
      show WPs _ _ _ _ [] _ _
      clear H6
      refine s_nil ?_
      refine g_ret kr ?_
      show ∃ vs, Res _ _ _ _ vs ∧ _
      refine ⟨[.bool true], (.tmp (.bool true) kr .nil), ?_, H8.below⟩
      rw [hq1]; exact bool_eq (mixed_t (decide_eq_true (size_ne hx2)))
set_option maxRecDepth 100000 in
set_option maxHeartbeats 2000000 in
theorem left_step (m : Nat) (ih : ∀ (l : Bool) (s : ByteArray) (p : Option Addr) (n c : Nat) (k : Fo) (room : Nat), s.size ≤ 140737488355328 → room ≤ 4000 → k.cnt < m → FnP Tryd.prog 21 #[.agg #[.bool l, .string s, .slice p n c], .int .i64 ((room : Nat) : Int)] (fun w => SlAt w.heap.size w p n k) (.int .i64 (lfV (lf1 l s n (lfF k) room)))) (l : Bool) (s : ByteArray) (p : Option Addr) (n c : Nat) (k : Fo) (hs : s.size ≤ 140737488355328) (room : Nat) (hro : room ≤ 4000) (hkm : k.cnt < m + 1) : FnP Tryd.prog 21 #[.agg #[.bool l, .string s, .slice p n c], .int .i64 ((room : Nat) : Int)] (fun w => SlAt w.heap.size w p n k) (.int .i64 (lfV (lf1 l s n (lfF k) room))) := by
  refine FnP.intro (c := codeOf Tryd.f21) [.tmp 4] 30 Tryd.func21 kr kr kr fun w hpre => ?_
  have H0 := St.start w
  have hn := hpre.1
  have hnm := hpre.2.1
  refine rS [.b, .v] H0 kr fun gs1 w1 H1 => ?_
  clear H0
  refine g_seq kr ?_
  refine g_sreg [0, 1, 2, 3, 4, 5] kr kr ?_
  refine rp [.v] H1 kr fun gs2 w2 H2 => ?_
  show WPs _ _ _ _ [1, 2, 3, 4, 5] _ _
  clear H1
  by_cases hc1 : (room : Nat) = 0
  · skip
    refine rp [.e (v := .bool (((room : Nat) : Int) == 0)) (v' := .bool true) (bool_eq (beq_iff_eq.2 (by omega))), .v, .n, .n, .v] H2 kr fun gs3 w3 H3 => ?_
    show WPs _ _ _ _ [] _ _
    clear H2
    refine s_nil ?_
    refine g_cond_t kr kr ?_
    refine rS [.v] H3 kr fun gs4 w4 H4 => ?_
    clear H3
    refine g_ret kr ?_
    show ∃ vs, Res _ _ _ _ vs ∧ _
    refine ⟨[.int .i64 (-1)], (.tmp (.int .i64 (-1)) kr .nil), ?_, H4.below⟩
    exact int_eq (lf1_zero (by omega)).symm
  · skip
    refine rp [.e (v := .bool (((room : Nat) : Int) == 0)) (v' := .bool false) (bool_eq (beq_eq_false_iff_ne.2 (by omega))), .v, .l 0, .cp (pre := fun w => SlAt w.heap.size w p n k) (mixed_fn l s p n c k (by omega) ) [] (fun w hb hd => (SlAt.call hpre hb)), .v] H2 kr fun gs5 w5 H5 => ?_
    show WPs _ _ _ _ [] _ _
    clear H2
    refine s_nil ?_
    refine Or.elim (Bool.eq_false_or_eq_true (mixed l s n)).symm (fun hq1 => ?_) (fun hq1 => ?_)
    · skip
      refine g_now 11 (v := .bool (mixed l s n)) (v' := .bool false) (bool_eq hq1) kr ?_
      refine g_now 12 (v := .bool (mixed l s n)) (v' := .bool false) (bool_eq hq1) kr ?_
      refine g_cond_f kr kr ?_
      refine g_skip kr ?_
      show WP _ _ _ _ _ _
      refine rS [.v, .e (v := .int .i64 (IntKind.i64.wrap (((room : Nat) : Int) - 1))) (v' := .int .i64 ((room - 1 : Nat) : Int)) (int_eq (wrapSub_i64 (a := room) (b := 1) (by omega))), .v] H5 kr fun gs6 w6 H6 => ?_
      clear H5
      refine g_seq kr ?_
      refine rS [.v, .l 0, .v, .v] H6 kr fun gs7 w7 H7 => ?_
      clear H6
      refine g_block 0 kr ?_
      have HL2 : St w.heap.size w w7 [((gs1 0).b, Obj.cells #[.bool l, .string s, .slice p n c] 43 (0, 0))] := H7.as kr
      clear H7
      have HD3 : St w.heap.size w w7 [] := HL2.sub (List.Sublist.cons _ List.Sublist.slnil)
      refine g_loop kr (fun mz ρ ww => ∃ (i : Nat) (r : Fo) (q : Nat), n - i = mz ∧ (FoR w.heap.size w p i r) ∧ (i + Fo.len r = n) ∧ (q ≤ 4000) ∧ (Fo.cnt r ≤ Fo.cnt k) ∧ (lfF k (room - 1) = lfF r q) ∧ St w.heap.size w ww [] ∧ Is [(0, .agg #[.bool l, .string s, .slice p n c]), (1, .int .i64 ((q : Nat) : Int)), (2, .pointer (some ⟨(gs1 0).b, 0, none⟩)), (12, .bool false), (16, .slice p n c), (17, .int .i64 ((n : Nat) : Int)), (18, .int .i64 ((i : Nat) : Int))] ρ) (n - 0) ⟨0, k, (room - 1), rfl, (SlAt.start hpre), (by have hn0 := (hpre).1; omega), (by omega), (Nat.le_refl _), rfl, HD3, (Is.of ⟨kr, kr, kr, kr, kr, kr, kr, trivial⟩)⟩ ?_
      clear HD3
      rintro _ _ w8 ⟨i, r, q, rfl, hR, hN, hq0, hcn, hlf, H8, _, rfl⟩
      by_cases hc4 : (i : Nat) < n
      · skip
        refine rS [.e (v := .bool (decide (((i : Nat) : Int) < ((n : Nat) : Int)))) (v' := .bool true) (bool_eq (decide_eq_true (by omega)))] H8 kr fun gs9 w9 H9 => ?_
        clear H8
        refine g_seq kr ?_
        refine g_cond_t kr kr ?_
        refine g_skip kr ?_
        show WP _ _ _ _ _ _
        refine g_seq kr ?_
        refine g_block 1 kr ?_
        obtain ⟨l1, s1, k1, r1, b1, off1, C1, T1, fz1, p1, n1, c1, hr1, hp1, hb1, hh1, hs1, hx1, hz1, hk1, hR1, hN1⟩ := FoR.open hR hN (by omega)
        refine rS [.o (ins := [((.tmp 16), .slice p n c), ((.tmp 18), .int .i64 ((i : Nat) : Int))]) (v := .pointer (some ⟨b1, off1 + i * 3, none⟩)) (fun ρ o w ho hi => idxO_run (kd := .i64) (t := 41) (e := 43) (bytes := 48) kr (x := (.tmp 16)) (y := (.tmp 18)) b1 off1 n c i hp1 ho hi.1 hi.2.1 (by omega) w), .fp (off := off1 + i * 3) (n := 3) (W := #[.bool l1, .string s1, .slice p1 n1 c1]) hh1 hb1 hs1 hx1, .a, .s 0] H9 kr fun gs10 w10 H10 => ?_
        clear H9
        refine g_keep [0, 1, 2, 6, 12, 16, 17, 18, 19] fun ρ1 => ?_
        have HK5 := H10.keep
        clear H10
        have hcn1 := hcn
        rw [hr1] at hcn1
        simp only [Fo.cnt] at hcn1
        refine g_sreg [0, 1, 2, 3] kr kr ?_
        refine rp [.l 0, .v, .cp (pre := fun w => SlAt w.heap.size w p1 n1 k1) (ih l1 s1 p1 n1 c1 k1 q hz1 (by omega) (by omega)) [] (fun w hb hd => (SlAt.call hk1 hb))] HK5 kr fun gs11 w11 H11 => ?_
        show WPs _ _ _ _ [3] _ _
        clear HK5
        rcases opt_cases (lf1 l1 s1 n1 (lfF k1) q) with hv1 | ⟨y, hv1⟩
        · skip
          refine s_now 24 (v := .int .i64 (lfV (lf1 l1 s1 n1 (lfF k1) q))) (v' := .int .i64 (-1)) (int_eq (show (lfV (lf1 l1 s1 n1 (lfF k1) q)) = -1 from by rw [hv1]; rfl)) kr ?_
          refine rp [.v] H11 kr fun gs12 w12 H12 => ?_
          show WPs _ _ _ _ [] _ _
          clear H11
          refine s_nil ?_
          refine rS [.v, .v] H12 kr fun gs13 w13 H13 => ?_
          clear H12
          refine g_cond_t kr kr ?_
          refine rS [.v, .v] H13 kr fun gs14 w14 H14 => ?_
          clear H13
          refine g_ret kr ?_
          show ∃ vs, Res _ _ _ _ vs ∧ _
          refine ⟨[.int .i64 (-1)], (.tmp (.int .i64 (-1)) kr .nil), ?_, H14.below⟩
          refine int_eq ?_
          rw [lf1_go (by omega) hq1, hlf, hr1]; exact (lfF_stop hk1.1 hv1).symm
        · skip
          refine s_now 24 (v := .int .i64 (lfV (lf1 l1 s1 n1 (lfF k1) q))) (v' := .int .i64 ((y : Nat) : Int)) (int_eq (show (lfV (lf1 l1 s1 n1 (lfF k1) q)) = ((y : Nat) : Int) from by rw [hv1]; rfl)) kr ?_
          have hy4 := lf1_le hv1
          refine rp [.v] H11 kr fun gs15 w15 H15 => ?_
          show WPs _ _ _ _ [] _ _
          clear H11
          refine s_nil ?_
          refine rS [.v, .e (v := .bool (decide (((y : Nat) : Int) < 0))) (v' := .bool false) (bool_eq (decide_eq_false (by omega)))] H15 kr fun gs16 w16 H16 => ?_
          clear H15
          refine g_cond_f kr kr ?_
          refine g_skip kr ?_
          show WP _ _ _ _ _ _
          refine rL [.e (v := .int .i64 (IntKind.i64.wrap (((i : Nat) : Int) + 1))) (v' := .int .i64 ((i + 1 : Nat) : Int)) (int_eq (wrapAdd_i64 (a := i) (b := 1) (by omega))), .v] H16 kr fun gs17 w17 H17 => ?_
          clear H16
          have HL6 : St w.heap.size w w17 [((gs10 2).b, Obj.cells #[.bool l1, .string s1, .slice p1 n1 c1] 43 (0, 0))] := H17.as kr
          clear H17
          have HD7 : St w.heap.size w w17 [] := HL6.sub (List.Sublist.cons _ List.Sublist.slnil)
          show ∃ m, _ ∧ _
          exact ⟨_, (by omega), (i + 1), r1, y, rfl, hR1, hN1, (by omega), (by omega), (by rw [hlf, hr1]; exact lfF_next hk1.1 hv1), HD7, (Is.of ⟨kr, kr, kr, kr, kr, kr, kr, trivial⟩)⟩
      · skip
        refine rS [.e (v := .bool (decide (((i : Nat) : Int) < ((n : Nat) : Int)))) (v' := .bool false) (bool_eq (decide_eq_false (by omega)))] H8 kr fun gs18 w18 H18 => ?_
        clear H8
        refine g_seq kr ?_
        refine g_cond_f kr kr ?_
        refine g_exit 0 kr ?_
        show WP _ _ _ _ _ _
        refine rS [.v, .v] H18 kr fun gs19 w19 H19 => ?_
        clear H18
        refine g_ret kr ?_
        show ∃ vs, Res _ _ _ _ vs ∧ _
        refine ⟨[.int .i64 ((q : Nat) : Int)], (.tmp (.int .i64 ((q : Nat) : Int)) kr .nil), ?_, H19.below⟩
        refine int_eq ?_
        rw [lf1_go (by omega) hq1, hlf, FoR.done hN (by omega)]; rfl
    · skip
      refine g_now 11 (v := .bool (mixed l s n)) (v' := .bool true) (bool_eq hq1) kr ?_
      refine g_now 12 (v := .bool (mixed l s n)) (v' := .bool true) (bool_eq hq1) kr ?_
      refine g_cond_t kr kr ?_
      refine rS [.v] H5 kr fun gs20 w20 H20 => ?_
      clear H5
      refine g_ret kr ?_
      show ∃ vs, Res _ _ _ _ vs ∧ _
      refine ⟨[.int .i64 (-1)], (.tmp (.int .i64 (-1)) kr .nil), ?_, H20.below⟩
      exact int_eq (lf1_mixed hq1).symm
theorem left_fn (l : Bool) (s : ByteArray) (p : Option Addr) (n c : Nat) (k : Fo) (hs : s.size ≤ 140737488355328) (room : Nat) (hro : room ≤ 4000) : FnP Tryd.prog 21 #[.agg #[.bool l, .string s, .slice p n c], .int .i64 ((room : Nat) : Int)] (fun w => SlAt w.heap.size w p n k) (.int .i64 (lfV (lf1 l s n (lfF k) room))) := by
  have key : ∀ (m : Nat) (l : Bool) (s : ByteArray) (p : Option Addr) (n c : Nat) (k : Fo) (room : Nat), s.size ≤ 140737488355328 → room ≤ 4000 → k.cnt < m → FnP Tryd.prog 21 #[.agg #[.bool l, .string s, .slice p n c], .int .i64 ((room : Nat) : Int)] (fun w => SlAt w.heap.size w p n k) (.int .i64 (lfV (lf1 l s n (lfF k) room))) := by
    intro m
    induction m with
    | zero => intros; omega
    | succ m ih => intro l s p n c k room hs hro hkm; exact left_step m ih l s p n c k hs room hro hkm
  exact key (k.cnt + 1) l s p n c k room hs hro (by omega)
set_option maxRecDepth 100000 in
set_option maxHeartbeats 2000000 in
theorem depth_step (m : Nat) (ih : ∀ (l : Bool) (s : ByteArray) (p : Option Addr) (n c : Nat) (k : Fo), s.size ≤ 140737488355328 → k.cnt ≤ 1000000 → k.cnt < m → FnP Tryd.prog 17 #[.agg #[.bool l, .string s, .slice p n c]] (fun w => SlAt w.heap.size w p n k) (.int .i64 ((dp1 l (dpF k) : Nat) : Int))) (l : Bool) (s : ByteArray) (p : Option Addr) (n c : Nat) (k : Fo) (hs : s.size ≤ 140737488355328) (hk6 : k.cnt ≤ 1000000) (hkm : k.cnt < m + 1) : FnP Tryd.prog 17 #[.agg #[.bool l, .string s, .slice p n c]] (fun w => SlAt w.heap.size w p n k) (.int .i64 ((dp1 l (dpF k) : Nat) : Int)) := by
  refine FnP.intro (c := codeOf Tryd.f17) [.tmp 2] 23 Tryd.func17 kr kr kr fun w hpre => ?_
  have H0 := St.start w
  have hn := hpre.1
  have hnm := hpre.2.1
  have hdk := dpF_le k
  refine rS [.b, .v] H0 kr fun gs1 w1 H1 => ?_
  clear H0
  refine g_seq kr ?_
  refine g_sreg [0, 1, 2] kr kr ?_
  refine rp [.v, .l 0] H1 kr fun gs2 w2 H2 => ?_
  show WPs _ _ _ _ [2] _ _
  clear H1
  refine Or.elim (Bool.eq_false_or_eq_true (l)).symm (fun hq1 => ?_) (fun hq1 => ?_)
  · skip
    refine s_now 7 (v := .bool l) (v' := .bool false) (bool_eq hq1) kr ?_
    refine rp [.v] H2 kr fun gs3 w3 H3 => ?_
    show WPs _ _ _ _ [] _ _
    clear H2
    refine s_nil ?_
    refine g_cond_t kr kr ?_
    refine rS [.v] H3 kr fun gs4 w4 H4 => ?_
    clear H3
    refine g_ret kr ?_
    show ∃ vs, Res _ _ _ _ vs ∧ _
    refine ⟨[.int .i64 0], (.tmp (.int .i64 0) kr .nil), ?_, H4.below⟩
    rw [hq1]; rfl
  · skip
    refine s_now 7 (v := .bool l) (v' := .bool true) (bool_eq hq1) kr ?_
    refine rp [.v] H2 kr fun gs5 w5 H5 => ?_
    show WPs _ _ _ _ [] _ _
    clear H2
    refine s_nil ?_
    refine g_cond_f kr kr ?_
    refine g_skip kr ?_
    show WP _ _ _ _ _ _
    refine rS [.v] H5 kr fun gs6 w6 H6 => ?_
    clear H5
    refine g_seq kr ?_
    refine rS [.v, .l 0, .v, .v] H6 kr fun gs7 w7 H7 => ?_
    clear H6
    refine g_block 0 kr ?_
    have HL1 : St w.heap.size w w7 [((gs1 0).b, Obj.cells #[.bool l, .string s, .slice p n c] 43 (0, 0))] := H7.as kr
    clear H7
    have HD2 : St w.heap.size w w7 [] := HL1.sub (List.Sublist.cons _ List.Sublist.slnil)
    refine g_loop kr (fun mz ρ ww => ∃ (i : Nat) (r : Fo) (d : Nat), n - i = mz ∧ (FoR w.heap.size w p i r) ∧ (i + Fo.len r = n) ∧ (Fo.cnt r ≤ Fo.cnt k) ∧ (dpF k = max d (dpF r)) ∧ St w.heap.size w ww [] ∧ Is [(0, .agg #[.bool l, .string s, .slice p n c]), (1, .pointer (some ⟨(gs1 0).b, 0, none⟩)), (2, .int .i64 0), (3, .int .i64 ((d : Nat) : Int)), (8, .bool false), (10, .slice p n c), (11, .int .i64 ((n : Nat) : Int)), (12, .int .i64 ((i : Nat) : Int))] ρ) (n - 0) ⟨0, k, 0, rfl, (SlAt.start hpre), (by have hn0 := (hpre).1; omega), (Nat.le_refl _), (by omega), HD2, (Is.of ⟨kr, kr, kr, kr, kr, kr, kr, kr, trivial⟩)⟩ ?_
    clear HD2
    rintro _ _ w8 ⟨i, r, d, rfl, hR, hN, hcn, hd, H8, _, rfl⟩
    by_cases hc3 : (i : Nat) < n
    · skip
      refine rS [.e (v := .bool (decide (((i : Nat) : Int) < ((n : Nat) : Int)))) (v' := .bool true) (bool_eq (decide_eq_true (by omega)))] H8 kr fun gs9 w9 H9 => ?_
      clear H8
      refine g_seq kr ?_
      refine g_cond_t kr kr ?_
      refine g_skip kr ?_
      show WP _ _ _ _ _ _
      refine g_seq kr ?_
      refine g_block 1 kr ?_
      obtain ⟨l1, s1, k1, r1, b1, off1, C1, T1, fz1, p1, n1, c1, hr1, hp1, hb1, hh1, hs1, hx1, hz1, hk1, hR1, hN1⟩ := FoR.open hR hN (by omega)
      refine rS [.o (ins := [((.tmp 10), .slice p n c), ((.tmp 12), .int .i64 ((i : Nat) : Int))]) (v := .pointer (some ⟨b1, off1 + i * 3, none⟩)) (fun ρ o w ho hi => idxO_run (kd := .i64) (t := 41) (e := 43) (bytes := 48) kr (x := (.tmp 10)) (y := (.tmp 12)) b1 off1 n c i hp1 ho hi.1 hi.2.1 (by omega) w), .fp (off := off1 + i * 3) (n := 3) (W := #[.bool l1, .string s1, .slice p1 n1 c1]) hh1 hb1 hs1 hx1, .a, .s 0] H9 kr fun gs10 w10 H10 => ?_
      clear H9
      have hcn1 := hcn
      rw [hr1] at hcn1
      simp only [Fo.cnt] at hcn1
      refine rL [.v, .l 0, .cp (pre := fun w => SlAt w.heap.size w p1 n1 k1) (ih l1 s1 p1 n1 c1 k1 hz1 (by omega) (by omega)) [] (fun w hb hd => (SlAt.call hk1 hb)), .e (v := .int .i64 (if (((dp1 l1 (dpF k1) : Nat) : Int) : Int) > (((d : Nat) : Int) : Int) then (((dp1 l1 (dpF k1) : Nat) : Int) : Int) else (((d : Nat) : Int) : Int))) (v' := .int .i64 ((max d (dp1 l1 (dpF k1)) : Nat) : Int)) (int_eq (maxN d (dp1 l1 (dpF k1)))), .v] H10 kr fun gs11 w11 H11 => ?_
      clear H10
      show WP _ _ _ _ _ _
      refine g_keep [0, 1, 2, 3, 5, 8, 10, 11, 12, 13] fun ρ1 => ?_
      have HK4 := H11.keep
      clear H11
      refine rL [.e (v := .int .i64 (IntKind.i64.wrap (((i : Nat) : Int) + 1))) (v' := .int .i64 ((i + 1 : Nat) : Int)) (int_eq (wrapAdd_i64 (a := i) (b := 1) (by omega))), .v] HK4 kr fun gs12 w12 H12 => ?_
      clear HK4
      have HL5 : St w.heap.size w w12 [((gs10 2).b, Obj.cells #[.bool l1, .string s1, .slice p1 n1 c1] 43 (0, 0))] := H12.as kr
      clear H12
      have HD6 : St w.heap.size w w12 [] := HL5.sub (List.Sublist.cons _ List.Sublist.slnil)
      show ∃ m, _ ∧ _
      exact ⟨_, (by omega), (i + 1), r1, (max d (dp1 l1 (dpF k1))), rfl, hR1, hN1, (by omega), (by rw [hd, hr1]; simp only [dpF]; omega), HD6, (Is.of ⟨kr, kr, kr, kr, kr, kr, kr, kr, trivial⟩)⟩
    · skip
      refine rS [.e (v := .bool (decide (((i : Nat) : Int) < ((n : Nat) : Int)))) (v' := .bool false) (bool_eq (decide_eq_false (by omega)))] H8 kr fun gs13 w13 H13 => ?_
      clear H8
      refine g_seq kr ?_
      refine g_cond_f kr kr ?_
      refine g_exit 0 kr ?_
      show WP _ _ _ _ _ _
      refine rS [.v, .e (v := .int .i64 (IntKind.i64.wrap (1 + ((d : Nat) : Int)))) (v' := .int .i64 ((1 + d : Nat) : Int)) (int_eq (wrapAdd_i64 (a := 1) (b := d) (by omega))), .v] H13 kr fun gs14 w14 H14 => ?_
      clear H13
      refine g_ret kr ?_
      show ∃ vs, Res _ _ _ _ vs ∧ _
      refine ⟨[.int .i64 ((1 + d : Nat) : Int)], (.tmp (.int .i64 ((1 + d : Nat) : Int)) kr .nil), ?_, H14.below⟩
      refine int_eq ?_
      rw [hq1, hd, FoR.done hN (by omega)]; show ((1 + d : Nat) : Int) = ((1 + max d 0 : Nat) : Int); omega
theorem depth_fn (l : Bool) (s : ByteArray) (p : Option Addr) (n c : Nat) (k : Fo) (hs : s.size ≤ 140737488355328) (hk6 : k.cnt ≤ 1000000) : FnP Tryd.prog 17 #[.agg #[.bool l, .string s, .slice p n c]] (fun w => SlAt w.heap.size w p n k) (.int .i64 ((dp1 l (dpF k) : Nat) : Int)) := by
  have key : ∀ (m : Nat) (l : Bool) (s : ByteArray) (p : Option Addr) (n c : Nat) (k : Fo), s.size ≤ 140737488355328 → k.cnt ≤ 1000000 → k.cnt < m → FnP Tryd.prog 17 #[.agg #[.bool l, .string s, .slice p n c]] (fun w => SlAt w.heap.size w p n k) (.int .i64 ((dp1 l (dpF k) : Nat) : Int)) := by
    intro m
    induction m with
    | zero => intros; omega
    | succ m ih => intro l s p n c k hs hk6 hkm; exact depth_step m ih l s p n c k hs hk6 hkm
  exact key (k.cnt + 1) l s p n c k hs hk6 (by omega)
set_option maxRecDepth 100000 in
set_option maxHeartbeats 2000000 in
theorem single_fn (s : ByteArray) : Fn Tryd.prog 34 #[.string s] (.bool (single s)) := by
  refine Fn.intro (c := codeOf Tryd.f34) [.tmp 2] 11 Tryd.func34 kr kr kr fun w => ?_
  have H0 := St.start w
  refine rS [.v] H0 kr fun gs1 w1 H1 => ?_
  clear H0
  refine g_sreg [0, 1, 2, 3, 4, 5, 6, 7, 8] kr kr ?_
  refine rp [.v, .v] H1 kr fun gs2 w2 H2 => ?_
  show WPs _ _ _ _ [2, 3, 4, 5, 6, 7, 8] _ _
  clear H1
  by_cases hc1 : (ByteArray.size s : Nat) = 1
  · skip
    refine rp [.e (v := .bool (((ByteArray.size s : Nat) : Int) == 1)) (v' := .bool true) (bool_eq (beq_iff_eq.2 (by omega))), .v, .v, .o (ins := [((.tmp 7), .string s), ((.const (.int .i64 0)), .int .i64 0)]) (v := .int .u8 ((by_ s 0 : Nat) : Int)) (fun ρ o w ho hi => sindex_run (t := 9) (kd := .i64) kr (x := (.tmp 7)) (y := (.const (.int .i64 0))) s 0 ho hi.1 hi.2.1 (by omega) w)] H2 kr fun gs3 w3 H3 => ?_
    show WPs _ _ _ _ [6, 7, 8] _ _
    clear H2
    by_cases hc2 : (by_ s 0 : Nat) < 128
    · skip
      refine rp [.e (v := .bool (decide (((by_ s 0 : Nat) : Int) < 128))) (v' := .bool true) (bool_eq (decide_eq_true (by omega))), .v, .v] H3 kr fun gs4 w4 H4 => ?_
      show WPs _ _ _ _ [] _ _
      clear H3
      refine s_nil ?_
      refine g_ret kr ?_
      show ∃ vs, Res _ _ _ _ vs ∧ _
      refine ⟨[.bool true], (.tmp (.bool true) kr .nil), ?_, H4.below⟩
      exact bool_eq (by unfold single; simp [*])
    · skip
      refine rp [.e (v := .bool (decide (((by_ s 0 : Nat) : Int) < 128))) (v' := .bool false) (bool_eq (decide_eq_false (by omega))), .v, .v] H3 kr fun gs5 w5 H5 => ?_
      show WPs _ _ _ _ [] _ _
      clear H3
      refine s_nil ?_
      refine g_ret kr ?_
      show ∃ vs, Res _ _ _ _ vs ∧ _
      refine ⟨[.bool false], (.tmp (.bool false) kr .nil), ?_, H5.below⟩
      exact bool_eq (by unfold single; simp [*])
  · skip
    refine rp [.e (v := .bool (((ByteArray.size s : Nat) : Int) == 1)) (v' := .bool false) (bool_eq (beq_eq_false_iff_ne.2 (by omega))), .v, .n, .n, .n, .v, .v] H2 kr fun gs6 w6 H6 => ?_
    show WPs _ _ _ _ [] _ _
    clear H2
    refine s_nil ?_
    refine g_ret kr ?_
    show ∃ vs, Res _ _ _ _ vs ∧ _
    refine ⟨[.bool false], (.tmp (.bool false) kr .nil), ?_, H6.below⟩
    exact bool_eq (by unfold single; simp [*])
end Go.Proofs.YtkkbkpneodecnaaDoor

namespace Go.Proofs.YtkkbkpneodecnaaDoor
open Go Go.RowKit
set_option linter.unusedVariables false
set_option maxRecDepth 100000 in
set_option maxHeartbeats 2000000 in
theorem trimByte_fn (s : ByteArray) (hs : ByteArray.size s ≤ 140737488355328) : Fn Tryd.prog 50 #[.string s, .int .u8 0] (.string (strB ((tl s).dropWhile (· == 0)))) := by
  refine Fn.intro (c := codeOf Tryd.f50) [.tmp 4] 17 Tryd.func50 kr kr kr fun w => ?_
  have H0 := St.start w
  refine rS [.v] H0 kr fun gs1 w1 H1 => ?_
  clear H0
  refine g_seq kr ?_
  refine g_block 0 kr ?_
  have HL1 : St w.heap.size w w1 [] := H1.as kr
  clear H1
  refine g_loop kr (fun mz ρ ww => ∃ (t : ByteArray), ByteArray.size t = mz ∧ ((tl t).dropWhile (· == 0) = (tl s).dropWhile (· == 0)) ∧ (ByteArray.size t ≤ ByteArray.size s) ∧ St w.heap.size w ww [] ∧ Is [(0, .string t), (1, .int .u8 0), (4, .string (⟨#[]⟩))] ρ) (ByteArray.size s) ⟨s, rfl, rfl, (Nat.le_refl _), HL1, (Is.of ⟨kr, kr, kr, trivial⟩)⟩ ?_
  clear HL1
  rintro _ _ w2 ⟨t, rfl, ht, htz, H2, _, rfl⟩
  refine g_seq kr ?_
  refine g_sreg [0, 1, 2, 3, 4, 5, 6, 7, 8] kr kr ?_
  refine rp [.v, .v] H2 kr fun gs3 w3 H3 => ?_
  show WPs _ _ _ _ [2, 3, 4, 5, 6, 7, 8] _ _
  clear H2
  by_cases hc2 : (ByteArray.size t : Nat) > 0
  · skip
    refine rp [.e (v := .bool (decide (0 < ((ByteArray.size t : Nat) : Int)))) (v' := .bool true) (bool_eq (decide_eq_true (by omega))), .v, .v, .o (ins := [((.tmp 9), .string t), ((.const (.int .i64 0)), .int .i64 0)]) (v := .int .u8 ((by_ t 0 : Nat) : Int)) (fun ρ o w ho hi => sindex_run (t := 9) (kd := .i64) kr (x := (.tmp 9)) (y := (.const (.int .i64 0))) t 0 ho hi.1 hi.2.1 (by omega) w), .v] H3 kr fun gs4 w4 H4 => ?_
    show WPs _ _ _ _ [7, 8] _ _
    clear H3
    by_cases hc3 : (by_ t 0 : Nat) = 0
    · skip
      refine rp [.e (v := .bool (((by_ t 0 : Nat) : Int) == 0)) (v' := .bool true) (bool_eq (beq_iff_eq.2 (by omega))), .v] H4 kr fun gs5 w5 H5 => ?_
      show WPs _ _ _ _ [] _ _
      clear H4
      refine s_nil ?_
      refine g_cond_t kr kr ?_
      refine g_skip kr ?_
      show WP _ _ _ _ _ _
      refine g_block 1 kr ?_
      refine rL [.v, .o (ins := [((.tmp 14), .string t), ((.const (.int .i64 1)), .int .i64 1)]) (v := .string (ByteArray.extract t 1 (ByteArray.size t))) (fun ρ o w ho hi => scut3_run (t := 9) (kz := .i64) kr (x := (.tmp 14)) (z := (.const (.int .i64 1))) t 1 ho hi.1 hi.2.1 (by omega) w), .v] H5 kr fun gs6 w6 H6 => ?_
      clear H5
      have HL4 : St w.heap.size w w6 [] := H6.as kr
      clear H6
      show ∃ m, _ ∧ _
      exact ⟨_, (by rw [cut1_size t (by omega)]; omega), (ByteArray.extract t 1 (ByteArray.size t)), rfl, (by rw [trim_next t (by omega) (by omega)]; exact ht), (by rw [cut1_size t (by omega)]; omega), HL4, (Is.of ⟨kr, kr, kr, trivial⟩)⟩
    · skip
      refine rp [.e (v := .bool (((by_ t 0 : Nat) : Int) == 0)) (v' := .bool false) (bool_eq (beq_eq_false_iff_ne.2 (by omega))), .v] H4 kr fun gs7 w7 H7 => ?_
      show WPs _ _ _ _ [] _ _
      clear H4
      refine s_nil ?_
      refine g_cond_f kr kr ?_
      refine g_exit 0 kr ?_
      show WP _ _ _ _ _ _
      refine rS [.v, .v] H7 kr fun gs8 w8 H8 => ?_
      clear H7
      refine g_ret kr ?_
      show ∃ vs, Res _ _ _ _ vs ∧ _
      refine ⟨[.string t], (.tmp (.string t) kr .nil), ?_, H8.below⟩
      have hdone : strB ((tl s).dropWhile (· == 0)) = t := by rw [← ht]; exact trim_done t (by omega)
      exact congrArg Value.string hdone.symm
  · skip
    refine rp [.e (v := .bool (decide (0 < ((ByteArray.size t : Nat) : Int)))) (v' := .bool false) (bool_eq (decide_eq_false (by omega))), .v, .n, .n, .n, .n, .v] H3 kr fun gs9 w9 H9 => ?_
    show WPs _ _ _ _ [] _ _
    clear H3
    refine s_nil ?_
    refine g_cond_f kr kr ?_
    refine g_exit 0 kr ?_
    show WP _ _ _ _ _ _
    refine rS [.v, .v] H9 kr fun gs10 w10 H10 => ?_
    clear H9
    refine g_ret kr ?_
    show ∃ vs, Res _ _ _ _ vs ∧ _
    refine ⟨[.string t], (.tmp (.string t) kr .nil), ?_, H10.below⟩
    have hdone : strB ((tl s).dropWhile (· == 0)) = t := by rw [← ht]; exact trim_done t (by omega)
    exact congrArg Value.string hdone.symm
set_option maxRecDepth 100000 in
set_option maxHeartbeats 2000000 in
theorem trim_fn (s : ByteArray) (hs : ByteArray.size s ≤ 140737488355328) : Fn Tryd.prog 46 #[.string s, .string (⟨#[0]⟩)] (.string (strB ((tl s).dropWhile (· == 0)))) := by
  refine Fn.intro (c := codeOf Tryd.f46) [.tmp 4] 37 Tryd.func46 kr kr kr fun w => ?_
  have H0 := St.start w
  refine rS [.v] H0 kr fun gs1 w1 H1 => ?_
  clear H0
  refine g_seq kr ?_
  refine g_sreg [0, 1, 2, 3, 4, 5] kr kr ?_
  refine rp [.v] H1 kr fun gs2 w2 H2 => ?_
  show WPs _ _ _ _ [1, 2, 3, 4, 5] _ _
  clear H1
  by_cases hx1 : s = ⟨#[]⟩
  · skip
    refine rp [.e (v := .bool (ByteArray.toList s == ByteArray.toList (⟨#[]⟩))) (v' := .bool true) (bool_eq (str_same s (⟨#[]⟩) hx1)), .v, .n, .n, .v] H2 kr fun gs3 w3 H3 => ?_
    show WPs _ _ _ _ [] _ _
    clear H2
    refine s_nil ?_
    refine g_cond_t kr kr ?_
    refine rS [.v, .v] H3 kr fun gs4 w4 H4 => ?_
    clear H3
    refine g_ret kr ?_
    show ∃ vs, Res _ _ _ _ vs ∧ _
    refine ⟨[.string s], (.tmp (.string s) kr .nil), ?_, H4.below⟩
    exact congrArg Value.string (trim_empty (by assumption)).symm
  · skip
    refine rp [.e (v := .bool (ByteArray.toList s == ByteArray.toList (⟨#[]⟩))) (v' := .bool false) (bool_eq (str_other s (⟨#[]⟩) hx1)), .v, .v, .e (v := .bool (ByteArray.toList (⟨#[0]⟩) == ByteArray.toList (⟨#[]⟩))) (v' := .bool false) (bool_eq (str_other (⟨#[0]⟩) (⟨#[]⟩) (fun h => absurd (congrArg ByteArray.size h) (by decide)))), .v] H2 kr fun gs5 w5 H5 => ?_
    show WPs _ _ _ _ [] _ _
    clear H2
    refine s_nil ?_
    refine g_cond_f kr kr ?_
    refine g_skip kr ?_
    show WP _ _ _ _ _ _
    refine g_seq kr ?_
    refine rS [.v, .v, .v, .v, .v, .oe (ins := [((.tmp 18), .string (⟨#[0]⟩)), ((.const (.int .i64 0)), .int .i64 0)]) (v := .int .u8 ((by_ (⟨#[0]⟩) 0 : Nat) : Int)) (v' := .int .u8 0) (fun ρ o w ho hi => sindex_run (t := 9) (kd := .i64) kr (x := (.tmp 18)) (y := (.const (.int .i64 0))) (⟨#[0]⟩) 0 ho hi.1 hi.2.1 (by decide) w) (int_eq (by decide)), .v, .v] H5 kr fun gs6 w6 H6 => ?_
    clear H5
    refine g_cond_t kr kr ?_
    refine rS [.v, .v, .oe (ins := [((.tmp 23), .string (⟨#[0]⟩)), ((.const (.int .i64 0)), .int .i64 0)]) (v := .int .u8 ((by_ (⟨#[0]⟩) 0 : Nat) : Int)) (v' := .int .u8 0) (fun ρ o w ho hi => sindex_run (t := 9) (kd := .i64) kr (x := (.tmp 23)) (y := (.const (.int .i64 0))) (⟨#[0]⟩) 0 ho hi.1 hi.2.1 (by decide) w) (int_eq (by decide)), .c (trimByte_fn s (by omega)), .v] H6 kr fun gs7 w7 H7 => ?_
    clear H6
    refine g_ret kr ?_
    show ∃ vs, Res _ _ _ _ vs ∧ _
    refine ⟨[.string (strB ((tl s).dropWhile (· == 0)))], (.tmp (.string (strB ((tl s).dropWhile (· == 0)))) kr .nil), ?_, H7.below⟩
    rfl
set_option maxRecDepth 100000 in
set_option maxHeartbeats 2000000 in
theorem digits_fn (n : Nat) (hn : n < 18446744073709551616) : Fn Tryd.prog 38 #[.int .u64 ((n : Nat) : Int)] (.string (strB (dg n))) := by
  refine Fn.intro (c := codeOf Tryd.f38) [.tmp 2] 20 Tryd.func38 kr kr kr fun w => ?_
  have H0 := St.start w
  refine rS [.v] H0 kr fun gs1 w1 H1 => ?_
  clear H0
  refine rS [.a] H1 kr fun gs2 w2 H2 => ?_
  clear H1
  refine g_seq kr ?_
  refine rS [.v] H2 kr fun gs3 w3 H3 => ?_
  clear H2
  refine g_block 0 kr ?_
  have HL1 : St w.heap.size w w3 [((gs2 0).b, Obj.cells #[.int .u8 0, .int .u8 0, .int .u8 0, .int .u8 0, .int .u8 0, .int .u8 0, .int .u8 0, .int .u8 0] 89 (0, 0))] := H3.as kr
  clear H3
  refine g_first kr ?_
  refine rS [.v] HL1 kr fun gs4 w4 H4 => ?_
  clear HL1
  refine g_seq kr ?_
  refine g_cond_t kr kr ?_
  refine g_skip kr ?_
  show WP _ _ _ _ _ _
  refine g_seq kr ?_
  refine g_block 1 kr ?_
  refine rS [.v, .v] H4 kr fun gs5 w5 H5 => ?_
  clear H4
  refine rL [.v, .v, .v, .v, .v, .e (v := .int .u64 (Int.fdiv (((n : Nat) : Int)) (2 ^ 0))) (v' := .int .u64 ((n : Nat) : Int)) (int_eq (shr0 (a := n) (by omega))), .e (v := .int .u8 (IntKind.u8.wrap (((n : Nat) : Int)))) (v' := .int .u8 ((BitVec.toNat (dgB n 1) : Nat) : Int)) (dgB_conv1 n), .v, .s 0] H5 kr fun gs6 w6 H6 => ?_
  clear H5
  show WP _ _ _ _ _ _
  have HL2 : St w.heap.size w w6 [((gs2 0).b, Obj.cells #[.int .u8 0, .int .u8 0, .int .u8 0, .int .u8 0, .int .u8 0, .int .u8 0, .int .u8 0, .int .u8 ((BitVec.toNat (dgB n 1) : Nat) : Int)] 89 (0, 0))] := H6.as kr
  clear H6
  refine rL [.v, .v] HL2 kr fun gs7 w7 H7 => ?_
  clear HL2
  show WPL _ _ _ _ _ _
  refine g_next ?_
  refine g_keep [0, 2, 3, 4, 5, 6] fun ρ1 => ?_
  have HK3 := H7.keep
  clear H7
  refine rS [.v] HK3 kr fun gs8 w8 H8 => ?_
  clear HK3
  refine g_seq kr ?_
  refine g_cond_t kr kr ?_
  refine g_skip kr ?_
  show WP _ _ _ _ _ _
  refine g_seq kr ?_
  refine g_block 1 kr ?_
  refine rS [.v, .v] H8 kr fun gs9 w9 H9 => ?_
  clear H8
  refine rL [.v, .v, .v, .v, .v, .e (v := .int .u64 (Int.fdiv ((n : Nat) : Int) (2 ^ 8))) (v' := .int .u64 ((n / 256 : Nat) : Int)) (int_eq (shrN (k := 8) n 256 rfl)), .e (v := .int .u8 (IntKind.u8.wrap (((n / 256 : Nat) : Int)))) (v' := .int .u8 ((BitVec.toNat (dgB n 256) : Nat) : Int)) (dgB_conv n 256), .v, .s 0] H9 kr fun gs10 w10 H10 => ?_
  clear H9
  show WP _ _ _ _ _ _
  have HL4 : St w.heap.size w w10 [((gs2 0).b, Obj.cells #[.int .u8 0, .int .u8 0, .int .u8 0, .int .u8 0, .int .u8 0, .int .u8 0, .int .u8 ((BitVec.toNat (dgB n 256) : Nat) : Int), .int .u8 ((BitVec.toNat (dgB n 1) : Nat) : Int)] 89 (0, 0))] := H10.as kr
  clear H10
  refine rL [.v, .v] HL4 kr fun gs11 w11 H11 => ?_
  clear HL4
  show WPL _ _ _ _ _ _
  refine g_next ?_
  refine rS [.v] H11 kr fun gs12 w12 H12 => ?_
  clear H11
  refine g_seq kr ?_
  refine g_cond_t kr kr ?_
  refine g_skip kr ?_
  show WP _ _ _ _ _ _
  refine g_seq kr ?_
  refine g_block 1 kr ?_
  refine rS [.v, .v] H12 kr fun gs13 w13 H13 => ?_
  clear H12
  refine g_keep [0, 2, 3, 4, 5, 6] fun ρ2 => ?_
  have HK5 := H13.keep
  clear H13
  refine rL [.v, .v, .v, .v, .v, .e (v := .int .u64 (Int.fdiv ((n : Nat) : Int) (2 ^ 16))) (v' := .int .u64 ((n / 65536 : Nat) : Int)) (int_eq (shrN (k := 16) n 65536 rfl)), .e (v := .int .u8 (IntKind.u8.wrap (((n / 65536 : Nat) : Int)))) (v' := .int .u8 ((BitVec.toNat (dgB n 65536) : Nat) : Int)) (dgB_conv n 65536), .v, .s 0] HK5 kr fun gs14 w14 H14 => ?_
  clear HK5
  show WP _ _ _ _ _ _
  have HL6 : St w.heap.size w w14 [((gs2 0).b, Obj.cells #[.int .u8 0, .int .u8 0, .int .u8 0, .int .u8 0, .int .u8 0, .int .u8 ((BitVec.toNat (dgB n 65536) : Nat) : Int), .int .u8 ((BitVec.toNat (dgB n 256) : Nat) : Int), .int .u8 ((BitVec.toNat (dgB n 1) : Nat) : Int)] 89 (0, 0))] := H14.as kr
  clear H14
  refine rL [.v, .v] HL6 kr fun gs15 w15 H15 => ?_
  clear HL6
  show WPL _ _ _ _ _ _
  refine g_next ?_
  refine rS [.v] H15 kr fun gs16 w16 H16 => ?_
  clear H15
  refine g_seq kr ?_
  refine g_cond_t kr kr ?_
  refine g_skip kr ?_
  show WP _ _ _ _ _ _
  refine g_seq kr ?_
  refine g_block 1 kr ?_
  refine rS [.v, .v] H16 kr fun gs17 w17 H17 => ?_
  clear H16
  refine rL [.v, .v, .v, .v, .v, .e (v := .int .u64 (Int.fdiv ((n : Nat) : Int) (2 ^ 24))) (v' := .int .u64 ((n / 16777216 : Nat) : Int)) (int_eq (shrN (k := 24) n 16777216 rfl)), .e (v := .int .u8 (IntKind.u8.wrap (((n / 16777216 : Nat) : Int)))) (v' := .int .u8 ((BitVec.toNat (dgB n 16777216) : Nat) : Int)) (dgB_conv n 16777216), .v, .s 0] H17 kr fun gs18 w18 H18 => ?_
  clear H17
  show WP _ _ _ _ _ _
  refine g_keep [0, 2, 3, 4, 5, 6] fun ρ3 => ?_
  have HK7 := H18.keep
  clear H18
  have HL8 : St w.heap.size w w18 [((gs2 0).b, Obj.cells #[.int .u8 0, .int .u8 0, .int .u8 0, .int .u8 0, .int .u8 ((BitVec.toNat (dgB n 16777216) : Nat) : Int), .int .u8 ((BitVec.toNat (dgB n 65536) : Nat) : Int), .int .u8 ((BitVec.toNat (dgB n 256) : Nat) : Int), .int .u8 ((BitVec.toNat (dgB n 1) : Nat) : Int)] 89 (0, 0))] := HK7.as kr
  clear HK7
  refine rL [.v, .v] HL8 kr fun gs19 w19 H19 => ?_
  clear HL8
  show WPL _ _ _ _ _ _
  refine g_next ?_
  refine rS [.v] H19 kr fun gs20 w20 H20 => ?_
  clear H19
  refine g_seq kr ?_
  refine g_cond_t kr kr ?_
  refine g_skip kr ?_
  show WP _ _ _ _ _ _
  refine g_seq kr ?_
  refine g_block 1 kr ?_
  refine rS [.v, .v] H20 kr fun gs21 w21 H21 => ?_
  clear H20
  refine rL [.v, .v, .v, .v, .v, .e (v := .int .u64 (Int.fdiv ((n : Nat) : Int) (2 ^ 32))) (v' := .int .u64 ((n / 4294967296 : Nat) : Int)) (int_eq (shrN (k := 32) n 4294967296 rfl)), .e (v := .int .u8 (IntKind.u8.wrap (((n / 4294967296 : Nat) : Int)))) (v' := .int .u8 ((BitVec.toNat (dgB n 4294967296) : Nat) : Int)) (dgB_conv n 4294967296), .v, .s 0] H21 kr fun gs22 w22 H22 => ?_
  clear H21
  show WP _ _ _ _ _ _
  have HL9 : St w.heap.size w w22 [((gs2 0).b, Obj.cells #[.int .u8 0, .int .u8 0, .int .u8 0, .int .u8 ((BitVec.toNat (dgB n 4294967296) : Nat) : Int), .int .u8 ((BitVec.toNat (dgB n 16777216) : Nat) : Int), .int .u8 ((BitVec.toNat (dgB n 65536) : Nat) : Int), .int .u8 ((BitVec.toNat (dgB n 256) : Nat) : Int), .int .u8 ((BitVec.toNat (dgB n 1) : Nat) : Int)] 89 (0, 0))] := H22.as kr
  clear H22
  refine rL [.v, .v] HL9 kr fun gs23 w23 H23 => ?_
  clear HL9
  show WPL _ _ _ _ _ _
  refine g_next ?_
  refine rS [.v] H23 kr fun gs24 w24 H24 => ?_
  clear H23
  refine g_keep [0, 2, 3, 4, 5, 6] fun ρ4 => ?_
  have HK10 := H24.keep
  clear H24
  refine g_seq kr ?_
  refine g_cond_t kr kr ?_
  refine g_skip kr ?_
  show WP _ _ _ _ _ _
  refine g_seq kr ?_
  refine g_block 1 kr ?_
  refine rS [.v, .v] HK10 kr fun gs25 w25 H25 => ?_
  clear HK10
  refine rL [.v, .v, .v, .v, .v, .e (v := .int .u64 (Int.fdiv ((n : Nat) : Int) (2 ^ 40))) (v' := .int .u64 ((n / 1099511627776 : Nat) : Int)) (int_eq (shrN (k := 40) n 1099511627776 rfl)), .e (v := .int .u8 (IntKind.u8.wrap (((n / 1099511627776 : Nat) : Int)))) (v' := .int .u8 ((BitVec.toNat (dgB n 1099511627776) : Nat) : Int)) (dgB_conv n 1099511627776), .v, .s 0] H25 kr fun gs26 w26 H26 => ?_
  clear H25
  show WP _ _ _ _ _ _
  have HL11 : St w.heap.size w w26 [((gs2 0).b, Obj.cells #[.int .u8 0, .int .u8 0, .int .u8 ((BitVec.toNat (dgB n 1099511627776) : Nat) : Int), .int .u8 ((BitVec.toNat (dgB n 4294967296) : Nat) : Int), .int .u8 ((BitVec.toNat (dgB n 16777216) : Nat) : Int), .int .u8 ((BitVec.toNat (dgB n 65536) : Nat) : Int), .int .u8 ((BitVec.toNat (dgB n 256) : Nat) : Int), .int .u8 ((BitVec.toNat (dgB n 1) : Nat) : Int)] 89 (0, 0))] := H26.as kr
  clear H26
  refine rL [.v, .v] HL11 kr fun gs27 w27 H27 => ?_
  clear HL11
  show WPL _ _ _ _ _ _
  refine g_next ?_
  refine rS [.v] H27 kr fun gs28 w28 H28 => ?_
  clear H27
  refine g_seq kr ?_
  refine g_cond_t kr kr ?_
  refine g_skip kr ?_
  show WP _ _ _ _ _ _
  refine g_seq kr ?_
  refine g_block 1 kr ?_
  refine rS [.v, .v] H28 kr fun gs29 w29 H29 => ?_
  clear H28
  refine rL [.v, .v, .v, .v, .v, .e (v := .int .u64 (Int.fdiv ((n : Nat) : Int) (2 ^ 48))) (v' := .int .u64 ((n / 281474976710656 : Nat) : Int)) (int_eq (shrN (k := 48) n 281474976710656 rfl)), .e (v := .int .u8 (IntKind.u8.wrap (((n / 281474976710656 : Nat) : Int)))) (v' := .int .u8 ((BitVec.toNat (dgB n 281474976710656) : Nat) : Int)) (dgB_conv n 281474976710656), .v, .s 0] H29 kr fun gs30 w30 H30 => ?_
  clear H29
  show WP _ _ _ _ _ _
  refine g_keep [0, 2, 3, 4, 5, 6] fun ρ5 => ?_
  have HK12 := H30.keep
  clear H30
  have HL13 : St w.heap.size w w30 [((gs2 0).b, Obj.cells #[.int .u8 0, .int .u8 ((BitVec.toNat (dgB n 281474976710656) : Nat) : Int), .int .u8 ((BitVec.toNat (dgB n 1099511627776) : Nat) : Int), .int .u8 ((BitVec.toNat (dgB n 4294967296) : Nat) : Int), .int .u8 ((BitVec.toNat (dgB n 16777216) : Nat) : Int), .int .u8 ((BitVec.toNat (dgB n 65536) : Nat) : Int), .int .u8 ((BitVec.toNat (dgB n 256) : Nat) : Int), .int .u8 ((BitVec.toNat (dgB n 1) : Nat) : Int)] 89 (0, 0))] := HK12.as kr
  clear HK12
  refine rL [.v, .v] HL13 kr fun gs31 w31 H31 => ?_
  clear HL13
  show WPL _ _ _ _ _ _
  refine g_next ?_
  refine rS [.v] H31 kr fun gs32 w32 H32 => ?_
  clear H31
  refine g_seq kr ?_
  refine g_cond_t kr kr ?_
  refine g_skip kr ?_
  show WP _ _ _ _ _ _
  refine g_seq kr ?_
  refine g_block 1 kr ?_
  refine rS [.v, .v] H32 kr fun gs33 w33 H33 => ?_
  clear H32
  refine rL [.v, .v, .v, .v, .v, .e (v := .int .u64 (Int.fdiv ((n : Nat) : Int) (2 ^ 56))) (v' := .int .u64 ((n / 72057594037927936 : Nat) : Int)) (int_eq (shrN (k := 56) n 72057594037927936 rfl)), .e (v := .int .u8 (IntKind.u8.wrap (((n / 72057594037927936 : Nat) : Int)))) (v' := .int .u8 ((BitVec.toNat (dgB n 72057594037927936) : Nat) : Int)) (dgB_conv n 72057594037927936), .v, .s 0] H33 kr fun gs34 w34 H34 => ?_
  clear H33
  show WP _ _ _ _ _ _
  have HL14 : St w.heap.size w w34 [((gs2 0).b, Obj.cells #[.int .u8 ((BitVec.toNat (dgB n 72057594037927936) : Nat) : Int), .int .u8 ((BitVec.toNat (dgB n 281474976710656) : Nat) : Int), .int .u8 ((BitVec.toNat (dgB n 1099511627776) : Nat) : Int), .int .u8 ((BitVec.toNat (dgB n 4294967296) : Nat) : Int), .int .u8 ((BitVec.toNat (dgB n 16777216) : Nat) : Int), .int .u8 ((BitVec.toNat (dgB n 65536) : Nat) : Int), .int .u8 ((BitVec.toNat (dgB n 256) : Nat) : Int), .int .u8 ((BitVec.toNat (dgB n 1) : Nat) : Int)] 89 (0, 0))] := H34.as kr
  clear H34
  refine rL [.v, .v] HL14 kr fun gs35 w35 H35 => ?_
  clear HL14
  show WPL _ _ _ _ _ _
  refine g_next ?_
  refine rS [.v] H35 kr fun gs36 w36 H36 => ?_
  clear H35
  refine g_keep [0, 2, 3, 4, 5, 6] fun ρ6 => ?_
  have HK15 := H36.keep
  clear H36
  refine g_seq kr ?_
  refine g_cond_f kr kr ?_
  refine g_exit 0 kr ?_
  show WP _ _ _ _ _ _
  have HL16 : St w.heap.size w w36 [((gs2 0).b, Obj.cells #[.int .u8 ((BitVec.toNat (dgB n 72057594037927936) : Nat) : Int), .int .u8 ((BitVec.toNat (dgB n 281474976710656) : Nat) : Int), .int .u8 ((BitVec.toNat (dgB n 1099511627776) : Nat) : Int), .int .u8 ((BitVec.toNat (dgB n 4294967296) : Nat) : Int), .int .u8 ((BitVec.toNat (dgB n 16777216) : Nat) : Int), .int .u8 ((BitVec.toNat (dgB n 65536) : Nat) : Int), .int .u8 ((BitVec.toNat (dgB n 256) : Nat) : Int), .int .u8 ((BitVec.toNat (dgB n 1) : Nat) : Int)] 89 (0, 0))] := HK15.as kr
  clear HK15
  have hz_1 : ∀ (ρ : Env) (o : Oper) (w : World), o.op = .slice 89 (.tmp 3) none none none → Ins (ev ρ) [((.tmp 3), .pointer (some ⟨(gs2 0).b, 0, none⟩))] → (execOp (ev ρ) o).run Tryd.prog w = .ok (.value (.slice (some ⟨(gs2 0).b, 0, none⟩) 8 8)) w := (fun ρ o w ho hi => slArr_run (t := 89) (n := 8) (e := 5) (z := 1) kr kr (x := (.tmp 3)) ((gs2 0).b) ho hi.1 w)
  refine rS [.o hz_1, .x (op := .convert 58 9 (.tmp 17)) (ins := [((.tmp 17), .slice (some ⟨(gs2 0).b, 0, none⟩) 8 8)]) [(0, ((gs2 0).b, Obj.cells #[.int .u8 ((BitVec.toNat (dgB n 72057594037927936) : Nat) : Int), .int .u8 ((BitVec.toNat (dgB n 281474976710656) : Nat) : Int), .int .u8 ((BitVec.toNat (dgB n 1099511627776) : Nat) : Int), .int .u8 ((BitVec.toNat (dgB n 4294967296) : Nat) : Int), .int .u8 ((BitVec.toNat (dgB n 16777216) : Nat) : Int), .int .u8 ((BitVec.toNat (dgB n 65536) : Nat) : Int), .int .u8 ((BitVec.toNat (dgB n 256) : Nat) : Int), .int .u8 ((BitVec.toNat (dgB n 1) : Nat) : Int)] 89 (0, 0)))] (bytesX (t := 58) (t' := 9) (e := 5) [((BitVec.toNat (dgB n 72057594037927936) : Nat) : Int), ((BitVec.toNat (dgB n 281474976710656) : Nat) : Int), ((BitVec.toNat (dgB n 1099511627776) : Nat) : Int), ((BitVec.toNat (dgB n 4294967296) : Nat) : Int), ((BitVec.toNat (dgB n 16777216) : Nat) : Int), ((BitVec.toNat (dgB n 65536) : Nat) : Int), ((BitVec.toNat (dgB n 256) : Nat) : Int), ((BitVec.toNat (dgB n 1) : Nat) : Int)] kr kr kr (Rw.lit #[.int .u8 ((BitVec.toNat (dgB n 72057594037927936) : Nat) : Int), .int .u8 ((BitVec.toNat (dgB n 281474976710656) : Nat) : Int), .int .u8 ((BitVec.toNat (dgB n 1099511627776) : Nat) : Int), .int .u8 ((BitVec.toNat (dgB n 4294967296) : Nat) : Int), .int .u8 ((BitVec.toNat (dgB n 16777216) : Nat) : Int), .int .u8 ((BitVec.toNat (dgB n 65536) : Nat) : Int), .int .u8 ((BitVec.toNat (dgB n 256) : Nat) : Int), .int .u8 ((BitVec.toNat (dgB n 1) : Nat) : Int)] 8 (by rfl) (by unfold maxLen; omega))), .c (trim_fn (strOfNums ([((BitVec.toNat (dgB n 72057594037927936) : Nat) : Int), ((BitVec.toNat (dgB n 281474976710656) : Nat) : Int), ((BitVec.toNat (dgB n 1099511627776) : Nat) : Int), ((BitVec.toNat (dgB n 4294967296) : Nat) : Int), ((BitVec.toNat (dgB n 16777216) : Nat) : Int), ((BitVec.toNat (dgB n 65536) : Nat) : Int), ((BitVec.toNat (dgB n 256) : Nat) : Int), ((BitVec.toNat (dgB n 1) : Nat) : Int)])) (by rw [strOfNums_size]; show 8 ≤ 140737488355328; omega)), .v] HL16 kr fun gs37 w37 H37 => ?_
  clear HL16
  refine g_ret kr ?_
  show ∃ vs, Res _ _ _ _ vs ∧ _
  refine ⟨[.string (strB ((tl (strOfNums ([((BitVec.toNat (dgB n 72057594037927936) : Nat) : Int), ((BitVec.toNat (dgB n 281474976710656) : Nat) : Int), ((BitVec.toNat (dgB n 1099511627776) : Nat) : Int), ((BitVec.toNat (dgB n 4294967296) : Nat) : Int), ((BitVec.toNat (dgB n 16777216) : Nat) : Int), ((BitVec.toNat (dgB n 65536) : Nat) : Int), ((BitVec.toNat (dgB n 256) : Nat) : Int), ((BitVec.toNat (dgB n 1) : Nat) : Int)]))).dropWhile (· == 0)))], (.tmp (.string (strB ((tl (strOfNums ([((BitVec.toNat (dgB n 72057594037927936) : Nat) : Int), ((BitVec.toNat (dgB n 281474976710656) : Nat) : Int), ((BitVec.toNat (dgB n 1099511627776) : Nat) : Int), ((BitVec.toNat (dgB n 4294967296) : Nat) : Int), ((BitVec.toNat (dgB n 16777216) : Nat) : Int), ((BitVec.toNat (dgB n 65536) : Nat) : Int), ((BitVec.toNat (dgB n 256) : Nat) : Int), ((BitVec.toNat (dgB n 1) : Nat) : Int)]))).dropWhile (· == 0)))) kr .nil), ?_, H37.below⟩
  exact congrArg Value.string (congrArg strB (be_drop n hn))
set_option maxRecDepth 100000 in
set_option maxHeartbeats 2000000 in
theorem head_fn (l : Bool) (s : ByteArray) (p : Option Addr) (n c m : Nat) (hm : m < 18446744073709551616) : Fn Tryd.prog 36 #[.agg #[.bool l, .string s, .slice p n c], .int .u64 ((m : Nat) : Int)] (.string (strB (hd (frm l) m))) := by
  refine Fn.intro (c := codeOf Tryd.f36) [.tmp 4] 29 Tryd.func36 kr kr kr fun w => ?_
  have H0 := St.start w
  refine rS [.b, .v] H0 kr fun gs1 w1 H1 => ?_
  clear H0
  refine rS [.v] H1 kr fun gs2 w2 H2 => ?_
  clear H1
  refine g_seq kr ?_
  refine rS [.v, .l 0] H2 kr fun gs3 w3 H3 => ?_
  clear H2
  refine Or.elim (Bool.eq_false_or_eq_true (l)).symm (fun hq1 => ?_) (fun hq1 => ?_)
  · skip
    refine g_now 8 (v := .bool l) (v' := .bool false) (bool_eq hq1) kr ?_
    refine g_cond_f kr kr ?_
    refine g_skip kr ?_
    show WP _ _ _ _ _ _
    refine g_seq kr ?_
    refine g_sreg [0, 1] kr kr ?_
    refine rp [.v] H3 kr fun gs4 w4 H4 => ?_
    show WPs _ _ _ _ [1] _ _
    clear H3
    by_cases hc1 : (m : Nat) ≤ 55
    · skip
      refine rp [.e (v := .bool (decide (((m : Nat) : Int) ≤ 55))) (v' := .bool true) (bool_eq (decide_eq_true (by omega)))] H4 kr fun gs5 w5 H5 => ?_
      show WPs _ _ _ _ [] _ _
      clear H4
      refine s_nil ?_
      refine g_cond_t kr kr ?_
      refine rS [.v, .v, .e (v := .int .u8 (IntKind.u8.wrap (((m : Nat) : Int)))) (v' := .int .u8 ((BitVec.toNat (BitVec.ofNat 8 m) : Nat) : Int)) (bv_ofNat_u8 m), .e (v := .int .u8 (IntKind.u8.wrap ((128) + (((BitVec.toNat (BitVec.ofNat 8 m) : Nat) : Int))))) (v' := .int .u8 ((BitVec.toNat ((128 : BitVec 8) + (BitVec.ofNat 8 m)) : Nat) : Int)) (bv_add_u8 (128 : BitVec 8) (BitVec.ofNat 8 m)), .nw (fun b => .slice (some ⟨b, 0, none⟩) 1 1) #[.int .u8 ((BitVec.toNat ((128 : BitVec 8) + (BitVec.ofNat 8 m)) : Nat) : Int)] 5, .w fun nn => .x (op := .convert 58 9 (.tmp 15)) (ins := [((.tmp 15), .slice (some ⟨(nn 1), 0, none⟩) 1 1)]) [(1, ((nn 1), Obj.cells #[.int .u8 ((BitVec.toNat ((128 : BitVec 8) + (BitVec.ofNat 8 m)) : Nat) : Int)] 5 (0, 0)))] (bytesX (t := 58) (t' := 9) (e := 5) [((BitVec.toNat ((128 : BitVec 8) + (BitVec.ofNat 8 m)) : Nat) : Int)] kr kr kr (Rw.lit #[.int .u8 ((BitVec.toNat ((128 : BitVec 8) + (BitVec.ofNat 8 m)) : Nat) : Int)] 1 (by rfl) (by unfold maxLen; omega))), .v] H5 kr fun gs6 w6 H6 => ?_
      clear H5
      refine g_ret kr ?_
      show ∃ vs, Res _ _ _ _ vs ∧ _
      refine ⟨[.string (strOfNums ([((BitVec.toNat ((128 : BitVec 8) + (BitVec.ofNat 8 m)) : Nat) : Int)]))], (.tmp (.string (strOfNums ([((BitVec.toNat ((128 : BitVec 8) + (BitVec.ofNat 8 m)) : Nat) : Int)]))) kr .nil), ?_, H6.below⟩
      exact congrArg Value.string (hd_small (f := frm l) _ (by rw [hq1]; rfl) m (by omega) (by rw [hq1]; decide))
    · skip
      refine rp [.e (v := .bool (decide (((m : Nat) : Int) ≤ 55))) (v' := .bool false) (bool_eq (decide_eq_false (by omega)))] H4 kr fun gs7 w7 H7 => ?_
      show WPs _ _ _ _ [] _ _
      clear H4
      refine s_nil ?_
      refine g_cond_f kr kr ?_
      refine g_skip kr ?_
      show WP _ _ _ _ _ _
      refine rS [.v, .c (digits_fn m (by omega)), .v] H7 kr fun gs8 w8 H8 => ?_
      clear H7
      refine rS [.v, .v, .v, .v, .e (v := .int .u8 (IntKind.u8.wrap (((ByteArray.size (strB (dg m)) : Nat) : Int)))) (v' := .int .u8 ((BitVec.toNat (BitVec.ofNat 8 (ByteArray.size (strB (dg m)))) : Nat) : Int)) (bv_ofNat_u8 (ByteArray.size (strB (dg m)))), .e (v := .int .u8 (IntKind.u8.wrap ((183) + (((BitVec.toNat (BitVec.ofNat 8 (ByteArray.size (strB (dg m)))) : Nat) : Int))))) (v' := .int .u8 ((BitVec.toNat ((183 : BitVec 8) + (BitVec.ofNat 8 (ByteArray.size (strB (dg m))))) : Nat) : Int)) (bv_add_u8 (183 : BitVec 8) (BitVec.ofNat 8 (ByteArray.size (strB (dg m))))), .nw (fun b => .slice (some ⟨b, 0, none⟩) 1 1) #[.int .u8 ((BitVec.toNat ((183 : BitVec 8) + (BitVec.ofNat 8 (ByteArray.size (strB (dg m))))) : Nat) : Int)] 5, .w fun nn => .x (op := .convert 58 9 (.tmp 25)) (ins := [((.tmp 25), .slice (some ⟨(nn 1), 0, none⟩) 1 1)]) [(1, ((nn 1), Obj.cells #[.int .u8 ((BitVec.toNat ((183 : BitVec 8) + (BitVec.ofNat 8 (ByteArray.size (strB (dg m))))) : Nat) : Int)] 5 (0, 0)))] (bytesX (t := 58) (t' := 9) (e := 5) [((BitVec.toNat ((183 : BitVec 8) + (BitVec.ofNat 8 (ByteArray.size (strB (dg m))))) : Nat) : Int)] kr kr kr (Rw.lit #[.int .u8 ((BitVec.toNat ((183 : BitVec 8) + (BitVec.ofNat 8 (ByteArray.size (strB (dg m))))) : Nat) : Int)] 1 (by rfl) (by unfold maxLen; omega))), .v, .o (ins := [((.tmp 26), .string (strOfNums ([((BitVec.toNat ((183 : BitVec 8) + (BitVec.ofNat 8 (ByteArray.size (strB (dg m))))) : Nat) : Int)]))), ((.tmp 27), .string (strB (dg m)))]) (v := .string ((strOfNums ([((BitVec.toNat ((183 : BitVec 8) + (BitVec.ofNat 8 (ByteArray.size (strB (dg m))))) : Nat) : Int)])) ++ (strB (dg m)))) (fun ρ o w ho hi => sadd_run (t := 9) (t' := 9) (x := (.tmp 26)) (y := (.tmp 27)) (strOfNums ([((BitVec.toNat ((183 : BitVec 8) + (BitVec.ofNat 8 (ByteArray.size (strB (dg m))))) : Nat) : Int)])) (strB (dg m)) w ho hi.1 hi.2.1 (by rw [strOfNums_size, strB_size]; have := dg_len m; show 1 + _ ≤ _; omega)), .v] H8 kr fun gs9 w9 H9 => ?_
      clear H8
      refine g_ret kr ?_
      show ∃ vs, Res _ _ _ _ vs ∧ _
      refine ⟨[.string ((strOfNums ([((BitVec.toNat ((183 : BitVec 8) + (BitVec.ofNat 8 (ByteArray.size (strB (dg m))))) : Nat) : Int)])) ++ (strB (dg m)))], (.tmp (.string ((strOfNums ([((BitVec.toNat ((183 : BitVec 8) + (BitVec.ofNat 8 (ByteArray.size (strB (dg m))))) : Nat) : Int)])) ++ (strB (dg m)))) kr .nil), ?_, H9.below⟩
      exact congrArg Value.string (hd_big (f := frm l) _ (by rw [hq1]; rfl) m (by omega) (by rw [hq1]; decide))
  · skip
    refine g_now 8 (v := .bool l) (v' := .bool true) (bool_eq hq1) kr ?_
    refine g_cond_t kr kr ?_
    refine rL [.v] H3 kr fun gs10 w10 H10 => ?_
    clear H3
    show WP _ _ _ _ _ _
    refine g_seq kr ?_
    refine g_sreg [0, 1] kr kr ?_
    refine rp [.v] H10 kr fun gs11 w11 H11 => ?_
    show WPs _ _ _ _ [1] _ _
    clear H10
    by_cases hc2 : (m : Nat) ≤ 55
    · skip
      refine rp [.e (v := .bool (decide (((m : Nat) : Int) ≤ 55))) (v' := .bool true) (bool_eq (decide_eq_true (by omega)))] H11 kr fun gs12 w12 H12 => ?_
      show WPs _ _ _ _ [] _ _
      clear H11
      refine s_nil ?_
      refine g_cond_t kr kr ?_
      refine rS [.v, .v, .e (v := .int .u8 (IntKind.u8.wrap (((m : Nat) : Int)))) (v' := .int .u8 ((BitVec.toNat (BitVec.ofNat 8 m) : Nat) : Int)) (bv_ofNat_u8 m), .e (v := .int .u8 (IntKind.u8.wrap ((192) + (((BitVec.toNat (BitVec.ofNat 8 m) : Nat) : Int))))) (v' := .int .u8 ((BitVec.toNat ((192 : BitVec 8) + (BitVec.ofNat 8 m)) : Nat) : Int)) (bv_add_u8 (192 : BitVec 8) (BitVec.ofNat 8 m)), .nw (fun b => .slice (some ⟨b, 0, none⟩) 1 1) #[.int .u8 ((BitVec.toNat ((192 : BitVec 8) + (BitVec.ofNat 8 m)) : Nat) : Int)] 5, .w fun nn => .x (op := .convert 58 9 (.tmp 15)) (ins := [((.tmp 15), .slice (some ⟨(nn 1), 0, none⟩) 1 1)]) [(1, ((nn 1), Obj.cells #[.int .u8 ((BitVec.toNat ((192 : BitVec 8) + (BitVec.ofNat 8 m)) : Nat) : Int)] 5 (0, 0)))] (bytesX (t := 58) (t' := 9) (e := 5) [((BitVec.toNat ((192 : BitVec 8) + (BitVec.ofNat 8 m)) : Nat) : Int)] kr kr kr (Rw.lit #[.int .u8 ((BitVec.toNat ((192 : BitVec 8) + (BitVec.ofNat 8 m)) : Nat) : Int)] 1 (by rfl) (by unfold maxLen; omega))), .v] H12 kr fun gs13 w13 H13 => ?_
      clear H12
      refine g_ret kr ?_
      show ∃ vs, Res _ _ _ _ vs ∧ _
      refine ⟨[.string (strOfNums ([((BitVec.toNat ((192 : BitVec 8) + (BitVec.ofNat 8 m)) : Nat) : Int)]))], (.tmp (.string (strOfNums ([((BitVec.toNat ((192 : BitVec 8) + (BitVec.ofNat 8 m)) : Nat) : Int)]))) kr .nil), ?_, H13.below⟩
      exact congrArg Value.string (hd_small (f := frm l) _ (by rw [hq1]; rfl) m (by omega) (by rw [hq1]; decide))
    · skip
      refine rp [.e (v := .bool (decide (((m : Nat) : Int) ≤ 55))) (v' := .bool false) (bool_eq (decide_eq_false (by omega)))] H11 kr fun gs14 w14 H14 => ?_
      show WPs _ _ _ _ [] _ _
      clear H11
      refine s_nil ?_
      refine g_cond_f kr kr ?_
      refine g_skip kr ?_
      show WP _ _ _ _ _ _
      refine rS [.v, .c (digits_fn m (by omega)), .v] H14 kr fun gs15 w15 H15 => ?_
      clear H14
      refine rS [.v, .v, .v, .v, .e (v := .int .u8 (IntKind.u8.wrap (((ByteArray.size (strB (dg m)) : Nat) : Int)))) (v' := .int .u8 ((BitVec.toNat (BitVec.ofNat 8 (ByteArray.size (strB (dg m)))) : Nat) : Int)) (bv_ofNat_u8 (ByteArray.size (strB (dg m)))), .e (v := .int .u8 (IntKind.u8.wrap ((247) + (((BitVec.toNat (BitVec.ofNat 8 (ByteArray.size (strB (dg m)))) : Nat) : Int))))) (v' := .int .u8 ((BitVec.toNat ((247 : BitVec 8) + (BitVec.ofNat 8 (ByteArray.size (strB (dg m))))) : Nat) : Int)) (bv_add_u8 (247 : BitVec 8) (BitVec.ofNat 8 (ByteArray.size (strB (dg m))))), .nw (fun b => .slice (some ⟨b, 0, none⟩) 1 1) #[.int .u8 ((BitVec.toNat ((247 : BitVec 8) + (BitVec.ofNat 8 (ByteArray.size (strB (dg m))))) : Nat) : Int)] 5, .w fun nn => .x (op := .convert 58 9 (.tmp 25)) (ins := [((.tmp 25), .slice (some ⟨(nn 1), 0, none⟩) 1 1)]) [(1, ((nn 1), Obj.cells #[.int .u8 ((BitVec.toNat ((247 : BitVec 8) + (BitVec.ofNat 8 (ByteArray.size (strB (dg m))))) : Nat) : Int)] 5 (0, 0)))] (bytesX (t := 58) (t' := 9) (e := 5) [((BitVec.toNat ((247 : BitVec 8) + (BitVec.ofNat 8 (ByteArray.size (strB (dg m))))) : Nat) : Int)] kr kr kr (Rw.lit #[.int .u8 ((BitVec.toNat ((247 : BitVec 8) + (BitVec.ofNat 8 (ByteArray.size (strB (dg m))))) : Nat) : Int)] 1 (by rfl) (by unfold maxLen; omega))), .v, .o (ins := [((.tmp 26), .string (strOfNums ([((BitVec.toNat ((247 : BitVec 8) + (BitVec.ofNat 8 (ByteArray.size (strB (dg m))))) : Nat) : Int)]))), ((.tmp 27), .string (strB (dg m)))]) (v := .string ((strOfNums ([((BitVec.toNat ((247 : BitVec 8) + (BitVec.ofNat 8 (ByteArray.size (strB (dg m))))) : Nat) : Int)])) ++ (strB (dg m)))) (fun ρ o w ho hi => sadd_run (t := 9) (t' := 9) (x := (.tmp 26)) (y := (.tmp 27)) (strOfNums ([((BitVec.toNat ((247 : BitVec 8) + (BitVec.ofNat 8 (ByteArray.size (strB (dg m))))) : Nat) : Int)])) (strB (dg m)) w ho hi.1 hi.2.1 (by rw [strOfNums_size, strB_size]; have := dg_len m; show 1 + _ ≤ _; omega)), .v] H15 kr fun gs16 w16 H16 => ?_
      clear H15
      refine g_ret kr ?_
      show ∃ vs, Res _ _ _ _ vs ∧ _
      refine ⟨[.string ((strOfNums ([((BitVec.toNat ((247 : BitVec 8) + (BitVec.ofNat 8 (ByteArray.size (strB (dg m))))) : Nat) : Int)])) ++ (strB (dg m)))], (.tmp (.string ((strOfNums ([((BitVec.toNat ((247 : BitVec 8) + (BitVec.ofNat 8 (ByteArray.size (strB (dg m))))) : Nat) : Int)])) ++ (strB (dg m)))) kr .nil), ?_, H16.below⟩
      exact congrArg Value.string (hd_big (f := frm l) _ (by rw [hq1]; rfl) m (by omega) (by rw [hq1]; decide))
set_option maxRecDepth 100000 in
set_option maxHeartbeats 2000000 in
theorem inside_step (m : Nat) (ih : ∀ (l : Bool) (s : ByteArray) (p : Option Addr) (n c : Nat) (k : Fo), s.size ≤ 140737488355328 → s.size + wtF k ≤ 4611686018427387904 → k.cnt < m → FnP Tryd.prog 22 #[.agg #[.bool l, .string s, .slice p n c]] (fun w => SlAt w.heap.size w p n k) (.int .u64 ((sz1 l s (szF k) : Nat) : Int))) (l : Bool) (s : ByteArray) (p : Option Addr) (n c : Nat) (k : Fo) (hs : s.size ≤ 140737488355328) (hw : s.size + wtF k ≤ 4611686018427387904) (hkm : k.cnt < m + 1) : FnP Tryd.prog 35 #[.agg #[.bool l, .string s, .slice p n c]] (fun w => SlAt w.heap.size w p n k) (.int .u64 ((ByteArray.size s + szF k : Nat) : Int)) := by
  refine FnP.intro (c := codeOf Tryd.f35) [.tmp 2] 23 Tryd.func35 kr kr kr fun w hpre => ?_
  have H0 := St.start w
  have hn := hpre.1
  have hnm := hpre.2.1
  refine rS [.b, .v] H0 kr fun gs1 w1 H1 => ?_
  clear H0
  refine rS [.v, .l 0, .v, .e (v := .int .u64 (IntKind.u64.wrap (((ByteArray.size s : Nat) : Int)))) (v' := .int .u64 ((ByteArray.size s : Nat) : Int)) (int_eq (wrapN_u64 (a := ByteArray.size s) (by omega))), .v] H1 kr fun gs2 w2 H2 => ?_
  clear H1
  refine g_seq kr ?_
  refine rS [.v, .l 0, .v, .v] H2 kr fun gs3 w3 H3 => ?_
  clear H2
  refine g_block 0 kr ?_
  have HL1 : St w.heap.size w w3 [((gs1 0).b, Obj.cells #[.bool l, .string s, .slice p n c] 43 (0, 0))] := H3.as kr
  clear H3
  have HD2 : St w.heap.size w w3 [] := HL1.sub (List.Sublist.cons _ List.Sublist.slnil)
  refine g_loop kr (fun mz ρ ww => ∃ (i : Nat) (r : Fo) (a : Nat), n - i = mz ∧ (FoR w.heap.size w p i r) ∧ (i + Fo.len r = n) ∧ (Fo.cnt r ≤ Fo.cnt k) ∧ (a + wtF r ≤ 4611686018427387904) ∧ (s.size + szF k = a + szF r) ∧ St w.heap.size w ww [] ∧ Is [(0, .agg #[.bool l, .string s, .slice p n c]), (1, .pointer (some ⟨(gs1 0).b, 0, none⟩)), (2, .int .u64 0), (3, .int .u64 ((a : Nat) : Int)), (11, .slice p n c), (12, .int .i64 ((n : Nat) : Int)), (13, .int .i64 ((i : Nat) : Int))] ρ) (n - 0) ⟨0, k, (ByteArray.size s), rfl, (SlAt.start hpre), (by have hn0 := (hpre).1; omega), (Nat.le_refl _), hw, rfl, HD2, (Is.of ⟨kr, kr, kr, kr, kr, kr, kr, trivial⟩)⟩ ?_
  clear HD2
  rintro _ _ w4 ⟨i, r, a, rfl, hR, hN, hcn, hwt, hd, H4, _, rfl⟩
  by_cases hc3 : (i : Nat) < n
  · skip
    refine rS [.e (v := .bool (decide (((i : Nat) : Int) < ((n : Nat) : Int)))) (v' := .bool true) (bool_eq (decide_eq_true (by omega)))] H4 kr fun gs5 w5 H5 => ?_
    clear H4
    refine g_seq kr ?_
    refine g_cond_t kr kr ?_
    refine g_skip kr ?_
    show WP _ _ _ _ _ _
    refine g_seq kr ?_
    refine g_block 1 kr ?_
    obtain ⟨l1, s1, k1, r1, b1, off1, C1, T1, fz1, p1, n1, c1, hr1, hp1, hb1, hh1, hs1, hx1, hz1, hk1, hR1, hN1⟩ := FoR.open hR hN (by omega)
    refine rS [.o (ins := [((.tmp 11), .slice p n c), ((.tmp 13), .int .i64 ((i : Nat) : Int))]) (v := .pointer (some ⟨b1, off1 + i * 3, none⟩)) (fun ρ o w ho hi => idxO_run (kd := .i64) (t := 41) (e := 43) (bytes := 48) kr (x := (.tmp 11)) (y := (.tmp 13)) b1 off1 n c i hp1 ho hi.1 hi.2.1 (by omega) w), .fp (off := off1 + i * 3) (n := 3) (W := #[.bool l1, .string s1, .slice p1 n1 c1]) hh1 hb1 hs1 hx1, .a, .s 0] H5 kr fun gs6 w6 H6 => ?_
    clear H5
    have hcn1 := hcn
    rw [hr1] at hcn1
    simp only [Fo.cnt] at hcn1
    have hwt1 := hwt
    rw [hr1] at hwt1
    simp only [wtF] at hwt1
    have hsl1 := szF_le k1
    have hsm1 := sz1_le l1 s1 (szF k1)
    refine rL [.v, .l 0, .cp (pre := fun w => SlAt w.heap.size w p1 n1 k1) (ih l1 s1 p1 n1 c1 k1 hz1 (by omega) (by omega)) [] (fun w hb hd => (SlAt.call hk1 hb)), .e (v := .int .u64 (IntKind.u64.wrap (((a : Nat) : Int) + ((sz1 l1 s1 (szF k1) : Nat) : Int)))) (v' := .int .u64 ((a + (sz1 l1 s1 (szF k1)) : Nat) : Int)) (int_eq (wrapAdd_u64 (a := a) (b := sz1 l1 s1 (szF k1)) (by omega))), .v] H6 kr fun gs7 w7 H7 => ?_
    clear H6
    show WP _ _ _ _ _ _
    refine g_keep [0, 1, 2, 3, 5, 11, 12, 13, 14] fun ρ1 => ?_
    have HK4 := H7.keep
    clear H7
    refine rL [.e (v := .int .i64 (IntKind.i64.wrap (((i : Nat) : Int) + 1))) (v' := .int .i64 ((i + 1 : Nat) : Int)) (int_eq (wrapAdd_i64 (a := i) (b := 1) (by omega))), .v] HK4 kr fun gs8 w8 H8 => ?_
    clear HK4
    have HL5 : St w.heap.size w w8 [((gs6 2).b, Obj.cells #[.bool l1, .string s1, .slice p1 n1 c1] 43 (0, 0))] := H8.as kr
    clear H8
    have HD6 : St w.heap.size w w8 [] := HL5.sub (List.Sublist.cons _ List.Sublist.slnil)
    show ∃ m, _ ∧ _
    exact ⟨_, (by omega), (i + 1), r1, (a + sz1 l1 s1 (szF k1)), rfl, hR1, hN1, (by omega), (by omega), (by rw [hd, hr1]; simp only [szF]; omega), HD6, (Is.of ⟨kr, kr, kr, kr, kr, kr, kr, trivial⟩)⟩
  · skip
    refine rS [.e (v := .bool (decide (((i : Nat) : Int) < ((n : Nat) : Int)))) (v' := .bool false) (bool_eq (decide_eq_false (by omega)))] H4 kr fun gs9 w9 H9 => ?_
    clear H4
    refine g_seq kr ?_
    refine g_cond_f kr kr ?_
    refine g_exit 0 kr ?_
    show WP _ _ _ _ _ _
    refine rS [.v, .v] H9 kr fun gs10 w10 H10 => ?_
    clear H9
    refine g_ret kr ?_
    show ∃ vs, Res _ _ _ _ vs ∧ _
    refine ⟨[.int .u64 ((a : Nat) : Int)], (.tmp (.int .u64 ((a : Nat) : Int)) kr .nil), ?_, H10.below⟩
    refine int_eq ?_
    rw [hd, FoR.done hN (by omega)]; rfl
set_option maxRecDepth 100000 in
set_option maxHeartbeats 2000000 in
theorem size_step (m : Nat) (ih : ∀ (l : Bool) (s : ByteArray) (p : Option Addr) (n c : Nat) (k : Fo), s.size ≤ 140737488355328 → s.size + wtF k ≤ 4611686018427387904 → k.cnt < m → FnP Tryd.prog 22 #[.agg #[.bool l, .string s, .slice p n c]] (fun w => SlAt w.heap.size w p n k) (.int .u64 ((sz1 l s (szF k) : Nat) : Int))) (l : Bool) (s : ByteArray) (p : Option Addr) (n c : Nat) (k : Fo) (hs : s.size ≤ 140737488355328) (hw : s.size + wtF k ≤ 4611686018427387904) (hkm : k.cnt < m + 1) : FnP Tryd.prog 22 #[.agg #[.bool l, .string s, .slice p n c]] (fun w => SlAt w.heap.size w p n k) (.int .u64 ((sz1 l s (szF k) : Nat) : Int)) := by
  refine FnP.intro (c := codeOf Tryd.f22) [.tmp 2] 16 Tryd.func22 kr kr kr fun w hpre => ?_
  have H0 := St.start w
  have hn := hpre.1
  have hnm := hpre.2.1
  refine rS [.b, .v] H0 kr fun gs1 w1 H1 => ?_
  clear H0
  refine g_seq kr ?_
  refine rS [.v, .l 0, .c (single_fn s)] H1 kr fun gs2 w2 H2 => ?_
  clear H1
  refine Or.elim (Bool.eq_false_or_eq_true (single s)).symm (fun hq1 => ?_) (fun hq1 => ?_)
  · skip
    refine g_now 6 (v := .bool (single s)) (v' := .bool false) (bool_eq hq1) kr ?_
    refine g_cond_f kr kr ?_
    refine g_skip kr ?_
    show WP _ _ _ _ _ _
    refine rS [.l 0, .cp (pre := fun w => SlAt w.heap.size w p n k) (inside_step m ih l s p n c k (by omega) (by omega) (by omega)) [] (fun w hb hd => (SlAt.call hpre hb)), .v] H2 kr fun gs3 w3 H3 => ?_
    clear H2
    have hhl := hd_len (frm l) (ByteArray.size s + szF k)
    have hsz := szF_le k
    have hhs : ByteArray.size (strB (hd (frm l) (ByteArray.size s + szF k))) ≤ 9 := hhl.2
    refine rS [.l 0, .v, .c (head_fn l s p n c (ByteArray.size s + szF k) (by omega)), .v, .e (v := .int .u64 (IntKind.u64.wrap (((ByteArray.size (strB (hd (frm l) (ByteArray.size s + szF k))) : Nat) : Int)))) (v' := .int .u64 ((ByteArray.size (strB (hd (frm l) (ByteArray.size s + szF k))) : Nat) : Int)) (int_eq (wrapN_u64 (a := ByteArray.size (strB (hd (frm l) (ByteArray.size s + szF k)))) (by omega))), .v, .e (v := .int .u64 (IntKind.u64.wrap (((ByteArray.size (strB (hd (frm l) (ByteArray.size s + szF k))) : Nat) : Int) + ((ByteArray.size s + szF k : Nat) : Int)))) (v' := .int .u64 (((ByteArray.size (strB (hd (frm l) (ByteArray.size s + szF k)))) + (ByteArray.size s + szF k) : Nat) : Int)) (int_eq (wrapAdd_u64 (a := ByteArray.size (strB (hd (frm l) (ByteArray.size s + szF k)))) (b := ByteArray.size s + szF k) (by omega))), .v] H3 kr fun gs4 w4 H4 => ?_
    clear H3
    refine g_ret kr ?_
    show ∃ vs, Res _ _ _ _ vs ∧ _
    refine ⟨[.int .u64 (((ByteArray.size (strB (hd (frm l) (ByteArray.size s + szF k)))) + (ByteArray.size s + szF k) : Nat) : Int)], (.tmp (.int .u64 (((ByteArray.size (strB (hd (frm l) (ByteArray.size s + szF k)))) + (ByteArray.size s + szF k) : Nat) : Int)) kr .nil), ?_, H4.below⟩
    refine int_eq ?_
    unfold sz1; rw [if_neg (by rw [hq1]; decide)]; rfl
  · skip
    refine g_now 6 (v := .bool (single s)) (v' := .bool true) (bool_eq hq1) kr ?_
    refine g_cond_t kr kr ?_
    refine rS [.v] H2 kr fun gs5 w5 H5 => ?_
    clear H2
    refine g_ret kr ?_
    show ∃ vs, Res _ _ _ _ vs ∧ _
    refine ⟨[.int .u64 1], (.tmp (.int .u64 1) kr .nil), ?_, H5.below⟩
    refine int_eq ?_
    unfold sz1; rw [if_pos hq1]; rfl
theorem size_fn (l : Bool) (s : ByteArray) (p : Option Addr) (n c : Nat) (k : Fo) (hs : s.size ≤ 140737488355328) (hw : s.size + wtF k ≤ 4611686018427387904) : FnP Tryd.prog 22 #[.agg #[.bool l, .string s, .slice p n c]] (fun w => SlAt w.heap.size w p n k) (.int .u64 ((sz1 l s (szF k) : Nat) : Int)) := by
  have key : ∀ (m : Nat) (l : Bool) (s : ByteArray) (p : Option Addr) (n c : Nat) (k : Fo), s.size ≤ 140737488355328 → s.size + wtF k ≤ 4611686018427387904 → k.cnt < m → FnP Tryd.prog 22 #[.agg #[.bool l, .string s, .slice p n c]] (fun w => SlAt w.heap.size w p n k) (.int .u64 ((sz1 l s (szF k) : Nat) : Int)) := by
    intro m
    induction m with
    | zero => intros; omega
    | succ m ih => intro l s p n c k hs hw hkm; exact size_step m ih l s p n c k hs hw hkm
  exact key (k.cnt + 1) l s p n c k hs hw (by omega)
theorem inside_fn (l : Bool) (s : ByteArray) (p : Option Addr) (n c : Nat) (k : Fo) (hs : s.size ≤ 140737488355328) (hw : s.size + wtF k ≤ 4611686018427387904) : FnP Tryd.prog 35 #[.agg #[.bool l, .string s, .slice p n c]] (fun w => SlAt w.heap.size w p n k) (.int .u64 ((ByteArray.size s + szF k : Nat) : Int)) := inside_step k.cnt (fun l s p n c k hs hw _ => size_fn l s p n c k hs hw) l s p n c k hs hw (by omega)
end Go.Proofs.YtkkbkpneodecnaaDoor

namespace Go.Proofs.YtkkbkpneodecnaaDoor
open Go Go.RowKit
set_option linter.unusedVariables false
theorem St.perm {B : Nat} {w0 w : World} {l l' : List (Nat × Obj)} (h : St B w0 w l) (hp : l'.Perm l) : St B w0 w l' :=
  ⟨h.below, h.le, fun x hx => h.own x (hp.mem_iff.1 hx), ((hp.map (·.1)).nodup_iff).2 h.nd⟩
/-- The builder in block p (of type T, its bytes of type e) holds out. -/
inductive BE (p : Nat) (T e : TypeId) : List UInt8 → List (Nat × Obj) → Prop
  | nil (a : Option Addr) : a = none ∨ a = some ⟨p, 0, none⟩ → BE p T e [] [(p, .cells #[.pointer a, .slice none 0 0] T (0, 0))]
  | row (a : Option Addr) (b n cap : Nat) (cur : Array Value) (out : List UInt8) : a = none ∨ a = some ⟨p, 0, none⟩ → n = out.length → Rw 1 cur cap n (cellsB out) →
      BE p T e out [(b, .cells cur e (0, 0)), (p, .cells #[.pointer a, .slice (some ⟨b, 0, none⟩) n cap] T (0, 0))]
/-- A call that writes from out to out' into a builder. -/
def FnB (P : Program) (f : Nat) (args : Array Value) (v : Value) (p : Nat) (T e : TypeId) (out out' : List UInt8) (pre : World → Prop) : Prop :=
  ∀ (w0 w : World) (L E : List (Nat × Obj)), BE p T e out E → pre w0 → St w0.heap.size w0 w (E ++ L) → Calls P f args w fun r w' => ∃ E', r = .returned v ∧ BE p T e out' E' ∧ St w0.heap.size w0 w' (E' ++ L)
/-- The same, where nothing lies beside it. -/
def FnB0 (P : Program) (f : Nat) (args : Array Value) (v : Value) (p : Nat) (T e : TypeId) (out out' : List UInt8) (pre : World → Prop) : Prop :=
  ∀ (w0 w : World) (E : List (Nat × Obj)), BE p T e out E → pre w0 → St w0.heap.size w0 w E → Calls P f args w fun r w' => ∃ E', r = .returned v ∧ BE p T e out' E' ∧ St w0.heap.size w0 w' E'
section
variable {P : Program} {N : Nat} {ops : Array Oper} {i : Nat} {r : List Nat} {K : Env → World → Prop} {ρ : Env} {w : World} {w0 : World} {l E : List (Nat × Obj)}
theorem s_callB (HS : St w0.heap.size w0 w (l ++ E)) {p : Nat} {T e : TypeId} {out : List UInt8} (hE : BE p T e out E) (d : Option Nat) (f : Nat) (args : Array Value) (v : Value) (out' : List UInt8) (pre : World → Prop) (hc : FnB P f args v p T e out out' pre) (hp : pre w0)
    (h : opv P ops i ρ w = some (d, true, .ok (.enter f args) w)) (hd : dOK d N = true)
    (kk : ∀ E' w', BE p T e out' E' → St w0.heap.size w0 w' (l ++ E') → WPs P N ops K r (updO ρ d v) w') : WPs P N ops K (i :: r) ρ w := by
  obtain ⟨o, ho, rfl, hw, hr⟩ := opv_some h
  refine WPo.run ho hw fun a ha => ?_
  rw [hr, Oper.upon_enter]
  refine (hc w0 w l E hE hp (HS.perm List.perm_append_comm)).mono ?_
  rintro _ w' ⟨E', rfl, hE', HS'⟩
  exact ⟨_, ha.put _ (dOK_lt hd) v, kk E' w' hE' (HS'.perm List.perm_append_comm)⟩
theorem s_callB0 (HS : St w0.heap.size w0 w E) {p : Nat} {T e : TypeId} {out : List UInt8} (hE : BE p T e out E) (d : Option Nat) (f : Nat) (args : Array Value) (v : Value) (out' : List UInt8) (pre : World → Prop) (hc : FnB0 P f args v p T e out out' pre) (hp : pre w0)
    (h : opv P ops i ρ w = some (d, true, .ok (.enter f args) w)) (hd : dOK d N = true)
    (kk : ∀ E' w', BE p T e out' E' → St w0.heap.size w0 w' E' → WPs P N ops K r (updO ρ d v) w') : WPs P N ops K (i :: r) ρ w := by
  obtain ⟨o, ho, rfl, hw, hr⟩ := opv_some h
  refine WPo.run ho hw fun a ha => ?_
  rw [hr, Oper.upon_enter]
  refine (hc w0 w E hE hp HS).mono ?_
  rintro _ w' ⟨E', rfl, hE', HS'⟩
  exact ⟨_, ha.put _ (dOK_lt hd) v, kk E' w' hE' HS'⟩
theorem FnB.intro {f : Nat} {fn : Func} {c : Code} (rs : List ResultVar) (N : Nat) {args : Array Value} {v : Value} {p : Nat} {T e : TypeId} {out out' : List UInt8} {pre : World → Prop} (hf : P.funcs[f]? = some fn) (hb : fn.body = some c) (hr : fn.results.toList = rs) (hn : args.size + (fn.ntmps - args.size) = N)
    (h : ∀ w0 w L E, BE p T e out E → pre w0 → St w0.heap.size w0 w (E ++ L) → WP P N c (ends P rs fun v' w' => v' = v ∧ ∃ E', BE p T e out' E' ∧ St w0.heap.size w0 w' (E' ++ L)) (ini args) w) : FnB P f args v p T e out out' pre := fun w0 w L E hE hp HS =>
  (calls_intro hf hb hr hn (h w0 w L E hE hp HS)).mono fun _ w' ⟨v', he, hv, E', h1, h2⟩ => ⟨E', by rw [he, hv], h1, h2⟩
theorem FnB0.intro {f : Nat} {fn : Func} {c : Code} (rs : List ResultVar) (N : Nat) {args : Array Value} {v : Value} {p : Nat} {T e : TypeId} {out out' : List UInt8} {pre : World → Prop} (hf : P.funcs[f]? = some fn) (hb : fn.body = some c) (hr : fn.results.toList = rs) (hn : args.size + (fn.ntmps - args.size) = N)
    (h : ∀ w0 w E, BE p T e out E → pre w0 → St w0.heap.size w0 w E → WP P N c (ends P rs fun v' w' => v' = v ∧ ∃ E', BE p T e out' E' ∧ St w0.heap.size w0 w' E') (ini args) w) : FnB0 P f args v p T e out out' pre := fun w0 w E hE hp HS =>
  (calls_intro hf hb hr hn (h w0 w E hE hp HS)).mono fun _ w' ⟨v', he, hv, E', h1, h2⟩ => ⟨E', by rw [he, hv], h1, h2⟩
def appendOp2 (t u : TypeId) (s x : Operand) : Op := .call { callee := .builtin .append, args := #[s, x], argTypes := #[t, u] }
theorem append2_ex {P : Program} {ρ : Env} {w w' : World} {o : Oper} {t u : TypeId} {s x : Operand} {vs v' : Value} {tx : ByteArray} (hop : o.op = appendOp2 t u s x) (hs : ev ρ s = vs) (hx : ev ρ x = .string tx)
    (hrun : (Builtin.append_ #[t, u] o.type #[vs, .string tx]).run P w = .ok v' w') : (execOp (ev ρ) o).run P w = .ok (.value v') w' := by
  unfold execOp
  simp only [hop, appendOp2, resolve, invoke, builtin, Sem.run_bind, Sem.run_pure, Result.andThen_ok, List.map_toArray, List.map_cons, List.map_nil, hs, hx, hrun]
/-- 'append(b, s...)', of a text, to a row. -/
theorem s_appendStr (HS : St w0.heap.size w0 w l) (d : Option Nat) (t u e : TypeId) (s x : Operand) (j b n cap : Nat) (cur : Array Value) (xs : List UInt8) (tx : ByteArray) (l' : Nat → Array Value → List (Nat × Obj))
    (h : opk ops i ρ = some (d, true, appendOp2 t u s x)) (hd : dOK d N = true) (ht : sliceOf P t = some (e, 1, 1)) (hu' : P.underlying u = some .string)
    (hs : ev ρ s = .slice (some ⟨b, 0, none⟩) n cap) (hj : l[j]? = some (b, .cells cur e (0, 0))) (hr : Rw 1 cur cap n (cellsB xs)) (hx : ev ρ x = .string tx) (hm : n + tx.size ≤ 140737488355328)
    (hl' : ∀ b' cur', l.set j (b', .cells cur' e (0, 0)) = l' b' cur')
    (kk : ∀ b' cap' cur' w', St w0.heap.size w0 w' (l' b' cur') → Rw 1 cur' cap' (n + tx.size) (cellsB (xs ++ tl tx)) → WPs P N ops K r (updO ρ d (.slice (some ⟨b', 0, none⟩) (n + tx.size) cap')) w') : WPs P N ops K (i :: r) ρ w := by
  obtain ⟨o, ho, rfl, hw, hop⟩ := opk_some h
  obtain ⟨it, z, hu, hi, hz, hsz, hby, hzs, h0⟩ := sliceOf_spec ht
  have hg := HS.get j hj
  have hcx : Lib.strCells tx = cellsB (tl tx) := rfl
  have hxn : xs.length = n := by have := hr.len; rw [cellsB_len] at this; omega
  have hlen : (cellsB (xs ++ tl tx)).length = (n + tx.size) * 1 := by rw [cellsB_len, List.length_append, tl_len]; omega
  have hcsz := hr.sz
  by_cases hroom : n + tx.size ≤ cap
  · have hrun := Lib.run_append_room_string (P := P) w t u o.type e it hu hu' hi hsz b n cap cur hg tx hroom (by omega)
    refine WPo.run ho hw fun a ha => ?_
    have hex : (execOp (ev ρ) o).run P w = .ok (.value (.slice (some ⟨b, 0, none⟩) (n + tx.size) cap)) (w.setRow b (cur.toList.take n ++ Lib.strCells tx ++ cur.toList.drop (n + tx.size)).toArray) := by
      unfold execOp
      simp only [hop, appendOp2, resolve, invoke, builtin, Sem.run_bind, Sem.run_pure, Result.andThen_ok, List.map_toArray, List.map_cons, List.map_nil, hs, hx, hrun]
    rw [hex, Oper.upon_value]
    have HS' := HS.store j (C' := (cur.toList.take n ++ Lib.strCells tx ++ cur.toList.drop (n + tx.size)).toArray) hj
    rw [hl'] at HS'
    refine ⟨_, ha.put _ (dOK_lt hd) _, kk b cap _ _ HS' ⟨hlen, hroom, hr.max, ?_, ?_⟩⟩
    · have h1 : cur.toList.take n = cellsB xs := by have := hr.take; rwa [Nat.mul_one] at this
      rw [h1, hcx, ← cellsB_append, ← hlen]
      exact List.take_left
    · simp only [List.size_toArray, List.length_append, List.length_take, List.length_drop, Array.length_toList, Lib.strCells_length]
      omega
  · have holds : ∀ q v, (cellsB xs)[q]? = some v → w.cell? ((⟨b, 0, none⟩ : Addr).add q) = some v := fun q v hq => by
      have hql : q < n := by rw [← hxn, ← cellsB_len]; exact (List.getElem?_eq_some_iff.1 hq).1
      rw [addr_add, Nat.zero_add]
      simp [World.cell?, hg, hr.get q (by omega), hq]
    have hrun := Lib.run_append_grow_string (P := P) w t u o.type e it z hu hu' hi hz ⟨b, 0, none⟩ n cap (cellsB xs) (by rw [cellsB_len, hsz]; omega) holds tx (by omega) (by omega) (by rw [hby]; exact growslice_fits (by omega) (by omega))
    refine WPo.run ho hw fun a ha => ?_
    rw [append2_ex hop hs hx hrun, Oper.upon_value]
    have hgr : w.grownBy (w.drew.alloc (.cells ((cellsB xs).toArray ++ (Lib.strCells tx).toArray ++ Builtin.zeroCells z.cells (grownCap w (n + tx.size) cap e - (n + tx.size))) e)) (some b) :=
      ⟨rfl, rfl, rfl, by simp, fun k hk _ => Go.heap_alloc_old w.drew _ hk⟩
    have HS' := HS.grown j hj hgr (.inr rfl) (heap_alloc_new w.drew _)
    rw [hl'] at HS'
    have hge := grownCap_ge w (n + tx.size) cap e
    refine ⟨_, ha.put _ (dOK_lt hd) _, kk _ (grownCap w (n + tx.size) cap e) _ _ HS' ⟨hlen, hge, grownCap_le_maxLen w (n + tx.size) cap e (by unfold maxLen; omega), ?_, ?_⟩⟩
    · simp only [Array.toList_append]
      rw [hcx]
      show List.take _ (cellsB xs ++ cellsB (tl tx) ++ _) = _
      rw [← cellsB_append, ← hlen]
      exact List.take_left
    · simp only [Array.size_append, List.size_toArray, size_zeroCells, hzs, cellsB_len, Lib.strCells_length]
      omega
/-- To none. -/
theorem s_appendStrNil (HS : St w0.heap.size w0 w l) (d : Option Nat) (t u e : TypeId) (s x : Operand) (tx : ByteArray)
    (h : opk ops i ρ = some (d, true, appendOp2 t u s x)) (hd : dOK d N = true) (ht : sliceOf P t = some (e, 1, 1)) (hu' : P.underlying u = some .string)
    (hs : ev ρ s = .slice none 0 0) (hx : ev ρ x = .string tx) (h0 : 0 < tx.size) (hm : tx.size ≤ 140737488355328)
    (kk : ∀ b' cap' cur' w', St w0.heap.size w0 w' ((b', .cells cur' e (0, 0)) :: l) → Rw 1 cur' cap' tx.size (cellsB (tl tx)) → WPs P N ops K r (updO ρ d (.slice (some ⟨b', 0, none⟩) tx.size cap')) w') : WPs P N ops K (i :: r) ρ w := by
  obtain ⟨o, ho, rfl, hw, hop⟩ := opk_some h
  obtain ⟨it, z, hu, hi, hz, hsz, hby, hzs, h0'⟩ := sliceOf_spec ht
  have hcx : Lib.strCells tx = cellsB (tl tx) := rfl
  have hrun := Go.run_append_nil_string (P := P) w t u o.type e it z hu hu' hi hz tx h0 (by omega) (by rw [hby]; omega)
  refine WPo.run ho hw fun a ha => ?_
  rw [append2_ex hop hs hx hrun, Oper.upon_value]
  have hge := grownCap_ge w tx.size 0 e
  have e1 : (tx.data.map (fun b => Value.int .u8 b.toNat) ++ Builtin.zeroCells z.cells (grownCap w tx.size 0 e - tx.size)).toList = cellsB (tl tx) ++ (Builtin.zeroCells z.cells (grownCap w tx.size 0 e - tx.size)).toList := by
    unfold cellsB tl; simp
  refine ⟨_, ha.put _ (dOK_lt hd) _, kk _ (grownCap w tx.size 0 e) _ _ (HS.drew.alloc _) ⟨by rw [cellsB_len, tl_len, Nat.mul_one], hge, grownCap_le_maxLen w tx.size 0 e (by unfold maxLen; omega), ?_, ?_⟩⟩
  · rw [e1, Nat.mul_one, List.take_append_of_le_length (by rw [cellsB_len, tl_len]; exact Nat.le_refl _), List.take_of_length_le (by rw [cellsB_len, tl_len]; exact Nat.le_refl _)]
  · rw [← Array.length_toList, e1, List.length_append, cellsB_len, tl_len, Array.length_toList, size_zeroCells, hzs]; omega
/-- A pointer to a block of the list as an unsafe one, and back. -/
theorem s_toU {B : Nat} (HS : St B w0 w l) (d : Option Nat) (t t' tp : TypeId) (x : Operand) (j b : Nat) (C : Array Value) (T : TypeId) (h : opk ops i ρ = some (d, true, .convert t t' x)) (hd : dOK d N = true) (hx : ev ρ x = .pointer (some ⟨b, 0, none⟩)) (hj : l[j]? = some (b, .cells C T (0, 0)))
    (ht : P.underlying t = some (.pointer tp)) (ht' : P.underlying t' = some .unsafePointer) (hz : ((P.info? tp).map fun i => Nat.blt 0 i.size) = some true) (hC : 0 < C.size) (kk : WPs P N ops K r (updO ρ d (.pointer (some ⟨b, 0, none⟩))) w) : WPs P N ops K (i :: r) ρ w :=
  s_genw d _ _ w h hd (fun o ho => by
    obtain ⟨it, hi, hs⟩ := Option.map_eq_some_iff.1 hz
    have hsh : w.shape? b = some (T, C.size) := by unfold World.shape?; rw [HS.get j hj]
    have := Lib.run_to_unsafe (P := P) w (src := t) (dst := t') ⟨b, 0, none⟩ ht ht' hi (by have := Nat.le_of_ble_eq_true hs; omega) hsh hC
    unfold execOp
    simp only [ho, hx, Sem.run_bind, this, Result.andThen_ok]; rfl) kk
theorem s_fromU {B : Nat} (HS : St B w0 w l) (d : Option Nat) (t t' tp : TypeId) (x : Operand) (j b : Nat) (C : Array Value) (T : TypeId) (h : opk ops i ρ = some (d, true, .convert t t' x)) (hd : dOK d N = true) (hx : ev ρ x = .pointer (some ⟨b, 0, none⟩)) (hj : l[j]? = some (b, .cells C T (0, 0)))
    (ht : P.underlying t = some .unsafePointer) (ht' : P.underlying t' = some (.pointer tp)) (hz : (P.info? tp).isSome = true) (hl : liesAt P P.depth T (C.size / P.cellsOf T) 0 tp 1 = true) (kk : WPs P N ops K r (updO ρ d (.pointer (some ⟨b, 0, none⟩))) w) : WPs P N ops K (i :: r) ρ w :=
  s_genw d _ _ w h hd (fun o ho => by
    obtain ⟨it, hi⟩ := Option.isSome_iff_exists.1 hz
    have hsh : w.shape? b = some (T, C.size) := by unfold World.shape?; rw [HS.get j hj]
    have := Lib.run_from_unsafe (P := P) w (src := t) (dst := t') ⟨b, 0, none⟩ ht ht' hi hsh hl
    unfold execOp
    simp only [ho, hx, Sem.run_bind, this, Result.andThen_ok]; rfl) kk
theorem neqP_run {t tp t' : TypeId} (ht : P.underlying t = some (.pointer tp)) (hz : (P.info? tp).isSome = true) {x y : Operand} {o : Oper} (a : Addr) (ho : o.op = .binOp .neq t x y t') (hx : ev ρ x = .pointer (some a)) (hy : ev ρ y = .pointer (some a)) :
    ∀ w, (execOp (ev ρ) o).run P w = .ok (.value (.bool false)) w := fun w => by
  obtain ⟨it, hi⟩ := Option.isSome_iff_exists.1 hz
  have := Lib.run_neq_ptr_same (P := P) w a ht hi
  unfold execOp
  simp [ho, hx, hy, eqGuard, this]
def noEscOp (f : Nat) (t : TypeId) (x : Operand) : Op := .call { callee := .value (.func f), args := #[x], argTypes := #[t] }
end
/-- A region that draws its order, whose operation q writes into the builder, behind all others; bx lies beside it. -/
def PreB (w0 : World) (p : Nat) (T e : TypeId) (out' : List UInt8) (bx : Nat × Obj) (E : List (Nat × Obj)) (q : Nat) : (Nat → Bool) → (Nat → D2.Gh) → World → Prop := fun L _ w =>
  bif L q then (∃ E', BE p T e out' E' ∧ St w0.heap.size w0 w ([bx] ++ E')) else St w0.heap.size w0 w ([bx] ++ E)
section
variable {P : Program} {ops : Array Oper} {R : (Nat → D2.Gh) → Env} {i : Nat} {d : Option Nat} {w0 : World} {p : Nat} {T e : TypeId} {out' : List UInt8} {bx : Nat × Obj} {E : List (Nat × Obj)} {q : Nat}
theorem putB_ne {L : Nat → Bool} (h : Nat.beq q i = false) : D2.put1 L i q = L q := by unfold D2.put1; rw [h]; rfl
theorem PreB.keep (h : Nat.beq q i = false) {L : Nat → Bool} {g g' : Nat → D2.Gh} {w : World} (hp : PreB w0 p T e out' bx E q L g w) : PreB w0 p T e out' bx E q (D2.put1 L i) g' w := by
  unfold PreB at hp ⊢; rw [putB_ne h]; exact hp
theorem PreB.cases {L : Nat → Bool} {g : Nat → D2.Gh} {w : World} (hp : PreB w0 p T e out' bx E q L g w) : ∃ E', St w0.heap.size w0 w ([bx] ++ E') ∧ ((∀ w', St w0.heap.size w0 w' ([bx] ++ E') → PreB w0 p T e out' bx E q L g w')) := by
  unfold PreB at hp ⊢
  cases hl : L q with
  | false => rw [hl] at hp; exact ⟨E, hp, fun w' h => h⟩
  | true => rw [hl] at hp; obtain ⟨E', h1, h2⟩ := hp; exact ⟨E', h2, fun w' h => ⟨E', h1, h⟩⟩
theorem gvB_val {V : Value} (hq : Nat.beq q i = false) (h : ∀ g w, opv P ops i (R g) w = some (d, true, .ok (.value V) w)) : D2.Gives P ops R (PreB w0 p T e out' bx E q) i d (fun _ => V) := D2.gv_val (fun _ _ _ hp => hp.keep hq) h
theorem gvB_load {C : Array Value} {T' : TypeId} {t : TypeId} {x : Operand} (hq : Nat.beq q i = false) (h : ∀ g, opk ops i (R g) = some (d, true, .load t x)) (hx : ∀ g, ev (R g) x = .pointer (some ⟨bx.1, 0, none⟩)) (hb : bx.2 = .cells C T' (0, 0)) (ht : aggSize P t = some C.size) : D2.Gives P ops R (PreB w0 p T e out' bx E q) i d (fun _ => .agg C) := D2.gives_of fun L g w hp hN => by
  obtain ⟨o, ho, hd, hw, hop⟩ := opk_some (h g)
  obtain ⟨E', hS, _⟩ := hp.cases
  have hh : w.heap[bx.1]? = some (.cells C T' (0, 0)) := by rw [← hb]; exact hS.get 0 rfl
  have := load_agg (P := P) (w := w) (off := 0) ht hh (by omega)
  have e1 : C.extract 0 (0 + C.size) = C := by simp
  rw [e1] at this
  have e2 : (execOp (ev (R g)) o).run P w = .ok (.value (.agg C)) w := by simp [execOp, hop, Instr.loadAt, Instr.sureAddr, hx g, this]
  exact ⟨o, ho, hd, .inr ⟨hw, by rw [e2]; exact ⟨g i, rfl, by rw [D2.setN_self]; exact hp.keep hq⟩⟩⟩
theorem gvB_callP {V : Value} {f : Nat} {args : Array Value} {pr : World → Prop} (hq : Nat.beq q i = false) (hc : FnP P f args pr V) (hpr : ∀ w, Below w0.heap.size w0 w → pr w) (h : ∀ g w, opv P ops i (R g) w = some (d, true, .ok (.enter f args) w)) : D2.Gives P ops R (PreB w0 p T e out' bx E q) i d (fun _ => V) := D2.gives_of fun L g w hp hN => by
  obtain ⟨o, ho, hd, hw, hr⟩ := opv_some (h g w)
  obtain ⟨E', hS, hk⟩ := hp.cases
  exact ⟨o, ho, hd, .inr ⟨hw, by rw [hr]; exact (hc w (hpr w hS.below)).mono fun e w' ⟨he, hb⟩ => ⟨V, he, g i, rfl, by rw [D2.setN_self]; exact (hk w' (hS.call hb)).keep hq⟩⟩⟩
theorem gvB_call {V : Value} {f : Nat} {args : Array Value} (hq : Nat.beq q i = false) (hc : Fn P f args V) (h : ∀ g w, opv P ops i (R g) w = some (d, true, .ok (.enter f args) w)) : D2.Gives P ops R (PreB w0 p T e out' bx E q) i d (fun _ => V) :=
  gvB_callP (pr := fun _ => True) hq (fun w _ => hc w) (fun _ _ => trivial) h
theorem gvB_eff {V : Value} {f : Nat} {args : Array Value} {out : List UInt8} (hq : q = i) (hE : BE p T e out E) (hc : FnB P f args V p T e out out' (fun _ => True)) (h : ∀ g w, opv P ops i (R g) w = some (d, true, .ok (.enter f args) w)) : D2.Gives P ops R (PreB w0 p T e out' bx E q) i d (fun _ => V) := D2.gives_of fun L g w hp hN => by
  subst hq
  obtain ⟨o, ho, hd, hw, hr⟩ := opv_some (h g w)
  have hS : St w0.heap.size w0 w ([bx] ++ E) := by unfold PreB at hp; rw [hN.1] at hp; exact hp
  refine ⟨o, ho, hd, .inr ⟨hw, ?_⟩⟩
  rw [hr]
  refine (hc w0 w [bx] E hE trivial (hS.perm List.perm_append_comm)).mono ?_
  rintro _ w' ⟨E', rfl, hE', hS'⟩
  refine ⟨V, rfl, g q, rfl, ?_⟩
  unfold PreB
  rw [show D2.put1 L q q = true from D2.put1_self L q]
  exact ⟨E', hE', hS'.perm List.perm_append_comm⟩
theorem PreB.done {L : Nat → Bool} {g : Nat → D2.Gh} {w : World} (hp : PreB w0 p T e out' bx E q L g w) (h : L q = true) : ∃ E', BE p T e out' E' ∧ St w0.heap.size w0 w ([bx] ++ E') := by
  unfold PreB at hp; rw [h] at hp; exact hp
end
/-- A region whose operation q takes all that was known of the blocks. -/
def PreS (w0 : World) (l : List (Nat × Obj)) (q : Nat) : (Nat → Bool) → (Nat → D2.Gh) → World → Prop := fun L _ w => bif L q then St w0.heap.size w0 w [] else St w0.heap.size w0 w l
section
variable {P : Program} {ops : Array Oper} {R : (Nat → D2.Gh) → Env} {i : Nat} {d : Option Nat} {w0 : World} {l : List (Nat × Obj)} {q : Nat}
theorem PreS.keep (h : Nat.beq q i = false) {L : Nat → Bool} {g g' : Nat → D2.Gh} {w : World} (hp : PreS w0 l q L g w) : PreS w0 l q (D2.put1 L i) g' w := by
  unfold PreS at hp ⊢; rw [putB_ne h]; exact hp
theorem gvS_val {V : Value} (hq : Nat.beq q i = false) (h : ∀ g w, opv P ops i (R g) w = some (d, true, .ok (.value V) w)) : D2.Gives P ops R (PreS w0 l q) i d (fun _ => V) := D2.gv_val (fun _ _ _ hp => hp.keep hq) h
/-- An operation ahead of q, of a known run where the blocks lie so. -/
theorem gvS_op {V : Value} (hq : Nat.beq q i = false) (hb : ∀ L, D2.Now ops i L → L q = false) (op : Op) (h : ∀ g, opk ops i (R g) = some (d, true, op)) (hr : ∀ g w (o : Oper), St w0.heap.size w0 w l → o.op = op → (execOp (ev (R g)) o).run P w = .ok (.value V) w) : D2.Gives P ops R (PreS w0 l q) i d (fun _ => V) := D2.gives_of fun L g w hp hN => by
  obtain ⟨o, ho, hd, hw, hop⟩ := opk_some (h g)
  have hS : St w0.heap.size w0 w l := by have h9 := hp; unfold PreS at h9; rw [hb L hN] at h9; exact h9
  exact ⟨o, ho, hd, .inr ⟨hw, by rw [hr g w o hS hop]; exact ⟨g i, rfl, by rw [D2.setN_self]; exact hp.keep hq⟩⟩⟩
theorem gvS_eff {V : Value} (hq : q = i) (op : Op) (h : ∀ g, opk ops i (R g) = some (d, true, op)) (hr : ∀ g w (o : Oper), St w0.heap.size w0 w l → o.op = op → ∃ w', (execOp (ev (R g)) o).run P w = .ok (.value V) w' ∧ St w0.heap.size w0 w' []) : D2.Gives P ops R (PreS w0 l q) i d (fun _ => V) := D2.gives_of fun L g w hp hN => by
  subst hq
  obtain ⟨o, ho, hd, hw, hop⟩ := opk_some (h g)
  have hS : St w0.heap.size w0 w l := by have h9 := hp; unfold PreS at h9; rw [hN.1] at h9; exact h9
  obtain ⟨w', h1, h2⟩ := hr g w o hS hop
  exact ⟨o, ho, hd, .inr ⟨hw, by rw [h1]; exact ⟨g q, rfl, by unfold PreS; rw [show D2.put1 L q q = true from D2.put1_self L q]; exact h2⟩⟩⟩
end
def sliceDataOp (t : TypeId) (x : Operand) : Op := .call { callee := .builtin .unsafeSliceData, args := #[x], argTypes := #[t] }
theorem sliceData_run {P : Program} {ρ : Env} {w : World} {t : TypeId} {x : Operand} {a : Addr} {n c : Nat} (hx : ev ρ x = .slice (some a) n c) (hc : c ≠ 0) (o : Oper) (ho : o.op = sliceDataOp t x) : (execOp (ev ρ) o).run P w = .ok (.value (.pointer (some a))) w := by
  have := Lib.run_unsafeSliceData_row (P := P) (w := w) #[t] o.type a n c hc
  unfold execOp
  simp only [ho, sliceDataOp, resolve, invoke, builtin, Sem.run_bind, Sem.run_pure, Result.andThen_ok, List.map_toArray, List.map_cons, List.map_nil, hx, this]
theorem unsafeStr_run {P : Program} {ρ : Env} {w w0 : World} {l : List (Nat × Obj)} {j b n cap : Nat} {C : Array Value} {t t' e : TypeId} {x y : Operand} {xs : List UInt8} (HS : St w0.heap.size w0 w l) (hj : l[j]? = some (b, .cells C e (0, 0))) (ht : P.underlying t = some (.pointer e)) (hc : P.cellsOf e = 1)
    (hx : ev ρ x = .pointer (some ⟨b, 0, none⟩)) (hy : ev ρ y = .int .i64 (n : Int)) (hr : Rw 1 C cap n (cellsB xs)) (h0 : 0 < n) (hm : n ≤ 9223372036854775807) (o : Oper) (hop : o.op = unsafeOp t t' x y) :
    ∃ w', (execOp (ev ρ) o).run P w = .ok (.value (.string (strB xs))) w' ∧ St w0.heap.size w0 w' [] := by
  have hb := HS.get j hj
  have hB := HS.ge j hj
  have hlen : xs.length = n := by have := hr.len; rw [cellsB_len] at this; omega
  have hsz := hr.sz
  have hle := hr.le
  have hrun := Lib.run_unsafeString_row (P := P) w t t' o.type e ht hc b C.size (by unfold World.shape?; rw [hb]) xs (by intro e; subst e; simp at hlen; omega) (by omega) (by omega) (fun j u hj => by
    have hjl : j < xs.length := (List.getElem?_eq_some_iff.1 hj).1
    have h2 := hr.get j (by omega)
    rw [addr_add, Nat.zero_add]
    have h3 : (cellsB xs)[j]? = some (.int .u8 ((u.toNat : Nat) : Int)) := by unfold cellsB; rw [List.getElem?_map, hj]; rfl
    simp [World.cell?, hb, h2, h3])
  rw [hlen] at hrun
  refine ⟨w.freeze ⟨b, 0, none⟩ n, ?_, ?_⟩
  · unfold execOp
    simp only [hop, unsafeOp, resolve, invoke, builtin, Sem.run_bind, Sem.run_pure, Result.andThen_ok, List.map_toArray, List.map_cons, List.map_nil, hx, hy, hrun]
    rfl
  · have hbel := Lib.below_freeze HS.below (p := ⟨b, 0, none⟩) hB n
    refine ⟨hbel, Nat.le_trans HS.le ?_, (fun e he => nomatch he), List.nodup_nil⟩
    unfold World.freeze
    split <;> simp
theorem St.load1_run {P : Program} {ρ : Env} {w w0 : World} {l : List (Nat × Obj)} {j b off : Nat} {C : Array Value} {T t : TypeId} {x : Operand} {v : Value} (HS : St w0.heap.size w0 w l) (hj : l[j]? = some (b, .cells C T (0, 0))) (ht : oneCell P t = true) (hx : ev ρ x = .pointer (some ⟨b, off, none⟩)) (hv : C[off]? = some v) (o : Oper) (ho : o.op = .load t x) :
    (execOp (ev ρ) o).run P w = .ok (.value v) w := by
  have := load_one (P := P) (w := w) ht (HS.get j hj) hv
  simp [execOp, ho, Instr.loadAt, Instr.sureAddr, hx, this]
end Go.Proofs.YtkkbkpneodecnaaDoor

namespace Go.Proofs.YtkkbkpneodecnaaDoor
open Go Go.RowKit
set_option linter.unusedVariables false
set_option maxRecDepth 100000 in
set_option maxHeartbeats 2000000 in
theorem copyCheck_nil_none  (p : Nat) (w0 w : World) (L : List (Nat × Obj)) (H0 : St w0.heap.size w0 w ([(p, Obj.cells #[.pointer none, .slice none 0 0] 60 (0, 0))] ++ L)) : WP Tryd.prog 20 (codeOf Tryd.f45) (ends Tryd.prog [] fun v' w' => v' = .tuple #[] ∧ ∃ E', BE p 60 5 ([]) E' ∧ St w0.heap.size w0 w' (E' ++ L)) (ini #[.pointer (some ⟨p, 0, none⟩)]) w := by
  refine g_sreg [0, 1, 2, 3, 4] kr kr ?_
  refine s_val (some 2) (.pointer (some ⟨p, 0, none⟩)) (fun w => by kernel_rfl) kr ?_
  refine s_val (some 3) (.pointer (some ⟨p, 0, none⟩)) (fun w => by kernel_rfl) kr ?_
  refine s_val (some 4) (.pointer (some ⟨p, 0, none⟩)) (fun w => by kernel_rfl) kr ?_
  refine s_load1 H0 (some 5) 57 (.tmp 4) 0 p 0 #[.pointer none, .slice none 0 0] 60 (0, 0) (.pointer none) kr kr kr kr kr kr ?_
  refine s_val (some 6) (.bool true) (fun w => by kernel_rfl) kr ?_
  refine s_nil ?_
  refine g_cond_t kr kr ?_
  refine g_reg0 [0, 1, 2, 3, 4, 5, 6, 7] kr ?_
  refine s_val (some 7) (.pointer (some ⟨p, 0, none⟩)) (fun w => by kernel_rfl) kr ?_
  refine s_val (some 8) (.pointer (some ⟨p, 0, none⟩)) (fun w => by kernel_rfl) kr ?_
  refine s_toU H0 (some 9) 57 92 60 (.tmp 8) 0 p #[.pointer none, .slice none 0 0] 60 kr kr kr kr kr kr kr (by show 0 < 2; omega) ?_
  refine s_val (some 10) (.pointer (some ⟨p, 0, none⟩)) (fun w => by kernel_rfl) kr ?_
  refine s_fromU H0 (some 11) 92 57 60 (.tmp 10) 0 p #[.pointer none, .slice none 0 0] 60 kr kr kr kr kr kr kr kr ?_
  refine s_val (some 12) (.pointer (some ⟨p, 0, none⟩)) (fun w => by kernel_rfl) kr ?_
  refine s_val (some 13) (.pointer (some ⟨p, 0, none⟩)) (fun w => by kernel_rfl) kr ?_
  refine s_store H0 0 ([(p, Obj.cells #[.pointer (some ⟨p, 0, none⟩), .slice none 0 0] 60 (0, 0))] ++ L) 57 (.tmp 13) (.tmp 11) p (0) #[.pointer none, .slice none 0 0] #[.pointer (some ⟨p, 0, none⟩), .slice none 0 0] 60 (.pointer (some ⟨p, 0, none⟩)) kr kr kr kr kr kr (of_decide_eq_true kr) kr kr ?_
  intro w1 H1; clear H0
  refine s_nil ?_
  show ∃ vs, Res _ _ _ _ vs ∧ _
  exact ⟨[], .nil, rfl, _, (BE.nil (some ⟨p, 0, none⟩) (Or.inr rfl)), H1⟩
set_option maxRecDepth 100000 in
set_option maxHeartbeats 2000000 in
theorem copyCheck_nil_self  (p : Nat) (w0 w : World) (L : List (Nat × Obj)) (H0 : St w0.heap.size w0 w ([(p, Obj.cells #[.pointer (some ⟨p, 0, none⟩), .slice none 0 0] 60 (0, 0))] ++ L)) : WP Tryd.prog 20 (codeOf Tryd.f45) (ends Tryd.prog [] fun v' w' => v' = .tuple #[] ∧ ∃ E', BE p 60 5 ([]) E' ∧ St w0.heap.size w0 w' (E' ++ L)) (ini #[.pointer (some ⟨p, 0, none⟩)]) w := by
  refine g_sreg [0, 1, 2, 3, 4] kr kr ?_
  refine s_val (some 2) (.pointer (some ⟨p, 0, none⟩)) (fun w => by kernel_rfl) kr ?_
  refine s_val (some 3) (.pointer (some ⟨p, 0, none⟩)) (fun w => by kernel_rfl) kr ?_
  refine s_val (some 4) (.pointer (some ⟨p, 0, none⟩)) (fun w => by kernel_rfl) kr ?_
  refine s_load1 H0 (some 5) 57 (.tmp 4) 0 p 0 #[.pointer (some ⟨p, 0, none⟩), .slice none 0 0] 60 (0, 0) (.pointer (some ⟨p, 0, none⟩)) kr kr kr kr kr kr ?_
  refine s_val (some 6) (.bool false) (fun w => by kernel_rfl) kr ?_
  refine s_nil ?_
  refine g_cond_f kr kr ?_
  refine g_sreg [0, 1, 2, 3, 4, 5] kr kr ?_
  refine s_val (some 14) (.pointer (some ⟨p, 0, none⟩)) (fun w => by kernel_rfl) kr ?_
  refine s_val (some 15) (.pointer (some ⟨p, 0, none⟩)) (fun w => by kernel_rfl) kr ?_
  refine s_val (some 16) (.pointer (some ⟨p, 0, none⟩)) (fun w => by kernel_rfl) kr ?_
  refine s_load1 H0 (some 17) 57 (.tmp 16) 0 p 0 #[.pointer (some ⟨p, 0, none⟩), .slice none 0 0] 60 (0, 0) (.pointer (some ⟨p, 0, none⟩)) kr kr kr kr kr kr ?_
  refine s_val (some 18) (.pointer (some ⟨p, 0, none⟩)) (fun w => by kernel_rfl) kr ?_
  refine s_op (some 19) _ (.bool false) kr kr (fun o w ho => neqP_run (t := 57) (tp := 60) (t' := 57) kr kr (x := (.tmp 17)) (y := (.tmp 18)) ⟨p, 0, none⟩ ho kr kr w) ?_
  refine s_nil ?_
  refine g_cond_f kr kr ?_
  refine g_skip kr ?_
  show ∃ vs, Res _ _ _ _ vs ∧ _
  exact ⟨[], .nil, rfl, _, (BE.nil (some ⟨p, 0, none⟩) (Or.inr rfl)), H0⟩
set_option maxRecDepth 100000 in
set_option maxHeartbeats 2000000 in
theorem copyCheck_row_none  (p : Nat) (b n cap : Nat) (cur : Array Value) (out : List UInt8) (hn : n = out.length) (hr : Rw 1 cur cap n (cellsB out)) (w0 w : World) (L : List (Nat × Obj)) (H0 : St w0.heap.size w0 w ([(b, Obj.cells cur 5 (0, 0)), (p, Obj.cells #[.pointer none, .slice (some ⟨b, 0, none⟩) n cap] 60 (0, 0))] ++ L)) : WP Tryd.prog 20 (codeOf Tryd.f45) (ends Tryd.prog [] fun v' w' => v' = .tuple #[] ∧ ∃ E', BE p 60 5 out E' ∧ St w0.heap.size w0 w' (E' ++ L)) (ini #[.pointer (some ⟨p, 0, none⟩)]) w := by
  refine g_sreg [0, 1, 2, 3, 4] kr kr ?_
  refine s_val (some 2) (.pointer (some ⟨p, 0, none⟩)) (fun w => by kernel_rfl) kr ?_
  refine s_val (some 3) (.pointer (some ⟨p, 0, none⟩)) (fun w => by kernel_rfl) kr ?_
  refine s_val (some 4) (.pointer (some ⟨p, 0, none⟩)) (fun w => by kernel_rfl) kr ?_
  refine s_load1 H0 (some 5) 57 (.tmp 4) 1 p 0 #[.pointer none, .slice (some ⟨b, 0, none⟩) n cap] 60 (0, 0) (.pointer none) kr kr kr kr kr kr ?_
  refine s_val (some 6) (.bool true) (fun w => by kernel_rfl) kr ?_
  refine s_nil ?_
  refine g_cond_t kr kr ?_
  refine g_reg0 [0, 1, 2, 3, 4, 5, 6, 7] kr ?_
  refine s_val (some 7) (.pointer (some ⟨p, 0, none⟩)) (fun w => by kernel_rfl) kr ?_
  refine s_val (some 8) (.pointer (some ⟨p, 0, none⟩)) (fun w => by kernel_rfl) kr ?_
  refine s_toU H0 (some 9) 57 92 60 (.tmp 8) 1 p #[.pointer none, .slice (some ⟨b, 0, none⟩) n cap] 60 kr kr kr kr kr kr kr (by show 0 < 2; omega) ?_
  refine s_val (some 10) (.pointer (some ⟨p, 0, none⟩)) (fun w => by kernel_rfl) kr ?_
  refine s_fromU H0 (some 11) 92 57 60 (.tmp 10) 1 p #[.pointer none, .slice (some ⟨b, 0, none⟩) n cap] 60 kr kr kr kr kr kr kr kr ?_
  refine s_val (some 12) (.pointer (some ⟨p, 0, none⟩)) (fun w => by kernel_rfl) kr ?_
  refine s_val (some 13) (.pointer (some ⟨p, 0, none⟩)) (fun w => by kernel_rfl) kr ?_
  refine s_store H0 1 ([(b, Obj.cells cur 5 (0, 0)), (p, Obj.cells #[.pointer (some ⟨p, 0, none⟩), .slice (some ⟨b, 0, none⟩) n cap] 60 (0, 0))] ++ L) 57 (.tmp 13) (.tmp 11) p (0) #[.pointer none, .slice (some ⟨b, 0, none⟩) n cap] #[.pointer (some ⟨p, 0, none⟩), .slice (some ⟨b, 0, none⟩) n cap] 60 (.pointer (some ⟨p, 0, none⟩)) kr kr kr kr kr kr (of_decide_eq_true kr) kr kr ?_
  intro w1 H1; clear H0
  refine s_nil ?_
  show ∃ vs, Res _ _ _ _ vs ∧ _
  exact ⟨[], .nil, rfl, _, (BE.row (some ⟨p, 0, none⟩) b n cap cur out (Or.inr rfl) hn hr), H1⟩
set_option maxRecDepth 100000 in
set_option maxHeartbeats 2000000 in
theorem copyCheck_row_self  (p : Nat) (b n cap : Nat) (cur : Array Value) (out : List UInt8) (hn : n = out.length) (hr : Rw 1 cur cap n (cellsB out)) (w0 w : World) (L : List (Nat × Obj)) (H0 : St w0.heap.size w0 w ([(b, Obj.cells cur 5 (0, 0)), (p, Obj.cells #[.pointer (some ⟨p, 0, none⟩), .slice (some ⟨b, 0, none⟩) n cap] 60 (0, 0))] ++ L)) : WP Tryd.prog 20 (codeOf Tryd.f45) (ends Tryd.prog [] fun v' w' => v' = .tuple #[] ∧ ∃ E', BE p 60 5 out E' ∧ St w0.heap.size w0 w' (E' ++ L)) (ini #[.pointer (some ⟨p, 0, none⟩)]) w := by
  refine g_sreg [0, 1, 2, 3, 4] kr kr ?_
  refine s_val (some 2) (.pointer (some ⟨p, 0, none⟩)) (fun w => by kernel_rfl) kr ?_
  refine s_val (some 3) (.pointer (some ⟨p, 0, none⟩)) (fun w => by kernel_rfl) kr ?_
  refine s_val (some 4) (.pointer (some ⟨p, 0, none⟩)) (fun w => by kernel_rfl) kr ?_
  refine s_load1 H0 (some 5) 57 (.tmp 4) 1 p 0 #[.pointer (some ⟨p, 0, none⟩), .slice (some ⟨b, 0, none⟩) n cap] 60 (0, 0) (.pointer (some ⟨p, 0, none⟩)) kr kr kr kr kr kr ?_
  refine s_val (some 6) (.bool false) (fun w => by kernel_rfl) kr ?_
  refine s_nil ?_
  refine g_cond_f kr kr ?_
  refine g_sreg [0, 1, 2, 3, 4, 5] kr kr ?_
  refine s_val (some 14) (.pointer (some ⟨p, 0, none⟩)) (fun w => by kernel_rfl) kr ?_
  refine s_val (some 15) (.pointer (some ⟨p, 0, none⟩)) (fun w => by kernel_rfl) kr ?_
  refine s_val (some 16) (.pointer (some ⟨p, 0, none⟩)) (fun w => by kernel_rfl) kr ?_
  refine s_load1 H0 (some 17) 57 (.tmp 16) 1 p 0 #[.pointer (some ⟨p, 0, none⟩), .slice (some ⟨b, 0, none⟩) n cap] 60 (0, 0) (.pointer (some ⟨p, 0, none⟩)) kr kr kr kr kr kr ?_
  refine s_val (some 18) (.pointer (some ⟨p, 0, none⟩)) (fun w => by kernel_rfl) kr ?_
  refine s_op (some 19) _ (.bool false) kr kr (fun o w ho => neqP_run (t := 57) (tp := 60) (t' := 57) kr kr (x := (.tmp 17)) (y := (.tmp 18)) ⟨p, 0, none⟩ ho kr kr w) ?_
  refine s_nil ?_
  refine g_cond_f kr kr ?_
  refine g_skip kr ?_
  show ∃ vs, Res _ _ _ _ vs ∧ _
  exact ⟨[], .nil, rfl, _, (BE.row (some ⟨p, 0, none⟩) b n cap cur out (Or.inr rfl) hn hr), H0⟩
theorem copyCheck_fn (p : Nat) (out : List UInt8) : FnB Tryd.prog 45 #[.pointer (some ⟨p, 0, none⟩)] (.tuple #[]) p 60 5 out out (fun _ => True) :=
  FnB.intro (c := codeOf Tryd.f45) [] 20 Tryd.func45 kr kr kr fun w0 w L E hE _ HS => by
    rcases hE with ⟨a, rfl | rfl⟩ | ⟨a, b, n, cap, cur, _, rfl | rfl, hn, hr⟩
    · exact copyCheck_nil_none p w0 w L HS
    · exact copyCheck_nil_self p w0 w L HS
    · exact copyCheck_row_none p b n cap cur out hn hr w0 w L HS
    · exact copyCheck_row_self p b n cap cur out hn hr w0 w L HS
set_option maxRecDepth 100000 in
set_option maxHeartbeats 2000000 in
theorem writeString_fn (p : Nat) (out : List UInt8) (s : ByteArray) (h0 : 0 < s.size ∨ out ≠ []) (hm : out.length + s.size ≤ 140737488355328) : FnB Tryd.prog 37 #[.pointer (some ⟨p, 0, none⟩), .string s] (.tuple #[.int .i64 ((ByteArray.size s : Nat) : Int), .nilIface]) p 60 5 out (out ++ tl s) (fun _ => True) := by
  refine FnB.intro (c := codeOf Tryd.f37) [.tmp 4, .tmp 5] 19 Tryd.func37 kr kr kr fun w0 w L E hE _ HS => ?_
  have H0 : St w0.heap.size w0 w (L ++ E) := HS.perm List.perm_append_comm
  refine g_sreg [0, 1] kr kr ?_
  refine s_val (some 4) (.int .i64 0) (fun w => by kernel_rfl) kr ?_
  refine s_val (some 5) (.nilIface) (fun w => by kernel_rfl) kr ?_
  refine s_nil ?_
  refine g_sreg [0, 1] kr kr ?_
  refine s_val (some 6) (.pointer (some ⟨p, 0, none⟩)) (fun w => by kernel_rfl) kr ?_
  refine s_callB (l := L) H0 hE (some 7) 45 #[.pointer (some ⟨p, 0, none⟩)] (.tuple #[]) out (fun _ => True) (copyCheck_fn p out) trivial kr kr ?_
  intro E1 w1 hE1 H1; clear H0
  rcases hE1 with ⟨a, ha⟩ | ⟨a, b, n, cap, cur, _, ha, hn, hr⟩
  · skip
    have h0' : 0 < ByteArray.size s := h0.resolve_right (fun h => h rfl)
    simp only [List.length_nil] at hm
    have HP : St w0.heap.size w0 w1 ([(p, Obj.cells #[.pointer a, .slice none 0 0] 60 (0, 0))] ++ L) := H1.perm List.perm_append_comm
    refine s_nil ?_
    refine g_sreg [0, 1, 2, 3, 4, 5, 6, 7, 8, 9] kr kr ?_
    refine s_val (some 8) (.pointer (some ⟨p, 0, none⟩)) (fun w => by kernel_rfl) kr ?_
    refine s_val (some 9) (.pointer (some ⟨p, 0, none⟩)) (fun w => by kernel_rfl) kr ?_
    refine s_val (some 10) (.pointer (some ⟨p, 0, none⟩)) (fun w => by kernel_rfl) kr ?_
    refine s_val (some 11) (.pointer (some ⟨p, 1, none⟩)) (fun w => by kernel_rfl) kr ?_
    refine s_load1 HP (some 12) 58 (.tmp 11) 0 p 1 #[.pointer a, .slice none 0 0] 60 (0, 0) (.slice none 0 0) kr kr kr kr kr kr ?_
    refine s_val (some 13) (.string s) (fun w => by kernel_rfl) kr ?_
    refine s_appendStrNil HP (some 14) 58 9 5 (.tmp 12) (.tmp 13) s kr kr kr kr kr kr (by omega) (by omega) ?_
    intro b_1 cap_2 cur_3 w2 H2 hr_4; clear HP
    refine s_val (some 15) (.pointer (some ⟨p, 0, none⟩)) (fun w => by kernel_rfl) kr ?_
    refine s_val (some 16) (.pointer (some ⟨p, 1, none⟩)) (fun w => by kernel_rfl) kr ?_
    refine s_store H2 1 ([(b_1, Obj.cells cur_3 5 (0, 0)), (p, Obj.cells #[.pointer a, .slice (some ⟨b_1, 0, none⟩) (ByteArray.size s) cap_2] 60 (0, 0))] ++ L) 58 (.tmp 16) (.tmp 14) p (1) #[.pointer a, .slice none 0 0] #[.pointer a, .slice (some ⟨b_1, 0, none⟩) (ByteArray.size s) cap_2] 60 (.slice (some ⟨b_1, 0, none⟩) (ByteArray.size s) cap_2) kr kr kr kr kr kr (of_decide_eq_true kr) kr kr ?_
    intro w3 H3; clear H2
    refine s_nil ?_
    refine g_sreg [0, 1, 2, 3] kr kr ?_
    refine s_val (some 17) (.string s) (fun w => by kernel_rfl) kr ?_
    refine s_val (some 18) (.int .i64 ((ByteArray.size s : Nat) : Int)) (fun w => by kernel_rfl) kr ?_
    refine s_val (some 4) (.int .i64 ((ByteArray.size s : Nat) : Int)) (fun w => by kernel_rfl) kr ?_
    refine s_val (some 5) (.nilIface) (fun w => by kernel_rfl) kr ?_
    refine s_nil ?_
    refine g_ret kr ?_
    show ∃ vs, Res _ _ _ _ vs ∧ _
    exact ⟨[.int .i64 ((ByteArray.size s : Nat) : Int), .nilIface], (.tmp (.int .i64 ((ByteArray.size s : Nat) : Int)) kr (.tmp (.nilIface) kr .nil)), rfl, _, (BE.row a b_1 (ByteArray.size s) cap_2 cur_3 (tl s) ha rfl hr_4), H3⟩
  · skip
    have HP : St w0.heap.size w0 w1 ([(b, Obj.cells cur 5 (0, 0)), (p, Obj.cells #[.pointer a, .slice (some ⟨b, 0, none⟩) n cap] 60 (0, 0))] ++ L) := H1.perm List.perm_append_comm
    refine s_nil ?_
    refine g_sreg [0, 1, 2, 3, 4, 5, 6, 7, 8, 9] kr kr ?_
    refine s_val (some 8) (.pointer (some ⟨p, 0, none⟩)) (fun w => by kernel_rfl) kr ?_
    refine s_val (some 9) (.pointer (some ⟨p, 0, none⟩)) (fun w => by kernel_rfl) kr ?_
    refine s_val (some 10) (.pointer (some ⟨p, 0, none⟩)) (fun w => by kernel_rfl) kr ?_
    refine s_val (some 11) (.pointer (some ⟨p, 1, none⟩)) (fun w => by kernel_rfl) kr ?_
    refine s_load1 HP (some 12) 58 (.tmp 11) 1 p 1 #[.pointer a, .slice (some ⟨b, 0, none⟩) n cap] 60 (0, 0) (.slice (some ⟨b, 0, none⟩) n cap) kr kr kr kr kr kr ?_
    refine s_val (some 13) (.string s) (fun w => by kernel_rfl) kr ?_
    refine s_appendStr HP (some 14) 58 9 5 (.tmp 12) (.tmp 13) 0 b n cap cur out s (fun b_5 cur_7 => ([(b_5, Obj.cells cur_7 5 (0, 0)), (p, Obj.cells #[.pointer a, .slice (some ⟨b, 0, none⟩) n cap] 60 (0, 0))] ++ L)) kr kr kr kr kr kr hr kr (by omega) (fun _ _ => by kernel_rfl) ?_
    intro b_5 cap_6 cur_7 w4 H4 hr_8; clear HP
    refine s_val (some 15) (.pointer (some ⟨p, 0, none⟩)) (fun w => by kernel_rfl) kr ?_
    refine s_val (some 16) (.pointer (some ⟨p, 1, none⟩)) (fun w => by kernel_rfl) kr ?_
    refine s_store H4 1 ([(b_5, Obj.cells cur_7 5 (0, 0)), (p, Obj.cells #[.pointer a, .slice (some ⟨b_5, 0, none⟩) (n + ByteArray.size s) cap_6] 60 (0, 0))] ++ L) 58 (.tmp 16) (.tmp 14) p (1) #[.pointer a, .slice (some ⟨b, 0, none⟩) n cap] #[.pointer a, .slice (some ⟨b_5, 0, none⟩) (n + ByteArray.size s) cap_6] 60 (.slice (some ⟨b_5, 0, none⟩) (n + ByteArray.size s) cap_6) kr kr kr kr kr kr (of_decide_eq_true kr) kr kr ?_
    intro w5 H5; clear H4
    refine s_nil ?_
    refine g_sreg [0, 1, 2, 3] kr kr ?_
    refine s_val (some 17) (.string s) (fun w => by kernel_rfl) kr ?_
    refine s_val (some 18) (.int .i64 ((ByteArray.size s : Nat) : Int)) (fun w => by kernel_rfl) kr ?_
    refine s_val (some 4) (.int .i64 ((ByteArray.size s : Nat) : Int)) (fun w => by kernel_rfl) kr ?_
    refine s_val (some 5) (.nilIface) (fun w => by kernel_rfl) kr ?_
    refine s_nil ?_
    refine g_ret kr ?_
    show ∃ vs, Res _ _ _ _ vs ∧ _
    exact ⟨[.int .i64 ((ByteArray.size s : Nat) : Int), .nilIface], (.tmp (.int .i64 ((ByteArray.size s : Nat) : Int)) kr (.tmp (.nilIface) kr .nil)), rfl, _, (BE.row a b_5 (n + ByteArray.size s) cap_6 cur_7 (out ++ tl s) ha (by rw [List.length_append, tl_len, hn]) hr_8), H5⟩
end Go.Proofs.YtkkbkpneodecnaaDoor

namespace Go.Proofs.YtkkbkpneodecnaaDoor
open Go Go.RowKit
set_option linter.unusedVariables false
set_option maxRecDepth 100000 in
set_option maxHeartbeats 2000000 in
theorem write_step (pb m : Nat) (ih : ∀ (out : List UInt8) (l : Bool) (s : ByteArray) (p : Option Addr) (n c : Nat) (k : Fo), s.size ≤ 140737488355328 → List.length out + 9 + ByteArray.size s + wtF k ≤ 140737488355328 → k.cnt < m → FnB0 Tryd.prog 23 #[.pointer (some ⟨pb, 0, none⟩), .agg #[.bool l, .string s, .slice p n c]] (.tuple #[]) pb 60 5 out (out ++ wr1 l s (szF k) (wrF k)) (fun w => SlAt w.heap.size w p n k)) (out : List UInt8) (l : Bool) (s : ByteArray) (p : Option Addr) (n c : Nat) (k : Fo) (hs : s.size ≤ 140737488355328) (hw : List.length out + 9 + ByteArray.size s + wtF k ≤ 140737488355328) (hkm : k.cnt < m + 1) : FnB0 Tryd.prog 23 #[.pointer (some ⟨pb, 0, none⟩), .agg #[.bool l, .string s, .slice p n c]] (.tuple #[]) pb 60 5 out (out ++ wr1 l s (szF k) (wrF k)) (fun w => SlAt w.heap.size w p n k) := by
  refine FnB0.intro (c := codeOf Tryd.f23) [] 31 Tryd.func23 kr kr kr fun w0 w E0 hE0 hpre H0 => ?_
  have hn := hpre.1
  have hnm := hpre.2.1
  refine g_sreg [0] kr kr ?_
  refine s_box H0 (some 3) 43 (.tmp 1) (.agg #[.bool l, .string s, .slice p n c]) kr kr kr ?_
  intro b1 w1 H1; clear H0
  refine s_nil ?_
  refine g_seq kr ?_
  refine g_sreg [0, 1, 2, 3] kr kr ?_
  refine s_val (some 6) (.pointer (some ⟨b1, 1, none⟩)) (fun w => by kernel_rfl) kr ?_
  refine s_load1 H1 (some 7) 9 (.tmp 6) 0 b1 1 #[.bool l, .string s, .slice p n c] 43 (0, 0) (.string s) kr kr kr kr kr kr ?_
  refine s_call H1 (some 8) 34 #[.string s] (.bool (single s)) (single_fn s) (fun w => by kernel_rfl) kr ?_
  intro w2 H2; clear H1
  cases hq1 : single s
  · skip
    refine s_val (some 9) (.bool true) (fun w => by kernel_rfl) kr ?_
    refine s_nil ?_
    refine g_cond_t kr kr ?_
    have hsl := szF_le k
    have hhl := hd_len (frm l) (ByteArray.size s + szF k)
    refine D2.g_draw0 [0, 1, 2, 3, 4, 5] [(some 10, fun _ => .pointer (some ⟨pb, 0, none⟩)), (some 11, fun _ => .agg #[.bool l, .string s, .slice p n c]), (some 12, fun _ => .agg #[.bool l, .string s, .slice p n c]), (some 13, fun _ => .int .u64 ((ByteArray.size s + szF k : Nat) : Int)), (some 14, fun _ => .string (strB (hd (frm l) (ByteArray.size s + szF k)))), (some 15, fun _ => .tuple #[.int .i64 ((ByteArray.size (strB (hd (frm l) (ByteArray.size s + szF k))) : Nat) : Int), .nilIface])] (PreB w0 pb 60 5 (out ++ tl (strB (hd (frm l) (ByteArray.size s + szF k)))) (b1, Obj.cells #[.bool l, .string s, .slice p n c] 43 (0, 0)) E0 5) kr kr kr H2.drew ⟨?_, ?_, ?_, ?_, ?_, ?_, trivial⟩ ?_
    · exact gvB_val rfl (fun g w => by kernel_rfl)
    · exact gvB_load (C := #[.bool l, .string s, .slice p n c]) (T' := 43) (t := 43) (x := (.tmp 3)) rfl (fun g => by kernel_rfl) (fun g => by kernel_rfl) rfl kr
    · exact gvB_load (C := #[.bool l, .string s, .slice p n c]) (T' := 43) (t := 43) (x := (.tmp 3)) rfl (fun g => by kernel_rfl) (fun g => by kernel_rfl) rfl kr
    · exact gvB_callP (f := 35) (args := #[.agg #[.bool l, .string s, .slice p n c]]) rfl (inside_fn l s p n c k hs (by omega)) (fun w hb => SlAt.call hpre hb) (fun g w => by kernel_rfl)
    · exact gvB_call (f := 36) (args := #[.agg #[.bool l, .string s, .slice p n c], .int .u64 ((ByteArray.size s + szF k : Nat) : Int)]) rfl (head_fn l s p n c (ByteArray.size s + szF k) (by omega)) (fun g w => by kernel_rfl)
    · exact gvB_eff (f := 37) (args := #[.pointer (some ⟨pb, 0, none⟩), .string (strB (hd (frm l) (ByteArray.size s + szF k)))]) rfl hE0 (writeString_fn pb out (strB (hd (frm l) (ByteArray.size s + szF k))) (Or.inl (by rw [strB_size]; exact hhl.1)) (by rw [strB_size]; omega)) (fun g w => by kernel_rfl)
    intro L0 G0 w3 hall HL; clear H2
    obtain ⟨E1, hE1, H3⟩ := HL.done (hall 5 (Nat.le_of_ble_eq_true kr))
    show WP _ _ _ _ _ _
    refine g_sreg [0, 1, 2, 3] kr kr ?_
    have hl0 : (out ++ tl (strB (hd (frm l) (ByteArray.size s + szF k)))).length = out.length + (hd (frm l) (ByteArray.size s + szF k)).length := by rw [List.length_append, tl_strB]
    have hw1 : out ++ wr1 l s (szF k) (wrF k) = (out ++ tl (strB (hd (frm l) (ByteArray.size s + szF k))) ++ tl s) ++ wrF k := by unfold wr1; rw [if_neg (by rw [hq1]; decide), tl_strB]; simp only [List.append_assoc]
    have hl1 : (out ++ tl (strB (hd (frm l) (ByteArray.size s + szF k))) ++ tl s).length = out.length + (hd (frm l) (ByteArray.size s + szF k)).length + ByteArray.size s := by rw [List.length_append, hl0, tl_len]
    refine s_val (some 16) (.pointer (some ⟨pb, 0, none⟩)) (fun w => by kernel_rfl) kr ?_
    refine s_val (some 17) (.pointer (some ⟨b1, 1, none⟩)) (fun w => by kernel_rfl) kr ?_
    refine s_load1 H3 (some 18) 9 (.tmp 17) 0 b1 1 #[.bool l, .string s, .slice p n c] 43 (0, 0) (.string s) kr kr kr kr kr kr ?_
    refine s_callB (l := [(b1, Obj.cells #[.bool l, .string s, .slice p n c] 43 (0, 0))]) H3 hE1 (some 19) 37 #[.pointer (some ⟨pb, 0, none⟩), .string s] (.tuple #[.int .i64 ((ByteArray.size s : Nat) : Int), .nilIface]) ((out ++ tl (strB (hd (frm l) (ByteArray.size s + szF k)))) ++ tl s) (fun _ => True) (writeString_fn pb (out ++ tl (strB (hd (frm l) (ByteArray.size s + szF k)))) s (Or.inr (by intro q; have h9 := congrArg List.length q; rw [hl0] at h9; simp only [List.length_nil] at h9; omega)) (by rw [hl0]; omega)) trivial kr kr ?_
    intro E2 w4 hE2 H4; clear H3
    refine s_nil ?_
    refine g_sreg [0, 1, 2, 3] kr kr ?_
    refine s_val (some 20) (.pointer (some ⟨b1, 2, none⟩)) (fun w => by kernel_rfl) kr ?_
    refine s_load1 H4 (some 21) 41 (.tmp 20) 0 b1 2 #[.bool l, .string s, .slice p n c] 43 (0, 0) (.slice p n c) kr kr kr kr kr kr ?_
    refine s_val (some 22) (.int .i64 ((n : Nat) : Int)) (fun w => by kernel_rfl) kr ?_
    refine s_val (some 23) (.int .i64 0) (fun w => by kernel_rfl) kr ?_
    refine s_nil ?_
    refine g_block 0 kr ?_
    have HD1 : St w0.heap.size w0 w4 ([] ++ E2) := H4.sub (List.Sublist.cons _ (List.Sublist.refl E2))
    refine g_loop kr (fun mz ρ ww => ∃ (i : Nat) (r : Fo) (o : List UInt8) (Ez : List (Nat × Obj)), n - i = mz ∧ (FoR w0.heap.size w0 p i r) ∧ (i + Fo.len r = n) ∧ (Fo.cnt r ≤ Fo.cnt k) ∧ (List.length o + wtF r ≤ 140737488355328) ∧ (out ++ wr1 l s (szF k) (wrF k) = o ++ wrF r) ∧ (BE pb 60 5 o Ez) ∧ St w0.heap.size w0 ww ([] ++ Ez) ∧ Is [(0, .pointer (some ⟨pb, 0, none⟩)), (1, .agg #[.bool l, .string s, .slice p n c]), (3, .pointer (some ⟨b1, 0, none⟩)), (9, .bool true), (21, .slice p n c), (22, .int .i64 ((n : Nat) : Int)), (23, .int .i64 ((i : Nat) : Int))] ρ) (n - 0) ⟨0, k, ((out ++ tl (strB (hd (frm l) (ByteArray.size s + szF k)))) ++ tl s), E2, rfl, (SlAt.start hpre), (by have hn0 := (hpre).1; omega), (Nat.le_refl _), (by rw [hl1]; omega), hw1, hE2, HD1, (Is.of ⟨kr, kr, kr, kr, kr, kr, kr, trivial⟩)⟩ ?_
    clear HD1
    rintro _ _ w5 ⟨i, r, o, Ez, rfl, hR, hN, hcn, hwt, hout, hEz, H5, _, rfl⟩
    refine g_sreg [0] kr kr ?_
    by_cases hc2 : (i : Nat) < n
    · skip
      refine s_valE (some 24) (.bool (decide (((i : Nat) : Int) < ((n : Nat) : Int)))) (.bool true) (fun w => by kernel_rfl) (bool_eq (decide_eq_true (by omega))) kr ?_
      refine s_nil ?_
      refine g_seq kr ?_
      refine g_cond_t kr kr ?_
      refine g_skip kr ?_
      show WP _ _ _ _ _ _
      refine g_seq kr ?_
      refine g_block 1 kr ?_
      refine g_sreg [0, 1, 2, 3] kr kr ?_
      obtain ⟨l1, s1, k1, r1, b1, off1, C1, T1, fz1, p1, n1, c1, hr1, hp1, hb1, hh1, hs1, hx1, hz1, hk1, hR1, hN1⟩ := FoR.open hR hN (by omega)
      refine s_op (some 25) _ (.pointer (some ⟨b1, off1 + i * 3, none⟩)) kr kr (fun o w ho => idxO_run (kd := .i64) (t := 41) (e := 43) (bytes := 48) kr (x := (.tmp 21)) (y := (.tmp 23)) b1 off1 n c i hp1 ho kr kr (by omega) w) ?_
      refine s_loadpF H5 (some 26) 43 (.tmp 25) b1 (off1 + i * 3) 3 C1 #[.bool l1, .string s1, .slice p1 n1 c1] T1 fz1 kr kr kr hh1 hb1 kr hs1 hx1 ?_
      refine s_alloc H5 (some 5) 43 (.agg #[.bool false, .string (⟨#[]⟩), .slice none 0 0]) kr kr kr ?_
      intro b2 w6 H6; clear H5
      refine s_store H6 0 ([(b2, Obj.cells #[.bool l1, .string s1, .slice p1 n1 c1] 43 (0, 0))] ++ Ez) 43 (.tmp 5) (.tmp 26) b2 (0) (#[.bool false, .string (⟨#[]⟩), .slice none 0 0]) #[.bool l1, .string s1, .slice p1 n1 c1] 43 (.agg #[.bool l1, .string s1, .slice p1 n1 c1]) kr kr kr kr kr kr (of_decide_eq_true kr) kr kr ?_
      intro w7 H7; clear H6
      refine s_nil ?_
      refine g_reg0 [0, 1, 2] kr ?_
      have hcn1 := hcn
      rw [hr1] at hcn1
      simp only [Fo.cnt] at hcn1
      have hwt1 := hwt
      rw [hr1] at hwt1
      simp only [wtF] at hwt1
      have hwl1 : (wr1 l1 s1 (szF k1) (wrF k1)).length ≤ 9 + ByteArray.size s1 + wtF k1 := by have h9 := wrF_len (.cons l1 s1 k1 .nil); simp only [wrF, wtF, List.append_nil, Nat.add_zero] at h9; exact h9
      refine s_val (some 27) (.pointer (some ⟨pb, 0, none⟩)) (fun w => by kernel_rfl) kr ?_
      refine s_load H7 (some 28) 43 (.tmp 5) 0 b2 #[.bool l1, .string s1, .slice p1 n1 c1] 43 (0, 0) kr kr kr kr kr ?_
      have HD3 : St w0.heap.size w0 w7 ([] ++ Ez) := H7.sub (List.Sublist.cons _ (List.Sublist.refl Ez))
      refine s_callB0 HD3 hEz (some 29) 23 #[.pointer (some ⟨pb, 0, none⟩), .agg #[.bool l1, .string s1, .slice p1 n1 c1]] (.tuple #[]) (o ++ wr1 l1 s1 (szF k1) (wrF k1)) (fun w => SlAt w.heap.size w p1 n1 k1) (ih o l1 s1 p1 n1 c1 k1 hz1 (by omega) (by omega)) hk1 kr kr ?_
      intro E3 w8 hE3 H8; clear HD3
      refine s_nil ?_
      show WP _ _ _ _ _ _
      refine g_reg0 [0, 1] kr ?_
      refine s_valE (some 30) (.int .i64 (IntKind.i64.wrap (((i : Nat) : Int) + 1))) (.int .i64 ((i + 1 : Nat) : Int)) (fun w => by kernel_rfl) (int_eq (wrapAdd_i64 (a := i) (b := 1) (by omega))) kr ?_
      refine s_val (some 23) (.int .i64 ((i + 1 : Nat) : Int)) (fun w => by kernel_rfl) kr ?_
      refine s_nil ?_
      show ∃ m, _ ∧ _
      exact ⟨_, (by omega), (i + 1), r1, (o ++ wr1 l1 s1 (szF k1) (wrF k1)), E3, rfl, hR1, hN1, (by omega), (by rw [List.length_append]; omega), (by rw [hout, hr1]; simp only [wrF, List.append_assoc]), hE3, H8, (Is.of ⟨kr, kr, kr, kr, kr, kr, kr, trivial⟩)⟩
    · skip
      refine s_valE (some 24) (.bool (decide (((i : Nat) : Int) < ((n : Nat) : Int)))) (.bool false) (fun w => by kernel_rfl) (bool_eq (decide_eq_false (by omega))) kr ?_
      refine s_nil ?_
      refine g_seq kr ?_
      refine g_cond_f kr kr ?_
      refine g_exit 0 kr ?_
      show ∃ vs, Res _ _ _ _ vs ∧ _
      have hdn := FoR.done hN (by omega)
      rw [hdn] at hout
      exact ⟨[], .nil, rfl, _, (by rw [hout, show wrF Fo.nil = [] from rfl, List.append_nil]; exact hEz), H5⟩
  · skip
    refine s_val (some 9) (.bool false) (fun w => by kernel_rfl) kr ?_
    refine s_nil ?_
    refine g_cond_f kr kr ?_
    refine g_skip kr ?_
    show WP _ _ _ _ _ _
    refine g_sreg [0, 1, 2, 3] kr kr ?_
    have hsz1 := single_size hq1
    have hw1 : out ++ wr1 l s (szF k) (wrF k) = (out ++ tl s) ++ wrF k := by unfold wr1; rw [if_pos hq1, List.nil_append, List.append_assoc]
    have hl1 : (out ++ tl s).length = out.length + ByteArray.size s := by rw [List.length_append, tl_len]
    refine s_val (some 16) (.pointer (some ⟨pb, 0, none⟩)) (fun w => by kernel_rfl) kr ?_
    refine s_val (some 17) (.pointer (some ⟨b1, 1, none⟩)) (fun w => by kernel_rfl) kr ?_
    refine s_load1 H2 (some 18) 9 (.tmp 17) 0 b1 1 #[.bool l, .string s, .slice p n c] 43 (0, 0) (.string s) kr kr kr kr kr kr ?_
    refine s_callB (l := [(b1, Obj.cells #[.bool l, .string s, .slice p n c] 43 (0, 0))]) H2 hE0 (some 19) 37 #[.pointer (some ⟨pb, 0, none⟩), .string s] (.tuple #[.int .i64 ((ByteArray.size s : Nat) : Int), .nilIface]) (out ++ tl s) (fun _ => True) (writeString_fn pb out s (Or.inl (by omega)) (by omega)) trivial kr kr ?_
    intro E4 w9 hE4 H9; clear H2
    refine s_nil ?_
    refine g_sreg [0, 1, 2, 3] kr kr ?_
    refine s_val (some 20) (.pointer (some ⟨b1, 2, none⟩)) (fun w => by kernel_rfl) kr ?_
    refine s_load1 H9 (some 21) 41 (.tmp 20) 0 b1 2 #[.bool l, .string s, .slice p n c] 43 (0, 0) (.slice p n c) kr kr kr kr kr kr ?_
    refine s_val (some 22) (.int .i64 ((n : Nat) : Int)) (fun w => by kernel_rfl) kr ?_
    refine s_val (some 23) (.int .i64 0) (fun w => by kernel_rfl) kr ?_
    refine s_nil ?_
    refine g_block 0 kr ?_
    have HD4 : St w0.heap.size w0 w9 ([] ++ E4) := H9.sub (List.Sublist.cons _ (List.Sublist.refl E4))
    refine g_loop kr (fun mz ρ ww => ∃ (i : Nat) (r : Fo) (o : List UInt8) (Ez : List (Nat × Obj)), n - i = mz ∧ (FoR w0.heap.size w0 p i r) ∧ (i + Fo.len r = n) ∧ (Fo.cnt r ≤ Fo.cnt k) ∧ (List.length o + wtF r ≤ 140737488355328) ∧ (out ++ wr1 l s (szF k) (wrF k) = o ++ wrF r) ∧ (BE pb 60 5 o Ez) ∧ St w0.heap.size w0 ww ([] ++ Ez) ∧ Is [(0, .pointer (some ⟨pb, 0, none⟩)), (1, .agg #[.bool l, .string s, .slice p n c]), (3, .pointer (some ⟨b1, 0, none⟩)), (9, .bool false), (21, .slice p n c), (22, .int .i64 ((n : Nat) : Int)), (23, .int .i64 ((i : Nat) : Int))] ρ) (n - 0) ⟨0, k, (out ++ tl s), E4, rfl, (SlAt.start hpre), (by have hn0 := (hpre).1; omega), (Nat.le_refl _), (by rw [hl1]; omega), hw1, hE4, HD4, (Is.of ⟨kr, kr, kr, kr, kr, kr, kr, trivial⟩)⟩ ?_
    clear HD4
    rintro _ _ w10 ⟨i, r, o, Ez, rfl, hR, hN, hcn, hwt, hout, hEz, H10, _, rfl⟩
    refine g_sreg [0] kr kr ?_
    by_cases hc5 : (i : Nat) < n
    · skip
      refine s_valE (some 24) (.bool (decide (((i : Nat) : Int) < ((n : Nat) : Int)))) (.bool true) (fun w => by kernel_rfl) (bool_eq (decide_eq_true (by omega))) kr ?_
      refine s_nil ?_
      refine g_seq kr ?_
      refine g_cond_t kr kr ?_
      refine g_skip kr ?_
      show WP _ _ _ _ _ _
      refine g_seq kr ?_
      refine g_block 1 kr ?_
      refine g_sreg [0, 1, 2, 3] kr kr ?_
      obtain ⟨l2, s2, k2, r2, b2, off2, C2, T2, fz2, p2, n2, c2, hr2, hp2, hb2, hh2, hs2, hx2, hz2, hk2, hR2, hN2⟩ := FoR.open hR hN (by omega)
      refine s_op (some 25) _ (.pointer (some ⟨b2, off2 + i * 3, none⟩)) kr kr (fun o w ho => idxO_run (kd := .i64) (t := 41) (e := 43) (bytes := 48) kr (x := (.tmp 21)) (y := (.tmp 23)) b2 off2 n c i hp2 ho kr kr (by omega) w) ?_
      refine s_loadpF H10 (some 26) 43 (.tmp 25) b2 (off2 + i * 3) 3 C2 #[.bool l2, .string s2, .slice p2 n2 c2] T2 fz2 kr kr kr hh2 hb2 kr hs2 hx2 ?_
      refine s_alloc H10 (some 5) 43 (.agg #[.bool false, .string (⟨#[]⟩), .slice none 0 0]) kr kr kr ?_
      intro b3 w11 H11; clear H10
      refine s_store H11 0 ([(b3, Obj.cells #[.bool l2, .string s2, .slice p2 n2 c2] 43 (0, 0))] ++ Ez) 43 (.tmp 5) (.tmp 26) b3 (0) (#[.bool false, .string (⟨#[]⟩), .slice none 0 0]) #[.bool l2, .string s2, .slice p2 n2 c2] 43 (.agg #[.bool l2, .string s2, .slice p2 n2 c2]) kr kr kr kr kr kr (of_decide_eq_true kr) kr kr ?_
      intro w12 H12; clear H11
      refine s_nil ?_
      refine g_reg0 [0, 1, 2] kr ?_
      have hcn2 := hcn
      rw [hr2] at hcn2
      simp only [Fo.cnt] at hcn2
      have hwt2 := hwt
      rw [hr2] at hwt2
      simp only [wtF] at hwt2
      have hwl2 : (wr1 l2 s2 (szF k2) (wrF k2)).length ≤ 9 + ByteArray.size s2 + wtF k2 := by have h9 := wrF_len (.cons l2 s2 k2 .nil); simp only [wrF, wtF, List.append_nil, Nat.add_zero] at h9; exact h9
      refine s_val (some 27) (.pointer (some ⟨pb, 0, none⟩)) (fun w => by kernel_rfl) kr ?_
      refine s_load H12 (some 28) 43 (.tmp 5) 0 b3 #[.bool l2, .string s2, .slice p2 n2 c2] 43 (0, 0) kr kr kr kr kr ?_
      have HD6 : St w0.heap.size w0 w12 ([] ++ Ez) := H12.sub (List.Sublist.cons _ (List.Sublist.refl Ez))
      refine s_callB0 HD6 hEz (some 29) 23 #[.pointer (some ⟨pb, 0, none⟩), .agg #[.bool l2, .string s2, .slice p2 n2 c2]] (.tuple #[]) (o ++ wr1 l2 s2 (szF k2) (wrF k2)) (fun w => SlAt w.heap.size w p2 n2 k2) (ih o l2 s2 p2 n2 c2 k2 hz2 (by omega) (by omega)) hk2 kr kr ?_
      intro E5 w13 hE5 H13; clear HD6
      refine s_nil ?_
      show WP _ _ _ _ _ _
      refine g_reg0 [0, 1] kr ?_
      refine s_valE (some 30) (.int .i64 (IntKind.i64.wrap (((i : Nat) : Int) + 1))) (.int .i64 ((i + 1 : Nat) : Int)) (fun w => by kernel_rfl) (int_eq (wrapAdd_i64 (a := i) (b := 1) (by omega))) kr ?_
      refine s_val (some 23) (.int .i64 ((i + 1 : Nat) : Int)) (fun w => by kernel_rfl) kr ?_
      refine s_nil ?_
      show ∃ m, _ ∧ _
      exact ⟨_, (by omega), (i + 1), r2, (o ++ wr1 l2 s2 (szF k2) (wrF k2)), E5, rfl, hR2, hN2, (by omega), (by rw [List.length_append]; omega), (by rw [hout, hr2]; simp only [wrF, List.append_assoc]), hE5, H13, (Is.of ⟨kr, kr, kr, kr, kr, kr, kr, trivial⟩)⟩
    · skip
      refine s_valE (some 24) (.bool (decide (((i : Nat) : Int) < ((n : Nat) : Int)))) (.bool false) (fun w => by kernel_rfl) (bool_eq (decide_eq_false (by omega))) kr ?_
      refine s_nil ?_
      refine g_seq kr ?_
      refine g_cond_f kr kr ?_
      refine g_exit 0 kr ?_
      show ∃ vs, Res _ _ _ _ vs ∧ _
      have hdn := FoR.done hN (by omega)
      rw [hdn] at hout
      exact ⟨[], .nil, rfl, _, (by rw [hout, show wrF Fo.nil = [] from rfl, List.append_nil]; exact hEz), H10⟩
theorem write_fn (pb : Nat) (out : List UInt8) (l : Bool) (s : ByteArray) (p : Option Addr) (n c : Nat) (k : Fo) (hs : s.size ≤ 140737488355328) (hw : List.length out + 9 + ByteArray.size s + wtF k ≤ 140737488355328) : FnB0 Tryd.prog 23 #[.pointer (some ⟨pb, 0, none⟩), .agg #[.bool l, .string s, .slice p n c]] (.tuple #[]) pb 60 5 out (out ++ wr1 l s (szF k) (wrF k)) (fun w => SlAt w.heap.size w p n k) := by
  have key : ∀ (m : Nat) (out : List UInt8) (l : Bool) (s : ByteArray) (p : Option Addr) (n c : Nat) (k : Fo), s.size ≤ 140737488355328 → List.length out + 9 + ByteArray.size s + wtF k ≤ 140737488355328 → k.cnt < m → FnB0 Tryd.prog 23 #[.pointer (some ⟨pb, 0, none⟩), .agg #[.bool l, .string s, .slice p n c]] (.tuple #[]) pb 60 5 out (out ++ wr1 l s (szF k) (wrF k)) (fun w => SlAt w.heap.size w p n k) := by
    intro m
    induction m with
    | zero => intros; omega
    | succ m ih => intro out l s p n c k hs hw hkm; exact write_step pb m ih out l s p n c k hs hw hkm
  exact key (k.cnt + 1) out l s p n c k hs hw (by omega)
end Go.Proofs.YtkkbkpneodecnaaDoor

namespace Go.Proofs.YtkkbkpneodecnaaDoor
open Go Go.RowKit
set_option linter.unusedVariables false
/-- A call that reads the builder out. -/
def FnO (P : Program) (f : Nat) (args : Array Value) (v : Value) (p : Nat) (T e : TypeId) (out : List UInt8) : Prop :=
  ∀ (w0 w : World) (E : List (Nat × Obj)), BE p T e out E → St w0.heap.size w0 w E → Calls P f args w fun r w' => r = .returned v ∧ St w0.heap.size w0 w' []
theorem s_callO {P : Program} {N : Nat} {ops : Array Oper} {i : Nat} {r : List Nat} {K : Env → World → Prop} {ρ : Env} {w : World} {w0 : World} {E : List (Nat × Obj)} (HS : St w0.heap.size w0 w E) {p : Nat} {T e : TypeId} {out : List UInt8} (hE : BE p T e out E) (d : Option Nat) (f : Nat) (args : Array Value) (v : Value) (hc : FnO P f args v p T e out)
    (h : opv P ops i ρ w = some (d, true, .ok (.enter f args) w)) (hd : dOK d N = true) (kk : ∀ w', St w0.heap.size w0 w' [] → WPs P N ops K r (updO ρ d v) w') : WPs P N ops K (i :: r) ρ w := by
  obtain ⟨o, ho, rfl, hw, hr⟩ := opv_some h
  refine WPo.run ho hw fun a ha => ?_
  rw [hr, Oper.upon_enter]
  refine (hc w0 w E hE HS).mono ?_
  rintro _ w' ⟨rfl, hS⟩
  exact ⟨_, ha.put _ (dOK_lt hd) v, kk w' hS⟩
set_option maxRecDepth 100000 in
set_option maxHeartbeats 2000000 in
theorem string_st (pb b n cap : Nat) (cur : Array Value) (out : List UInt8) (a : Option Addr) (hn : n = out.length) (hr : Rw 1 cur cap n (cellsB out)) (h0 : 0 < n) (hm : n ≤ 140737488355328) (hcap : cap ≠ 0) (w0 w : World) (H0 : St w0.heap.size w0 w [(b, Obj.cells cur 5 (0, 0)), (pb, Obj.cells #[.pointer a, .slice (some ⟨b, 0, none⟩) n cap] 60 (0, 0))]) : WP Tryd.prog 14 (codeOf Tryd.f24) (ends Tryd.prog [.tmp 2] fun v' w' => v' = .string (strB out) ∧ St w0.heap.size w0 w' []) (ini #[.pointer (some ⟨pb, 0, none⟩)]) w := by
  refine g_sreg [0] kr kr ?_
  refine s_val (some 2) (.string (⟨#[]⟩)) (fun w => by kernel_rfl) kr ?_
  refine s_nil ?_
  refine D2.g_sdraw [0, 1, 2, 3, 4, 5, 6, 7, 8, 9, 10, 11] [(some 3, fun _ => .pointer (some ⟨pb, 0, none⟩)), (some 4, fun _ => .pointer (some ⟨pb, 0, none⟩)), (some 5, fun _ => .pointer (some ⟨pb, 1, none⟩)), (some 6, fun _ => .slice (some ⟨b, 0, none⟩) n cap), (some 7, fun _ => .pointer (some ⟨b, 0, none⟩)), (some 8, fun _ => .pointer (some ⟨pb, 0, none⟩)), (some 9, fun _ => .pointer (some ⟨pb, 0, none⟩)), (some 10, fun _ => .pointer (some ⟨pb, 1, none⟩)), (some 11, fun _ => .slice (some ⟨b, 0, none⟩) n cap), (some 12, fun _ => .int .i64 ((n : Nat) : Int)), (some 13, fun _ => .string (strB out)), (some 2, fun _ => .string (strB out))] (PreS w0 [(b, Obj.cells cur 5 (0, 0)), (pb, Obj.cells #[.pointer a, .slice (some ⟨b, 0, none⟩) n cap] 60 (0, 0))] 10) kr kr kr kr H0.drew ⟨?_, ?_, ?_, ?_, ?_, ?_, ?_, ?_, ?_, ?_, ?_, ?_, trivial⟩ ?_
  · exact gvS_val rfl (fun g w => by kernel_rfl)
  · exact gvS_val rfl (fun g w => by kernel_rfl)
  · exact gvS_val rfl (fun g w => by kernel_rfl)
  · exact gvS_op rfl (fun L hN => (hN.2.2.no 4 10 kr (hN.post 4 kr))) (.load 58 (.tmp 5)) (fun g => by kernel_rfl) (fun g w o hS ho => hS.load1_run (j := 1) (b := pb) (off := 1) (C := #[.pointer a, .slice (some ⟨b, 0, none⟩) n cap]) (T := 60) kr kr kr kr o ho)
  · exact gvS_op rfl (fun L hN => (hN.post 10 kr)) (sliceDataOp 58 (.tmp 6)) (fun g => by kernel_rfl) (fun g w o hS ho => sliceData_run (a := ⟨b, 0, none⟩) (n := n) (c := cap) kr (by omega) o ho)
  · exact gvS_val rfl (fun g w => by kernel_rfl)
  · exact gvS_val rfl (fun g w => by kernel_rfl)
  · exact gvS_val rfl (fun g w => by kernel_rfl)
  · exact gvS_op rfl (fun L hN => (hN.2.2.no 9 10 kr (hN.post 9 kr))) (.load 58 (.tmp 10)) (fun g => by kernel_rfl) (fun g w o hS ho => hS.load1_run (j := 1) (b := pb) (off := 1) (C := #[.pointer a, .slice (some ⟨b, 0, none⟩) n cap]) (T := 60) kr kr kr kr o ho)
  · exact gvS_val rfl (fun g w => by kernel_rfl)
  · exact gvS_eff rfl (unsafeOp 81 3 (.tmp 7) (.tmp 12)) (fun g => by kernel_rfl) (fun g w o hS ho => unsafeStr_run (j := 0) (b := b) (n := n) (cap := cap) (C := cur) (e := 5) hS kr kr kr kr kr hr (by omega) (by omega) o ho)
  · exact gvS_val rfl (fun g w => by kernel_rfl)
  intro L0 G0 w1 hall HL; clear H0
  have H1 : St w0.heap.size w0 w1 [] := by unfold PreS at HL; rw [hall 10 (Nat.le_of_ble_eq_true kr)] at HL; exact HL
  refine g_ret kr ?_
  show ∃ vs, Res _ _ _ _ vs ∧ _
  exact ⟨[.string (strB out)], .tmp _ kr .nil, rfl, H1⟩
theorem string_fn (pb : Nat) (out : List UInt8) (h0 : 0 < out.length) (hm : out.length ≤ 140737488355328) : FnO Tryd.prog 24 #[.pointer (some ⟨pb, 0, none⟩)] (.string (strB out)) pb 60 5 out := fun w0 w E hE HS => by
  rcases hE with ⟨a, ha⟩ | ⟨a, b, n, cap, cur, _, ha, hn, hr⟩
  · simp at h0
  · have h9 : Calls Tryd.prog 24 #[.pointer (some ⟨pb, 0, none⟩)] w fun r w' => ∃ v', r = .returned v' ∧ (v' = .string (strB out) ∧ St w0.heap.size w0 w' []) :=
      calls_intro (c := codeOf Tryd.f24) (rs := [.tmp 2]) (N := 14) Tryd.func24 kr kr kr (string_st pb b n cap cur out a hn hr (by omega) (by omega) (by have := hr.le; omega) w0 w HS)
    refine h9.mono ?_
    rintro _ w' ⟨v', he, hv, hS⟩
    exact ⟨by rw [he, hv], hS⟩
set_option maxRecDepth 100000 in
set_option maxHeartbeats 2000000 in
theorem encode_fn (l : Bool) (s : ByteArray) (p : Option Addr) (n c : Nat) (k : Fo) (hs : s.size ≤ 140737488355328) : FnP Tryd.prog 14 #[.agg #[.bool l, .string s, .slice p n c]] (fun w => SlAt w.heap.size w p n k) (encV (encS l s n k)) := by
  refine FnP.intro (c := codeOf Tryd.f14) [.tmp 2, .tmp 3] 20 Tryd.func14 kr kr kr fun w hpre => ?_
  have H0 := St.start w
  have hn := hpre.1
  have hnm := hpre.2.1
  have hdl := dpF_le k
  refine g_sreg [0, 1, 2] kr kr ?_
  refine s_box H0 (some 1) 43 (.tmp 0) (.agg #[.bool l, .string s, .slice p n c]) kr kr kr ?_
  intro b1 w1 H1; clear H0
  refine s_val (some 2) (.string (⟨#[]⟩)) (fun w => by kernel_rfl) kr ?_
  refine s_val (some 3) (.int .i64 0) (fun w => by kernel_rfl) kr ?_
  refine s_nil ?_
  refine g_seq kr ?_
  refine g_block 0 kr ?_
  refine g_sreg [0, 1, 2, 3] kr kr ?_
  refine s_load H1 (some 6) 43 (.tmp 1) 0 b1 #[.bool l, .string s, .slice p n c] 43 (0, 0) kr kr kr kr kr ?_
  refine s_callP H1 (some 7) 21 #[.agg #[.bool l, .string s, .slice p n c], .int .i64 4000] (fun w => SlAt w.heap.size w p n k) (.int .i64 (lfV (lf1 l s n (lfF k) 4000))) (left_fn l s p n c k (by omega) 4000 (by omega)) (SlAt.call hpre H1.below) (fun w => by kernel_rfl) kr ?_
  intro w2 H2; clear H1
  rcases opt_cases (lf1 l s n (lfF k) 4000) with hv1 | ⟨y, hv1⟩
  · skip
    refine s_now 7 (v := .int .i64 (lfV (lf1 l s n (lfF k) 4000))) (v' := .int .i64 (-1)) (int_eq (by rw [hv1]; rfl)) kr ?_
    refine s_val (some 8) (.bool true) (fun w => by kernel_rfl) kr ?_
    refine s_val (some 5) (.bool true) (fun w => by kernel_rfl) kr ?_
    refine s_nil ?_
    refine g_cond_t kr kr ?_
    refine g_sreg [0, 1] kr kr ?_
    refine s_val (some 2) (.string (⟨#[]⟩)) (fun w => by kernel_rfl) kr ?_
    refine s_val (some 3) (.int .i64 1) (fun w => by kernel_rfl) kr ?_
    refine s_nil ?_
    refine g_ret kr ?_
    show ∃ vs, Res _ _ _ _ vs ∧ _
    exact ⟨[.string (⟨#[]⟩), .int .i64 1], (.tmp (.string (⟨#[]⟩)) kr (.tmp (.int .i64 1) kr .nil)), (encS_1 hv1).symm, H2.below⟩
  · skip
    refine s_now 7 (v := .int .i64 (lfV (lf1 l s n (lfF k) 4000))) (v' := .int .i64 ((y : Nat) : Int)) (int_eq (by rw [hv1]; rfl)) kr ?_
    have hok := lf1_some hv1
    have hcn : k.cnt < 4000 := hok.2.2
    have hwt := hpre.wt
    refine s_valE (some 8) (.bool (decide (((y : Nat) : Int) < 0))) (.bool false) (fun w => by kernel_rfl) (bool_eq (decide_eq_false (by omega))) kr ?_
    refine s_val (some 5) (.bool false) (fun w => by kernel_rfl) kr ?_
    refine s_nil ?_
    refine g_cond_f kr kr ?_
    refine g_sreg [0, 1, 2, 3] kr kr ?_
    refine s_load H2 (some 10) 43 (.tmp 1) 0 b1 #[.bool l, .string s, .slice p n c] 43 (0, 0) kr kr kr kr kr ?_
    refine s_callP H2 (some 11) 17 #[.agg #[.bool l, .string s, .slice p n c]] (fun w => SlAt w.heap.size w p n k) (.int .i64 ((dp1 l (dpF k) : Nat) : Int)) (depth_fn l s p n c k (by omega) (by omega)) (SlAt.call hpre H2.below) (fun w => by kernel_rfl) kr ?_
    intro w3 H3; clear H2
    by_cases hc1 : (dp1 l (dpF k) : Nat) > 8
    · skip
      refine s_valE (some 12) (.bool (decide (8 < ((dp1 l (dpF k) : Nat) : Int)))) (.bool true) (fun w => by kernel_rfl) (bool_eq (decide_eq_true (by omega))) kr ?_
      refine s_val (some 9) (.bool true) (fun w => by kernel_rfl) kr ?_
      refine s_nil ?_
      refine g_cond_t kr kr ?_
      refine g_sreg [0, 1] kr kr ?_
      refine s_val (some 2) (.string (⟨#[]⟩)) (fun w => by kernel_rfl) kr ?_
      refine s_val (some 3) (.int .i64 5) (fun w => by kernel_rfl) kr ?_
      refine s_nil ?_
      refine g_ret kr ?_
      show ∃ vs, Res _ _ _ _ vs ∧ _
      exact ⟨[.string (⟨#[]⟩), .int .i64 5], (.tmp (.string (⟨#[]⟩)) kr (.tmp (.int .i64 5) kr .nil)), (encS_5 hv1 (by omega)).symm, H3.below⟩
    · skip
      refine s_valE (some 12) (.bool (decide (8 < ((dp1 l (dpF k) : Nat) : Int)))) (.bool false) (fun w => by kernel_rfl) (bool_eq (decide_eq_false (by omega))) kr ?_
      refine s_val (some 9) (.bool false) (fun w => by kernel_rfl) kr ?_
      refine s_nil ?_
      refine g_cond_f kr kr ?_
      refine g_sreg [0, 1, 2, 3] kr kr ?_
      refine s_load H3 (some 14) 43 (.tmp 1) 0 b1 #[.bool l, .string s, .slice p n c] 43 (0, 0) kr kr kr kr kr ?_
      refine s_callP H3 (some 15) 22 #[.agg #[.bool l, .string s, .slice p n c]] (fun w => SlAt w.heap.size w p n k) (.int .u64 ((sz1 l s (szF k) : Nat) : Int)) (size_fn l s p n c k (by omega) (by omega)) (SlAt.call hpre H3.below) (fun w => by kernel_rfl) kr ?_
      intro w4 H4; clear H3
      by_cases hc2 : (sz1 l s (szF k) : Nat) > 4000
      · skip
        refine s_valE (some 16) (.bool (decide (4000 < ((sz1 l s (szF k) : Nat) : Int)))) (.bool true) (fun w => by kernel_rfl) (bool_eq (decide_eq_true (by omega))) kr ?_
        refine s_val (some 13) (.bool true) (fun w => by kernel_rfl) kr ?_
        refine s_nil ?_
        refine g_cond_t kr kr ?_
        refine g_sreg [0, 1] kr kr ?_
        refine s_val (some 2) (.string (⟨#[]⟩)) (fun w => by kernel_rfl) kr ?_
        refine s_val (some 3) (.int .i64 2) (fun w => by kernel_rfl) kr ?_
        refine s_nil ?_
        refine g_ret kr ?_
        show ∃ vs, Res _ _ _ _ vs ∧ _
        exact ⟨[.string (⟨#[]⟩), .int .i64 2], (.tmp (.string (⟨#[]⟩)) kr (.tmp (.int .i64 2) kr .nil)), (encS_2 hv1 (by omega) (by omega)).symm, H4.below⟩
      · skip
        refine s_valE (some 16) (.bool (decide (4000 < ((sz1 l s (szF k) : Nat) : Int)))) (.bool false) (fun w => by kernel_rfl) (bool_eq (decide_eq_false (by omega))) kr ?_
        refine s_val (some 13) (.bool false) (fun w => by kernel_rfl) kr ?_
        refine s_nil ?_
        refine g_cond_f kr kr ?_
        refine g_skip kr ?_
        show WP _ _ _ _ _ _
        refine g_sreg [0] kr kr ?_
        have hpw := pure_wt1 hok.1 hok.2.1 (show sz1 l s (szF k) ≤ 4000 by omega) (by omega)
        refine s_alloc H4 (some 4) 60 (.agg #[.pointer none, .slice none 0 0]) kr kr kr ?_
        intro b2 w5 H5; clear H4
        refine s_nil ?_
        refine g_sreg [0, 1] kr kr ?_
        refine s_load H5 (some 17) 43 (.tmp 1) 1 b1 #[.bool l, .string s, .slice p n c] 43 (0, 0) kr kr kr kr kr ?_
        have HD3 : St w.heap.size w w5 [(b2, Obj.cells #[.pointer none, .slice none 0 0] 60 (0, 0))] := H5.sub (List.Sublist.cons_cons _ (List.Sublist.cons _ List.Sublist.slnil))
        have hE0 : BE b2 60 5 [] [(b2, Obj.cells #[.pointer none, .slice none 0 0] 60 (0, 0))] := BE.nil none (Or.inl rfl)
        refine s_callB0 HD3 hE0 (some 18) 23 #[.pointer (some ⟨b2, 0, none⟩), .agg #[.bool l, .string s, .slice p n c]] (.tuple #[]) ([] ++ wr1 l s (szF k) (wrF k)) (fun w => SlAt w.heap.size w p n k) (write_fn b2 [] l s p n c k hs (by simp only [List.length_nil]; omega)) hpre kr kr ?_
        intro E1 w6 hE1 H6; clear HD3
        refine s_nil ?_
        refine g_sreg [0, 1, 2] kr kr ?_
        rw [List.nil_append] at hE1
        refine s_callO H6 hE1 (some 19) 24 #[.pointer (some ⟨b2, 0, none⟩)] (.string (strB (wr1 l s (szF k) (wrF k)))) (string_fn b2 (wr1 l s (szF k) (wrF k)) (wr1_len hok.1 hok.2.1 (by omega)).1 (by have h9 := (wr1_len hok.1 hok.2.1 (by omega)).2; omega)) kr kr ?_
        intro w7 H7; clear H6
        refine s_val (some 2) (.string (strB (wr1 l s (szF k) (wrF k)))) (fun w => by kernel_rfl) kr ?_
        refine s_val (some 3) (.int .i64 0) (fun w => by kernel_rfl) kr ?_
        refine s_nil ?_
        refine g_ret kr ?_
        show ∃ vs, Res _ _ _ _ vs ∧ _
        exact ⟨[.string (strB (wr1 l s (szF k) (wrF k))), .int .i64 0], (.tmp (.string (strB (wr1 l s (szF k) (wrF k)))) kr (.tmp (.int .i64 0) kr .nil)), (encS_0 hv1 (by omega) (by omega)).symm, H7.below⟩
end Go.Proofs.YtkkbkpneodecnaaDoor

namespace Go.Proofs.YtkkbkpneodecnaaDoor
open Go Go.RowKit
set_option linter.unusedVariables false
end Go.Proofs.YtkkbkpneodecnaaDoor

namespace Go.Proofs.YtkkbkpneodecnaaDoor
open Go Go.RowKit
set_option linter.unusedVariables false
structure X3 where
  l : Bool
  s : ByteArray
  p : Option Addr
  n : Nat
  c : Nat
  k : Fo
def X3.cs (x : X3) : List Value := [.bool x.l, .string x.s, .slice x.p x.n x.c]
def cells3 : List X3 → List Value
  | [] => []
  | x :: r => .bool x.l :: .string x.s :: .slice x.p x.n x.c :: cells3 r
def toFo : List X3 → Fo
  | [] => .nil
  | x :: r => .cons x.l x.s x.k (toFo r)
def cntL : List X3 → Nat
  | [] => 0
  | x :: r => x.k.cnt + cntL r
theorem toFo_len : ∀ L, (toFo L).len = L.length
  | [] => rfl
  | x :: r => by simp only [toFo, Fo.len, List.length_cons, toFo_len r]
theorem cells3_len : ∀ L, (cells3 L).length = L.length * 3
  | [] => rfl
  | x :: r => by simp only [cells3, List.length_cons, cells3_len r]; omega
theorem cells3_append : ∀ L M, cells3 (L ++ M) = cells3 L ++ cells3 M
  | [], M => rfl
  | x :: r, M => by simp only [List.cons_append, cells3, cells3_append r M]
theorem cells3_one : ∀ L, ∀ u ∈ cells3 L, u.oneCell' = true
  | [], u, h => nomatch h
  | x :: r, u, h => by
    simp only [cells3, List.mem_cons] at h
    rcases h with rfl | rfl | rfl | h
    · rfl
    · rfl
    · rfl
    · exact cells3_one r u h
theorem cntL_append : ∀ L M, cntL (L ++ M) = cntL L + cntL M
  | [], M => by simp [cntL]
  | x :: r, M => by simp only [List.cons_append, cntL, cntL_append r M]; omega
theorem cntL_drop : ∀ (L : List X3) (i : Nat) (x : X3), L[i]? = some x → cntL (L.drop i) = x.k.cnt + cntL (L.drop (i + 1))
  | [], _, _, h => by simp at h
  | y :: r, 0, x, h => by simp at h; subst h; simp [cntL]
  | y :: r, i + 1, x, h => by
    have := cntL_drop r i x (by simpa using h)
    simpa using this
theorem cells3_get : ∀ (L : List X3) (i : Nat) (x : X3), L[i]? = some x → (cells3 L)[i * 3]? = some (.bool x.l) ∧ (cells3 L)[i * 3 + 1]? = some (.string x.s) ∧ (cells3 L)[i * 3 + 2]? = some (.slice x.p x.n x.c)
  | [], _, _, h => by simp at h
  | y :: r, 0, x, h => by simp at h; subst h; exact ⟨rfl, rfl, rfl⟩
  | y :: r, i + 1, x, h => by
    obtain ⟨h1, h2, h3⟩ := cells3_get r i x (by simpa using h)
    rw [show (i + 1) * 3 = i * 3 + 3 by omega]
    exact ⟨h1, h2, h3⟩
theorem ex3 {C : Array Value} {o : Nat} {a b c : Value} (h1 : C[o]? = some a) (h2 : C[o + 1]? = some b) (h3 : C[o + 2]? = some c) : o + 3 ≤ C.size ∧ C.extract o (o + 3) = #[a, b, c] := by
  have hl := (Array.getElem?_eq_some_iff.1 h3).1
  refine ⟨by omega, ?_⟩
  apply Array.ext
  · simp; omega
  · intro j hj1 hj2
    simp at hj1 hj2
    rcases (show j = 0 ∨ j = 1 ∨ j = 2 by omega) with rfl | rfl | rfl
    · have := (Array.getElem?_eq_some_iff.1 h1).2; simpa using this
    · have := (Array.getElem?_eq_some_iff.1 h2).2; simpa using this
    · have := (Array.getElem?_eq_some_iff.1 h3).2; simpa using this
theorem Rw.at3 {cur : Array Value} {cap n : Nat} {L : List X3} (h : Rw 3 cur cap n (cells3 L)) {i : Nat} {x : X3} (hx : L[i]? = some x) : cur[i * 3]? = some (.bool x.l) ∧ cur[i * 3 + 1]? = some (.string x.s) ∧ cur[i * 3 + 2]? = some (.slice x.p x.n x.c) := by
  have hl := h.len
  rw [cells3_len] at hl
  have hi : i < L.length := (List.getElem?_eq_some_iff.1 hx).1
  obtain ⟨h1, h2, h3⟩ := cells3_get L i x hx
  refine ⟨?_, ?_, ?_⟩
  · rw [h.get _ (by omega)]; exact h1
  · rw [h.get _ (by omega)]; exact h2
  · rw [h.get _ (by omega)]; exact h3
/-- All of a row's items lie in memory. -/
def AllAt (B : Nat) (w : World) (L : List X3) : Prop := ∀ x ∈ L, SlAt B w x.p x.n x.k ∧ x.s.size ≤ 140737488355328
theorem AllAt.up {B B' : Nat} {w w' : World} {L : List X3} (h : AllAt B w L) (hb : Below B w w') (hB : B ≤ B') : AllAt B' w' L := fun x hx => ⟨(h x hx).1.up hb hB, (h x hx).2⟩
theorem foAt_row {B : Nat} {w : World} {b : Nat} {C : Array Value} {T : TypeId} {fz : Nat × Nat} (hb : b < B) (hh : w.heap[b]? = some (.cells C T fz)) : ∀ (L : List X3) (o : Nat),
    (∀ (i : Nat) (x : X3), L[i]? = some x → C[o + i * 3]? = some (.bool x.l) ∧ C[o + i * 3 + 1]? = some (.string x.s) ∧ C[o + i * 3 + 2]? = some (.slice x.p x.n x.c)) → AllAt B w L → FoAt B w (toFo L) b o
  | [], _, _, _ => trivial
  | x :: r, o, h, hA => by
    obtain ⟨h1, h2, h3⟩ := h 0 x rfl
    simp only [Nat.zero_mul, Nat.add_zero] at h1 h2 h3
    have ha := hA x (List.mem_cons_self ..)
    refine ⟨⟨C, T, fz, x.p, x.n, x.c, hb, hh, (ex3 h1 h2 h3).1, (ex3 h1 h2 h3).2, ha.2, ha.1.1, ha.1.2.1, ha.1.2.2⟩, ?_⟩
    refine foAt_row hb hh r (o + 3) (fun i y hy => ?_) fun y hy => hA y (List.mem_cons_of_mem _ hy)
    have := h (i + 1) y (by simpa using hy)
    rw [show o + (i + 1) * 3 = o + 3 + i * 3 by omega] at this
    exact this
theorem Rw.slAt {cur : Array Value} {cap n : Nat} {L : List X3} (h : Rw 3 cur cap n (cells3 L)) {w : World} {b : Nat} {T : TypeId} {fz : Nat × Nat} (hh : w.heap[b]? = some (.cells cur T fz)) (hA : AllAt w.heap.size w L) (hn : n ≤ 140737488355328) :
    SlAt w.heap.size w (some ⟨b, 0, none⟩) n (toFo L) := by
  have hl := h.len
  rw [cells3_len] at hl
  refine ⟨by rw [toFo_len]; omega, hn, .inr ⟨b, 0, rfl, foAt_row (lt_of_heap hh) hh L 0 (fun i x hx => ?_) hA⟩⟩
  have := h.at3 hx
  rw [Nat.zero_add]; exact this
def manyV (t limit : Nat) : Nat := if t ≤ limit then t else limit + 1
/-- What is so while the items are counted. -/
def Cnt (t limit len u : Nat) : Prop := len ≤ limit + 1 ∧ (len ≤ limit → len + u = t) ∧ (limit < len → limit < t)
theorem Cnt.done {t limit len : Nat} (h : Cnt t limit len 0 ∨ ∃ u, Cnt t limit len u ∧ limit < len) : manyV t limit = len := by
  unfold manyV
  rcases h with ⟨h1, h2, h3⟩ | ⟨u, ⟨h1, h2, h3⟩, h4⟩
  · by_cases hl : len ≤ limit
    · have := h2 hl; rw [if_pos (by omega)]; omega
    · have := h3 (by omega); rw [if_neg (by omega)]; omega
  · have := h3 h4; rw [if_neg (by omega)]; omega
theorem Cnt.push {t limit n u kc rc u' : Nat} (h : Cnt t limit n (u + (1 + kc + rc))) (hn : n ≤ limit) (hu : u' = u + kc) : Cnt t limit (n + 1) (u' + rc) := by
  obtain ⟨h1, h2, h3⟩ := h
  have := h2 hn
  exact ⟨by omega, fun _ => by omega, fun _ => by omega⟩
theorem Cnt.full {t limit n u v : Nat} (h : Cnt t limit n u) (hn : ¬ n ≤ limit) : Cnt t limit n v := ⟨h.1, fun h => absurd h hn, h.2.2⟩
theorem AllAt.push {B : Nat} {w : World} {M : List X3} {x : X3} (h : AllAt B w M) (hx : SlAt B w x.p x.n x.k) (hs : x.s.size ≤ 140737488355328) : AllAt B w (M ++ [x]) := fun y hy => by
  rcases List.mem_append.1 hy with hy | hy
  · exact h y hy
  · rw [List.mem_singleton.1 hy]; exact ⟨hx, hs⟩
def fewB (k : Fo) : Bool := decide (1 + k.cnt ≤ 400)
/-- Are two the same? -/
def likeF : Fo → Fo → Bool
  | .nil, .nil => true
  | .cons l s k r, .cons l' s' k' r' => (decide (l = l') && decide (s = s') && likeF k k') && likeF r r'
  | _, _ => false
def like1 (l : Bool) (s : ByteArray) (k : Fo) (l' : Bool) (s' : ByteArray) (k' : Fo) : Bool := decide (l = l') && decide (s = s') && likeF k k'
theorem likeF_eq : ∀ {a b : Fo}, likeF a b = true ↔ a = b
  | .nil, .nil => by simp [likeF]
  | .nil, .cons .. => by simp [likeF]
  | .cons .., .nil => by simp [likeF]
  | .cons l s k r, .cons l' s' k' r' => by
    simp only [likeF, Bool.and_eq_true, decide_eq_true_eq, likeF_eq, Fo.cons.injEq, and_assoc]
/-- A text's number. -/
def val (l : List UInt8) : Nat := l.foldl (fun n b => n * 256 + b.toNat) 0
theorem val_append (l : List UInt8) (b : UInt8) : val (l ++ [b]) = val l * 256 + b.toNat := by unfold val; rw [List.foldl_append]; rfl
def prefB (s : ByteArray) : Bool := decide (1 ≤ s.size) && decide (s.extract 0 1 = ⟨#[0]⟩)
def numV (s : ByteArray) : Nat × Bool := if 8 < s.size ∨ prefB s = true then (0, false) else (val (tl s), true)
def valS (l : Bool) (s : ByteArray) (n : Nat) : Nat × Nat := if l = true ∨ n ≠ 0 ∨ (numV s).2 = false then (0, 4) else ((numV s).1, 0)
theorem take_succ8 (l : List UInt8) (i : Nat) (h : i < l.length) : l.take (i + 1) = l.take i ++ [l.getD i 0] := by
  rw [List.take_add_one, List.getElem?_eq_getElem h, List.getD_eq_getElem?_getD, List.getElem?_eq_getElem h]; rfl
theorem val_rev : ∀ l : List UInt8, val l.reverse < 256 ^ l.length
  | [] => by decide
  | b :: l => by
    rw [List.reverse_cons, val_append, List.length_cons, Nat.pow_succ]
    have := val_rev l; have := b.toNat_lt; omega
theorem val_lt (l : List UInt8) : val l < 256 ^ l.length := by have := val_rev l.reverse; rwa [List.reverse_reverse, List.length_reverse] at this
theorem val_take_lt (l : List UInt8) (i : Nat) (h : i ≤ 7) : val (l.take i) < 72057594037927936 := by
  have h1 := val_lt (l.take i)
  have h2 : (l.take i).length ≤ 7 := by rw [List.length_take]; omega
  exact Nat.lt_of_lt_of_le h1 (Nat.le_trans (Nat.pow_le_pow_right (by decide) h2) (by decide))
theorem val_lt8 {l : List UInt8} (h : l.length ≤ 8) : val l < 18446744073709551616 :=
  Nat.lt_of_lt_of_le (val_lt l) (Nat.le_trans (Nat.pow_le_pow_right (by decide) h) (by decide))
theorem val_next (s : ByteArray) (i : Nat) (h : i < s.size) : val ((tl s).take (i + 1)) = val ((tl s).take i) * 256 + by_ s i := by
  rw [take_succ8 _ _ (by rw [tl_len]; exact h), val_append]; rfl
theorem shl8 {n : Nat} (h : n < 72057594037927936) : IntKind.u64.wrap (((n : Nat) : Int) * 2 ^ (min 8 64)) = ((n * 256 : Nat) : Int) := by
  rw [wrap_u64] <;> simp only [show (2 : Int) ^ (min 8 64) = 256 by decide] <;> omega
theorem or8 {n b : Nat} (hn : n < 72057594037927936) (hb : b < 256) : Go.bits .or .u64 ((n * 256 : Nat) : Int) ((b : Nat) : Int) = ((n * 256 + b : Nat) : Int) := by
  rw [u64_or_nat _ _ (by omega) (by omega)]
  congr 1
  have := Nat.two_pow_add_eq_or_of_lt (i := 8) (b := b) (by omega) n
  rw [show n * 256 = 2 ^ 8 * n by omega]; exact this.symm
theorem beI_val : ∀ (m : Nat) (l : List UInt8), l.length ≤ m → beI m (val l.reverse) = List.replicate (m - l.length) 0 ++ l.reverse
  | 0, l, h => by
    have : l = [] := List.eq_nil_of_length_eq_zero (by omega)
    subst this; rfl
  | m + 1, [], _ => by
    have := beI_val m [] (Nat.zero_le _)
    simp only [List.reverse_nil, List.append_nil, List.length_nil, Nat.sub_zero] at this ⊢
    show beI m (val [] / 256) ++ [UInt8.ofNat (val [])] = _
    rw [show val [] / 256 = val [] from rfl, this, List.replicate_succ']; rfl
  | m + 1, b :: l, h => by
    have hl : l.length ≤ m := by simpa using h
    have hb := b.toNat_lt
    rw [List.reverse_cons, val_append]
    show beI m ((val l.reverse * 256 + b.toNat) / 256) ++ [UInt8.ofNat (val l.reverse * 256 + b.toNat)] = _
    rw [show (val l.reverse * 256 + b.toNat) / 256 = val l.reverse by omega, beI_val m l hl]
    have e : UInt8.ofNat (val l.reverse * 256 + b.toNat) = b := by
      apply UInt8.toNat_inj.1
      rw [UInt8.toNat_ofNat']
      omega
    rw [e, List.length_cons, Nat.add_sub_add_right, List.append_assoc]
theorem drop_rep (l : List UInt8) : ∀ m, (List.replicate m 0 ++ l).dropWhile (· == 0) = l.dropWhile (· == 0)
  | 0 => rfl
  | m + 1 => by rw [List.replicate_succ, List.cons_append, List.dropWhile_cons, if_pos (by decide)]; exact drop_rep l m
theorem dg_val {l : List UInt8} (h : l.length ≤ 8) : dg (val l) = l.dropWhile (· == 0) := by
  have h1 := beI_val 8 l.reverse (by rw [List.length_reverse]; exact h)
  rw [List.reverse_reverse] at h1
  have h2 := beI_drop 8 (val l) (val_lt8 h)
  show dgI 8 (val l) = _
  rw [← h2, h1, drop_rep]
theorem ext1 {s : ByteArray} (h : 1 ≤ s.size) : s.extract 0 1 = ⟨#[0]⟩ ↔ by_ s 0 = 0 := by
  obtain ⟨l, e⟩ := by0_eq (t := s) (by omega)
  have hb := by_lt s 0
  constructor
  · intro q
    have := congrArg tl q
    rw [tl_extract, e] at this
    have h3 : UInt8.ofNat (by_ s 0) = 0 := by
      have h4 : (List.drop 0 (List.take 1 (UInt8.ofNat (by_ s 0) :: l))) = [UInt8.ofNat (by_ s 0)] := rfl
      rw [h4] at this
      exact (List.cons.inj this).1
    have h5 := congrArg UInt8.toNat h3
    rw [UInt8.toNat_ofNat_of_lt' (by simpa using hb)] at h5
    exact h5
  · intro q
    apply tl_inj
    rw [tl_extract, e, q]; rfl
/-- The digits of a text's number are the text, if it has no 00 ahead. -/
theorem dg_same {s : ByteArray} (h : s.size ≤ 8) : (strB (dg (val (tl s))) = s) ↔ prefB s = false := by
  rw [dg_val (by rw [tl_len]; exact h)]
  unfold prefB
  by_cases h1 : 1 ≤ s.size
  · rw [decide_eq_true h1, Bool.true_and, decide_eq_false_iff_not, ext1 h1]
    constructor
    · intro q h0
      obtain ⟨l, e⟩ := by0_eq (t := s) (by omega)
      have := congrArg (fun t => (tl t).length) q
      simp only [tl_strB] at this
      rw [e, h0, List.dropWhile_cons, if_pos (by decide)] at this
      have h6 := (List.dropWhile_suffix (p := fun x : UInt8 => x == 0) (l := l)).length_le
      simp only [List.length_cons] at this; omega
    · intro h0; exact trim_done s (.inr h0)
  · have : s.size = 0 := by omega
    constructor
    · intro _; rw [decide_eq_false h1]; rfl
    · intro _; exact trim_done s (.inl this)
theorem dgI_up : ∀ m n, n < 256 ^ m → dgI (m + 1) n = dgI m n
  | 0, n, h => by
    have : n = 0 := by simp at h; exact h
    subst this; rfl
  | m + 1, n, h => by
    unfold dgI
    split
    · rfl
    · rw [dgI_up m (n / 256) (by rw [Nat.pow_succ] at h; omega)]
theorem val_dg_rev (m : Nat) : ∀ n, n < 256 ^ m → val (dgI m n) = n := by
  induction m with
  | zero => intro n h; have : n = 0 := by simpa using h
            subst this; rfl
  | succ m ih =>
    intro n h
    unfold dgI
    split
    · rename_i h0; subst h0; rfl
    · rw [val_append, ih (n / 256) (by rw [Nat.pow_succ] at h; omega), UInt8.toNat_ofNat']; omega
theorem val_dg {n : Nat} (h : n < 18446744073709551616) : val (dg n) = n := val_dg_rev 8 n h
theorem numV_dg {n : Nat} (h : n < 18446744073709551616) : numV (strB (dg n)) = (n, true) := by
  have hl := dg_len n
  have hp : prefB (strB (dg n)) = false := (dg_same (by rw [strB_size]; exact hl)).1 (by rw [tl_strB, val_dg h])
  unfold numV
  rw [if_neg (by rw [hp, strB_size]; simp; omega), tl_strB, val_dg h]
theorem valS_dg {n : Nat} (h : n < 18446744073709551616) : valS false (strB (dg n)) 0 = (n, 0) := by
  unfold valS; rw [numV_dg h]; simp
/-- A list in memory as a row. -/
theorem FoAt.list {B : Nat} {w : World} : ∀ {k : Fo} {b off : Nat}, FoAt B w k b off → ∃ L : List X3, toFo L = k ∧ AllAt B w L ∧ ∀ (j : Nat) (u : Value), (cells3 L)[j]? = some u → w.cell? ⟨b, off + j, none⟩ = some u
  | .nil, b, off, _ => ⟨[], rfl, (fun _ h => nomatch h), fun j u h => by simp [cells3] at h⟩
  | .cons l s k r, b, off, ⟨⟨C, T, fz, p, n, c, h1, h2, h3, h4, h5, h6, h7, h8⟩, h9⟩ => by
    obtain ⟨L, e, hA, hc⟩ := FoAt.list h9
    have g0 : ∀ q, q < 3 → w.cell? ⟨b, off + q, none⟩ = (#[Value.bool l, .string s, .slice p n c] : Array Value)[q]? := fun q hq => by
      rw [← h4]
      simp only [World.cell?, h2]
      rw [Array.getElem?_extract]
      simp; omega
    refine ⟨X3.mk l s p n c k :: L, by rw [toFo, e], ?_, ?_⟩
    · intro x hx
      rcases List.mem_cons.1 hx with rfl | hx
      · exact ⟨⟨h6, h7, h8⟩, h5⟩
      · exact hA x hx
    · intro j u hj
      rcases (show j = 0 ∨ j = 1 ∨ j = 2 ∨ ∃ q, j = q + 3 by
        by_cases h : j < 3
        · omega
        · exact .inr (.inr (.inr ⟨j - 3, by omega⟩))) with rfl | rfl | rfl | ⟨q, rfl⟩
      · rw [g0 0 (by omega)]; simpa [cells3] using hj
      · rw [g0 1 (by omega)]; simpa [cells3] using hj
      · rw [g0 2 (by omega)]; simpa [cells3] using hj
      · have := hc q u (by simpa [cells3] using hj)
        rw [show off + (q + 3) = off + 3 + q by omega]; exact this
def numT (x : Nat × Bool) : Value := .tuple #[.int .u64 ((x.1 : Nat) : Int), .bool x.2]
def numE (x : Nat × Nat) : Value := .tuple #[.int .u64 ((x.1 : Nat) : Int), .int .i64 ((x.2 : Nat) : Int)]
theorem numV_no {s : ByteArray} (h : 8 < s.size ∨ prefB s = true) : numT (numV s) = .tuple #[.int .u64 0, .bool false] := by unfold numV; rw [if_pos h]; rfl
theorem numV_yes {s : ByteArray} {v : Nat} (h : ¬ 8 < s.size) (hp : prefB s = false) (hv : v = val (tl s)) : numT (numV s) = .tuple #[.int .u64 ((v : Nat) : Int), .bool true] := by
  unfold numV; rw [if_neg (by simp [h, hp])]; rw [hv]; rfl
theorem valS_no {l : Bool} {s : ByteArray} {n : Nat} (h : l = true ∨ n ≠ 0 ∨ (numV s).2 = false) : numE (valS l s n) = .tuple #[.int .u64 0, .int .i64 4] := by unfold valS; rw [if_pos h]; rfl
theorem valS_yes {l : Bool} {s : ByteArray} {n : Nat} (h : l = false) (hn : n = 0) (h2 : (numV s).2 = true) : numE (valS l s n) = .tuple #[.int .u64 (((numV s).1 : Nat) : Int), .int .i64 0] := by unfold valS; rw [if_neg (by simp [h, hn, h2])]; rfl
theorem AllAt.two {B : Nat} {w : World} {x y : X3} (h : SlAt B w x.p x.n x.k ∧ x.s.size ≤ 140737488355328) (h2 : SlAt B w y.p y.n y.k ∧ y.s.size ≤ 140737488355328) : AllAt B w [x, y] := fun z hz => by
  rcases List.mem_cons.1 hz with rfl | hz
  · exact h
  · rw [List.mem_singleton.1 hz]; exact h2
end Go.Proofs.YtkkbkpneodecnaaDoor

namespace Go.Proofs.YtkkbkpneodecnaaDoor
open Go Go.RowKit
set_option linter.unusedVariables false
end Go.Proofs.YtkkbkpneodecnaaDoor

namespace Go.Proofs.YtkkbkpneodecnaaDoor
open Go Go.RowKit
set_option linter.unusedVariables false
end Go.Proofs.YtkkbkpneodecnaaDoor

namespace Go.Proofs.YtkkbkpneodecnaaDoor
open Go Go.RowKit
set_option linter.unusedVariables false
set_option maxRecDepth 100000 in
set_option maxHeartbeats 2000000 in
theorem pref2_fn (s : ByteArray) : Fn Tryd.prog 48 #[.string s, .string (⟨#[0]⟩)] (.bool (prefB s)) := by
  refine Fn.intro (c := codeOf Tryd.f48) [.tmp 4] 18 Tryd.func48 kr kr kr fun w => ?_
  have H0 := St.start w
  refine rS [.v] H0 kr fun gs1 w1 H1 => ?_
  clear H0
  refine g_sreg [0, 1, 2, 3, 4, 5, 6, 7, 8, 9, 10, 11, 12, 13] kr kr ?_
  refine rp [.v, .v, .v, .v] H1 kr fun gs2 w2 H2 => ?_
  show WPs _ _ _ _ [4, 5, 6, 7, 8, 9, 10, 11, 12, 13] _ _
  clear H1
  by_cases hc1 : (ByteArray.size s : Nat) ≥ 1
  · skip
    refine rp [.e (v := .bool (decide (1 ≤ ((ByteArray.size s : Nat) : Int)))) (v' := .bool true) (bool_eq (decide_eq_true (by omega))), .v, .v, .v, .v, .o (ins := [((.tmp 11), .string s), ((.tmp 13), .int .i64 1)]) (v := .string (ByteArray.extract s 0 1)) (fun ρ o w ho hi => scut_run (t := 9) (kd := .i64) kr (x := (.tmp 11)) (y := (.tmp 13)) s 1 ho hi.1 hi.2.1 (by omega) w), .v] H2 kr fun gs3 w3 H3 => ?_
    show WPs _ _ _ _ [11, 12, 13] _ _
    clear H2
    by_cases hx2 : (ByteArray.extract s 0 1) = ⟨#[0]⟩
    · skip
      refine rp [.e (v := .bool (ByteArray.toList (ByteArray.extract s 0 1) == ByteArray.toList (⟨#[0]⟩))) (v' := .bool true) (bool_eq (str_same (ByteArray.extract s 0 1) (⟨#[0]⟩) hx2)), .v, .v] H3 kr fun gs4 w4 H4 => ?_
      show WPs _ _ _ _ [] _ _
      clear H3
      refine s_nil ?_
      refine g_ret kr ?_
      show ∃ vs, Res _ _ _ _ vs ∧ _
      refine ⟨[.bool true], (.tmp (.bool true) kr .nil), ?_, H4.below⟩
      exact bool_eq (by unfold prefB; rw [decide_eq_true (show 1 ≤ ByteArray.size s by omega), decide_eq_true hx2]; rfl)
    · skip
      refine rp [.e (v := .bool (ByteArray.toList (ByteArray.extract s 0 1) == ByteArray.toList (⟨#[0]⟩))) (v' := .bool false) (bool_eq (str_other (ByteArray.extract s 0 1) (⟨#[0]⟩) hx2)), .v, .v] H3 kr fun gs5 w5 H5 => ?_
      show WPs _ _ _ _ [] _ _
      clear H3
      refine s_nil ?_
      refine g_ret kr ?_
      show ∃ vs, Res _ _ _ _ vs ∧ _
      refine ⟨[.bool false], (.tmp (.bool false) kr .nil), ?_, H5.below⟩
      exact bool_eq (by unfold prefB; rw [decide_eq_true (show 1 ≤ ByteArray.size s by omega), decide_eq_false hx2]; rfl)
  · skip
    refine rp [.e (v := .bool (decide (1 ≤ ((ByteArray.size s : Nat) : Int)))) (v' := .bool false) (bool_eq (decide_eq_false (by omega))), .v, .n, .n, .n, .n, .n, .n, .v, .v] H2 kr fun gs6 w6 H6 => ?_
    show WPs _ _ _ _ [] _ _
    clear H2
    refine s_nil ?_
    refine g_ret kr ?_
    show ∃ vs, Res _ _ _ _ vs ∧ _
    refine ⟨[.bool false], (.tmp (.bool false) kr .nil), ?_, H6.below⟩
    exact bool_eq (by unfold prefB; rw [decide_eq_false (show ¬ 1 ≤ ByteArray.size s by omega)]; rfl)
set_option maxRecDepth 100000 in
set_option maxHeartbeats 2000000 in
theorem pref_fn (s : ByteArray) : Fn Tryd.prog 44 #[.string s, .string (⟨#[0]⟩)] (.bool (prefB s)) := by
  refine Fn.intro (c := codeOf Tryd.f44) [.tmp 4] 8 Tryd.func44 kr kr kr fun w => ?_
  have H0 := St.start w
  refine rS [.v] H0 kr fun gs1 w1 H1 => ?_
  clear H0
  refine rS [.v, .v, .c (pref2_fn s), .v] H1 kr fun gs2 w2 H2 => ?_
  clear H1
  refine g_ret kr ?_
  show ∃ vs, Res _ _ _ _ vs ∧ _
  refine ⟨[.bool (prefB s)], (.tmp (.bool (prefB s)) kr .nil), ?_, H2.below⟩
  rfl
set_option maxRecDepth 100000 in
set_option maxHeartbeats 2000000 in
theorem number_fn (s : ByteArray) : Fn Tryd.prog 29 #[.string s] (numT (numV s)) := by
  refine Fn.intro (c := codeOf Tryd.f29) [.tmp 2, .tmp 3] 27 Tryd.func29 kr kr kr fun w => ?_
  have H0 := St.start w
  refine rS [.v, .v] H0 kr fun gs1 w1 H1 => ?_
  clear H0
  refine g_seq kr ?_
  refine g_sreg [0, 1, 2, 3, 4, 5, 6] kr kr ?_
  refine rp [.v, .v] H1 kr fun gs2 w2 H2 => ?_
  show WPs _ _ _ _ [2, 3, 4, 5, 6] _ _
  clear H1
  by_cases hc1 : (ByteArray.size s : Nat) > 8
  · skip
    refine rp [.e (v := .bool (decide (8 < ((ByteArray.size s : Nat) : Int)))) (v' := .bool true) (bool_eq (decide_eq_true (by omega))), .v, .n, .n, .v] H2 kr fun gs3 w3 H3 => ?_
    show WPs _ _ _ _ [] _ _
    clear H2
    refine s_nil ?_
    refine g_cond_t kr kr ?_
    refine rS [.v, .v] H3 kr fun gs4 w4 H4 => ?_
    clear H3
    refine g_ret kr ?_
    show ∃ vs, Res _ _ _ _ vs ∧ _
    refine ⟨[.int .u64 0, .bool false], (.tmp (.int .u64 0) kr (.tmp (.bool false) kr .nil)), ?_, H4.below⟩
    exact (numV_no (Or.inl (by omega))).symm
  · skip
    refine rp [.e (v := .bool (decide (8 < ((ByteArray.size s : Nat) : Int)))) (v' := .bool false) (bool_eq (decide_eq_false (by omega))), .v, .v, .c (pref_fn s), .v] H2 kr fun gs5 w5 H5 => ?_
    show WPs _ _ _ _ [] _ _
    clear H2
    refine s_nil ?_
    refine Or.elim (Bool.eq_false_or_eq_true (prefB s)).symm (fun hq1 => ?_) (fun hq1 => ?_)
    · skip
      refine g_now 11 (v := .bool (prefB s)) (v' := .bool false) (bool_eq hq1) kr ?_
      refine g_now 12 (v := .bool (prefB s)) (v' := .bool false) (bool_eq hq1) kr ?_
      refine g_cond_f kr kr ?_
      refine g_skip kr ?_
      show WP _ _ _ _ _ _
      refine rS [.v] H5 kr fun gs6 w6 H6 => ?_
      clear H5
      refine g_seq kr ?_
      refine rS [.v, .v, .v] H6 kr fun gs7 w7 H7 => ?_
      clear H6
      refine g_block 0 kr ?_
      have HL2 : St w.heap.size w w7 [] := H7.as kr
      clear H7
      refine g_loop kr (fun mz ρ ww => ∃ (i : Nat), ByteArray.size s - i = mz ∧ (i ≤ ByteArray.size s) ∧ St w.heap.size w ww [] ∧ Is [(0, .string s), (2, .int .u64 0), (3, .bool false), (4, .int .u64 ((val (List.take i (tl s)) : Nat) : Int)), (12, .bool false), (14, .int .i64 ((ByteArray.size s : Nat) : Int)), (15, .int .i64 ((i : Nat) : Int))] ρ) (ByteArray.size s - 0) ⟨0, rfl, (by omega), HL2, (Is.of ⟨kr, kr, kr, kr, kr, kr, kr, trivial⟩)⟩ ?_
      clear HL2
      rintro _ _ w8 ⟨i, rfl, hi, H8, _, rfl⟩
      by_cases hc3 : (i : Nat) < ByteArray.size s
      · skip
        refine rS [.e (v := .bool (decide (((i : Nat) : Int) < ((ByteArray.size s : Nat) : Int)))) (v' := .bool true) (bool_eq (decide_eq_true (by omega)))] H8 kr fun gs9 w9 H9 => ?_
        clear H8
        refine g_seq kr ?_
        refine g_cond_t kr kr ?_
        refine g_skip kr ?_
        show WP _ _ _ _ _ _
        refine g_seq kr ?_
        refine g_block 1 kr ?_
        refine rS [.v, .v] H9 kr fun gs10 w10 H10 => ?_
        clear H9
        refine rL [.v, .e (v := .int .u64 (IntKind.u64.wrap (((val (List.take i (tl s)) : Nat) : Int) * 2 ^ (min 8 64)))) (v' := .int .u64 (((val (List.take i (tl s))) * 256 : Nat) : Int)) (int_eq (shl8 (n := val (List.take i (tl s))) (val_take_lt (tl s) i (by omega)))), .v, .v, .o (ins := [((.tmp 20), .string s), ((.tmp 21), .int .i64 ((i : Nat) : Int))]) (v := .int .u8 ((by_ s i : Nat) : Int)) (fun ρ o w ho hi => sindex_run (t := 9) (kd := .i64) kr (x := (.tmp 20)) (y := (.tmp 21)) s i ho hi.1 hi.2.1 (by omega) w), .e (v := .int .u64 (IntKind.u64.wrap (((by_ s i : Nat) : Int)))) (v' := .int .u64 ((by_ s i : Nat) : Int)) (int_eq (wrapN_u64 (a := by_ s i) (by have := by_lt s i; omega))), .e (v := .int .u64 (Go.bits .or .u64 (((val (List.take i (tl s)) * 256 : Nat) : Int)) (((by_ s i : Nat) : Int)))) (v' := .int .u64 ((val (List.take (i + 1) (tl s)) : Nat) : Int)) (int_eq (by rw [val_next s i (by omega)]; exact or8 (val_take_lt (tl s) i (by omega)) (by_lt s i))), .v] H10 kr fun gs11 w11 H11 => ?_
        clear H10
        show WP _ _ _ _ _ _
        refine g_keep [0, 2, 3, 4, 5, 12, 14, 15, 16] fun ρ1 => ?_
        have HK4 := H11.keep
        clear H11
        refine rL [.e (v := .int .i64 (IntKind.i64.wrap (((i : Nat) : Int) + 1))) (v' := .int .i64 ((i + 1 : Nat) : Int)) (int_eq (wrapAdd_i64 (a := i) (b := 1) (by omega))), .v] HK4 kr fun gs12 w12 H12 => ?_
        clear HK4
        have HL5 : St w.heap.size w w12 [] := H12.as kr
        clear H12
        show ∃ m, _ ∧ _
        exact ⟨_, (by omega), (i + 1), rfl, (by omega), HL5, (Is.of ⟨kr, kr, kr, kr, kr, kr, kr, trivial⟩)⟩
      · skip
        refine rS [.e (v := .bool (decide (((i : Nat) : Int) < ((ByteArray.size s : Nat) : Int)))) (v' := .bool false) (bool_eq (decide_eq_false (by omega)))] H8 kr fun gs13 w13 H13 => ?_
        clear H8
        refine g_seq kr ?_
        refine g_cond_f kr kr ?_
        refine g_exit 0 kr ?_
        show WP _ _ _ _ _ _
        refine rS [.v, .v, .v] H13 kr fun gs14 w14 H14 => ?_
        clear H13
        refine g_ret kr ?_
        show ∃ vs, Res _ _ _ _ vs ∧ _
        refine ⟨[.int .u64 ((val (List.take i (tl s)) : Nat) : Int), .bool true], (.tmp (.int .u64 ((val (List.take i (tl s)) : Nat) : Int)) kr (.tmp (.bool true) kr .nil)), ?_, H14.below⟩
        refine (numV_yes (by omega) (by assumption) ?_).symm
        rw [List.take_of_length_le (by rw [tl_len]; omega)]
    · skip
      refine g_now 11 (v := .bool (prefB s)) (v' := .bool true) (bool_eq hq1) kr ?_
      refine g_now 12 (v := .bool (prefB s)) (v' := .bool true) (bool_eq hq1) kr ?_
      refine g_cond_t kr kr ?_
      refine rS [.v, .v] H5 kr fun gs15 w15 H15 => ?_
      clear H5
      refine g_ret kr ?_
      show ∃ vs, Res _ _ _ _ vs ∧ _
      refine ⟨[.int .u64 0, .bool false], (.tmp (.int .u64 0) kr (.tmp (.bool false) kr .nil)), ?_, H15.below⟩
      exact (numV_no (Or.inr hq1)).symm
set_option maxRecDepth 100000 in
set_option maxHeartbeats 2000000 in
theorem value_fn (l : Bool) (s : ByteArray) (p : Option Addr) (n c : Nat) (k : Fo) (hs : s.size ≤ 140737488355328) : FnP Tryd.prog 18 #[.agg #[.bool l, .string s, .slice p n c]] (fun w => SlAt w.heap.size w p n k) (numE (valS l s n)) := by
  refine FnP.intro (c := codeOf Tryd.f18) [.tmp 2, .tmp 3] 25 Tryd.func18 kr kr kr fun w hpre => ?_
  have H0 := St.start w
  have hn := hpre.1
  have hnm := hpre.2.1
  refine rS [.b, .v, .v] H0 kr fun gs1 w1 H1 => ?_
  clear H0
  refine rS [.v, .l 0, .c (number_fn s), .v, .v, .v, .v, .v] H1 kr fun gs2 w2 H2 => ?_
  clear H1
  refine g_seq kr ?_
  refine g_sreg [0, 1, 2, 3, 4, 5, 6, 7, 8, 9, 10, 11] kr kr ?_
  refine rp [.v, .l 0, .v] H2 kr fun gs3 w3 H3 => ?_
  show WPs _ _ _ _ [3, 4, 5, 6, 7, 8, 9, 10, 11] _ _
  clear H2
  refine Or.elim (Bool.eq_false_or_eq_true (l)).symm (fun hq1 => ?_) (fun hq1 => ?_)
  · skip
    refine s_now 13 (v := .bool l) (v' := .bool false) (bool_eq hq1) kr ?_
    refine s_now 14 (v := .bool l) (v' := .bool false) (bool_eq hq1) kr ?_
    refine rp [.v, .l 0, .v] H3 kr fun gs4 w4 H4 => ?_
    show WPs _ _ _ _ [6, 7, 8, 9, 10, 11] _ _
    clear H3
    by_cases hc1 : (n : Nat) > 0
    · skip
      refine rp [.e (v := .bool (decide (0 < ((n : Nat) : Int)))) (v' := .bool true) (bool_eq (decide_eq_true (by omega))), .v, .v, .n, .n, .v] H4 kr fun gs5 w5 H5 => ?_
      show WPs _ _ _ _ [] _ _
      clear H4
      refine s_nil ?_
      refine g_keep [0, 1, 2, 3, 4, 5, 23] fun ρ1 => ?_
      have HK2 := H5.keep
      clear H5
      refine g_cond_t kr kr ?_
      refine rS [.v, .v] HK2 kr fun gs6 w6 H6 => ?_
      clear HK2
      refine g_ret kr ?_
      show ∃ vs, Res _ _ _ _ vs ∧ _
      refine ⟨[.int .u64 0, .int .i64 4], (.tmp (.int .u64 0) kr (.tmp (.int .i64 4) kr .nil)), ?_, H6.below⟩
      exact (valS_no (Or.inr (Or.inl (by omega)))).symm
    · skip
      refine rp [.e (v := .bool (decide (0 < ((n : Nat) : Int)))) (v' := .bool false) (bool_eq (decide_eq_false (by omega))), .v, .v, .v] H4 kr fun gs7 w7 H7 => ?_
      show WPs _ _ _ _ [10, 11] _ _
      clear H4
      refine Or.elim (Bool.eq_false_or_eq_true ((numV s).2)).symm (fun hq2 => ?_) (fun hq2 => ?_)
      · skip
        refine s_now 9 (v := .tuple #[.int .u64 (((numV s).1 : Nat) : Int), .bool ((numV s).2)]) (v' := .tuple #[.int .u64 (((numV s).1 : Nat) : Int), .bool false]) (by rw [hq2]) kr ?_
        refine s_now 6 (v := .tuple #[.int .u64 (((numV s).1 : Nat) : Int), .bool ((numV s).2)]) (v' := .tuple #[.int .u64 (((numV s).1 : Nat) : Int), .bool false]) (by rw [hq2]) kr ?_
        refine s_now 11 (v := .bool ((numV s).2)) (v' := .bool false) (bool_eq hq2) kr ?_
        refine s_now 5 (v := .bool ((numV s).2)) (v' := .bool false) (bool_eq hq2) kr ?_
        refine s_now 21 (v := .bool ((numV s).2)) (v' := .bool false) (bool_eq hq2) kr ?_
        refine rp [.v, .v] H7 kr fun gs8 w8 H8 => ?_
        show WPs _ _ _ _ [] _ _
        clear H7
        refine s_nil ?_
        refine g_keep [0, 1, 2, 3, 4, 5, 23] fun ρ2 => ?_
        have HK3 := H8.keep
        clear H8
        refine g_cond_t kr kr ?_
        refine rS [.v, .v] HK3 kr fun gs9 w9 H9 => ?_
        clear HK3
        refine g_ret kr ?_
        show ∃ vs, Res _ _ _ _ vs ∧ _
        refine ⟨[.int .u64 0, .int .i64 4], (.tmp (.int .u64 0) kr (.tmp (.int .i64 4) kr .nil)), ?_, H9.below⟩
        exact (valS_no (Or.inr (Or.inr hq2))).symm
      · skip
        refine s_now 9 (v := .tuple #[.int .u64 (((numV s).1 : Nat) : Int), .bool ((numV s).2)]) (v' := .tuple #[.int .u64 (((numV s).1 : Nat) : Int), .bool true]) (by rw [hq2]) kr ?_
        refine s_now 6 (v := .tuple #[.int .u64 (((numV s).1 : Nat) : Int), .bool ((numV s).2)]) (v' := .tuple #[.int .u64 (((numV s).1 : Nat) : Int), .bool true]) (by rw [hq2]) kr ?_
        refine s_now 11 (v := .bool ((numV s).2)) (v' := .bool true) (bool_eq hq2) kr ?_
        refine s_now 5 (v := .bool ((numV s).2)) (v' := .bool true) (bool_eq hq2) kr ?_
        refine s_now 21 (v := .bool ((numV s).2)) (v' := .bool true) (bool_eq hq2) kr ?_
        refine rp [.v, .v] H7 kr fun gs10 w10 H10 => ?_
        show WPs _ _ _ _ [] _ _
        clear H7
        refine s_nil ?_
        refine g_keep [0, 1, 2, 3, 4, 5, 23] fun ρ3 => ?_
        have HK4 := H10.keep
        clear H10
        refine g_cond_f kr kr ?_
        refine g_skip kr ?_
        show WP _ _ _ _ _ _
        refine rS [.v, .v, .v] HK4 kr fun gs11 w11 H11 => ?_
        clear HK4
        refine g_ret kr ?_
        show ∃ vs, Res _ _ _ _ vs ∧ _
        refine ⟨[.int .u64 (((numV s).1 : Nat) : Int), .int .i64 0], (.tmp (.int .u64 (((numV s).1 : Nat) : Int)) kr (.tmp (.int .i64 0) kr .nil)), ?_, H11.below⟩
        exact (valS_yes hq1 (by omega) hq2).symm
  · skip
    refine s_now 13 (v := .bool l) (v' := .bool true) (bool_eq hq1) kr ?_
    refine s_now 14 (v := .bool l) (v' := .bool true) (bool_eq hq1) kr ?_
    refine rp [.n, .n, .n, .n, .v, .v, .n, .n, .v] H3 kr fun gs12 w12 H12 => ?_
    show WPs _ _ _ _ [] _ _
    clear H3
    refine s_nil ?_
    refine g_keep [0, 1, 2, 3, 4, 5, 23] fun ρ4 => ?_
    have HK5 := H12.keep
    clear H12
    refine g_cond_t kr kr ?_
    refine rS [.v, .v] HK5 kr fun gs13 w13 H13 => ?_
    clear HK5
    refine g_ret kr ?_
    show ∃ vs, Res _ _ _ _ vs ∧ _
    refine ⟨[.int .u64 0, .int .i64 4], (.tmp (.int .u64 0) kr (.tmp (.int .i64 4) kr .nil)), ?_, H13.below⟩
    exact (valS_no (Or.inl hq1)).symm
set_option maxRecDepth 100000 in
set_option maxHeartbeats 2000000 in
theorem Number_fn (n : Nat) (hn : n < 18446744073709551616) : Fn Tryd.prog 25 #[.int .u64 ((n : Nat) : Int)] (.agg #[.bool false, .string (strB (dg n)), .slice none 0 0]) := by
  refine Fn.intro (c := codeOf Tryd.f25) [.cell 2 43] 6 Tryd.func25 kr kr kr fun w => ?_
  have H0 := St.start w
  refine rS [.a] H0 kr fun gs1 w1 H1 => ?_
  clear H0
  refine rS [.v, .c (digits_fn n (by omega)), .v, .s 0] H1 kr fun gs2 w2 H2 => ?_
  clear H1
  refine g_ret kr ?_
  show ∃ vs, Res _ _ _ _ vs ∧ _
  refine ⟨[.agg #[.bool false, .string (strB (dg n)), .slice none 0 0]], (.agg (b := (gs1 0).b) #[.bool false, .string (strB (dg n)), .slice none 0 0] 43 (0, 0) kr (H2.get 0 kr) kr .nil), ?_, H2.below⟩
  rfl
end Go.Proofs.YtkkbkpneodecnaaDoor

namespace Go.Proofs.YtkkbkpneodecnaaDoor
open Go Go.RowKit
set_option linter.unusedVariables false
theorem rwB (s : ByteArray) (h : ByteArray.size s ≤ maxLen) : Rw 1 (cellsB (tl s)).toArray (ByteArray.size s) (ByteArray.size s) (cellsB (tl s)) :=
  ⟨by rw [cellsB_len, tl_len]; omega, Nat.le_refl _, h, by rw [List.take_of_length_le (by simp [cellsB_len, tl_len])], by simp [cellsB_len, tl_len]⟩
theorem idx0_run {P : Program} {ρ : Env} {t e : TypeId} {bytes : Nat} (ht : sliceOf P t = some (e, 1, bytes)) {x y : Operand} {o : Oper} {kd : IntKind} (b n c : Nat) (ho : o.op = .indexAddr t x y) (hx : ev ρ x = .slice (some ⟨b, 0, none⟩) n c) (hy : ev ρ y = .int kd 0) (hk : 0 < n) :
    ∀ w, (execOp (ev ρ) o).run P w = .ok (.value (.pointer (some ⟨b, 0, none⟩))) w := fun w =>
  idxS_run (P := P) (kd := kd) ht b 0 n c 0 ho hx hy hk w
set_option maxRecDepth 100000 in
set_option maxHeartbeats 2000000 in
theorem slCloneS_fn (s : ByteArray) (hs : ByteArray.size s ≤ 100000) : Fn Tryd.prog 54 #[.string s] (.string s) := by
  refine Fn.intro (c := codeOf Tryd.f54) [.tmp 2] 18 Tryd.func54 kr kr kr fun w => ?_
  have H0 := St.start w
  refine g_sreg [0] kr kr ?_
  refine s_val (some 2) (.string (⟨#[]⟩)) (fun w => by kernel_rfl) kr ?_
  refine s_nil ?_
  refine g_seq kr ?_
  refine g_sreg [0, 1, 2] kr kr ?_
  refine s_val (some 4) (.string s) (fun w => by kernel_rfl) kr ?_
  refine s_val (some 5) (.int .i64 ((ByteArray.size s : Nat) : Int)) (fun w => by kernel_rfl) kr ?_
  by_cases hc1 : (ByteArray.size s : Nat) = 0
  · skip
    refine s_valE (some 6) (.bool (((ByteArray.size s : Nat) : Int) == 0)) (.bool true) (fun w => by kernel_rfl) (bool_eq (beq_iff_eq.2 (by omega))) kr ?_
    refine s_nil ?_
    refine g_cond_t kr kr ?_
    refine g_sreg [0] kr kr ?_
    refine s_val (some 2) (.string (⟨#[]⟩)) (fun w => by kernel_rfl) kr ?_
    refine s_nil ?_
    refine g_ret kr ?_
    show ∃ vs, Res _ _ _ _ vs ∧ _
    refine ⟨[.string (⟨#[]⟩)], (.tmp (.string (⟨#[]⟩)) kr .nil), ?_, H0.below⟩
    exact congrArg Value.string (tl_inj (List.eq_nil_of_length_eq_zero (by rw [tl_len]; omega) : tl s = []).symm)
  · skip
    refine s_valE (some 6) (.bool (((ByteArray.size s : Nat) : Int) == 0)) (.bool false) (fun w => by kernel_rfl) (bool_eq (beq_eq_false_iff_ne.2 (by omega))) kr ?_
    refine s_nil ?_
    refine g_cond_f kr kr ?_
    refine g_skip kr ?_
    show WP _ _ _ _ _ _
    refine g_sreg [0, 1, 2, 3] kr kr ?_
    refine s_val (some 7) (.string s) (fun w => by kernel_rfl) kr ?_
    refine s_val (some 8) (.int .i64 ((ByteArray.size s : Nat) : Int)) (fun w => by kernel_rfl) kr ?_
    refine s_make H0 (some 9) 58 5 1 (.int .u8 0) (.tmp 8) (.tmp 8) .i64 .i64 (ByteArray.size s) kr kr kr kr rfl kr kr (by omega) (by unfold maxLen; omega) ?_
    intro b_1 cur_2 w1 H1 hr_3; clear H0
    have hr_3z : Rw 1 cur_2 (ByteArray.size s) (ByteArray.size s) (cellsB (List.replicate (ByteArray.size s) 0)) := by rw [cellsB_zeros']; exact hr_3
    refine s_val (some 3) (.slice (some ⟨b_1, 0, none⟩) (ByteArray.size s) (ByteArray.size s)) (fun w => by kernel_rfl) kr ?_
    refine s_nil ?_
    refine g_sreg [0, 1, 2] kr kr ?_
    refine s_val (some 10) (.slice (some ⟨b_1, 0, none⟩) (ByteArray.size s) (ByteArray.size s)) (fun w => by kernel_rfl) kr ?_
    refine s_val (some 11) (.string s) (fun w => by kernel_rfl) kr ?_
    refine s_copyStr H1 (some 12) 58 9 5 1 (.tmp 10) (.tmp 11) 0 b_1 (ByteArray.size s) (ByteArray.size s) s cur_2 ((cellsB (tl s)).toArray) 5 [(b_1, Obj.cells ((cellsB (tl s)).toArray) 5 (0, 0))] kr kr kr kr kr kr (by omega) (Nat.le_of_eq (by have h := hr_3z.sz; rw [h]; omega)) (by rw [List.drop_of_length_le (by have h := hr_3z.sz; rw [Array.length_toList, h]; omega), List.append_nil]) kr ?_
    intro w2 H2; clear H1
    refine s_nil ?_
    refine g_sreg [0, 1, 2, 3, 4, 5] kr kr ?_
    refine s_val (some 13) (.slice (some ⟨b_1, 0, none⟩) (ByteArray.size s) (ByteArray.size s)) (fun w => by kernel_rfl) kr ?_
    refine s_op (some 14) _ (.pointer (some ⟨b_1, 0, none⟩)) kr kr (fun o w ho => idx0_run (kd := .i64) (t := 58) (e := 5) (bytes := 1) kr (x := (.tmp 13)) (y := (.const (.int .i64 0))) b_1 (ByteArray.size s) (ByteArray.size s) ho kr kr (by omega) w) ?_
    refine s_val (some 15) (.slice (some ⟨b_1, 0, none⟩) (ByteArray.size s) (ByteArray.size s)) (fun w => by kernel_rfl) kr ?_
    refine s_val (some 16) (.int .i64 ((ByteArray.size s : Nat) : Int)) (fun w => by kernel_rfl) kr ?_
    refine s_unsafeStr H2 (some 17) 81 3 5 (.tmp 14) (.tmp 16) (ByteArray.size s) (ByteArray.size s) (tl s) kr kr kr kr rfl kr kr (rwB s (by unfold maxLen; omega)) (by omega) (by omega) ?_
    intro w3 H3; clear H2
    refine s_val (some 2) (.string (strB (tl s))) (fun w => by kernel_rfl) kr ?_
    refine s_nil ?_
    refine g_ret kr ?_
    show ∃ vs, Res _ _ _ _ vs ∧ _
    refine ⟨[.string (strB (tl s))], (.tmp (.string (strB (tl s))) kr .nil), ?_, H3.below⟩
    rfl
set_option maxRecDepth 100000 in
set_option maxHeartbeats 2000000 in
theorem cloneS_fn (s : ByteArray) (hs : ByteArray.size s ≤ 100000) : Fn Tryd.prog 47 #[.string s] (.string s) := by
  refine Fn.intro (c := codeOf Tryd.f47) [.tmp 2] 5 Tryd.func47 kr kr kr fun w => ?_
  have H0 := St.start w
  refine g_sreg [0] kr kr ?_
  refine s_val (some 2) (.string (⟨#[]⟩)) (fun w => by kernel_rfl) kr ?_
  refine s_nil ?_
  refine g_sreg [0, 1, 2] kr kr ?_
  refine s_val (some 3) (.string s) (fun w => by kernel_rfl) kr ?_
  refine s_call H0 (some 4) 54 #[.string s] (.string s) (slCloneS_fn s (by omega)) (fun w => by kernel_rfl) kr ?_
  intro w1 H1; clear H0
  refine s_val (some 2) (.string s) (fun w => by kernel_rfl) kr ?_
  refine s_nil ?_
  refine g_ret kr ?_
  show ∃ vs, Res _ _ _ _ vs ∧ _
  refine ⟨[.string s], (.tmp (.string s) kr .nil), ?_, H1.below⟩
  rfl
set_option maxRecDepth 100000 in
set_option maxHeartbeats 2000000 in
theorem textOf_fn (s : ByteArray) (hs : ByteArray.size s ≤ 100000) : Fn Tryd.prog 41 #[.string s] (.agg #[.bool false, .string s, .slice none 0 0]) := by
  refine Fn.intro (c := codeOf Tryd.f41) [.cell 2 43] 6 Tryd.func41 kr kr kr fun w => ?_
  have H0 := St.start w
  refine rS [.a] H0 kr fun gs1 w1 H1 => ?_
  clear H0
  refine g_sreg [0, 1, 2, 3] kr kr ?_
  refine rp [.v, .c (cloneS_fn s hs), .v, .s 0] H1 kr fun gs2 w2 H2 => ?_
  show WPs _ _ _ _ [] _ _
  refine s_nil ?_
  refine g_ret kr ?_
  show ∃ vs, Res _ _ _ _ vs ∧ _
  refine ⟨[.agg #[.bool false, .string s, .slice none 0 0]], (.agg (b := (gs1 0).b) (#[.bool false, .string s, .slice none 0 0]) 43 (0, 0) kr (H2.get 0 kr) kr .nil), ?_, H2.below⟩
  rfl
end Go.Proofs.YtkkbkpneodecnaaDoor

namespace Go.Proofs.YtkkbkpneodecnaaDoor
open Go Go.RowKit
set_option linter.unusedVariables false
theorem ofNat_inj {a b : Nat} (ha : a < 256) (hb : b < 256) (h : UInt8.ofNat a = UInt8.ofNat b) : a = b := by
  have := congrArg UInt8.toNat h
  rwa [UInt8.toNat_ofNat_of_lt' (by simpa using ha), UInt8.toNat_ofNat_of_lt' (by simpa using hb)] at this
theorem frm_cases (l : Bool) : (l = true ∧ frm l = 192) ∨ (l = false ∧ frm l = 128) := by cases l <;> simp [frm]
theorem dg_pos {n : Nat} (h : n ≠ 0) : 1 ≤ (dg n).length := by unfold dg dgI; rw [if_neg h]; simp
theorem hd_inj {l l' : Bool} {n n' : Nat} {X Y : List UInt8} (hn : n < 18446744073709551616) (hn' : n' < 18446744073709551616) (h : hd (frm l) n ++ X = hd (frm l') n' ++ Y) : l = l' ∧ n = n' ∧ X = Y := by
  have a1 := dg_len n; have a2 := dg_len n'
  unfold hd at h
  by_cases h1 : n ≤ 55 <;> by_cases h2 : n' ≤ 55
  · rw [if_pos h1, if_pos h2] at h
    obtain ⟨e1, e2⟩ := List.cons.inj h
    rcases frm_cases l with ⟨hl, f1⟩ | ⟨hl, f1⟩ <;> rcases frm_cases l' with ⟨hl', f2⟩ | ⟨hl', f2⟩ <;> rw [f1, f2] at e1 <;> have e3 := ofNat_inj (by omega) (by omega) e1
    · exact ⟨by rw [hl, hl'], by omega, e2⟩
    · omega
    · omega
    · exact ⟨by rw [hl, hl'], by omega, e2⟩
  · rw [if_pos h1, if_neg h2] at h
    have a3 := dg_pos (show n' ≠ 0 by omega)
    obtain ⟨e1, e2⟩ := List.cons.inj h
    rcases frm_cases l with ⟨hl, f1⟩ | ⟨hl, f1⟩ <;> rcases frm_cases l' with ⟨hl', f2⟩ | ⟨hl', f2⟩ <;> rw [f1, f2] at e1 <;> have e3 := ofNat_inj (by omega) (by omega) e1 <;> omega
  · rw [if_neg h1, if_pos h2] at h
    have a3 := dg_pos (show n ≠ 0 by omega)
    obtain ⟨e1, e2⟩ := List.cons.inj h
    rcases frm_cases l with ⟨hl, f1⟩ | ⟨hl, f1⟩ <;> rcases frm_cases l' with ⟨hl', f2⟩ | ⟨hl', f2⟩ <;> rw [f1, f2] at e1 <;> have e3 := ofNat_inj (by omega) (by omega) e1 <;> omega
  · rw [if_neg h1, if_neg h2] at h
    have a3 := dg_pos (show n ≠ 0 by omega); have a4 := dg_pos (show n' ≠ 0 by omega)
    obtain ⟨e1, e2⟩ := List.cons.inj h
    have key : (dg n).length = (dg n').length → n = n' ∧ X = Y := fun hl => by
      obtain ⟨q1, q2⟩ := List.append_inj e2 hl
      exact ⟨by rw [← val_dg hn, q1, val_dg hn'], q2⟩
    rcases frm_cases l with ⟨hl, f1⟩ | ⟨hl, f1⟩ <;> rcases frm_cases l' with ⟨hl', f2⟩ | ⟨hl', f2⟩ <;> rw [f1, f2] at e1 <;> have e3 := ofNat_inj (by omega) (by omega) e1
    · exact ⟨by rw [hl, hl'], key (by omega)⟩
    · omega
    · omega
    · exact ⟨by rw [hl, hl'], key (by omega)⟩
theorem hd_first (l : Bool) (n : Nat) : ∃ b t, hd (frm l) n = b :: t ∧ 128 ≤ b.toNat := by
  have a1 := dg_len n
  unfold hd
  by_cases h1 : n ≤ 55
  · rw [if_pos h1]
    refine ⟨_, _, rfl, ?_⟩
    rw [UInt8.toNat_ofNat']
    rcases frm_cases l with ⟨_, f1⟩ | ⟨_, f1⟩ <;> rw [f1] <;> omega
  · rw [if_neg h1]
    refine ⟨_, _, rfl, ?_⟩
    rw [UInt8.toNat_ofNat']
    rcases frm_cases l with ⟨_, f1⟩ | ⟨_, f1⟩ <;> rw [f1] <;> omega
theorem single_tl {s : ByteArray} (h : single s = true) : ∃ b : UInt8, tl s = [b] ∧ b.toNat < 128 := by
  have hz := single_size h
  obtain ⟨l, e⟩ := by0_eq (t := s) (by omega)
  have hl : l = [] := by
    have := tl_len s; rw [e] at this; simp at this
    exact List.eq_nil_of_length_eq_zero (by omega)
  refine ⟨_, by rw [e, hl], ?_⟩
  unfold single at h
  simp only [Bool.and_eq_true, decide_eq_true_eq] at h
  rw [UInt8.toNat_ofNat']
  have := h.2; omega
theorem mixed_parts {l : Bool} {s : ByteArray} {k : Fo} (h : mixed l s k.len = false) : (l = true ∧ s = ⟨#[]⟩) ∨ (l = false ∧ k = .nil) := by
  unfold mixed at h
  cases l with
  | true =>
    left
    simp at h
    exact ⟨rfl, h⟩
  | false =>
    right
    simp at h
    exact ⟨rfl, len_zero h⟩
theorem wr1_inj {l l' : Bool} {s s' : ByteArray} {k k' : Fo} {A B : List UInt8} (hm : mixed l s k.len = false) (hm' : mixed l' s' k'.len = false) (hk : szF k = (wrF k).length) (hk' : szF k' = (wrF k').length)
    (hb : s.size + szF k < 18446744073709551616) (hb' : s'.size + szF k' < 18446744073709551616) (ih : wrF k = wrF k' → k = k') (h : wr1 l s (szF k) (wrF k) ++ A = wr1 l' s' (szF k') (wrF k') ++ B) : l = l' ∧ s = s' ∧ k = k' ∧ A = B := by
  unfold wr1 at h
  cases hs : single s with
  | true =>
    obtain ⟨b, e, hb1⟩ := single_tl hs
    have hl := mixed_single hm hs
    have hkn := len_zero hl
    have hl0 : l = false := by
      rcases mixed_parts hm with ⟨_, q⟩ | ⟨q, _⟩
      · rw [q] at hs; exact absurd hs (by decide)
      · exact q
    rw [if_pos hs, hkn, e] at h
    cases hs' : single s' with
    | true =>
      obtain ⟨b', e', _⟩ := single_tl hs'
      have hkn' := len_zero (mixed_single hm' hs')
      have hl0' : l' = false := by
        rcases mixed_parts hm' with ⟨_, q⟩ | ⟨q, _⟩
        · rw [q] at hs'; exact absurd hs' (by decide)
        · exact q
      rw [if_pos hs', hkn', e'] at h
      simp only [wrF, List.nil_append, List.append_nil, List.cons_append, List.cons.injEq] at h
      exact ⟨by rw [hl0, hl0'], tl_inj (by rw [e, e', h.1]), by rw [hkn, hkn'], h.2⟩
    | false =>
      obtain ⟨c, t, e2, hc⟩ := hd_first l' (s'.size + szF k')
      rw [if_neg (by rw [hs']; decide), e2] at h
      simp only [wrF, List.nil_append, List.append_nil, List.cons_append, List.cons.injEq] at h
      rw [h.1] at hb1; omega
  | false =>
    rw [if_neg (by rw [hs]; decide)] at h
    cases hs' : single s' with
    | true =>
      obtain ⟨b', e', hb1⟩ := single_tl hs'
      have hkn' := len_zero (mixed_single hm' hs')
      obtain ⟨c, t, e2, hc⟩ := hd_first l (s.size + szF k)
      rw [if_pos hs', hkn', e', e2] at h
      simp only [wrF, List.nil_append, List.append_nil, List.cons_append, List.cons.injEq] at h
      rw [← h.1] at hb1; omega
    | false =>
      rw [if_neg (by rw [hs']; decide)] at h
      simp only [List.append_assoc] at h
      obtain ⟨hl, hn, hx⟩ := hd_inj hb hb' h
      rw [← List.append_assoc, ← List.append_assoc] at hx
      have hlen : (tl s ++ wrF k).length = (tl s' ++ wrF k').length := by rw [List.length_append, List.length_append, tl_len, tl_len, ← hk, ← hk', hn]
      obtain ⟨q1, q2⟩ := List.append_inj hx hlen
      subst hl
      rcases mixed_parts hm with ⟨hl, e1⟩ | ⟨hl, e1⟩ <;> rcases mixed_parts hm' with ⟨hl', e2⟩ | ⟨hl', e2⟩
      · rw [e1, e2] at q1
        exact ⟨rfl, by rw [e1, e2], ih (List.append_cancel_left q1), q2⟩
      · rw [hl] at hl'; cases hl'
      · rw [hl] at hl'; cases hl'
      · rw [e1, e2] at q1
        simp only [wrF, List.append_nil] at q1
        exact ⟨rfl, tl_inj q1, by rw [e1, e2], q2⟩
theorem wrF_inj : ∀ (k k' : Fo), pureF k = true → pureF k' = true → (wrF k).length < 18446744073709551616 → wrF k = wrF k' → k = k'
  | .nil, .nil, _, _, _, _ => rfl
  | .nil, .cons l s k r, _, hp, _, h => by
    simp only [pureF, Bool.and_eq_true, Bool.not_eq_true'] at hp
    have := congrArg List.length h
    simp only [wrF, List.length_nil, List.length_append] at this
    have h2 := (wr1_len hp.1.1 hp.1.2 rfl).1; omega
  | .cons l s k r, .nil, hp, _, _, h => by
    simp only [pureF, Bool.and_eq_true, Bool.not_eq_true'] at hp
    have := congrArg List.length h
    simp only [wrF, List.length_nil, List.length_append] at this
    have h2 := (wr1_len hp.1.1 hp.1.2 rfl).1; omega
  | .cons l s k r, .cons l' s' k' r', hp, hp', hb, h => by
    have hlen := congrArg List.length h
    simp only [pureF, Bool.and_eq_true, Bool.not_eq_true'] at hp hp'
    simp only [wrF, List.length_append] at hb h hlen
    have z1 := wr1_sz hp.1.1 (pure_len hp.1.2); have z2 := wr1_sz hp'.1.1 (pure_len hp'.1.2)
    have bd : ∀ {l : Bool} {s : ByteArray} {k : Fo}, s.size + szF k ≤ sz1 l s (szF k) ∨ single s = true := fun {l s k} => by
      unfold sz1; cases single s with
      | true => exact .inr rfl
      | false => left; simp
    have b1 : s.size + szF k < 18446744073709551616 := by
      rcases bd (l := l) (s := s) (k := k) with q | q
      · omega
      · have := len_zero (mixed_single hp.1.1 q); subst this; have := single_size q; simp only [szF]; omega
    have b2 : s'.size + szF k' < 18446744073709551616 := by
      rcases bd (l := l') (s := s') (k := k') with q | q
      · omega
      · have := len_zero (mixed_single hp'.1.1 q); subst this; have := single_size q; simp only [szF]; omega
    have hk := pure_len hp.1.2
    obtain ⟨e1, e2, e3, e4⟩ := wr1_inj hp.1.1 hp'.1.1 hk.symm (pure_len hp'.1.2).symm b1 b2 (fun q => wrF_inj k k' hp.1.2 hp'.1.2 (by omega) q) h
    rw [e1, e2, e3, wrF_inj r r' hp.2 hp'.2 (by omega) e4]
/-- What is so where Encode answers no error. -/
theorem encS_ok {l : Bool} {s : ByteArray} {k : Fo} (h : (encS l s k.len k).2 = 0) : (encS l s k.len k).1 = strB (wr1 l s (szF k) (wrF k)) ∧ mixed l s k.len = false ∧ pureF k = true ∧ k.cnt < 4000 ∧ dp1 l (dpF k) ≤ 8 ∧ sz1 l s (szF k) ≤ 4000 ∧ (wr1 l s (szF k) (wrF k)).length = sz1 l s (szF k) := by
  unfold encS at h ⊢
  cases hv : lf1 l s k.len (lfF k) 4000 with
  | none => rw [hv] at h; simp at h
  | some y =>
    rw [hv] at h
    obtain ⟨h1, h2, h3⟩ := lf1_some hv
    simp only [] at h ⊢
    by_cases hd : 8 < dp1 l (dpF k)
    · rw [if_pos hd] at h; simp at h
    · rw [if_neg hd] at h ⊢
      by_cases hz : 4000 < sz1 l s (szF k)
      · rw [if_pos hz] at h; simp at h
      · rw [if_neg hz]
        exact ⟨rfl, h1, h2, h3, by omega, by omega, wr1_sz h1 (pure_len h2)⟩
theorem sz1_pay {l : Bool} {s : ByteArray} {k : Fo} (hm : mixed l s k.len = false) (hz : sz1 l s (szF k) ≤ 4000) : s.size + szF k ≤ 4000 := by
  unfold sz1 at hz
  split at hz
  · rename_i q
    have := len_zero (mixed_single hm q); subst this; have := single_size q; simp only [szF]; omega
  · omega
end Go.Proofs.YtkkbkpneodecnaaDoor

namespace Go.Proofs.YtkkbkpneodecnaaDoor
open Go Go.RowKit
set_option linter.unusedVariables false
def cntS (f : Nat) (t : ByteArray) : Option (Nat × ByteArray) :=
  if f ≤ 55 then some (f, t) else if t.size < f - 55 then none else if (numV (t.extract 0 (f - 55))).1 ≤ 55 then none else some ((numV (t.extract 0 (f - 55))).1, t.extract (f - 55) t.size)
theorem tl_split (t : ByteArray) (m : Nat) (h : m ≤ t.size) : tl t = tl (t.extract 0 m) ++ tl (t.extract m t.size) := by
  rw [tl_extract, tl_extract, List.drop_zero, List.take_of_length_le (l := tl t) (i := t.size) (by rw [tl_len]; exact Nat.le_refl _), List.take_append_drop]
theorem ext_size (t : ByteArray) (a b : Nat) (h : b ≤ t.size) (hab : a ≤ b) : (t.extract a b).size = b - a := by
  rw [← tl_len, tl_extract, List.length_drop, List.length_take, tl_len, Nat.min_eq_left h]
theorem cut_eq {t : ByteArray} {A Y : List UInt8} {m : Nat} (h : tl t = A ++ Y) (hm : m = A.length) : tl (t.extract 0 m) = A ∧ tl (t.extract m t.size) = Y ∧ m ≤ t.size := by
  have hl : t.size = A.length + Y.length := by rw [← tl_len, h, List.length_append]
  subst hm
  refine ⟨?_, ?_, by omega⟩
  · rw [tl_extract, List.drop_zero, h, List.take_left]
  · rw [tl_extract, List.take_of_length_le (by rw [tl_len]; exact Nat.le_refl _), h, List.drop_left]
theorem cnt_sound {f n : Nat} {t u : ByteArray} (h : cntS f t = some (n, u)) (hf : f < 64) (base : Nat) : UInt8.ofNat (base + f) :: tl t = hd base n ++ tl u ∧ n < 18446744073709551616 ∧ u.size ≤ t.size := by
  unfold cntS at h
  split at h
  · rename_i h1
    injection h with h; injection h with e1 e2; subst e1; subst e2
    unfold hd; rw [if_pos h1]
    exact ⟨rfl, by omega, Nat.le_refl _⟩
  · rename_i h1
    split at h
    · cases h
    · rename_i h2
      split at h
      · cases h
      · rename_i h3
        injection h with h; injection h with e1 e2
        have hz : (t.extract 0 (f - 55)).size = f - 55 := by rw [ext_size t 0 _ (by omega) (by omega)]; omega
        have hs := tl_split t (f - 55) (by omega)
        have hu : u.size ≤ t.size := by rw [← e2, ext_size t _ _ (Nat.le_refl _) (by omega)]; omega
        generalize t.extract 0 (f - 55) = s at *
        rw [← e2]
        have hp : prefB s = false := by
          cases hp : prefB s with
          | false => rfl
          | true => exfalso; apply h3; unfold numV; rw [if_pos (Or.inr hp)]; exact Nat.zero_le _
        have hv : (numV s).1 = val (tl s) := by unfold numV; rw [if_neg (by rw [hp]; simp; omega)]
        have hd1 : dg n = tl s := by rw [← e1, hv, ← tl_strB (dg (val (tl s))), (dg_same (by omega)).2 hp]
        have hlen : (dg n).length = f - 55 := by rw [hd1, tl_len, hz]
        refine ⟨?_, by rw [← e1, hv]; exact val_lt8 (by rw [tl_len]; omega), by rw [e2]; exact hu⟩
        unfold hd
        rw [if_neg (by omega), hlen, show base + 55 + (f - 55) = base + f by omega, hs, hd1]; rfl
theorem cnt_complete {f n : Nat} {t : ByteArray} {Y : List UInt8} (l : Bool) (hf : f < 64) (hn : n < 18446744073709551616) (h : UInt8.ofNat (frm l + f) :: tl t = hd (frm l) n ++ Y) : ∃ u, cntS f t = some (n, u) ∧ tl u = Y := by
  have hb : frm l = 192 ∨ frm l = 128 := by rcases frm_cases l with ⟨_, e⟩ | ⟨_, e⟩ <;> omega
  have hdl := dg_len n
  unfold hd at h
  by_cases h1 : n ≤ 55
  · rw [if_pos h1] at h
    obtain ⟨e1, e2⟩ := List.cons.inj h
    have e3 := ofNat_inj (by omega) (by omega) e1
    have e4 : f = n := by omega
    subst e4
    exact ⟨t, by unfold cntS; rw [if_pos h1], e2⟩
  · rw [if_neg h1] at h
    obtain ⟨e1, e2⟩ := List.cons.inj h
    have e3 := ofNat_inj (by omega) (by omega) e1
    have hp := dg_pos (show n ≠ 0 by omega)
    have hfe : f - 55 = (dg n).length := by omega
    obtain ⟨c1, c2, c3⟩ := cut_eq e2 hfe
    have hs : t.extract 0 (f - 55) = strB (dg n) := tl_inj (by rw [c1, tl_strB])
    refine ⟨t.extract (f - 55) t.size, ?_, c2⟩
    unfold cntS
    rw [if_neg (by omega), if_neg (by omega), hs, numV_dg hn, if_neg h1]
/-- No item stands there. -/
def itBad (t : ByteArray) : Prop := ∀ (l : Bool) (s : ByteArray) (k : Fo) (X : List UInt8), mixed l s k.len = false → pureF k = true → tl t ≠ wr1 l s (szF k) (wrF k) ++ X
def liBad (t : ByteArray) : Prop := ∀ k : Fo, pureF k = true → tl t ≠ wrF k
/-- Just this item stands there. -/
def itIs (t : ByteArray) (l : Bool) (s : ByteArray) (k : Fo) (u : ByteArray) : Prop := mixed l s k.len = false ∧ pureF k = true ∧ tl t = wr1 l s (szF k) (wrF k) ++ tl u
theorem by0_hd {t : ByteArray} (h : t.size ≠ 0) : tl t = UInt8.ofNat (by_ t 0) :: tl (t.extract 1 t.size) := by
  obtain ⟨l, e⟩ := by0_eq h
  rw [tl_cut1, e]; rfl
theorem first_single {t : ByteArray} (h : t.size ≠ 0) : single (t.extract 0 1) = decide (by_ t 0 < 128) := by
  have hz : (t.extract 0 1).size = 1 := by rw [ext_size t 0 1 (by omega) (by omega)]
  have hb : by_ (t.extract 0 1) 0 = by_ t 0 := by
    obtain ⟨l, e⟩ := by0_eq h
    unfold by_
    rw [tl_extract, e]; rfl
  unfold single; rw [hz, hb]; simp
/-- What an item that stands there tells of its head. -/
theorem it_inv {t : ByteArray} {l : Bool} {s : ByteArray} {k : Fo} {X : List UInt8} (ht : t.size ≤ 100000) (hm : mixed l s k.len = false) (hp : pureF k = true) (h : tl t = wr1 l s (szF k) (wrF k) ++ X) :
    t.size ≠ 0 ∧ ((by_ t 0 < 128 ∧ single s = true) ∨ (single s = false ∧ 128 ≤ by_ t 0 ∧ (l = true ↔ 192 ≤ by_ t 0) ∧ ∃ u, cntS (by_ t 0 - frm l) (t.extract 1 t.size) = some (s.size + szF k, u) ∧ tl u = (tl s ++ wrF k) ++ X)) := by
  have h1 := (wr1_len hm hp rfl).1
  have hl : t.size = (wr1 l s (szF k) (wrF k)).length + X.length := by rw [← tl_len, h, List.length_append]
  have h0 : t.size ≠ 0 := by omega
  refine ⟨h0, ?_⟩
  have hb := by0_hd h0
  have hlt := by_lt t 0
  have hpl := pure_len hp
  unfold wr1 at h hl
  cases hs : single s with
  | true =>
    left
    obtain ⟨b, e, hb1⟩ := single_tl hs
    rw [if_pos hs, hb, e] at h
    simp only [List.nil_append, List.cons_append] at h
    obtain ⟨e1, _⟩ := List.cons.inj h
    have := congrArg UInt8.toNat e1
    rw [UInt8.toNat_ofNat_of_lt' (by simpa using hlt)] at this
    exact ⟨by omega, rfl⟩
  | false =>
    right
    rw [if_neg (by rw [hs]; decide)] at h hl
    rw [List.length_append, List.length_append, tl_len] at hl
    obtain ⟨b, r, e, hb1⟩ := hd_first l (s.size + szF k)
    have h9 := h
    rw [hb, e] at h9
    simp only [List.cons_append] at h9
    obtain ⟨e1, _⟩ := List.cons.inj h9
    have h128 : 128 ≤ by_ t 0 := by
      have := congrArg UInt8.toNat e1
      rw [UInt8.toNat_ofNat_of_lt' (by simpa using hlt)] at this
      omega
    have hrange : frm l ≤ by_ t 0 ∧ by_ t 0 < frm l + 64 := by
      have hdl := dg_len (s.size + szF k)
      have hfb : frm l = 192 ∨ frm l = 128 := by rcases frm_cases l with ⟨_, e⟩ | ⟨_, e⟩ <;> omega
      unfold hd at e
      split at e
      · obtain ⟨q, _⟩ := List.cons.inj e
        rw [← q] at e1
        have := ofNat_inj hlt (by omega) e1
        omega
      · obtain ⟨q, _⟩ := List.cons.inj e
        rw [← q] at e1
        have := ofNat_inj hlt (by omega) e1
        omega
    refine ⟨rfl, h128, ?_, ?_⟩
    · rcases frm_cases l with ⟨q, e2⟩ | ⟨q, e2⟩
      · rw [q]; simp; omega
      · rw [q]; simp; omega
    · refine cnt_complete l (by omega) (by omega) ?_
      rw [show frm l + (by_ t 0 - frm l) = by_ t 0 by omega, ← hb, h, List.append_assoc]
theorem bad_empty {t : ByteArray} (h : t.size < 1) : itBad t := fun l s k X hm hp he => by
  have h1 := (wr1_len hm hp rfl).1
  have hl := congrArg List.length he
  rw [tl_len, List.length_append] at hl; omega
theorem is_single {t : ByteArray} (h0 : t.size ≠ 0) (hb : by_ t 0 < 128) : itIs t false (t.extract 0 1) .nil (t.extract 1 t.size) := by
  have hs : single (t.extract 0 1) = true := by rw [first_single h0]; exact decide_eq_true hb
  refine ⟨by simp [mixed, Fo.len], rfl, ?_⟩
  unfold wr1; rw [if_pos hs]
  simp only [wrF, List.append_nil, List.nil_append]
  exact tl_split t 1 (by omega)
theorem head_tl {t u : ByteArray} {b n : Nat} (l : Bool) (h0 : t.size ≠ 0) (hb : by_ t 0 = b) (hl : frm l ≤ b) (hf : b - frm l < 64) (hc : cntS (b - frm l) (t.extract 1 t.size) = some (n, u)) : tl t = hd (frm l) n ++ tl u := by
  have := (cnt_sound hc hf (frm l)).1
  rw [show frm l + (b - frm l) = b by omega] at this
  rw [by0_hd h0, hb]; exact this
theorem is_text {t u : ByteArray} {n : Nat} (h0 : t.size ≠ 0) (h1 : 128 ≤ by_ t 0) (h2 : by_ t 0 < 192) (hc : cntS (by_ t 0 - 128) (t.extract 1 t.size) = some (n, u)) (hn : n ≤ u.size) (hs : single (u.extract 0 n) = false) : itIs t false (u.extract 0 n) .nil (u.extract n u.size) := by
  have hz : (u.extract 0 n).size = n := by rw [ext_size u 0 n hn (by omega)]; omega
  refine ⟨by simp [mixed, Fo.len], rfl, ?_⟩
  unfold wr1; rw [if_neg (by rw [hs]; decide), hz]
  have := head_tl (b := by_ t 0) false h0 rfl h1 (show _ - 128 < 64 by omega) hc
  rw [this, tl_split u n hn]; simp only [szF, wrF, Nat.add_zero, List.append_nil, List.append_assoc]
theorem is_list {t u : ByteArray} {n : Nat} {k : Fo} (h0 : t.size ≠ 0) (h2 : 192 ≤ by_ t 0) (hc : cntS (by_ t 0 - 192) (t.extract 1 t.size) = some (n, u)) (hn : n ≤ u.size) (hp : pureF k = true) (hk : tl (u.extract 0 n) = wrF k) : itIs t true ⟨#[]⟩ k (u.extract n u.size) := by
  have hlt := by_lt t 0
  have hz : (u.extract 0 n).size = n := by rw [ext_size u 0 n hn (by omega)]; omega
  have hpl := pure_len hp
  have hn2 : n = szF k := by rw [← hz, ← tl_len, hk, hpl]
  refine ⟨rfl, hp, ?_⟩
  have hs : single ⟨#[]⟩ = false := by decide
  unfold wr1; rw [if_neg (by rw [hs]; decide)]
  have := head_tl (b := by_ t 0) true h0 rfl h2 (show _ - 192 < 64 by omega) hc
  have h9 : (ByteArray.size ⟨#[]⟩) + szF k = n := by rw [hn2]; exact Nat.zero_add _
  rw [h9, this, tl_split u n hn, hk]
  show _ = hd (frm true) n ++ ([] ++ wrF k) ++ _
  simp only [List.nil_append, List.append_assoc]
/-- Where no count stands, or too few bytes behind it, there is no item. -/
theorem bad_head {t : ByteArray} (l : Bool) (ht : t.size ≤ 100000) (h0 : t.size ≠ 0) (h1 : 128 ≤ by_ t 0) (hl : l = true ↔ 192 ≤ by_ t 0)
    (hb : ∀ n u, cntS (by_ t 0 - frm l) (t.extract 1 t.size) = some (n, u) → ∀ (s : ByteArray) (k : Fo) (X : List UInt8), mixed l s k.len = false → pureF k = true → single s = false → n = s.size + szF k → n = (tl s ++ wrF k).length → tl u = (tl s ++ wrF k) ++ X → False) : itBad t := fun l' s k X hm hp he => by
  obtain ⟨_, h | ⟨hs, _, hl', u, hc, hu⟩⟩ := it_inv ht hm hp he
  · omega
  · have e : l' = l := by
      have h8 : (l' = true) = (l = true) := propext (hl'.trans hl.symm)
      cases l <;> cases l' <;> first | rfl | (simp only [Bool.false_eq_true, eq_iff_iff, false_iff, iff_false, true_iff, iff_true, not_true_eq_false] at h8)
    subst e
    exact hb _ _ hc s k X hm hp hs rfl (by rw [List.length_append, tl_len, pure_len hp]) hu
theorem bad_count {t : ByteArray} (l : Bool) (ht : t.size ≤ 100000) (h0 : t.size ≠ 0) (h1 : 128 ≤ by_ t 0) (hl : l = true ↔ 192 ≤ by_ t 0) (hc : cntS (by_ t 0 - frm l) (t.extract 1 t.size) = none) : itBad t :=
  bad_head l ht h0 h1 hl fun n u h => by rw [hc] at h; cases h
theorem bad_take {t u : ByteArray} {n : Nat} (l : Bool) (ht : t.size ≤ 100000) (h0 : t.size ≠ 0) (h1 : 128 ≤ by_ t 0) (hl : l = true ↔ 192 ≤ by_ t 0) (hc : cntS (by_ t 0 - frm l) (t.extract 1 t.size) = some (n, u)) (hn : u.size < n) : itBad t :=
  bad_head l ht h0 h1 hl fun n' u' h s k X _ _ _ _ hlen hu => by
    rw [hc] at h; injection h with h; injection h with e1 e2; subst e1; subst e2
    have := congrArg List.length hu
    rw [List.length_append, ← hlen, tl_len] at this; omega
theorem bad_one {t u : ByteArray} {n : Nat} (ht : t.size ≤ 100000) (h0 : t.size ≠ 0) (h1 : 128 ≤ by_ t 0) (h2 : by_ t 0 < 192) (hc : cntS (by_ t 0 - 128) (t.extract 1 t.size) = some (n, u)) (hs : single (u.extract 0 n) = true) : itBad t :=
  bad_head false ht h0 h1 (by simp; omega) fun n' u' h s k X hm hp hs' _ hlen hu => by
    rw [show by_ t 0 - frm false = by_ t 0 - 128 from rfl, hc] at h; injection h with h; injection h with e1 e2; subst e1; subst e2
    rcases mixed_parts hm with ⟨q, _⟩ | ⟨_, q⟩
    · cases q
    · subst q
      have h9 := (cut_eq hu hlen).1
      simp only [wrF, List.append_nil] at h9
      rw [tl_inj h9] at hs; rw [hs] at hs'; cases hs'
theorem bad_list {t u : ByteArray} {n : Nat} (ht : t.size ≤ 100000) (h0 : t.size ≠ 0) (h2 : 192 ≤ by_ t 0) (hc : cntS (by_ t 0 - 192) (t.extract 1 t.size) = some (n, u)) (hs : liBad (u.extract 0 n)) : itBad t :=
  bad_head true ht h0 (by omega) (by simp; omega) fun n' u' h s k X hm hp hs' _ hlen hu => by
    rw [show by_ t 0 - frm true = by_ t 0 - 192 from rfl, hc] at h; injection h with h; injection h with e1 e2; subst e1; subst e2
    rcases mixed_parts hm with ⟨_, q⟩ | ⟨q, _⟩
    · subst q
      exact hs k hp (cut_eq hu hlen).1
    · cases q
/-- One item behind another: what is left of a list. -/
theorem li_next {t u : ByteArray} {l : Bool} {s : ByteArray} {k k' : Fo} (ht : t.size ≤ 100000) (h : itIs t l s k u) (hp : pureF k' = true) (he : tl t = wrF k') : ∃ r, pureF r = true ∧ tl u = wrF r := by
  obtain ⟨hm, hpk, hi⟩ := h
  have hlen := congrArg List.length hi
  rw [tl_len, List.length_append, wr1_sz hm (pure_len hpk)] at hlen
  have hsz : sz1 l s (szF k) ≤ 100000 := by omega
  cases k' with
  | nil =>
    exfalso
    have h1 := (wr1_len hm hpk rfl).1
    rw [hi] at he; have := congrArg List.length he
    simp only [wrF, List.length_append, List.length_nil] at this; omega
  | cons l' s' kk r =>
    simp only [pureF, Bool.and_eq_true, Bool.not_eq_true'] at hp
    have h9 := he
    have hlen2 := congrArg List.length he
    simp only [wrF] at hlen2
    rw [tl_len, List.length_append, wr1_sz hp.1.1 (pure_len hp.1.2)] at hlen2
    have hsz2 : sz1 l' s' (szF kk) ≤ 100000 := by omega
    have hpay : ∀ (l : Bool) (s : ByteArray) (k : Fo), sz1 l s (szF k) ≤ 100000 → mixed l s k.len = false → s.size + szF k ≤ 100000 := fun l s k h hm => by
      unfold sz1 at h
      split at h
      · rename_i q
        have h1 := single_size q
        have h2 := len_zero (mixed_single hm q)
        rw [h2]; simp only [szF]; omega
      · omega
    have hx := hpay l s k hsz hm
    have hy := hpay l' s' kk hsz2 hp.1.1
    rw [hi] at h9
    simp only [wrF] at h9
    obtain ⟨_, _, _, hX⟩ := wr1_inj hm hp.1.1 (pure_len hpk).symm (pure_len hp.1.2).symm (by omega) (by omega) (fun q => wrF_inj k kk hpk hp.1.2 (by rw [pure_len hpk]; omega) q) h9
    exact ⟨r, hp.2, hX⟩
end Go.Proofs.YtkkbkpneodecnaaDoor

namespace Go.Proofs.YtkkbkpneodecnaaDoor
open Go Go.RowKit
set_option linter.unusedVariables false
/-- L's cells lie at a slice. -/
def CellsAt (w : World) (p : Option Addr) (L : List X3) : Prop := L = [] ∨ ∃ b off, p = some ⟨b, off, none⟩ ∧ ∀ (j : Nat) (u : Value), (cells3 L)[j]? = some u → w.cell? ⟨b, off + j, none⟩ = some u
theorem CellsAt.up {w w' : World} {p : Option Addr} {L : List X3} (h : CellsAt w p L) (hb : Below w.heap.size w w') : CellsAt w' p L := by
  rcases h with h | ⟨b, off, e, h⟩
  · exact .inl h
  · refine .inr ⟨b, off, e, fun j u hj => ?_⟩
    have h1 := h j u hj
    have hlt : b < w.heap.size := by
      rcases Nat.lt_or_ge b w.heap.size with q | q
      · exact q
      · simp [World.cell?, Array.getElem?_eq_none q] at h1
    rw [← h1]
    unfold World.cell?
    rw [hb.block b hlt]
theorem Rw.cellsAt {cur : Array Value} {cap n : Nat} {L : List X3} (h : Rw 3 cur cap n (cells3 L)) {w : World} {b : Nat} {T : TypeId} {fz : Nat × Nat} (hh : w.heap[b]? = some (.cells cur T fz)) : n = L.length ∧ CellsAt w (some ⟨b, 0, none⟩) L := by
  have hl := h.len
  rw [cells3_len] at hl
  refine ⟨by omega, .inr ⟨b, 0, rfl, fun j u hj => ?_⟩⟩
  have hlt : j < n * 3 := by have := (List.getElem?_eq_some_iff.1 hj).1; rw [cells3_len] at this; omega
  rw [Nat.zero_add]
  simp [World.cell?, hh, h.get j hlt, hj]
theorem SlAt.list {w : World} {p : Option Addr} {n : Nat} {k : Fo} (h : SlAt w.heap.size w p n k) : ∃ L : List X3, toFo L = k ∧ n = L.length ∧ AllAt w.heap.size w L ∧ ∀ w', Below w.heap.size w w' → CellsAt w' p L := by
  rcases h.2.2 with rfl | ⟨b, off, e, hf⟩
  · exact ⟨[], rfl, h.1, (fun _ h => nomatch h), fun _ _ => .inl rfl⟩
  · obtain ⟨L, e2, hA, hc⟩ := hf.list
    refine ⟨L, e2, by rw [h.1, ← e2, toFo_len], hA, fun w' hb => .inr ⟨b, off, e, fun j u hj => ?_⟩⟩
    have h1 := hc j u hj
    have hlt : b < w.heap.size := by
      rcases Nat.lt_or_ge b w.heap.size with q | q
      · exact q
      · simp [World.cell?, Array.getElem?_eq_none q] at h1
    rw [← h1]
    unfold World.cell?
    rw [hb.block b hlt]
/-- What a call gives that lays a row of these items, or none. -/
def RetR (T : TypeId) (mk : Value → Value) (n : Nat) (L : List X3) : Nat → Value → World → Prop := fun B v w' =>
  (n = 0 ∧ v = mk (.slice none 0 0)) ∨ ∃ b cap cur, v = mk (.slice (some ⟨b, 0, none⟩) n cap) ∧ B ≤ b ∧ w'.heap[b]? = some (.cells cur T (0, 0)) ∧ Rw 3 cur cap n (cells3 L)
section
variable {P : Program} {N : Nat} {ops : Array Oper} {i : Nat} {r : List Nat} {K : Env → World → Prop} {ρ : Env} {w : World} {B : Nat} {w0 : World} {l : List (Nat × Obj)}
theorem s_callL (HS : St B w0 w l) (d : Option Nat) (f : Nat) (args : Array Value) (pre : World → Prop) (T : TypeId) (mk : Value → Value) (n : Nat) (L : List X3) (hc : FnR P f args pre (RetR T mk n L)) (hp : pre w)
    (h : opv P ops i ρ w = some (d, true, .ok (.enter f args) w)) (hd : dOK d N = true)
    (k0 : ∀ w', n = 0 → St B w0 w' l → WPs P N ops K r (updO ρ d (mk (.slice none 0 0))) w')
    (kk : ∀ b cap cur w', St B w0 w' ((b, .cells cur T (0, 0)) :: l) → Rw 3 cur cap n (cells3 L) → WPs P N ops K r (updO ρ d (mk (.slice (some ⟨b, 0, none⟩) n cap))) w') : WPs P N ops K (i :: r) ρ w := by
  obtain ⟨o, ho, rfl, hw, hr⟩ := opv_some h
  refine WPo.run ho hw fun a ha => ?_
  rw [hr, Oper.upon_enter]
  refine (hc w hp).mono ?_
  rintro e w' ⟨v, rfl, hb, ⟨h0, rfl⟩ | ⟨b, cap, cur, rfl, hle, hh, hr⟩⟩
  · exact ⟨_, ha.put _ (dOK_lt hd) _, k0 w' h0 (HS.call hb)⟩
  · exact ⟨_, ha.put _ (dOK_lt hd) _, kk b cap cur w' (HS.add hb hle hh) hr⟩
/-- 'append(s, x...)', x anywhere in memory. -/
theorem s_appendA (HS : St B w0 w l) (d : Option Nat) (t e : TypeId) (bytes : Nat) (s x : Operand) (j b n m cap c : Nat) (p : Option Addr) (cur : Array Value) (xs : List Value) (L : List X3) (l' : Nat → Array Value → List (Nat × Obj))
    (h : opk ops i ρ = some (d, true, appendOp t s x)) (hd : dOK d N = true) (ht : sliceOf P t = some (e, 3, bytes))
    (hs : ev ρ s = .slice (some ⟨b, 0, none⟩) n cap) (hj : l[j]? = some (b, .cells cur e (0, 0))) (hr : Rw 3 cur cap n xs)
    (hx : ev ρ x = .slice p m c) (hm : m = L.length) (hp : p ≠ none) (hc : CellsAt w p L)
    (hb : (n + m) * bytes ≤ 140737488355328) (hmx : n + m ≤ maxLen)
    (hl' : ∀ b' cur', l.set j (b', .cells cur' e (0, 0)) = l' b' cur')
    (kk : ∀ b' cap' cur' w', St B w0 w' (l' b' cur') → Rw 3 cur' cap' (n + m) (xs ++ cells3 L) → WPs P N ops K r (updO ρ d (.slice (some ⟨b', 0, none⟩) (n + m) cap')) w') : WPs P N ops K (i :: r) ρ w := by
  obtain ⟨o, ho, rfl, hw, hop⟩ := opk_some h
  obtain ⟨it, z, hu, hi, hz, hsz, hby, hzs, h0⟩ := sliceOf_spec ht
  obtain ⟨a, rfl⟩ : ∃ a, p = some a := by cases p with
    | none => exact absurd rfl hp
    | some a => exact ⟨a, rfl⟩
  have hnews : ∀ q u, (cells3 L)[q]? = some u → w.cell? (a.add q) = some u := fun q u hq => by
    rcases hc with rfl | ⟨b', off, e', h9⟩
    · simp [cells3] at hq
    · obtain rfl : a = ⟨b', off, none⟩ := Option.some.inj e'
      rw [addr_add]; exact h9 q u hq
  obtain ⟨v', w', hrun, hown, hgr, hnil, hblk⟩ := run_append_own_at (P := P) w B t o.type e it z 3 bytes hu hi hz hsz hby hzs h0 _ n xs (hr.owns (HS.ge j hj) (HS.get j hj)) a m c (cells3 L) (by rw [cells3_len, hm]) hnews (cells3_one L) hmx hb HS.le
  have hown' := hown
  rcases hown'.2 with ⟨hv, _⟩ | ⟨g, cap', cur', rfl, hbg, hg, hnc, hcm, hcs, htk⟩
  · exact absurd (hnil.1 hv).1 (by simp)
  · have hgb : g = b ∨ g = w.heap.size := by
      rcases hblk with hq | hq
      · left; injection hq
      · right; injection hq
    have HS' := HS.grown j hj hgr hgb hg
    rw [hl'] at HS'
    refine WPo.run ho hw fun a' ha => ?_
    have hex : (execOp (ev ρ) o).run P w = .ok (.value (.slice (some ⟨g, 0, none⟩) (n + m) cap')) w' := by
      unfold execOp
      simp only [hop, appendOp, resolve, invoke, builtin, Sem.run_bind, Sem.run_pure, Result.andThen_ok, List.map_toArray, List.map_cons, List.map_nil, hs, hx, hrun]
    rw [hex, Oper.upon_value]
    exact ⟨_, ha.put _ (dOK_lt hd) _, kk g cap' cur' w' HS' ⟨hown.1, hnc, hcm, htk, hcs⟩⟩
end
end Go.Proofs.YtkkbkpneodecnaaDoor

namespace Go.Proofs.YtkkbkpneodecnaaDoor
open Go Go.RowKit
set_option linter.unusedVariables false
def Fo.take : Nat → Fo → Fo
  | 0, _ => .nil
  | _ + 1, .nil => .nil
  | m + 1, .cons l s k r => .cons l s k (Fo.take m r)
theorem take_len : ∀ (m : Nat) (k : Fo), (Fo.take m k).len = min k.len m
  | 0, k => by simp [Fo.take, Fo.len]
  | m + 1, .nil => by simp [Fo.take, Fo.len]
  | m + 1, .cons l s k r => by simp only [Fo.take, Fo.len, take_len m r]; omega
theorem FoAt.take {B : Nat} {w : World} : ∀ (m : Nat) {k : Fo} {b off : Nat}, FoAt B w k b off → FoAt B w (Fo.take m k) b off
  | 0, _, _, _, _ => trivial
  | m + 1, .nil, _, _, _ => trivial
  | m + 1, .cons l s k r, b, off, ⟨h1, h2⟩ => ⟨h1, FoAt.take m h2⟩
theorem SlAt.take {B : Nat} {w : World} {p : Option Addr} {n : Nat} {k : Fo} (h : SlAt B w p n k) (m : Nat) : SlAt B w p (min n m) (Fo.take m k) := by
  refine ⟨by rw [take_len, h.1], Nat.le_trans (Nat.min_le_left _ _) h.2.1, ?_⟩
  rcases h.2.2 with rfl | ⟨b, o, e, hf⟩
  · left; cases m <;> rfl
  · exact .inr ⟨b, o, e, hf.take m⟩
end Go.Proofs.YtkkbkpneodecnaaDoor

namespace Go.Proofs.YtkkbkpneodecnaaDoor
open Go Go.RowKit
set_option linter.unusedVariables false
def WPoX (P : Program) (N : Nat) (ops : Array Oper) (Q : Exit → Env → World → Prop) (i : Nat) (K : Env → World → Prop) (ρ : Env) (w : World) : Prop :=
  ∀ a, Rep a ρ N → wpOp P ops (lift N Q) i (fun a' w' => ∃ ρ', Rep a' ρ' N ∧ K ρ' w') a w
def WPsX (P : Program) (N : Nat) (ops : Array Oper) (Q : Exit → Env → World → Prop) (K : Env → World → Prop) : List Nat → Env → World → Prop
  | [], ρ, w => K ρ w
  | i :: r, ρ, w => WPoX P N ops Q i (WPsX P N ops Q K r) ρ w
section
variable {P : Program} {N : Nat} {ops : Array Oper} {Q : Exit → Env → World → Prop} {K : Env → World → Prop} {ρ : Env} {w : World} {i : Nat} {r : List Nat} {c : Code}
theorem WPsX.sound : ∀ (l : List Nat) (ρ : Env) (w : World), WPsX P N ops Q (Q .normal) l ρ w → ∀ a, Rep a ρ N → wpOps P ops (lift N Q) l a w
  | [], ρ, w, h, a, ha => ⟨ρ, ha, h⟩
  | i :: r, ρ, w, h, a, ha => by
    rw [wpOps_cons]
    exact wpOp_mono (fun a' w' ⟨ρ', hr, h'⟩ => WPsX.sound r ρ' w' h' a' hr) (h a ha)
theorem WP.regionX {id : Nat} (l : List Nat) (hl : List.range ops.size = l) (h : WPsX P N ops Q (Q .normal) l ρ w) : WP P N (.region id ops false) Q ρ w := fun a ha =>
  wp_region (by rw [hl]; exact WPsX.sound l ρ w h a ha)
/-- The operations ahead of one that may panic. -/
theorem x_seg (l1 : List Nat) {l l2 : List Nat} (hl : l = l1 ++ l2) (h : WPs P N ops (fun ρ w => WPsX P N ops Q K l2 ρ w) l1 ρ w) : WPsX P N ops Q K l ρ w := by
  subst hl
  induction l1 generalizing ρ w with
  | nil => exact h
  | cons i r ih =>
    intro a ha
    exact wpOp_mono (fun a' w' ⟨ρ', hr, h'⟩ => ⟨ρ', hr, ih h'⟩) (wpOp_noQ (h a ha))
theorem WPoX.run {o : Oper} (ho : ops[i]? = some o) (hw : Region.wanted o (nyield ops ρ) = true)
    (h : ∀ a, Rep a ρ N → Oper.upon P o a (fun a' w' => ∃ ρ', Rep a' ρ' N ∧ K ρ' w') (lift N Q) ((execOp (ev ρ) o).run P w)) : WPoX P N ops Q i K ρ w := fun a ha => by
  unfold wpOp
  simp only [ho, wanted_eq ha, hw, if_true]
  refine .inl ?_
  unfold Oper.wp
  rw [ha.eval]
  exact h a ha
/-- A call, however it ends. -/
theorem x_call (d : Option Nat) (f : Nat) (args : Array Value) (R : Ending → World → Prop) (hc : Calls P f args w R) (h : opv P ops i ρ w = some (d, true, .ok (.enter f args) w)) (hd : dOK d N = true)
    (kk : ∀ e w', R e w' → (∃ v, e = .returned v ∧ WPsX P N ops Q K r (updO ρ d v) w') ∨ (∃ ch, e = .panicked ch ∧ Q (.panic ch) ρ w')) : WPsX P N ops Q K (i :: r) ρ w := by
  obtain ⟨o, ho, rfl, hw, hr⟩ := opv_some h
  refine WPoX.run ho hw fun a ha => ?_
  rw [hr, Oper.upon_enter]
  refine hc.mono ?_
  intro e w' hR
  rcases kk e w' hR with ⟨v, rfl, hk⟩ | ⟨ch, rfl, hq⟩
  · exact ⟨_, ha.put _ (dOK_lt hd) v, hk⟩
  · exact ⟨ρ, ha, hq⟩
theorem x_panic (d : Option Nat) (v : Value) (h : opv P ops i ρ w = some (d, true, .halt (.panic v) w)) (hq : Q (.panic [{ v, recovered := false }]) ρ w) : WPsX P N ops Q K (i :: r) ρ w := by
  obtain ⟨o, ho, rfl, hw, hr⟩ := opv_some h
  refine WPoX.run ho hw fun a ha => ?_
  rw [hr, Oper.upon_panic]
  exact ⟨ρ, ha, hq⟩
theorem x_reg0 (l : List Nat) (hc : regOf c = some (l, false)) (h : WPsX P N (opsOf c) Q (Q .normal) l ρ w) : WP P N c Q ρ w := by
  obtain ⟨id, he, hl⟩ := regOf_eq hc
  rw [he]; exact WP.regionX l hl h
theorem x_sreg (l : List Nat) (hc : isSeq c = true) (hr : regOf (seqL c) = some (l, false)) (h : WPsX P N (opsOf (seqL c)) (nx (WP P N (seqR c) Q) Q) (WP P N (seqR c) Q) l ρ w) : WP P N c Q ρ w :=
  g_seq hc (x_reg0 l hr h)
end
/-- The end of a function that may panic. -/
def endsX (P : Program) (rs : List ResultVar) (R : Value → World → Prop) (RP : List PanicEntry → World → Prop) : Exit → Env → World → Prop
  | .normal, ρ, w | .ret, ρ, w => ∃ vs, Res P w ρ rs vs ∧ R (pack vs) w
  | .panic ch, _, w => RP ch w
  | _, _, _ => False
theorem calls_introX {P : Program} {f : Nat} {fn : Func} {c : Code} {rs : List ResultVar} {N : Nat} {args : Array Value} {w : World} {R : Value → World → Prop} {RP : List PanicEntry → World → Prop} (hf : P.funcs[f]? = some fn) (hb : fn.body = some c) (hr : fn.results.toList = rs) (hn : args.size + (fn.ntmps - args.size) = N)
    (h : WP P N c (endsX P rs R RP) (ini args) w) : Calls P f args w fun e w' => (∃ v, e = .returned v ∧ R v w') ∨ (∃ ch, e = .panicked ch ∧ RP ch w') := by
  subst hr
  refine calls_of_wp hf hb (Go.wp_mono (h { tmps := args ++ Array.replicate (fn.ntmps - args.size) undef, defers := [] } ⟨rfl, by simp [hn], fun t => ?_⟩) ?_)
  · unfold ini
    rw [getD_eq_get?, getD_eq_get?, Array.getElem?_append]
    split
    · rfl
    · rename_i hge
      rw [Array.getElem?_eq_none (Nat.le_of_not_lt hge)]
      cases he : (Array.replicate (fn.ntmps - args.size) undef)[t - args.size]? with
      | none => rfl
      | some v =>
        have := Array.mem_of_getElem? he
        simp at this
        simp [this]
  · rintro e a w' ⟨ρ, ha, hq⟩
    cases e with
    | normal => obtain ⟨vs, hR, hv⟩ := hq; exact ⟨ha.defers, _, hR.run ha, .inl ⟨_, rfl, hv⟩⟩
    | ret => obtain ⟨vs, hR, hv⟩ := hq; exact ⟨ha.defers, _, hR.run ha, .inl ⟨_, rfl, hv⟩⟩
    | panic ch => exact ⟨ha.defers, .inr ⟨_, rfl, hq⟩⟩
    | _ => exact (hq : False).elim
/-! ### What was laid for good -/
def LyIn (T : List (Nat × Obj)) : Fo → Nat → Nat → Prop
  | .nil, _, _ => True
  | .cons l s k r, b, off => (∃ (C : Array Value) (ty : TypeId) (fz : Nat × Nat) (p : Option Addr) (n c : Nat), (b, Obj.cells C ty fz) ∈ T ∧ off + 3 ≤ C.size ∧
      C.extract off (off + 3) = #[.bool l, .string s, .slice p n c] ∧ s.size ≤ 140737488355328 ∧ n = k.len ∧ n ≤ 140737488355328 ∧ (k = .nil ∨ ∃ b' off', p = some ⟨b', off', none⟩ ∧ LyIn T k b' off')) ∧ LyIn T r b (off + 3)
def SlIn (T : List (Nat × Obj)) (p : Option Addr) (n : Nat) (k : Fo) : Prop := n = k.len ∧ n ≤ 140737488355328 ∧ (k = .nil ∨ ∃ b off, p = some ⟨b, off, none⟩ ∧ LyIn T k b off)
theorem LyIn.mono {T T' : List (Nat × Obj)} (h : ∀ e ∈ T, e ∈ T') : ∀ {k : Fo} {b off : Nat}, LyIn T k b off → LyIn T' k b off
  | .nil, _, _, _ => trivial
  | .cons l s k r, b, off, ⟨⟨C, ty, fz, p, n, c, h1, h2, h3, h4, h5, h6, h7⟩, h8⟩ => ⟨⟨C, ty, fz, p, n, c, h _ h1, h2, h3, h4, h5, h6, h7.imp id fun ⟨b', o', e, q⟩ => ⟨b', o', e, LyIn.mono h q⟩⟩, LyIn.mono h h8⟩
theorem SlIn.mono {T T' : List (Nat × Obj)} {p : Option Addr} {n : Nat} {k : Fo} (hs : SlIn T p n k) (h : ∀ e ∈ T, e ∈ T') : SlIn T' p n k :=
  ⟨hs.1, hs.2.1, hs.2.2.imp id fun ⟨b, o, e, q⟩ => ⟨b, o, e, q.mono h⟩⟩
theorem LyIn.at {B : Nat} {w0 w : World} {l T : List (Nat × Obj)} (hS : St B w0 w l) (h : ∀ e ∈ T, e ∈ l) : ∀ {k : Fo} {b off : Nat}, LyIn T k b off → FoAt w.heap.size w k b off
  | .nil, _, _, _ => trivial
  | .cons l s k r, b, off, ⟨⟨C, ty, fz, p, n, c, h1, h2, h3, h4, h5, h6, h7⟩, h8⟩ =>
    have hh := (hS.own _ (h _ h1)).2
    ⟨⟨C, ty, fz, p, n, c, lt_of_heap hh, hh, h2, h3, h4, h5, h6, h7.imp id fun ⟨b', o', e, q⟩ => ⟨b', o', e, LyIn.at hS h q⟩⟩, LyIn.at hS h h8⟩
theorem SlIn.at {B : Nat} {w0 w : World} {l T : List (Nat × Obj)} {p : Option Addr} {n : Nat} {k : Fo} (hs : SlIn T p n k) (hS : St B w0 w l) (h : ∀ e ∈ T, e ∈ l) : SlAt w.heap.size w p n k :=
  ⟨hs.1, hs.2.1, hs.2.2.imp id fun ⟨b, o, e, q⟩ => ⟨b, o, e, q.at hS h⟩⟩
def AllIn (T : List (Nat × Obj)) (L : List X3) : Prop := ∀ x ∈ L, SlIn T x.p x.n x.k ∧ x.s.size ≤ 140737488355328
theorem ly_row {T : List (Nat × Obj)} {b : Nat} {C : Array Value} {ty : TypeId} {fz : Nat × Nat} (hm : (b, Obj.cells C ty fz) ∈ T) : ∀ (L : List X3) (o : Nat),
    (∀ (i : Nat) (x : X3), L[i]? = some x → C[o + i * 3]? = some (.bool x.l) ∧ C[o + i * 3 + 1]? = some (.string x.s) ∧ C[o + i * 3 + 2]? = some (.slice x.p x.n x.c)) → AllIn T L → LyIn T (toFo L) b o
  | [], _, _, _ => trivial
  | x :: r, o, h, hA => by
    obtain ⟨h1, h2, h3⟩ := h 0 x rfl
    simp only [Nat.zero_mul, Nat.add_zero] at h1 h2 h3
    have ha := hA x (List.mem_cons_self ..)
    refine ⟨⟨C, ty, fz, x.p, x.n, x.c, hm, (ex3 h1 h2 h3).1, (ex3 h1 h2 h3).2, ha.2, ha.1.1, ha.1.2.1, ha.1.2.2⟩, ?_⟩
    refine ly_row hm r (o + 3) (fun i y hy => ?_) fun y hy => hA y (List.mem_cons_of_mem _ hy)
    have := h (i + 1) y (by simpa using hy)
    rw [show o + (i + 1) * 3 = o + 3 + i * 3 by omega] at this
    exact this
theorem Rw.slIn {cur : Array Value} {cap n : Nat} {L : List X3} (h : Rw 3 cur cap n (cells3 L)) {T : List (Nat × Obj)} {b : Nat} {ty : TypeId} {fz : Nat × Nat} (hm : (b, Obj.cells cur ty fz) ∈ T) (hA : AllIn T L) (hn : n ≤ 140737488355328) : SlIn T (some ⟨b, 0, none⟩) n (toFo L) := by
  have hl := h.len
  rw [cells3_len] at hl
  refine ⟨by rw [toFo_len]; omega, hn, .inr ⟨b, 0, rfl, ly_row hm L 0 (fun i x hx => ?_) hA⟩⟩
  have := h.at3 hx
  rw [Nat.zero_add]; exact this
/-- A call of one's own blocks, and those it made. -/
theorem St.addAll {B : Nat} {w0 w w' : World} {l T : List (Nat × Obj)} (h : St B w0 w l) (hT : St w.heap.size w w' T) : St B w0 w' (T ++ l) := by
  have h' := h.call hT.below
  refine ⟨h'.below, h'.le, ?_, ?_⟩
  · intro e he
    rcases List.mem_append.1 he with he | he
    · exact ⟨Nat.le_trans h.le (hT.own e he).1, (hT.own e he).2⟩
    · exact h'.own e he
  · rw [List.map_append, List.nodup_append]
    refine ⟨hT.nd, h'.nd, ?_⟩
    intro x hx y hy q
    obtain ⟨e, he, rfl⟩ := List.mem_map.1 hx
    obtain ⟨e', he', rfl⟩ := List.mem_map.1 hy
    have h1 := (hT.own e he).1
    have h2 := lt_of_heap (h.own e' he').2
    omega
end Go.Proofs.YtkkbkpneodecnaaDoor
