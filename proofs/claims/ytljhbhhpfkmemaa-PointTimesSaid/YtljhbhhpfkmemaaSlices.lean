/-
  Slices that the call itself made: rows of cells behind a block of the list; append; elements by a number that is a letter.
-/
import Derived.Test.YtljhbhhpfkmemaaDraw
import Derived.Maps.AppendAt
namespace Go.Proofs.Ytljhbhhpfkmemaa
open Go Go.RowKit
set_option linter.unusedVariables false

/-- The first n elements (of 'size' cells each) of a row with room for 'cap'. -/
structure Rw (size : Nat) (cur : Array Value) (cap n : Nat) (xs : List Value) : Prop where
  len : xs.length = n * size
  le : n ≤ cap
  max : cap ≤ maxLen
  take : cur.toList.take (n * size) = xs
  sz : cur.size = cap * size

theorem Rw.get {size : Nat} {cur : Array Value} {cap n : Nat} {xs : List Value} (h : Rw size cur cap n xs) (i : Nat) (hi : i < n * size) : cur[i]? = xs[i]? := by
  rw [← h.take, List.getElem?_take, if_pos hi, Array.getElem?_toList]
theorem addr_add (b o q : Nat) : (⟨b, o, none⟩ : Addr).add q = ⟨b, o + q, none⟩ := by unfold Addr.add; split <;> simp_all
theorem Rw.lit {size : Nat} (cur : Array Value) (n : Nat) (h : cur.size = n * size) (hm : n ≤ maxLen) : Rw size cur n n cur.toList :=
  ⟨by simpa using h, Nat.le_refl _, hm, by rw [← h, List.take_of_length_le (by simp)], h⟩
theorem Rw.cut {size : Nat} {cur : Array Value} {cap n : Nat} {xs : List Value} (h : Rw size cur cap n xs) (m : Nat) (hm : m ≤ n) : Rw size cur cap m (xs.take (m * size)) := by
  have hms : m * size ≤ n * size := Nat.mul_le_mul_right _ hm
  refine ⟨by rw [List.length_take, h.len, Nat.min_eq_left hms], Nat.le_trans hm h.le, h.max, ?_, h.sz⟩
  rw [← h.take, List.take_take, Nat.min_eq_left hms]

/-- What a slice's type says of its elements: their type, cells, bytes. -/
def sliceOf (P : Program) (t : TypeId) : Option (TypeId × Nat × Nat) :=
  match P.underlying t with
  | some (.slice e) => match P.info? e with
    | some i => match i.zero with
      | some z => if z.cells.size == i.size && Nat.blt 0 i.size then some (e, i.size, i.bytes) else none
      | none => none
    | none => none
  | _ => none
theorem sliceOf_spec {P : Program} {t e : TypeId} {size bytes : Nat} (h : sliceOf P t = some (e, size, bytes)) :
    ∃ i z, P.underlying t = some (.slice e) ∧ P.info? e = some i ∧ i.zero = some z ∧ i.size = size ∧ i.bytes = bytes ∧ z.cells.size = size ∧ 0 < size := by
  unfold sliceOf at h
  split at h
  · rename_i e' hu
    split at h
    · rename_i i hi
      split at h
      · rename_i z hz
        split at h
        · rename_i hc
          simp only [Bool.and_eq_true, beq_iff_eq] at hc
          simp only [Option.some.injEq, Prod.mk.injEq] at h
          obtain ⟨rfl, rfl, rfl⟩ := h
          exact ⟨i, z, hu, hi, hz, rfl, rfl, hc.1, Nat.le_of_ble_eq_true hc.2⟩
        · cases h
      · cases h
    · cases h
  · cases h

theorem Rw.owns {size : Nat} {cur : Array Value} {cap n : Nat} {xs : List Value} (h : Rw size cur cap n xs) {w : World} {B b : Nat} {e : TypeId} (hb : B ≤ b) (hh : w.heap[b]? = some (.cells cur e (0, 0))) :
    w.ownsRow B e size (.slice (some ⟨b, 0, none⟩) n cap) n xs :=
  ⟨h.len, .inr ⟨b, cap, cur, rfl, hb, hh, h.le, h.max, h.sz, h.take⟩⟩

theorem St.mem {B : Nat} {w0 w : World} {l : List (Nat × Obj)} (h : St B w0 w l) {k : Nat} {e : Nat × Obj} (hk : l[k]? = some e) : e ∈ l := List.mem_of_getElem? hk

/-- A block of the list is grown, where it lies or anew. -/
theorem St.grown {B : Nat} {w0 w w' : World} {l : List (Nat × Obj)} (h : St B w0 w l) (j : Nat) {b b' : Nat} {o o' : Obj} (hj : l[j]? = some (b, o)) (hg : w.grownBy w' (some b))
    (hb : b' = b ∨ b' = w.heap.size) (ho : w'.heap[b']? = some o') : St B w0 w' (l.set j (b', o')) := by
  have hB := h.ge j hj
  have hlt := lt_of_heap (h.get j hj)
  have hkl : j < l.length := (List.getElem?_eq_some_iff.1 hj).1
  have hle := h.le
  have hB' : B ≤ b' := by rcases hb with rfl | rfl <;> omega
  refine ⟨h.below.grown hg hle (fun k hk => by injection hk with hk; omega), Nat.le_trans hle hg.size, ?_, ?_⟩
  · intro e he
    obtain ⟨i, hi, he⟩ := List.getElem_of_mem he
    rw [List.getElem_set] at he
    split at he
    · subst he; exact ⟨hB', ho⟩
    · rename_i hij
      have hi' : i < l.length := by simpa using hi
      have hmem : e ∈ l := by rw [← he]; exact List.getElem_mem _
      have hne : e.1 ≠ b := by
        intro heq
        have h1 : (l.map (·.1))[i]? = some b := by simp [List.getElem?_map, List.getElem?_eq_getElem hi', he, heq]
        have h2 : (l.map (·.1))[j]? = some b := by simp [List.getElem?_map, hj]
        have := (List.getElem?_inj (by simpa using hi') h.nd).1 (h1.trans h2.symm)
        omega
      exact ⟨(h.own e hmem).1, by rw [hg.block e.1 (lt_of_heap (h.own e hmem).2) (fun q => hne (by injection q))]; exact (h.own e hmem).2⟩
  · rcases hb with rfl | rfl
    · have hmap : (l.set j (b', o')).map (·.1) = l.map (·.1) := by
        apply List.ext_getElem?
        intro i
        simp only [List.getElem?_map, List.getElem?_set]
        by_cases hi : j = i
        · subst hi; rw [if_pos rfl, if_pos hkl, hj]; rfl
        · simp [hi]
      rw [hmap]; exact h.nd
    · rw [List.map_set]
      have hnew : w.heap.size ∉ l.map (·.1) := fun hm => by
        obtain ⟨e, he, heq⟩ := List.mem_map.1 hm
        have := lt_of_heap (h.own e he).2
        omega
      rw [List.nodup_iff_pairwise_ne]
      have hp := List.nodup_iff_pairwise_ne.1 h.nd
      rw [List.pairwise_iff_getElem] at hp ⊢
      intro x y hx hy hxy
      simp only [List.length_set] at hx hy
      rw [List.getElem_set, List.getElem_set]
      split
      · split
        · omega
        · intro q; exact hnew (by rw [show w.heap.size = _ from q]; exact List.getElem_mem _)
      · split
        · intro q; exact hnew (by rw [show w.heap.size = _ from q.symm]; exact List.getElem_mem _)
        · exact hp x y hx hy hxy

section
variable {P : Program} {N : Nat} {ops : Array Oper} {i : Nat} {r : List Nat} {K : Env → World → Prop} {ρ : Env} {w : World} {B : Nat} {w0 : World} {l : List (Nat × Obj)}
/-- What the operation runs to in this very world. -/
theorem s_genw (d : Option Nat) (op : Op) (v : Value) (w' : World) (h : opk ops i ρ = some (d, true, op)) (hd : dOK d N = true)
    (hr : ∀ o : Oper, o.op = op → (execOp (ev ρ) o).run P w = .ok (.value v) w') (k : WPs P N ops K r (updO ρ d v) w') : WPs P N ops K (i :: r) ρ w := o_gen d op v w' h hd hr k

def appendOp (t : TypeId) (s x : Operand) : Op := .call { callee := .builtin .append, args := #[s, x], argTypes := #[t, t] }
/-- 'append(s, x...)', where both lie in blocks of the list. -/
theorem s_append (HS : St B w0 w l) (d : Option Nat) (t e : TypeId) (size bytes : Nat) (s x : Operand) (j k b bx n m cap c : Nat) (cur CX : Array Value) (TX : TypeId) (fz : Nat × Nat) (xs news : List Value) (l' : Nat → Array Value → List (Nat × Obj))
    (h : opk ops i ρ = some (d, true, appendOp t s x)) (hd : dOK d N = true) (ht : sliceOf P t = some (e, size, bytes))
    (hs : ev ρ s = .slice (some ⟨b, 0, none⟩) n cap) (hj : l[j]? = some (b, .cells cur e (0, 0))) (hr : Rw size cur cap n xs)
    (hx : ev ρ x = .slice (some ⟨bx, 0, none⟩) m c) (hk : l[k]? = some (bx, .cells CX TX fz)) (hn : CX.toList.take (m * size) = news) (hl : news.length = m * size) (h1 : ∀ u ∈ news, u.oneCell' = true)
    (hb : (n + m) * bytes ≤ 140737488355328) (hm : n + m ≤ maxLen)
    (hl' : ∀ b' cur', l.set j (b', .cells cur' e (0, 0)) = l' b' cur')
    (kk : ∀ b' cap' cur' w', St B w0 w' (l' b' cur') → Rw size cur' cap' (n + m) (xs ++ news) → WPs P N ops K r (updO ρ d (.slice (some ⟨b', 0, none⟩) (n + m) cap')) w') : WPs P N ops K (i :: r) ρ w := by
  obtain ⟨o, ho, rfl, hw, hop⟩ := opk_some h
  obtain ⟨it, z, hu, hi, hz, hsz, hby, hzs, h0⟩ := sliceOf_spec ht
  have hnews : ∀ q u, news[q]? = some u → w.cell? ((⟨bx, 0, none⟩ : Addr).add q) = some u := fun q u hq => by
    have hql : q < m * size := by rw [← hl]; exact (List.getElem?_eq_some_iff.1 hq).1
    rw [← hn, List.getElem?_take, if_pos hql, Array.getElem?_toList] at hq
    rw [addr_add, Nat.zero_add]
    simp [World.cell?, HS.get k hk, hq]
  obtain ⟨v', w', hrun, hown, hgr, hnil, hblk⟩ := run_append_own_at (P := P) w B t o.type e it z size bytes hu hi hz hsz hby hzs h0 _ n xs (hr.owns (HS.ge j hj) (HS.get j hj)) ⟨bx, 0, none⟩ m c news hl hnews h1 hm hb HS.le
  have hown' := hown
  rcases hown'.2 with ⟨hv, _⟩ | ⟨g, cap', cur', rfl, hbg, hg, hnc, hcm, hcs, htk⟩
  · exact absurd (hnil.1 hv).1 (by simp)
  · have hgb : g = b ∨ g = w.heap.size := by
      rcases hblk with hq | hq
      · left; injection hq
      · right; injection hq
    have HS' := HS.grown j hj hgr hgb hg
    rw [hl'] at HS'
    refine WPo.run ho hw fun a ha => ?_
    have hex : (execOp (ev ρ) o).run P w = .ok (.value (.slice (some ⟨g, 0, none⟩) (n + m) cap')) w' := by
      unfold execOp
      simp only [hop, appendOp, resolve, invoke, builtin, Sem.run_bind, Sem.run_pure, Result.andThen_ok, List.map_toArray, List.map_cons, List.map_nil, hs, hx, hrun]
    rw [hex, Oper.upon_value]
    exact ⟨_, ha.put _ (dOK_lt hd) _, kk g cap' cur' w' HS' ⟨hown.1, hnc, hcm, htk, hcs⟩⟩

/-- The address of an element: of an array's block. -/
def arrOf (P : Program) (t : TypeId) : Option (Nat × Nat) :=
  match P.underlying t with
  | some (.array n e) => (P.info? e).map fun i => (n, i.size)
  | _ => none
theorem idxA_run {t : TypeId} {n size : Nat} (ht : arrOf P t = some (n, size)) {x y : Operand} {o : Oper} {kd : IntKind} (b q : Nat) (k : Nat) (ho : o.op = .indexAddr t x y) (hx : ev ρ x = .pointer (some ⟨b, q, none⟩)) (hy : ev ρ y = .int kd (k : Int)) (hk : k < n) :
    ∀ w, (execOp (ev ρ) o).run P w = .ok (.value (.pointer (some ⟨b, q + k * size, none⟩))) w := fun w => by
  unfold arrOf at ht
  split at ht
  · rename_i n' e hu
    cases hi : P.info? e with
    | none => rw [hi] at ht; cases ht
    | some it =>
      rw [hi] at ht
      simp only [Option.map_some, Option.some.injEq, Prod.mk.injEq] at ht
      obtain ⟨rfl, rfl⟩ := ht
      have hS : (sizeOf e).run P w = .ok it.size w := by simp [sizeOf, typeInfo, hi]
      have h1 : (0 : Int) ≤ (k : Int) ∧ (k : Int) < (n' : Int) := by omega
      simp [execOp, ho, hx, hy, Instr.indexAt, asIntOf, run_underlying hu, Instr.sureAddr, hS, h1, addr_add, hk]
  · cases ht
/-- The address of an element: of a slice. -/
theorem idxS_run {t e : TypeId} {size bytes : Nat} (ht : sliceOf P t = some (e, size, bytes)) {x y : Operand} {o : Oper} {kd : IntKind} (b q n c : Nat) (k : Nat) (ho : o.op = .indexAddr t x y) (hx : ev ρ x = .slice (some ⟨b, q, none⟩) n c) (hy : ev ρ y = .int kd (k : Int)) (hk : k < n) :
    ∀ w, (execOp (ev ρ) o).run P w = .ok (.value (.pointer (some ⟨b, q + k * size, none⟩))) w := fun w => by
  obtain ⟨it, z, hu, hi, hz, hsz, hby, hzs, h0⟩ := sliceOf_spec ht
  have hS : (sizeOf e).run P w = .ok size w := by simp [sizeOf, typeInfo, hi, hsz]
  have h1 : (0 : Int) ≤ (k : Int) ∧ (k : Int) < (n : Int) := by omega
  simp [execOp, ho, hx, hy, Instr.indexAt, asIntOf, run_underlying hu, hS, h1, addr_add, hk]
end
end Go.Proofs.Ytljhbhhpfkmemaa
