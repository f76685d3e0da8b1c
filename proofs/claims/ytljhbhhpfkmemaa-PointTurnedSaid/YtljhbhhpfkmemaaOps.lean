/-
  Regions, operations, memory: the steps of the logic.
-/
import Derived.Test.YtljhbhhpfkmemaaFlow
import Derived.Orders
namespace Go.Proofs.Ytljhbhhpfkmemaa
open Go Go.RowKit
set_option linter.unusedVariables false

/-! ### What the call owns -/
structure St (B : Nat) (w0 w : World) (l : List (Nat × Obj)) : Prop where
  below : Below B w0 w
  le : B ≤ w.heap.size
  own : ∀ e ∈ l, B ≤ e.1 ∧ w.heap[e.1]? = some e.2
  nd : (l.map (·.1)).Nodup

theorem St.start (w : World) : St w.heap.size w w [] := ⟨Below.refl _ _, Nat.le_refl _, (fun _ h => nomatch h), List.nodup_nil⟩
theorem St.get {B : Nat} {w0 w : World} {l : List (Nat × Obj)} (h : St B w0 w l) (k : Nat) {b : Nat} {o : Obj} (hk : l[k]? = some (b, o)) : w.heap[b]? = some o :=
  (h.own (b, o) (List.mem_of_getElem? hk)).2
theorem St.ge {B : Nat} {w0 w : World} {l : List (Nat × Obj)} (h : St B w0 w l) (k : Nat) {b : Nat} {o : Obj} (hk : l[k]? = some (b, o)) : B ≤ b :=
  (h.own (b, o) (List.mem_of_getElem? hk)).1
theorem lt_of_heap {w : World} {b : Nat} {o : Obj} (h : w.heap[b]? = some o) : b < w.heap.size := (Array.getElem?_eq_some_iff.1 h).1
theorem St.alloc {B : Nat} {w0 w : World} {l : List (Nat × Obj)} (h : St B w0 w l) (o : Obj) : St B w0 (w.alloc o) ((w.heap.size, o) :: l) := by
  refine ⟨h.below.alloc h.le o, by have := h.le; have e : (w.alloc o).heap.size = w.heap.size + 1 := Array.size_push _; omega, ?_, ?_⟩
  · intro e he
    rcases List.mem_cons.1 he with rfl | he
    · exact ⟨h.le, heap_alloc_new w o⟩
    · have := h.own e he
      exact ⟨this.1, by rw [Below.heap_alloc _ _ _ (lt_of_heap this.2)]; exact this.2⟩
  · simp only [List.map_cons, List.nodup_cons]
    refine ⟨fun hm => ?_, h.nd⟩
    obtain ⟨e, he, heq⟩ := List.mem_map.1 hm
    have := lt_of_heap (h.own e he).2
    omega
theorem St.drew {B : Nat} {w0 w : World} {l : List (Nat × Obj)} (h : St B w0 w l) : St B w0 w.drew l :=
  ⟨h.below.drew, h.le, h.own, h.nd⟩
theorem St.call {B : Nat} {w0 w w' : World} {l : List (Nat × Obj)} (h : St B w0 w l) (hb : Below w.heap.size w w') : St B w0 w' l :=
  ⟨h.below.trans (hb.mono h.le), Nat.le_trans h.le hb.size, fun e he => ⟨(h.own e he).1, by rw [hb.block _ (lt_of_heap (h.own e he).2)]; exact (h.own e he).2⟩, h.nd⟩
/-- A block that a call made. -/
theorem St.add {B : Nat} {w0 w w' : World} {l : List (Nat × Obj)} (h : St B w0 w l) (hb : Below w.heap.size w w') {b : Nat} {o : Obj} (hle : w.heap.size ≤ b) (ho : w'.heap[b]? = some o) : St B w0 w' ((b, o) :: l) := by
  have h' := h.call hb
  refine ⟨h'.below, h'.le, ?_, ?_⟩
  · intro e he
    rcases List.mem_cons.1 he with rfl | he
    · exact ⟨Nat.le_trans h.le hle, ho⟩
    · exact h'.own e he
  · simp only [List.map_cons, List.nodup_cons]
    refine ⟨fun hm => ?_, h.nd⟩
    obtain ⟨e, he, heq⟩ := List.mem_map.1 hm
    have := lt_of_heap (h.own e he).2
    omega
theorem St.sub {B : Nat} {w0 w : World} {l l' : List (Nat × Obj)} (h : St B w0 w l) (hs : l'.Sublist l) : St B w0 w l' :=
  ⟨h.below, h.le, fun e he => h.own e (hs.subset he), (hs.map (·.1)).nodup h.nd⟩
theorem setRow_heap_ne (w : World) (g : Nat) (cs : Array Value) (k : Nat) (h : k ≠ g) : (w.setRow g cs).heap[k]? = w.heap[k]? := by
  simp only [World.setRow, Array.getElem?_modify]
  rw [if_neg (by omega)]
theorem St.store {B : Nat} {w0 w : World} {l : List (Nat × Obj)} (h : St B w0 w l) (k : Nat) {b : Nat} {C C' : Array Value} {T : TypeId} {fz : Nat × Nat} (hk : l[k]? = some (b, .cells C T fz)) :
    St B w0 (w.setRow b C') (l.set k (b, .cells C' T fz)) := by
  have hB := h.ge k hk
  have hh := h.get k hk
  have hkl : k < l.length := (List.getElem?_eq_some_iff.1 hk).1
  have hnew : (w.setRow b C').heap[b]? = some (.cells C' T fz) := setRow_heap w b C C' T fz hh
  have hmap : (l.set k (b, Obj.cells C' T fz)).map (·.1) = l.map (·.1) := by
    apply List.ext_getElem?
    intro j
    simp only [List.getElem?_map, List.getElem?_set]
    by_cases hj : k = j
    · subst hj; rw [if_pos rfl, if_pos hkl, hk]; rfl
    · simp [hj]
  refine ⟨?_, by simpa [World.setRow] using h.le, ?_, by rw [hmap]; exact h.nd⟩
  · exact h.below.trans ⟨rfl, rfl, rfl, by simp [World.setRow], fun j hj => setRow_heap_ne _ _ _ _ (by omega)⟩
  · intro e he
    obtain ⟨j, hj, he⟩ := List.getElem_of_mem he
    rw [List.getElem_set] at he
    split at he
    · subst he; exact ⟨hB, hnew⟩
    · rename_i hjk
      have hj' : j < l.length := by simpa using hj
      have hmem : e ∈ l := by rw [← he]; exact List.getElem_mem _
      have hne : e.1 ≠ b := by
        intro heq
        have h1 : (l.map (·.1))[j]? = some b := by simp [List.getElem?_map, List.getElem?_eq_getElem hj', he, heq]
        have h2 : (l.map (·.1))[k]? = some b := by simp [List.getElem?_map, hk]
        have := (List.getElem?_inj (by simpa using hj') h.nd).1 (h1.trans h2.symm)
        omega
      exact ⟨(h.own e hmem).1, by rw [setRow_heap_ne _ _ _ _ hne]; exact (h.own e hmem).2⟩

/-! ### Operations -/
def NoQ : Exit → Act → World → Prop := fun _ _ _ => False
theorem Oper.wp_noQ {P : Program} {o : Oper} {a : Act} {w : World} {K : Act → World → Prop} {Q : Exit → Act → World → Prop} (h : o.wp P a w K NoQ) : o.wp P a w K Q := by
  unfold Oper.wp at *
  generalize (execOp a.eval o).run P w = r at *
  cases r with
  | ok n w' =>
    cases n <;> simp only [Oper.upon] at h ⊢ <;> first
      | exact h
      | exact Calls.mono h (fun e w'' he => by
          cases e with
          | returned v => exact he
          | panicked c => exact (he : False).elim
          | outgrown => obtain ⟨_, _, hf⟩ := he; exact (hf : False).elim)
  | halt x w' => cases x <;> simp only [Oper.upon] at h ⊢ <;> exact (h : False).elim
theorem wpOp_noQ {P : Program} {ops : Array Oper} {i : Nat} {a : Act} {w : World} {K : Act → World → Prop} {Q : Exit → Act → World → Prop} (h : wpOp P ops NoQ i K a w) : wpOp P ops Q i K a w := by
  unfold wpOp at *
  split
  · simp_all
  · rename_i o ho
    simp only [ho] at h
    split
    · rename_i hw
      simp only [hw, if_true] at h
      rcases h with h | ⟨_, _, _, hf⟩
      · exact .inl (Oper.wp_noQ h)
      · exact (hf : False).elim
    · rename_i hw; simp only [hw] at h; exact h

def WPo (P : Program) (N : Nat) (ops : Array Oper) (i : Nat) (K : Env → World → Prop) (ρ : Env) (w : World) : Prop :=
  ∀ a, Rep a ρ N → wpOp P ops NoQ i (fun a' w' => ∃ ρ', Rep a' ρ' N ∧ K ρ' w') a w
def WPs (P : Program) (N : Nat) (ops : Array Oper) (K : Env → World → Prop) : List Nat → Env → World → Prop
  | [], ρ, w => K ρ w
  | i :: r, ρ, w => WPo P N ops i (WPs P N ops K r) ρ w

theorem WPs.sound {P : Program} {N : Nat} {ops : Array Oper} {Q : Exit → Env → World → Prop} : ∀ (l : List Nat) (ρ : Env) (w : World), WPs P N ops (Q .normal) l ρ w → ∀ a, Rep a ρ N → wpOps P ops (lift N Q) l a w
  | [], ρ, w, h, a, ha => ⟨ρ, ha, h⟩
  | i :: r, ρ, w, h, a, ha => by
    rw [wpOps_cons]
    exact wpOp_mono (fun a' w' ⟨ρ', hr, h'⟩ => WPs.sound r ρ' w' h' a' hr) (wpOp_noQ (h a ha))
theorem WP.region {P : Program} {N id : Nat} {ops : Array Oper} {Q : Exit → Env → World → Prop} {ρ : Env} {w : World} (l : List Nat) (hl : List.range ops.size = l)
    (h : WPs P N ops (Q .normal) l ρ w) : WP P N (.region id ops false) Q ρ w := fun a ha =>
  wp_region (by rw [hl]; exact WPs.sound l ρ w h a ha)

/-- Operation i: its slot, whether it is wanted, what it runs to. -/
def opv (P : Program) (ops : Array Oper) (i : Nat) (ρ : Env) (w : World) : Option (Option Nat × Bool × Result Next) :=
  (ops[i]?).map fun o => (o.dst, Region.wanted o (nyield ops ρ), (execOp (ev ρ) o).run P w)
/-- Operation i: its slot, whether it is wanted, what it is. -/
def opk (ops : Array Oper) (i : Nat) (ρ : Env) : Option (Option Nat × Bool × Op) :=
  (ops[i]?).map fun o => (o.dst, Region.wanted o (nyield ops ρ), o.op)
def opn (ops : Array Oper) (i : Nat) (ρ : Env) : Option (Option Nat × Bool) :=
  (ops[i]?).map fun o => (o.dst, Region.wanted o (nyield ops ρ))
def dOK (d : Option Nat) (N : Nat) : Bool := match d with | none => true | some k => Nat.blt k N
theorem dOK_lt {d : Option Nat} {N : Nat} (h : dOK d N = true) : ∀ k, d = some k → k < N := fun k hk => by
  subst hk; exact Nat.le_of_ble_eq_true h

section
variable {P : Program} {N : Nat} {ops : Array Oper} {i : Nat} {K : Env → World → Prop} {ρ : Env} {w : World}

theorem wanted_eq {o : Oper} {a : Act} (ha : Rep a ρ N) : Region.wanted o (yielded ops a.tmps) = Region.wanted o (nyield ops ρ) := by
  unfold Region.wanted
  cases o.guard with
  | none => rfl
  | some g => simp only [ha.yielded ops ha.hu]

/-- The general step: whatever the operation runs to. -/
theorem WPo.run {o : Oper} (ho : ops[i]? = some o) (hw : Region.wanted o (nyield ops ρ) = true)
    (h : ∀ a, Rep a ρ N → Oper.upon P o a (fun a' w' => ∃ ρ', Rep a' ρ' N ∧ K ρ' w') NoQ ((execOp (ev ρ) o).run P w)) : WPo P N ops i K ρ w := fun a ha => by
  unfold wpOp
  simp only [ho, wanted_eq ha, hw, if_true]
  refine .inl ?_
  unfold Oper.wp
  rw [ha.eval]
  exact h a ha

theorem opv_some {d : Option Nat} {b : Bool} {r : Result Next} (h : opv P ops i ρ w = some (d, b, r)) : ∃ o, ops[i]? = some o ∧ o.dst = d ∧ Region.wanted o (nyield ops ρ) = b ∧ (execOp (ev ρ) o).run P w = r := by
  unfold opv at h
  cases ho : ops[i]? with
  | none => rw [ho] at h; cases h
  | some o => rw [ho] at h; simp at h; exact ⟨o, rfl, h⟩
theorem opn_some {d : Option Nat} {b : Bool} (h : opn ops i ρ = some (d, b)) : ∃ o, ops[i]? = some o ∧ o.dst = d ∧ Region.wanted o (nyield ops ρ) = b := by
  unfold opn at h
  cases ho : ops[i]? with
  | none => rw [ho] at h; cases h
  | some o => rw [ho] at h; simp at h; exact ⟨o, rfl, h⟩
theorem opk_some {d : Option Nat} {b : Bool} {r : Op} (h : opk ops i ρ = some (d, b, r)) : ∃ o, ops[i]? = some o ∧ o.dst = d ∧ Region.wanted o (nyield ops ρ) = b ∧ o.op = r := by
  unfold opk at h
  cases ho : ops[i]? with
  | none => rw [ho] at h; cases h
  | some o => rw [ho] at h; simp at h; exact ⟨o, rfl, h⟩

theorem o_val (d : Option Nat) (v : Value) (h : opv P ops i ρ w = some (d, true, .ok (.value v) w)) (hd : dOK d N = true) (k : K (updO ρ d v) w) : WPo P N ops i K ρ w := by
  obtain ⟨o, ho, rfl, hw, hr⟩ := opv_some h
  refine WPo.run ho hw fun a ha => ?_
  rw [hr, Oper.upon_value]
  exact ⟨_, ha.put _ (dOK_lt hd) v, k⟩
/-- Operation i: its slot, whether it is wanted. -/
theorem o_not (d : Option Nat) (h : opn ops i ρ = some (d, false)) (hd : dOK d N = true) (k : K (updO ρ d undef) w) : WPo P N ops i K ρ w := by
  obtain ⟨o, ho, rfl, hw⟩ := opn_some h
  intro a ha
  unfold wpOp
  simp only [ho, wanted_eq ha, hw]
  exact ⟨_, ha.put _ (dOK_lt hd) undef, k⟩

/-- A run of Sem's that gives a value. -/
theorem o_gen (d : Option Nat) (op : Op) (v : Value) (w' : World) (h : opk ops i ρ = some (d, true, op)) (hd : dOK d N = true)
    (hr : ∀ o : Oper, o.op = op → (execOp (ev ρ) o).run P w = .ok (.value v) w') (k : K (updO ρ d v) w') : WPo P N ops i K ρ w := by
  obtain ⟨o, ho, rfl, hw, hop⟩ := opk_some h
  refine WPo.run ho hw fun a ha => ?_
  rw [hr o hop, Oper.upon_value]
  exact ⟨_, ha.put _ (dOK_lt hd) v, k⟩
theorem o_genS (d : Option Nat) (op : Op) (w' : World) (h : opk ops i ρ = some (d, true, op)) (hd : dOK d N = true)
    (hr : ∀ o : Oper, o.op = op → (execOp (ev ρ) o).run P w = .ok .skip w') (k : K (updO ρ d undef) w') : WPo P N ops i K ρ w := by
  obtain ⟨o, ho, rfl, hw, hop⟩ := opk_some h
  refine WPo.run ho hw fun a ha => ?_
  rw [hr o hop, Oper.upon_skip]
  exact ⟨_, ha.put _ (dOK_lt hd) undef, k⟩

def aggSize (P : Program) (t : TypeId) : Option Nat :=
  match P.underlying t with
  | some (.struct _) | some (.array _ _) => (P.info? t).map (·.size)
  | _ => none
def oneCell (P : Program) (t : TypeId) : Bool :=
  match P.underlying t with
  | some (.struct _) | some (.array _ _) | none => false
  | _ => (P.info? t).map (·.size) == some 1

theorem aggSize_spec {t : TypeId} {n : Nat} (h : aggSize P t = some n) : ∃ d, P.underlying t = some d ∧ (match d with | .struct _ | .array _ _ => true | _ => false) = true ∧ (P.info? t).map (·.size) = some n := by
  unfold aggSize at h
  cases hu : P.underlying t with
  | none => rw [hu] at h; cases h
  | some d => rw [hu] at h; cases d <;> first | (cases h; done) | exact ⟨_, rfl, rfl, h⟩
theorem oneCell_spec {t : TypeId} (h : oneCell P t = true) : ∃ d, P.underlying t = some d ∧ (match d with | .struct _ | .array _ _ => true | _ => false) = false ∧ (P.info? t).map (·.size) = some 1 := by
  unfold oneCell at h
  cases hu : P.underlying t with
  | none => rw [hu] at h; cases h
  | some d => rw [hu] at h; cases d <;> first | (cases h; done) | exact ⟨_, rfl, rfl, eq_of_beq h⟩

/-! ### Loads -/
theorem load_agg {t : TypeId} {n b off : Nat} {C : Array Value} {T : TypeId} {fz : Nat × Nat} (ht : aggSize P t = some n) (hh : w.heap[b]? = some (.cells C T fz)) (hs : off + n ≤ C.size) :
    (loadVar t ⟨b, off, none⟩).run P w = .ok (.agg (C.extract off (off + n))) w := by
  obtain ⟨d, hu, hd, hi⟩ := aggSize_spec ht
  have hA : (isAgg t).run P w = .ok true w := by cases d <;> simp_all [isAgg, run_underlying hu]
  have hS : (sizeOf t).run P w = .ok n w := by
    cases hq : P.info? t with
    | none => simp [hq] at hi
    | some i => simp [hq] at hi; simp [sizeOf, typeInfo, hq, hi]
  have hC : (loadCells ⟨b, off, none⟩ n).run P w = .ok (C.extract off (off + n)) w := by
    rw [run_loadCells w ⟨b, off, none⟩ n (fun j => C.getD (off + j) undef) (fun j hj => by
      have ha : (⟨b, off, none⟩ : Addr).add j = ⟨b, off + j, none⟩ := by unfold Addr.add; split <;> simp_all
      rw [ha]
      have : off + j < C.size := by omega
      simp [World.cell?, hh, this])]
    congr 1
    apply Array.ext
    · simp; omega
    · intro j h1 h2
      simp at h1 h2
      have : off + j < C.size := by omega
      simp [this]
  simp [loadVar, hA, hS, hC]
theorem load_one {t : TypeId} {b off : Nat} {C : Array Value} {T : TypeId} {fz : Nat × Nat} {v : Value} (ht : oneCell P t = true) (hh : w.heap[b]? = some (.cells C T fz)) (hv : C[off]? = some v) :
    (loadVar t ⟨b, off, none⟩).run P w = .ok v w := by
  obtain ⟨d, hu, hd, hi⟩ := oneCell_spec ht
  have hA : (isAgg t).run P w = .ok false w := by cases d <;> simp_all [isAgg, run_underlying hu]
  have hL : (load ⟨b, off, none⟩).run P w = .ok v w := by
    rw [run_load]; simp [World.cell?, hh, hv]
  simp only [loadVar, Sem.run_bind, hA, Result.andThen_ok, Bool.false_eq_true, if_false, hL]

/-- A load of a whole block. -/
theorem o_load (d : Option Nat) (t : TypeId) (x : Operand) (b : Nat) (C : Array Value) (T : TypeId) (fz : Nat × Nat) (h : opk ops i ρ = some (d, true, .load t x)) (hd : dOK d N = true)
    (hx : ev ρ x = .pointer (some ⟨b, 0, none⟩)) (hh : w.heap[b]? = some (.cells C T fz)) (ht : aggSize P t = some C.size) (k : K (updO ρ d (.agg C)) w) : WPo P N ops i K ρ w :=
  o_gen d _ _ w h hd (fun o ho => by
    have := load_agg (w := w) (off := 0) ht hh (by omega)
    have e : C.extract 0 (0 + C.size) = C := by simp
    rw [e] at this
    simp [execOp, ho, Instr.loadAt, Instr.sureAddr, hx, this]) k
/-- A load of a part of a block. -/
theorem o_loadp (d : Option Nat) (t : TypeId) (x : Operand) (b off n : Nat) (C V : Array Value) (T : TypeId) (fz : Nat × Nat) (h : opk ops i ρ = some (d, true, .load t x)) (hd : dOK d N = true)
    (hx : ev ρ x = .pointer (some ⟨b, off, none⟩)) (hh : w.heap[b]? = some (.cells C T fz)) (ht : aggSize P t = some n) (hs : off + n ≤ C.size) (hV : C.extract off (off + n) = V) (k : K (updO ρ d (.agg V)) w) : WPo P N ops i K ρ w :=
  o_gen d _ _ w h hd (fun o ho => by
    have := load_agg (w := w) ht hh hs
    rw [hV] at this
    simp [execOp, ho, Instr.loadAt, Instr.sureAddr, hx, this]) k
/-- A load of one cell. -/
theorem o_load1 (d : Option Nat) (t : TypeId) (x : Operand) (b off : Nat) (C : Array Value) (T : TypeId) (fz : Nat × Nat) (v : Value) (h : opk ops i ρ = some (d, true, .load t x)) (hd : dOK d N = true)
    (hx : ev ρ x = .pointer (some ⟨b, off, none⟩)) (hh : w.heap[b]? = some (.cells C T fz)) (ht : oneCell P t = true) (hv : C[off]? = some v) (k : K (updO ρ d v) w) : WPo P N ops i K ρ w :=
  o_gen d _ _ w h hd (fun o ho => by
    have := load_one (w := w) ht hh hv
    simp [execOp, ho, Instr.loadAt, Instr.sureAddr, hx, this]) k

/-! ### Stores -/
theorem store_agg {t : TypeId} {b off : Nat} {C : Array Value} {T : TypeId} {v : Value} (hi : (P.info? t).map (·.size) = some v.cells.size) (h1 : v.cells.all (·.oneCell') = true)
    (hh : w.heap[b]? = some (.cells C T (0, 0))) (hs : off + v.cells.size ≤ C.size) :
    (storeVar t ⟨b, off, none⟩ v).run P w = .ok () (w.setRow b (C.toList.take off ++ v.cells.toList ++ C.toList.drop (off + v.cells.size)).toArray) := by
  have hc := run_storeCells_at (P := P) b off T v.cells.toList 0 C w hh (by simpa using hs) (fun x hx => (Array.all_eq_true_iff_forall_mem.1 h1) x (by simpa using hx))
  cases hq : P.info? t with
  | none => simp [hq] at hi
  | some i =>
    have hsz : v.cells.size = i.size := by simp [hq] at hi; omega
    simp [storeVar, sizeOf, typeInfo, hq, hsz] at hc ⊢
    exact hc
/-- A store: block k of the list holds C' behind it. -/
theorem o_store {B : Nat} {w0 : World} {l : List (Nat × Obj)} (HS : St B w0 w l) (k : Nat) (l' : List (Nat × Obj)) (d : Option Nat) (t : TypeId) (x y : Operand) (b off : Nat) (C C' : Array Value) (T : TypeId) (v : Value)
    (h : opk ops i ρ = some (d, true, .store t x y)) (hd : dOK d N = true)
    (hx : ev ρ x = .pointer (some ⟨b, off, none⟩)) (hy : ev ρ y = v) (hk : l[k]? = some (b, .cells C T (0, 0))) (hi : (P.info? t).map (·.size) = some v.cells.size) (h1 : v.cells.all (·.oneCell') = true)
    (hs : off + v.cells.size ≤ C.size) (hC : (C.toList.take off ++ v.cells.toList ++ C.toList.drop (off + v.cells.size)).toArray = C') (hl : l.set k (b, .cells C' T (0, 0)) = l')
    (kk : ∀ w', St B w0 w' l' → K (updO ρ d undef) w') : WPo P N ops i K ρ w := by
  subst hl
  refine o_genS d _ (w.setRow b C') h hd (fun o ho => ?_) (kk _ (HS.store k hk))
  have := store_agg (P := P) (w := w) hi h1 (HS.get k hk) hs
  rw [hC] at this
  simp [execOp, ho, Instr.storeAt, Instr.sureAddr, hx, hy, this]

/-! ### New blocks -/
theorem o_alloc {B : Nat} {w0 : World} {l : List (Nat × Obj)} (HS : St B w0 w l) (d : Option Nat) (t : TypeId) (z : Value) (h : opk ops i ρ = some (d, true, .alloc t)) (hd : dOK d N = true)
    (hz : (P.info? t).bind (·.zero) = some z)
    (kk : ∀ b w', St B w0 w' ((b, .cells z.cells t (0, 0)) :: l) → K (updO ρ d (.pointer (some ⟨b, 0, none⟩))) w') : WPo P N ops i K ρ w := by
  refine o_gen d _ _ (w.alloc (.cells z.cells t (0, 0))) h hd (fun o ho => ?_) (kk w.heap.size _ (HS.alloc _))
  cases hq : P.info? t with
  | none => simp [hq] at hz
  | some i =>
    simp [hq] at hz
    simp [execOp, ho, Instr.alloc, zeroValue, typeInfo, hq, hz, newVar, newRow, newObj]
    rfl
theorem o_box {B : Nat} {w0 : World} {l : List (Nat × Obj)} (HS : St B w0 w l) (d : Option Nat) (t : TypeId) (x : Operand) (v : Value) (h : opk ops i ρ = some (d, true, .box t x)) (hd : dOK d N = true)
    (hx : ev ρ x = v)
    (kk : ∀ b w', St B w0 w' ((b, .cells v.cells t (0, 0)) :: l) → K (updO ρ d (.pointer (some ⟨b, 0, none⟩))) w') : WPo P N ops i K ρ w := by
  refine o_gen d _ _ (w.alloc (.cells v.cells t (0, 0))) h hd (fun o ho => ?_) (kk w.heap.size _ (HS.alloc _))
  simp [execOp, ho, Instr.box, newVar, newRow, newObj, hx]
  rfl

/-! ### Calls -/
/-- The call gives v, and makes at most new blocks. -/
def Fn (P : Program) (f : Nat) (args : Array Value) (v : Value) : Prop := ∀ w, Calls P f args w fun e w' => e = .returned v ∧ Below w.heap.size w w'
/-- The call, begun in a world as pre says, gives a value, makes at most new blocks, and R (the size of the heap before, the value, the world behind). -/
def FnR (P : Program) (f : Nat) (args : Array Value) (pre : World → Prop) (R : Nat → Value → World → Prop) : Prop :=
  ∀ w, pre w → Calls P f args w fun e w' => ∃ v, e = .returned v ∧ Below w.heap.size w w' ∧ R w.heap.size v w'
theorem o_callR {B : Nat} {w0 : World} {l : List (Nat × Obj)} (HS : St B w0 w l) (d : Option Nat) (f : Nat) (args : Array Value) (pre : World → Prop) (R : Nat → Value → World → Prop) (hc : FnR P f args pre R) (hp : pre w)
    (h : opv P ops i ρ w = some (d, true, .ok (.enter f args) w)) (hd : dOK d N = true)
    (kk : ∀ v w', Below w.heap.size w w' → St B w0 w' l → R w.heap.size v w' → K (updO ρ d v) w') : WPo P N ops i K ρ w := by
  obtain ⟨o, ho, rfl, hw, hr⟩ := opv_some h
  refine WPo.run ho hw fun a ha => ?_
  rw [hr, Oper.upon_enter]
  refine (hc w hp).mono ?_
  rintro e w' ⟨v, rfl, hb, hR⟩
  exact ⟨_, ha.put _ (dOK_lt hd) v, kk v w' hb (HS.call hb) hR⟩
theorem o_call {B : Nat} {w0 : World} {l : List (Nat × Obj)} (HS : St B w0 w l) (d : Option Nat) (f : Nat) (args : Array Value) (v : Value) (hc : Fn P f args v)
    (h : ∀ w, opv P ops i ρ w = some (d, true, .ok (.enter f args) w)) (hd : dOK d N = true)
    (kk : ∀ w', St B w0 w' l → K (updO ρ d v) w') : WPo P N ops i K ρ w := by
  obtain ⟨o, ho, rfl, hw, hr⟩ := opv_some (h w)
  refine WPo.run ho hw fun a ha => ?_
  rw [hr, Oper.upon_enter]
  refine (hc w).mono ?_
  rintro e w' ⟨rfl, hb⟩
  exact ⟨_, ha.put _ (dOK_lt hd) v, kk w' (HS.call hb)⟩
end

/-! ### A function's beginning and end -/
inductive Res (P : Program) (w : World) (ρ : Env) : List ResultVar → List Value → Prop
  | nil : Res P w ρ [] []
  | tmp {t : Nat} {rs : List ResultVar} {vs : List Value} (v : Value) (hv : ρ t = v) (h : Res P w ρ rs vs) : Res P w ρ (.tmp t :: rs) (v :: vs)
  | agg {t b ty : Nat} {rs : List ResultVar} {vs : List Value} (C : Array Value) (T : TypeId) (fz : Nat × Nat) (hv : ρ t = .pointer (some ⟨b, 0, none⟩)) (hh : w.heap[b]? = some (.cells C T fz)) (ht : aggSize P ty = some C.size)
      (h : Res P w ρ rs vs) : Res P w ρ (.cell t ty :: rs) (.agg C :: vs)
  | one {t b ty : Nat} {rs : List ResultVar} {vs : List Value} (v : Value) (C : Array Value) (T : TypeId) (fz : Nat × Nat) (hv : ρ t = .pointer (some ⟨b, 0, none⟩)) (hh : w.heap[b]? = some (.cells C T fz)) (ht : oneCell P ty = true)
      (hc : C[0]? = some v) (h : Res P w ρ rs vs) : Res P w ρ (.cell t ty :: rs) (v :: vs)
def pack : List Value → Value
  | [v] => v
  | vs => .tuple vs.toArray
def resOne (tmps : Array Value) : ResultVar → Sem Value
  | .tmp t => pure (tmps.getD t undef)
  | .cell a t => do loadVar t (← asAddr (tmps.getD a undef))
theorem Res.mapM {P : Program} {w : World} {ρ : Env} {a : Act} {N : Nat} (ha : Rep a ρ N) : ∀ {rs : List ResultVar} {vs : List Value}, Res P w ρ rs vs → (rs.mapM (resOne a.tmps)).run P w = .ok vs w
  | _, _, .nil => rfl
  | _, _, .tmp v hv h => by
    have e := ha.at_ _ |>.trans hv
    simp [List.mapM_cons, resOne, e, Res.mapM ha h]
  | _, _, .agg C T fz hv hh ht h => by
    have e := ha.at_ _ |>.trans hv
    have hl := load_agg (w := w) (off := 0) ht hh (by omega)
    have e2 : C.extract 0 (0 + C.size) = C := by simp
    rw [e2] at hl
    simp [List.mapM_cons, resOne, e, asAddr, hl, Res.mapM ha h]
  | _, _, .one v C T fz hv hh ht hc h => by
    have e := ha.at_ _ |>.trans hv
    have hl := load_one (w := w) ht hh hc
    simp [List.mapM_cons, resOne, e, asAddr, hl, Res.mapM ha h]
theorem Res.run {P : Program} {w : World} {ρ : Env} {a : Act} {N : Nat} {fn : Func} {vs : List Value} (ha : Rep a ρ N) (h : Res P w ρ fn.results.toList vs) : (results fn a.tmps).run P w = .ok (pack vs) w := by
  have e : results fn a.tmps = (do let vs ← fn.results.mapM (resOne a.tmps); pure (if h : vs.size = 1 then vs[0] else .tuple vs)) := by
    unfold results
    congr 1
  rw [e, Array.mapM_eq_mapM_toList]
  have := Res.mapM ha h
  simp only [map_eq_pure_bind, bind_assoc, pure_bind]
  rw [Sem.run_bind, this]
  match vs with
  | [] => rfl
  | [v] => rfl
  | _ :: _ :: _ => rfl

/-- The end of a function: R of what it gives. -/
def ends (P : Program) (rs : List ResultVar) (R : Value → World → Prop) : Exit → Env → World → Prop
  | .normal, ρ, w | .ret, ρ, w => ∃ vs, Res P w ρ rs vs ∧ R (pack vs) w
  | _, _, _ => False

theorem calls_intro {P : Program} {f : Nat} {fn : Func} {c : Code} {rs : List ResultVar} {N : Nat} {args : Array Value} {w : World} {R : Value → World → Prop} (hf : P.funcs[f]? = some fn) (hb : fn.body = some c) (hr : fn.results.toList = rs) (hn : args.size + (fn.ntmps - args.size) = N)
    (h : WP P N c (ends P rs R) (ini args) w) : Calls P f args w fun e w' => ∃ v, e = .returned v ∧ R v w' := by
  subst hr
  refine calls_of_wp hf hb (Go.wp_mono (h { tmps := args ++ Array.replicate (fn.ntmps - args.size) undef, defers := [] } ⟨rfl, by simp [hn], fun t => ?_⟩) ?_)
  · unfold ini
    rw [getD_eq_get?, getD_eq_get?, Array.getElem?_append]
    split
    · rfl
    · rename_i hge
      rw [Array.getElem?_eq_none (Nat.le_of_not_lt hge)]
      cases he : (Array.replicate (fn.ntmps - args.size) undef)[t - args.size]? with
      | none => rfl
      | some v =>
        have := Array.mem_of_getElem? he
        simp at this
        simp [this]
  · rintro e a w' ⟨ρ, ha, hq⟩
    cases e with
    | normal => obtain ⟨vs, hR, hv⟩ := hq; exact ⟨ha.defers, _, hR.run ha, _, rfl, hv⟩
    | ret => obtain ⟨vs, hR, hv⟩ := hq; exact ⟨ha.defers, _, hR.run ha, _, rfl, hv⟩
    | _ => exact (hq : False).elim

theorem Fn.intro {P : Program} {f : Nat} {fn : Func} {c : Code} (rs : List ResultVar) (N : Nat) {args : Array Value} {v : Value} (hf : P.funcs[f]? = some fn) (hb : fn.body = some c) (hr : fn.results.toList = rs) (hn : args.size + (fn.ntmps - args.size) = N)
    (h : ∀ w, WP P N c (ends P rs fun v' w' => v' = v ∧ Below w.heap.size w w') (ini args) w) : Fn P f args v := fun w =>
  (calls_intro hf hb hr hn (h w)).mono fun e w' ⟨v', he, hv, hb⟩ => by subst hv; exact ⟨he, hb⟩
theorem FnR.intro {P : Program} {f : Nat} {fn : Func} {c : Code} (rs : List ResultVar) (N : Nat) {args : Array Value} {pre : World → Prop} {R : Nat → Value → World → Prop} (hf : P.funcs[f]? = some fn) (hb : fn.body = some c) (hr : fn.results.toList = rs) (hn : args.size + (fn.ntmps - args.size) = N)
    (h : ∀ w, pre w → WP P N c (ends P rs fun v' w' => Below w.heap.size w w' ∧ R w.heap.size v' w') (ini args) w) : FnR P f args pre R := fun w hp =>
  (calls_intro hf hb hr hn (h w hp)).mono fun e w' ⟨v', he, hv⟩ => ⟨v', he, hv⟩
end Go.Proofs.Ytljhbhhpfkmemaa
