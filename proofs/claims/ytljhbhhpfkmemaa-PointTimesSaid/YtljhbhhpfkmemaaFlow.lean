/-
  A logic of steps over environments: what a function's text does, slot by slot, with the call's own blocks in a list.
-/
import Derived.WalkKit
import Derived.ProofKit
namespace Go.Proofs.Ytljhbhhpfkmemaa
open Go Go.RowKit
set_option linter.unusedVariables false
theorem kr {α : Sort _} {a b : α} (h : a = b := by kernel_rfl) : a = b := h
abbrev Oc (v : Value) (T : TypeId) : Obj := .cells v.cells T (0, 0)
abbrev Od (C : Array Value) (T : TypeId) : Obj := .cells C T (0, 0)
abbrev Z4 : Array Value := #[.int .u64 0, .int .u64 0, .int .u64 0, .int .u64 0]
abbrev Z9 : Array Value := #[.int .u64 0, .int .u64 0, .int .u64 0, .int .u64 0, .int .u64 0, .int .u64 0, .int .u64 0, .int .u64 0, .bool false]
abbrev Z13 : Array Value := #[.int .u64 0, .int .u64 0, .int .u64 0, .int .u64 0, .int .u64 0, .int .u64 0, .int .u64 0, .int .u64 0, .bool false, .int .u64 0, .int .u64 0, .int .u64 0, .int .u64 0]

@[reducible] def Env := Nat → Value
def upd (ρ : Env) (d : Nat) (v : Value) : Env := fun t => bif Nat.beq t d then v else ρ t
def updO (ρ : Env) : Option Nat → Value → Env
  | some d, v => upd ρ d v
  | none, _ => ρ
def ev (ρ : Env) : Operand → Value
  | .tmp t => ρ t
  | .const v => v
  | .global g => .pointer (some ⟨g, 0, none⟩)
  | .func f => .func (.func f) #[] #[]
def ini (args : Array Value) : Env := fun t => args.getD t undef

structure Rep (a : Act) (ρ : Env) (N : Nat) : Prop where
  defers : a.defers = []
  size : a.tmps.size = N
  at_ : ∀ t, a.tmps.getD t undef = ρ t

theorem Rep.eval {a : Act} {ρ : Env} {N : Nat} (h : Rep a ρ N) : a.eval = ev ρ := by
  funext x; cases x <;> first | rfl | exact h.at_ _

theorem getD_eq_get? (a : Array Value) (t : Nat) : a.getD t undef = (a[t]?).getD undef := by
  simp [Array.getD_eq_getD_getElem?]

theorem Rep.get? {a : Act} {ρ : Env} {N : Nat} (h : Rep a ρ N) {t : Nat} (ht : t < N) : a.tmps[t]? = some (ρ t) := by
  have e := h.at_ t
  rw [getD_eq_get?] at e
  have : t < a.tmps.size := by rw [h.size]; exact ht
  rw [Array.getElem?_eq_getElem this] at e ⊢
  simpa using e

theorem Rep.put {a : Act} {ρ : Env} {N : Nat} (h : Rep a ρ N) (d : Option Nat) (hd : ∀ k, d = some k → k < N) (v : Value) : Rep (a.put d v) (updO ρ d v) N := by
  cases d with
  | none => exact h
  | some k =>
    have hk := hd k rfl
    refine ⟨h.defers, by simp [Act.put, h.size], fun t => ?_⟩
    have e := h.at_ t
    rw [getD_eq_get?] at e ⊢
    simp only [Act.put, updO, upd, Array.getElem?_setIfInBounds]
    by_cases hkt : k = t
    · subst hkt; simp [h.size, hk]
    · have : Nat.beq t k = false := by
        cases hb : Nat.beq t k with
        | false => rfl
        | true => exact absurd (Nat.eq_of_beq_eq_true hb).symm hkt
      simp [hkt, this, e]

def nyield (ops : Array Oper) (ρ : Env) (j : Nat) : Option Bool :=
  match (ops[j]?).bind (·.dst) with
  | some d => match ρ d with | .bool b => some b | _ => none
  | none => none

theorem Rep.yielded {a : Act} {ρ : Env} {N : Nat} (h : Rep a ρ N) (ops : Array Oper) (hu : ∀ t, N ≤ t → ρ t = undef) (j : Nat) : Go.yielded ops a.tmps j = nyield ops ρ j := by
  unfold Go.yielded nyield
  cases hd : (ops[j]?).bind (·.dst) with
  | none => rfl
  | some d =>
    simp only [Option.bind_some]
    by_cases hlt : d < N
    · rw [h.get? hlt]; cases ρ d <;> rfl
    · rw [hu d (Nat.le_of_not_lt hlt), Array.getElem?_eq_none (by rw [h.size]; exact Nat.le_of_not_lt hlt)]; rfl

/-- The slots from N on hold nothing. -/
theorem Rep.hu {a : Act} {ρ : Env} {N : Nat} (h : Rep a ρ N) : ∀ t, N ≤ t → ρ t = undef := fun t ht => by
  rw [← h.at_ t, getD_eq_get?, Array.getElem?_eq_none (by rw [h.size]; exact ht)]; rfl

def lift (N : Nat) (Q : Exit → Env → World → Prop) : Exit → Act → World → Prop := fun e a w => ∃ ρ, Rep a ρ N ∧ Q e ρ w

/-- The text c, begun in the environment ρ, ends in Q. -/
def WP (P : Program) (N : Nat) (c : Code) (Q : Exit → Env → World → Prop) (ρ : Env) (w : World) : Prop :=
  ∀ a, Rep a ρ N → c.wp P (lift N Q) a w

section
variable {P : Program} {N : Nat} {Q : Exit → Env → World → Prop} {ρ : Env} {w : World}

theorem WP.mono {c : Code} {Q' : Exit → Env → World → Prop} (h : WP P N c Q ρ w) (hq : ∀ e ρ w, Q e ρ w → Q' e ρ w) : WP P N c Q' ρ w :=
  fun a ha => Go.wp_mono (h a ha) fun _ _ _ ⟨r, hr, q⟩ => ⟨r, hr, hq _ _ _ q⟩

def nx (K : Env → World → Prop) (Q : Exit → Env → World → Prop) : Exit → Env → World → Prop
  | .normal, ρ, w => K ρ w
  | e, ρ, w => Q e ρ w

theorem WP.seq {x y : Code} (h : WP P N x (nx (WP P N y Q) Q) ρ w) : WP P N (.seq x y) Q ρ w := fun a ha =>
  wp_seq (Go.wp_mono (h a ha) fun e a' w' ⟨r, hr, q⟩ => by
    cases e <;> first | exact q a' hr | exact ⟨r, hr, q⟩)

theorem WP.skip (h : Q .normal ρ w) : WP P N .skip Q ρ w := fun a ha => wp_skip ⟨ρ, ha, h⟩
theorem WP.ret (h : Q .ret ρ w) : WP P N .ret Q ρ w := fun a ha => wp_ret ⟨ρ, ha, h⟩
theorem WP.exit {id : Nat} (h : Q (.exit id) ρ w) : WP P N (.exit id) Q ρ w := fun a ha => wp_exit ⟨ρ, ha, h⟩
theorem WP.label {id : Nat} (h : Q .normal ρ w) : WP P N (.label id) Q ρ w := fun a ha => wp_label ⟨ρ, ha, h⟩

theorem WP.cond {c : Operand} {x y : Code} (b : Bool) (hc : ev ρ c = .bool b) (ht : b = true → WP P N x Q ρ w) (hf : b = false → WP P N y Q ρ w) : WP P N (.cond c x y) Q ρ w := fun a ha => by
  cases b
  · exact wp_cond_false (by rw [ha.eval]; exact hc) (hf rfl a ha)
  · exact wp_cond_true (by rw [ha.eval]; exact hc) (ht rfl a ha)
theorem WP.cond_t {c : Operand} {x y : Code} (hc : ev ρ c = .bool true) (h : WP P N x Q ρ w) : WP P N (.cond c x y) Q ρ w :=
  WP.cond true hc (fun _ => h) (fun h => by cases h)
theorem WP.cond_f {c : Operand} {x y : Code} (hc : ev ρ c = .bool false) (h : WP P N y Q ρ w) : WP P N (.cond c x y) Q ρ w :=
  WP.cond false hc (fun h => by cases h) (fun _ => h)

def inb (id : Nat) (Q : Exit → Env → World → Prop) : Exit → Env → World → Prop
  | .exit i, ρ, w => bif Nat.beq i id then Q .normal ρ w else Q (.exit i) ρ w
  | e, ρ, w => Q e ρ w

theorem WP.block {id : Nat} {c : Code} (h : WP P N c (inb id Q) ρ w) : WP P N (.block id c) Q ρ w := fun a ha =>
  wp_block (Go.wp_mono (h a ha) fun e a' w' ⟨r, hr, q⟩ => by
    cases e with
    | exit i =>
      simp only [inb] at q
      simp only [Exit.inBlock]
      split
      · rename_i hi; subst hi
        rw [Nat.beq_refl] at q
        exact ⟨r, hr, q⟩
      · rename_i hi
        have : Nat.beq i id = false := by
          cases hb : Nat.beq i id with
          | false => rfl
          | true => exact absurd (Nat.eq_of_beq_eq_true hb) hi
        rw [this] at q
        exact ⟨r, hr, q⟩
    | _ => exact ⟨r, hr, q⟩)

/-- A loop, with a measure that stands in the relation. -/
theorem WP.loop {c : Code} (I : Nat → Env → World → Prop) (n : Nat) (h0 : I n ρ w)
    (round : ∀ n ρ w, I n ρ w → WP P N c (nx (fun ρ' w' => ∃ m, m < n ∧ I m ρ' w') Q) ρ w) : WP P N (.loop c) Q ρ w := fun a ha => by
  have : ∃ m, ∃ ρ, Rep a ρ N ∧ I m ρ w := ⟨n, ρ, ha, h0⟩
  intro b k cs
  have key : ∀ n a ρ w, Rep a ρ N → I n ρ w →
      ∃ e a' w', lift N Q e a' w' ∧ Arrives P (lone (b.at a (.code c :: .inLoop c :: k)) cs w) b k cs e a' w' := by
    intro n
    induction n using Nat.strongRecOn with
    | _ n ih =>
      intro a ρ w ha hI
      obtain ⟨e, a₁, w₁, ⟨ρ₁, hr, hq⟩, harr⟩ := round n ρ w hI a ha b (.inLoop c :: k) cs
      cases e with
      | normal =>
        obtain ⟨m, hlt, hI₁⟩ := hq
        obtain ⟨e₂, a₂, w₂, hq₂, harr₂⟩ := ih m hlt a₁ ρ₁ w₁ hr hI₁
        exact ⟨e₂, a₂, w₂, hq₂, .of_steps (Steps.trans harr (.one step_inLoop)) harr₂⟩
      | exit id => exact ⟨_, a₁, w₁, ⟨ρ₁, hr, hq⟩, .pass (x := .inLoop c) rfl (fun _ _ => .inl (by simp)) harr⟩
      | goto l => exact ⟨_, a₁, w₁, ⟨ρ₁, hr, hq⟩, .pass (x := .inLoop c) rfl (fun _ _ => .inl (by simp)) harr⟩
      | ret => exact ⟨_, a₁, w₁, ⟨ρ₁, hr, hq⟩, .pass (x := .inLoop c) rfl (fun _ _ => .inl (by simp)) harr⟩
      | panic ch => exact ⟨_, a₁, w₁, ⟨ρ₁, hr, hq⟩, .pass (x := .inLoop c) rfl (fun _ _ => .inl (by simp)) harr⟩
      | outgrown => exact ⟨_, a₁, w₁, ⟨ρ₁, hr, hq⟩, .pass (x := .inLoop c) rfl (fun _ _ => .inl (by simp)) harr⟩
  obtain ⟨e, a', w', hq, harr⟩ := key n a ρ w ha h0
  exact ⟨e, a', w', hq, .of_steps (.one step_loop) harr⟩

/-- The loop in its place, behind a round. -/
def WPL (P : Program) (N : Nat) (c : Code) (Q : Exit → Env → World → Prop) (ρ : Env) (w : World) : Prop :=
  ∀ a, Rep a ρ N → ∀ b k cs, ∃ e a' w', lift N Q e a' w' ∧ Arrives P (lone (b.at a (.inLoop c :: k)) cs w) b k cs e a' w'

theorem WPL.go {c : Code} {m : Machine} {a : Act} {b : Frame} {k : List Item} {cs : List Frame} (ha : Rep a ρ N) (hm : Steps P m (lone (b.at a (.code c :: .inLoop c :: k)) cs w))
    (h : WP P N c (nx (WPL P N c Q) Q) ρ w) : ∃ e a' w', lift N Q e a' w' ∧ Arrives P m b k cs e a' w' := by
  obtain ⟨e, a₁, w₁, ⟨ρ₁, hr, hq⟩, harr⟩ := h a ha b (.inLoop c :: k) cs
  cases e with
  | normal =>
    obtain ⟨e₂, a₂, w₂, hq₂, harr₂⟩ := hq a₁ hr b k cs
    exact ⟨e₂, a₂, w₂, hq₂, .of_steps (Steps.trans hm harr) harr₂⟩
  | exit id => exact ⟨_, a₁, w₁, ⟨ρ₁, hr, hq⟩, .of_steps hm (.pass (x := .inLoop c) rfl (fun _ _ => .inl (by simp)) harr)⟩
  | goto l => exact ⟨_, a₁, w₁, ⟨ρ₁, hr, hq⟩, .of_steps hm (.pass (x := .inLoop c) rfl (fun _ _ => .inl (by simp)) harr)⟩
  | ret => exact ⟨_, a₁, w₁, ⟨ρ₁, hr, hq⟩, .of_steps hm (.pass (x := .inLoop c) rfl (fun _ _ => .inl (by simp)) harr)⟩
  | panic ch => exact ⟨_, a₁, w₁, ⟨ρ₁, hr, hq⟩, .of_steps hm (.pass (x := .inLoop c) rfl (fun _ _ => .inl (by simp)) harr)⟩
  | outgrown => exact ⟨_, a₁, w₁, ⟨ρ₁, hr, hq⟩, .of_steps hm (.pass (x := .inLoop c) rfl (fun _ _ => .inl (by simp)) harr)⟩

theorem WPL.next {c : Code} (h : WP P N c (nx (WPL P N c Q) Q) ρ w) : WPL P N c Q ρ w :=
  fun _ ha _ _ _ => WPL.go ha (.one step_inLoop) h
theorem WP.first {c : Code} (h : WP P N c (nx (WPL P N c Q) Q) ρ w) : WP P N (.loop c) Q ρ w :=
  fun _ ha _ _ _ => WPL.go ha (.one step_loop) h
end
end Go.Proofs.Ytljhbhhpfkmemaa
