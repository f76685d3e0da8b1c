/-
  Points as values; '==' of two of them; calls that lay a block and hand over its address.
-/
import Derived.Test.YtljhbhhpfkmemaaTxt
import Derived.Test.YtljhbhhpfkmemaaEcP
import Derived.Test.YtljhbhhpfkmemaaField3
import Derived.Test.YtljhbhhpfkmemaaRefF
import Derived.Laws.StructEq
import Derived.ChangeKeysEq
namespace Go.Proofs.Ytljhbhhpfkmemaa
open Go Go.RowKit
set_option linter.unusedVariables false
@[reducible] def wu0 (n : Nat) : Int := w0 n
@[reducible] def wu1 (n : Nat) : Int := w1 n
@[reducible] def wu2 (n : Nat) : Int := w2 n
@[reducible] def wu3 (n : Nat) : Int := w3 n
def pv (p : Ec.Pd) : Value := .agg #[.int .u64 (w0 p.X), .int .u64 (w1 p.X), .int .u64 (w2 p.X), .int .u64 (w3 p.X), .int .u64 (w0 p.Y), .int .u64 (w1 p.Y), .int .u64 (w2 p.Y), .int .u64 (w3 p.Y), .bool p.b]
def wv (p : Ec.Wp) : Value := .agg #[.int .u64 (w0 p.X), .int .u64 (w1 p.X), .int .u64 (w2 p.X), .int .u64 (w3 p.X), .int .u64 (w0 p.Y), .int .u64 (w1 p.Y), .int .u64 (w2 p.Y), .int .u64 (w3 p.Y), .bool p.b, .int .u64 (w0 p.Z), .int .u64 (w1 p.Z), .int .u64 (w2 p.Z), .int .u64 (w3 p.Z)]
theorem pd_eq {p q : Ec.Pd} : (decide (p.X = q.X) && (decide (p.Y = q.Y) && (p.b == q.b))) = decide (p = q) := by
  obtain ⟨X, Y, b⟩ := p
  obtain ⟨X', Y', b'⟩ := q
  rw [Bool.eq_iff_iff]
  simp only [Bool.and_eq_true, decide_eq_true_iff, beq_iff_eq]
  exact ⟨fun ⟨a, b, c⟩ => by subst a b c; rfl, fun h => by injection h with a b c; exact ⟨a, b, c⟩⟩
theorem eqP (p q : Ec.Pd) (hp : p.Ok) (hq : q.Ok) (w : World) : (Op.equalIn 10000 26 (.agg (Value.cells (pv p))) (.agg (Value.cells (pv q)))).run Try.prog w = .ok (decide (p = q)) w := by
  rw [run_equalIn_struct w 9999 26 _ _ (by kernel_rfl) (by kernel_rfl),
    show (Try.prog.fieldsOf 26).toList = [{ name := "X", type := 24, offset := 0, embedded := false, tag := "", pkgPath := "", byteOffset := 0 }, { name := "Y", type := 24, offset := 4, embedded := false, tag := "", pkgPath := "", byteOffset := 32 }, { name := "Zero", type := 4, offset := 8, embedded := false, tag := "", pkgPath := "", byteOffset := 64 }] by kernel_rfl]
  have px : ∀ p, (part 24 (Value.cells (pv p)) 0).run Try.prog w = .ok (uv p.X) w := fun p => by kernel_rfl
  have py : ∀ p, (part 24 (Value.cells (pv p)) 4).run Try.prog w = .ok (uv p.Y) w := fun p => by kernel_rfl
  have pb : ∀ p, (part 4 (Value.cells (pv p)) 8).run Try.prog w = .ok (.bool p.b) w := fun p => by kernel_rfl
  have ex : (Op.equalIn 9999 24 (uv p.X) (uv q.X)).run Try.prog w = .ok (decide (p.X = q.X)) w := by
    rw [← uv_words hp.X hq.X]; exact eqU_any 9997 _ _ _ _ _ _ _ _ w
  have ey : (Op.equalIn 9999 24 (uv p.Y) (uv q.Y)).run Try.prog w = .ok (decide (p.Y = q.Y)) w := by
    rw [← uv_words hp.Y hq.Y]; exact eqU_any 9997 _ _ _ _ _ _ _ _ w
  have eb : (Op.equalIn 9999 4 (.bool p.b) (.bool q.b)).run Try.prog w = .ok (p.b == q.b) w := run_equalIn_bool w 9998 4 _ _ Try.underlying4
  have n1 : ("X" : String) ≠ "_" := by decide
  have n2 : ("Y" : String) ≠ "_" := by decide
  have n3 : ("Zero" : String) ≠ "_" := by decide
  rw [← pd_eq]
  simp only [Op.eqFields, if_pos n1, if_pos n2, if_pos n3, Sem.run_bind, px, py, pb, Result.andThen_ok, ex, ey, eb]
  cases decide (p.X = q.X)
  · simp
  · simp only [py, Bool.not_true, Bool.false_eq_true, if_false, Result.andThen_ok, ey, Sem.run_ite, Sem.run_bind, Bool.true_and]
    cases decide (p.Y = q.Y)
    · simp
    · simp only [pb, Bool.not_true, Bool.false_eq_true, if_false, Result.andThen_ok, eb, Sem.run_ite, Sem.run_bind, Bool.true_and]
      cases (p.b == q.b) <;> simp
theorem eqP_run {ρ : Env} (p q : Ec.Pd) (hp : p.Ok) (hq : q.Ok) {x y : Operand} {o : Oper} (w : World) (ho : o.op = .binOp .eql 26 x y 26) (hx : ev ρ x = .agg (Value.cells (pv p))) (hy : ev ρ y = .agg (Value.cells (pv q))) :
    (execOp (ev ρ) o).run Try.prog w = .ok (.value (.bool (decide (p = q)))) w := by
  have h := eqP p q hp hq w
  generalize Value.cells (pv p) = X at h hx
  generalize Value.cells (pv q) = Y at h hy
  unfold execOp
  simp only [ho, hx, hy, resolve, Sem.run_bind, Sem.run_pure, Result.andThen_ok, run_eqGuard_agg w _ _ _ _ _ _ (show Try.prog.eqGuardType Try.prog.depth 26 = false by kernel_rfl), run_eql_struct, run_neq_struct, h]
theorem neP_run {ρ : Env} (p q : Ec.Pd) (hp : p.Ok) (hq : q.Ok) {x y : Operand} {o : Oper} (w : World) (ho : o.op = .binOp .neq 26 x y 26) (hx : ev ρ x = .agg (Value.cells (pv p))) (hy : ev ρ y = .agg (Value.cells (pv q))) :
    (execOp (ev ρ) o).run Try.prog w = .ok (.value (.bool (!decide (p = q)))) w := by
  have h := eqP p q hp hq w
  generalize Value.cells (pv p) = X at h hx
  generalize Value.cells (pv q) = Y at h hy
  unfold execOp
  simp only [ho, hx, hy, resolve, Sem.run_bind, Sem.run_pure, Result.andThen_ok, run_eqGuard_agg w _ _ _ _ _ _ (show Try.prog.eqGuardType Try.prog.depth 26 = false by kernel_rfl), run_eql_struct, run_neq_struct, h]
section
variable {P : Program} {N : Nat} {ops : Array Oper} {i : Nat} {r : List Nat} {K : Env → World → Prop} {ρ : Env} {w : World} {B : Nat} {w0 : World} {l : List (Nat × Obj)}
/-- A call that hands over the address of a block of its own. -/
def RetP (T : TypeId) (C : Array Value) : Nat → Value → World → Prop := fun B v w' => ∃ b, v = .pointer (some ⟨b, 0, none⟩) ∧ B ≤ b ∧ w'.heap[b]? = some (.cells C T (0, 0))
theorem s_callN (HS : St B w0 w l) (d : Option Nat) (f : Nat) (args : Array Value) (pre : World → Prop) (T : TypeId) (C : Array Value) (hc : FnR P f args pre (RetP T C)) (hp : pre w)
    (h : opv P ops i ρ w = some (d, true, .ok (.enter f args) w)) (hd : dOK d N = true)
    (kk : ∀ b w', St B w0 w' ((b, .cells C T (0, 0)) :: l) → WPs P N ops K r (updO ρ d (.pointer (some ⟨b, 0, none⟩))) w') : WPs P N ops K (i :: r) ρ w := by
  obtain ⟨o, ho, rfl, hw, hr⟩ := opv_some h
  refine WPo.run ho hw fun a ha => ?_
  rw [hr, Oper.upon_enter]
  refine (hc w hp).mono ?_
  rintro e w' ⟨v, rfl, hb, b, rfl, hle, hh⟩
  exact ⟨_, ha.put _ (dOK_lt hd) _, kk b w' (HS.add hb hle hh)⟩
end
namespace D2
section
variable {P : Program} {ops : Array Oper} {R : (Nat → Gh) → Env} {i : Nat} {d : Option Nat}
variable {E : (Nat → Bool) → (Nat → Gh) → List Ent} {F : (Nat → Bool) → (Nat → Gh) → Prop} {B : Nat} {w0 : World}
theorem gv_callN (f : Nat) (args : (Nat → Gh) → Array Value) (pr : (Nat → Gh) → World → Prop) (T : TypeId) (C : Array Value) (k : Nat)
    (hc : ∀ L g, Now ops i L → F L g → FnR P f (args g) (pr g) (RetP T C)) (hpr : ∀ L g w, Now ops i L → StE B w0 w (E L g) → F L g → pr g w) (h : ∀ g w, opv P ops i (R g) w = some (d, true, .ok (.enter f (args g)) w))
    (hl : ∀ L g b, Now ops i L → (E L g).set k (true, (b, .cells C T (0, 0))) = E (put1 L i) (setN g i { b := b })) (hF : ∀ L g b, Now ops i L → F L g → F (put1 L i) (setN g i b)) :
    Gives P ops R (Pre B w0 E F) i d (fun x => .pointer (some ⟨x.b, 0, none⟩)) :=
  gv_callR f args pr (fun g => RetP T C) hc hpr h fun L g w v w' hN hE hFF hb ⟨b, hv, hle, hh⟩ => by
    have H2 := hE.add hb k hle hh
    rw [hl L g b hN] at H2
    exact ⟨{ b := b }, hv, H2, hF L g _ hN hFF⟩
/-- A new block whose cells hang on what others made. -/
theorem gv_newC (V : Nat → Value) (C : (Nat → Gh) → Array Value) (T : TypeId) (k : Nat) (h : ∀ g w, opv P ops i (R g) w = some (d, true, .ok (.value (V w.heap.size)) (w.alloc (.cells (C g) T (0, 0)))))
    (hl : ∀ L g (x : Gh), Now ops i L → (E L g).set k (true, (x.b, .cells x.cur T (0, 0))) = E (put1 L i) (setN g i x)) (hF : ∀ L g b, Now ops i L → F L g → F (put1 L i) (setN g i { b := b, cur := C g })) :
    Gives P ops R (Pre B w0 E F) i d (fun b => V b.b) := gives_of fun L g w hp hN => by
  obtain ⟨o, ho, hd, hw, hr⟩ := opv_some (h g w)
  have H2 := hp.1.add (w' := w.alloc (.cells (C g) T (0, 0))) ((Below.refl _ _).alloc (Nat.le_refl _) _) k (Nat.le_refl _) (heap_alloc_new w _)
  rw [hl L g { b := w.heap.size, cur := C g } hN] at H2
  exact ⟨o, ho, hd, .inr ⟨hw, by rw [hr]; exact ⟨{ b := w.heap.size, cur := C g }, rfl, H2, hF L g _ hN hp.2⟩⟩⟩
end
end D2
end Go.Proofs.Ytljhbhhpfkmemaa
