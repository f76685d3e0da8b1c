/-
  A region that draws its order and whose operations give fixed values: whatever the order, the slots end alike.
-/
import Derived.Test.YtljhbhhpfkmemaaSlices
namespace Go.Proofs.Ytljhbhhpfkmemaa.D2
open Go Go.RowKit
set_option linter.unusedVariables false

/-- What an operation may choose: a block, a room, a number, a row of cells, a list. -/
structure Gh where
  b : Nat := 0
  cap : Nat := 0
  n : Nat := 0
  cur : Array Value := #[]
  l : List Nat := []
  deriving Inhabited

/-- A run that gives a value and a world as S says. -/
def Runs (P : Program) (S : Value → World → Prop) : Result Next → Prop
  | .ok (.value v) w' => S v w'
  | .ok .skip w' => S undef w'
  | .ok (.enter f args) w' => Calls P f args w' fun e w'' => ∃ v, e = .returned v ∧ S v w''
  | _ => False
/-- Which operations have run: i besides. -/
def put1 (L : Nat → Bool) (i : Nat) : Nat → Bool := fun j => Nat.beq j i || L j
/-- Which blocks the operations made: i the block b. -/
def setN (g : Nat → Gh) (i : Nat) (b : Gh) : Nat → Gh := fun j => bif Nat.beq j i then b else g j
theorem setN_self (g : Nat → Gh) (i : Nat) : setN g i (g i) = g := by
  funext j
  unfold setN
  cases hb : Nat.beq j i with
  | false => rfl
  | true => rw [Nat.eq_of_beq_eq_true hb]; rfl
/-- What the slots are given, by the blocks that were made. -/
def at_ : List (Option Nat × (Gh → Value)) → (Nat → Gh) → Nat → List (Option Nat × Value)
  | [], _, _ => []
  | (d, f) :: r, g, k => (d, f (g k)) :: at_ r g (k + 1)
theorem at_get : ∀ {l : List (Option Nat × (Gh → Value))} {g : Nat → Gh} {k i : Nat}, (at_ l g k)[i]? = (l[i]?).map fun (d, f) => (d, f (g (k + i)))
  | [], g, k, i => by simp [at_]
  | (d, f) :: r, g, k, 0 => by simp [at_]
  | (d, f) :: r, g, k, i + 1 => by
    have := at_get (l := r) (g := g) (k := k + 1) (i := i)
    simp only [at_, List.getElem?_cons_succ, this, show k + 1 + i = k + (i + 1) by omega]
theorem at_map : ∀ {l : List (Option Nat × (Gh → Value))} {g : Nat → Gh} {k : Nat}, (at_ l g k).map (·.1) = l.map (·.1)
  | [], g, k => rfl
  | (d, f) :: r, g, k => by simp only [at_, List.map_cons, at_map (l := r)]
theorem at_map0 (vs : List (Option Nat × (Gh → Value))) (g : Nat → Gh) : (at_ vs g 0).map (·.1) = vs.map (·.1) := at_map
/-- The edges hold: what has run stands behind what has run. -/
def Closed (ops : Array Oper) (L : Nat → Bool) : Prop := ∀ j o, L j = true → ops[j]? = some o → ∀ e ∈ o.after, Region.binds .any e = true → L e.on = true
/-- Operation i gives slot d a value as f says, in every world as pre says of those that have run; and leaves what pre says of them and it. -/
def Gives (P : Program) (ops : Array Oper) (R : (Nat → Gh) → Env) (pre : (Nat → Bool) → (Nat → Gh) → World → Prop) (i : Nat) (d : Option Nat) (f : Gh → Value) : Prop :=
  ∀ L g w, pre L g w → L i = false → (∀ o, ops[i]? = some o → ∀ e ∈ o.after, Region.binds .any e = true → L e.on = true) → Closed ops L → ∃ o, ops[i]? = some o ∧ o.dst = d ∧
    ((Region.wanted o (nyield ops (R g)) = false ∧ f (g i) = undef ∧ pre (put1 L i) g w) ∨ (Region.wanted o (nyield ops (R g)) = true ∧ Runs P (fun v w' => ∃ b, v = f b ∧ pre (put1 L i) (setN g i b) w') ((execOp (ev (R g)) o).run P w)))
def GivesAll (P : Program) (ops : Array Oper) (R : Nat → (Nat → Gh) → Env) (pre : (Nat → Bool) → (Nat → Gh) → World → Prop) : List (Option Nat × (Gh → Value)) → Nat → Prop
  | [], _ => True
  | (d, f) :: r, i => Gives P ops (R i) pre i d f ∧ GivesAll P ops R pre r (i + 1)
/-- The slots alone. -/
def slots : List (Option Nat × Value) → List (Nat × Value)
  | [] => []
  | (some d, V) :: r => (d, V) :: slots r
  | (none, _) :: r => slots r
theorem GivesAll.get {P : Program} {ops : Array Oper} {R : Nat → (Nat → Gh) → Env} {pre : (Nat → Bool) → (Nat → Gh) → World → Prop} : ∀ {l : List (Option Nat × (Gh → Value))} {k : Nat}, GivesAll P ops R pre l k → ∀ {i : Nat} {d : Option Nat} {f : Gh → Value}, l[i]? = some (d, f) → Gives P ops (R (k + i)) pre (k + i) d f
  | [], _, _, _, _, _, h => by simp at h
  | (d, V) :: r, k, ⟨h, hr⟩, 0, _, _, hi => by simp at hi; obtain ⟨rfl, rfl⟩ := hi; exact h
  | (d, V) :: r, k, ⟨h, hr⟩, i + 1, _, _, hi => by
    have := hr.get (i := i) (by simpa using hi)
    rwa [show k + 1 + i = k + (i + 1) by omega] at this

def opTmps (o : Oper) : List Nat := o.op.operands.toList.filterMap fun | .tmp t => some t | _ => none
def notSelect (o : Oper) : Bool := match o.op with | .select .. => false | _ => true
/-- The edges of operation i lead back; what it reads of the region's slots was written by those it stands behind. -/
def opOK (ops : Array Oper) (ds : List (Option Nat)) (i : Nat) (o : Oper) : Bool :=
  (some o.dst == ds[i]?) && notSelect o &&
  (o.after.toList.all fun e => !Region.binds .any e || Nat.blt e.on i) &&
  ((opTmps o).all fun t => !ds.contains (some t) || (o.after.toList.any fun e => Region.binds .any e && ds[e.on]? == some (some t)) || (ops.toList.zipIdx.all fun (oj, j) => !(ds[j]? == some (some t)) || (!Nat.blt j i && oj.after.toList.any fun e => Region.binds .any e && Nat.beq e.on i))) &&
  (match o.guard with | none => true | some (j, _) => o.after.toList.any fun e => Region.binds .any e && e.on == j)
def nodupO : List (Option Nat) → Bool
  | [] => true
  | none :: r => nodupO r
  | some x :: r => !r.contains (some x) && nodupO r
def nodupB : List Nat → Bool
  | [] => true
  | x :: r => !r.contains x && nodupB r
def drawOK (ops : Array Oper) (ds : List (Option Nat)) (N : Nat) : Bool :=
  (ops.size == ds.length) && nodupO ds && (ds.all fun d => dOK d N) && (ops.toList.zipIdx.all fun (o, i) => opOK ops ds i o)

theorem slots_mem : ∀ {l : List (Option Nat × Value)} {t : Nat}, t ∈ (slots l).map (·.1) ↔ some t ∈ l.map (·.1)
  | [], t => by simp [slots]
  | (some d, V) :: r, t => by simp only [slots, List.map_cons, List.mem_cons, slots_mem (l := r)]; simp
  | (none, V) :: r, t => by simp only [slots, List.map_cons, List.mem_cons, slots_mem (l := r)]; simp
theorem slots_nodup : ∀ {l : List (Option Nat × Value)}, nodupO (l.map (·.1)) = true → nodupB ((slots l).map (·.1)) = true
  | [], _ => rfl
  | (some d, V) :: r, h => by
    simp only [List.map_cons, nodupO, Bool.and_eq_true, Bool.not_eq_true'] at h
    simp only [slots, List.map_cons, nodupB, Bool.and_eq_true, Bool.not_eq_true']
    refine ⟨?_, slots_nodup h.2⟩
    have h1 := h.1
    rw [← Bool.not_eq_true] at h1 ⊢
    simpa only [List.contains_iff_mem, slots_mem] using h1
  | (none, V) :: r, h => slots_nodup (l := r) h
theorem slots_get : ∀ {l : List (Option Nat × Value)} {i d : Nat} {V : Value}, l[i]? = some (some d, V) → ∃ j : Nat, (slots l)[j]? = some (d, V)
  | [], _, _, _, h => by simp at h
  | (some d, V) :: r, 0, _, _, h => by simp at h; obtain ⟨rfl, rfl⟩ := h; exact ⟨0, rfl⟩
  | (none, V) :: r, 0, _, _, h => by simp at h
  | (some d, V) :: r, i + 1, _, _, h => by obtain ⟨j, hj⟩ := slots_get (l := r) (by simpa using h); exact ⟨j + 1, by simpa [slots] using hj⟩
  | (none, V) :: r, i + 1, _, _, h => by obtain ⟨j, hj⟩ := slots_get (l := r) (by simpa using h); exact ⟨j, by simpa [slots] using hj⟩

theorem nodupB_inj : ∀ {l : List Nat}, nodupB l = true → ∀ {i j : Nat} {x : Nat}, l[i]? = some x → l[j]? = some x → i = j
  | [], _, _, _, _, h, _ => by simp at h
  | y :: r, h, 0, 0, _, _, _ => rfl
  | y :: r, h, 0, j + 1, x, hi, hj => by
    simp [nodupB] at h hi hj; subst hi
    exact absurd (List.mem_of_getElem? hj) h.1
  | y :: r, h, i + 1, 0, x, hi, hj => by
    simp [nodupB] at h hi hj; subst hj
    exact absurd (List.mem_of_getElem? hi) h.1
  | y :: r, h, i + 1, j + 1, x, hi, hj => by
    simp [nodupB] at h hi hj
    rw [nodupB_inj h.2 hi hj]

theorem setAll_in : ∀ {l : List (Nat × Value)} {ρ : Env}, nodupB (l.map (·.1)) = true → ∀ {i d : Nat} {V : Value}, l[i]? = some (d, V) → setAll l ρ d = V
  | [], _, _, _, _, _, h => by simp at h
  | (d, V) :: r, ρ, hn, 0, _, _, h => by
    simp at h; obtain ⟨rfl, rfl⟩ := h
    show (bif Nat.beq d d then V else _) = V
    rw [Nat.beq_refl]; rfl
  | (d, V) :: r, ρ, hn, i + 1, d', V', h => by
    have hr : r[i]? = some (d', V') := by simpa using h
    simp [nodupB] at hn
    have hne : Nat.beq d' d = false := by
      cases hb : Nat.beq d' d with
      | false => rfl
      | true =>
        have := Nat.eq_of_beq_eq_true hb
        subst this
        exact absurd (List.mem_of_getElem? hr) (hn.1 _)
    show (bif Nat.beq d' d then V else setAll r ρ d') = V'
    rw [hne]
    exact setAll_in hn.2 hr
theorem setAll_out : ∀ {l : List (Nat × Value)} {ρ : Env} {t : Nat}, t ∉ l.map (·.1) → setAll l ρ t = ρ t
  | [], _, _, _ => rfl
  | (d, V) :: r, ρ, t, h => by
    simp at h
    have hne : Nat.beq t d = false := by
      cases hb : Nat.beq t d with
      | false => rfl
      | true => exact absurd (Nat.eq_of_beq_eq_true hb) h.1
    show (bif Nat.beq t d then V else setAll r ρ t) = _
    rw [hne]
    exact setAll_out (by simpa using h.2)

section
variable {P : Program} {N : Nat} {ops : Array Oper} {Q : Exit → Env → World → Prop} {K : Env → World → Prop} {ρ : Env} {w : World} {vs : List (Option Nat × (Gh → Value))} {pre : (Nat → Bool) → (Nat → Gh) → World → Prop}

/-- The environment behind the region, by the blocks that were made. -/
def fin_ (vs : List (Option Nat × (Gh → Value))) (ρ : Env) (g : Nat → Gh) : Env := setAll (slots (at_ vs g 0)) ρ
/-- What has run, as pre has it. -/
def ran (L : Array Bool) : Nat → Bool := fun j => L.getD j false
/-- Where the slots stand when the operations of L have run. -/
def Mid (ρ : Env) (vs : List (Option Nat × (Gh → Value))) (g : Nat → Gh) (L : Nat → Bool) (ρ' : Env) : Prop :=
  ∀ t, (∀ i f, L i = true → vs[i]? = some (some t, f) → ρ' t = f (g i)) ∧ ((∀ i, L i = true → (vs.map (·.1))[i]? ≠ some (some t)) → ρ' t = ρ t)

theorem ran_set {L : Array Bool} {i : Nat} (hi : i < L.size) : ran (L.setIfInBounds i true) = put1 (ran L) i := by
  funext j
  unfold ran put1
  by_cases hij : i = j
  · subst hij; rw [Nat.beq_refl]; simp [hi]
  · have : Nat.beq j i = false := by
      cases hb : Nat.beq j i with
      | false => rfl
      | true => exact absurd (Nat.eq_of_beq_eq_true hb).symm hij
    rw [getD_set_ne false hij, this]; rfl
theorem put1_or {L : Nat → Bool} {i j : Nat} (h : put1 L i j = true) : j = i ∨ L j = true := by
  unfold put1 at h
  cases hb : Nat.beq j i with
  | false => rw [hb] at h; exact .inr h
  | true => exact .inl (Nat.eq_of_beq_eq_true hb)
theorem put1_self (L : Nat → Bool) (i : Nat) : put1 L i i = true := by unfold put1; rw [Nat.beq_refl]; rfl
theorem put1_of {L : Nat → Bool} {i j : Nat} (h : L j = true) : put1 L i j = true := by unfold put1; rw [h, Bool.or_true]
theorem nodupO_inj : ∀ {l : List (Option Nat)}, nodupO l = true → ∀ {i j x : Nat}, l[i]? = some (some x) → l[j]? = some (some x) → i = j
  | [], _, _, _, _, h, _ => by simp at h
  | none :: r, h, 0, _, _, hi, _ => by simp at hi
  | none :: r, h, _ + 1, 0, _, _, hj => by simp at hj
  | none :: r, h, i + 1, j + 1, x, hi, hj => congrArg (· + 1) (nodupO_inj (l := r) h (x := x) (by simpa using hi) (by simpa using hj))
  | some y :: r, h, 0, 0, _, _, _ => rfl
  | some y :: r, h, 0, j + 1, x, hi, hj => by
    simp [nodupO] at h hi hj; subst hi
    exact absurd (List.mem_of_getElem? hj) h.1
  | some y :: r, h, i + 1, 0, x, hi, hj => by
    simp [nodupO] at h hi hj; subst hj
    exact absurd (List.mem_of_getElem? hi) h.1
  | some y :: r, h, i + 1, j + 1, x, hi, hj => by
    simp [nodupO] at h hi hj
    exact congrArg (· + 1) (nodupO_inj (l := r) h.2 (x := x) (by simpa using hi) (by simpa using hj))
theorem nodupO_take : ∀ {l : List (Option Nat)}, nodupO l = true → ∀ k, nodupO (l.take k) = true
  | _, _, 0 => rfl
  | [], _, _ + 1 => rfl
  | none :: r, h, k + 1 => nodupO_take (l := r) h k
  | some x :: r, h, k + 1 => by
    simp only [nodupO, Bool.and_eq_true, Bool.not_eq_true', List.take_succ_cons] at h ⊢
    refine ⟨?_, nodupO_take h.2 k⟩
    have h1 := h.1
    rw [← Bool.not_eq_true, List.contains_iff_mem] at h1 ⊢
    exact fun hm => h1 (List.mem_of_mem_take hm)
theorem fin_in (hnd : nodupO (vs.map (·.1)) = true) {g : Nat → Gh} {i t : Nat} {f : Gh → Value} (h : vs[i]? = some (some t, f)) : fin_ vs ρ g t = f (g i) := by
  have h1 : (at_ vs g 0)[i]? = some (some t, f (g i)) := by rw [at_get, h]; simp
  obtain ⟨j, hj⟩ := slots_get h1
  exact setAll_in (slots_nodup (Eq.mpr (congrArg (fun l => nodupO l = true) (at_map0 vs g)) hnd)) hj
theorem fin_out {g : Nat → Gh} {t : Nat} (h : some t ∉ vs.map (·.1)) : fin_ vs ρ g t = ρ t :=
  setAll_out (fun h' => h (Eq.mp (congrArg (fun l => some t ∈ l) (at_map0 vs g)) (slots_mem.1 h')))

theorem draw_step (hok : drawOK ops (vs.map (·.1)) N = true) (hg : GivesAll P ops (fun i => fin_ (vs.take i) ρ) pre vs 0) {i : Nat} {L : Array Bool} (hi : i ∈ Region.ready .any ops L)
    {a : Act} {ρ' : Env} {g : Nat → Gh} (ha : Rep a ρ' N) (hm : Mid ρ vs g (ran L) ρ') (hL : L.size = ops.size) (hcl : Closed ops (ran L)) (hp : pre (ran L) g w)
    {QQ : Exit → Act → World → Prop} {KK : Act → World → Prop} (hK : ∀ a' ρ'' g' w', Rep a' ρ'' N → Mid ρ vs g' (put1 (ran L) i) ρ'' → Closed ops (put1 (ran L) i) → pre (put1 (ran L) i) g' w' → KK a' w') :
    wpOp P ops QQ i KK a w := by
  simp only [drawOK, Bool.and_eq_true, List.all_eq_true, beq_iff_eq] at hok
  obtain ⟨⟨⟨hsz, hnd⟩, hN⟩, hops⟩ := hok
  obtain ⟨hun, o, ho, hready⟩ := mem_ready.1 hi
  have hilt : i < ops.size := (Array.getElem?_eq_some_iff.1 ho).1
  have hoi : opOK ops (vs.map (·.1)) i o = true := hops (o, i) (by
    rw [List.mem_iff_getElem?]
    refine ⟨i, ?_⟩
    rw [List.getElem?_zipIdx]
    simp [ho])
  simp only [opOK, Bool.and_eq_true] at hoi
  obtain ⟨⟨⟨⟨hdst, hsel⟩, hback⟩, hreads⟩, hguard⟩ := hoi
  have hivs : i < vs.length := by rw [List.length_map] at hsz; omega
  obtain ⟨⟨d, f⟩, hv⟩ : ∃ p, vs[i]? = some p := ⟨_, List.getElem?_eq_getElem hivs⟩
  have hd : o.dst = d := by
    have := eq_of_beq hdst
    simpa [hv] using this
  have hdN : ∀ k, d = some k → k < N := dOK_lt (hN d (List.mem_map.2 ⟨(d, f), List.mem_of_getElem? hv, rfl⟩))
  have hunL : ran L i = false := by
    have hlt : i < L.size := by omega
    unfold ran; simpa [hlt] using hun
  have hcl' : Closed ops (put1 (ran L) i) := by
    intro j oj hj hoj e he hb
    rcases put1_or hj with rfl | hj
    · rw [ho] at hoj; obtain rfl := Option.some.inj hoj
      exact put1_of (hready e he hb)
    · exact put1_of (hcl j oj hj hoj e he hb)
  have hnd' : nodupO ((vs.take i).map (·.1)) = true := by rw [List.map_take]; exact nodupO_take hnd i
  -- what the operation reads is as it was given before it
  have lookB : ∀ t j, j < i → ran L j = true → (vs.map (·.1))[j]? = some (some t) → ρ' t = fin_ (vs.take i) ρ g t := by
    intro t j hji hLj hdt
    rw [List.getElem?_map] at hdt
    cases hve : vs[j]? with
    | none => rw [hve] at hdt; cases hdt
    | some p =>
      obtain ⟨d1, f1⟩ := p
      rw [hve] at hdt
      simp at hdt; subst hdt
      have hvt : (vs.take i)[j]? = some (some t, f1) := by rw [List.getElem?_take, if_pos hji, hve]
      rw [fin_in hnd' hvt]
      exact (hm t).1 j f1 hLj hve
  have lookA : ∀ t, (∀ j : Nat, (vs.map (·.1))[j]? = some (some t) → ran L j = false) → (∀ j : Nat, j < i → (vs.map (·.1))[j]? ≠ some (some t)) → ρ' t = fin_ (vs.take i) ρ g t := by
    intro t hno hnb
    have hnot : some t ∉ (vs.take i).map (·.1) := fun hmem => by
      obtain ⟨j, hj⟩ := List.mem_iff_getElem?.1 hmem
      rw [List.map_take, List.getElem?_take] at hj
      split at hj
      · rename_i hji; exact hnb j hji hj
      · cases hj
    rw [fin_out hnot]
    exact (hm t).2 fun j hj heq => by rw [hno j heq] at hj; cases hj
  have hbk : ∀ e ∈ o.after.toList, Region.binds .any e = true → e.on < i := fun e he hb => by
    have := List.all_eq_true.1 hback e he
    rw [hb] at this
    simp only [Bool.not_true, Bool.false_or] at this
    exact Nat.le_of_ble_eq_true this
  have hops' : ∀ x ∈ o.op.operands, ev ρ' x = ev (fin_ (vs.take i) ρ g) x := by
    intro x hx
    cases x with
    | tmp t =>
      have hmem : t ∈ opTmps o := List.mem_filterMap.2 ⟨.tmp t, by simpa using hx, rfl⟩
      have := List.all_eq_true.1 hreads t hmem
      simp only [Bool.or_eq_true, Bool.not_eq_true'] at this
      rcases this with (hc | hb) | hlater
      · have hnot : ∀ j : Nat, (vs.map (·.1))[j]? ≠ some (some t) := fun j hj => by
          have h1 : some t ∈ vs.map (·.1) := List.mem_of_getElem? hj
          rw [← Bool.not_eq_true, List.contains_iff_mem] at hc
          exact hc h1
        exact lookA t (fun j hj => absurd hj (hnot j)) (fun j _ => hnot j)
      · simp only [List.any_eq_true, Bool.and_eq_true, beq_iff_eq] at hb
        obtain ⟨e, he, hbi, hdt⟩ := hb
        exact lookB t e.on (hbk e he hbi) (hready e (by simpa using he) hbi) hdt
      · have hl : ∀ (j : Nat) oj, ops[j]? = some oj → (vs.map (·.1))[j]? = some (some t) → ¬ j < i ∧ ∃ e ∈ oj.after.toList, Region.binds .any e = true ∧ e.on = i := fun j oj hoj hdj => by
          have h1 := List.all_eq_true.1 hlater (oj, j) (by
            rw [List.mem_iff_getElem?]
            refine ⟨j, ?_⟩
            rw [List.getElem?_zipIdx]
            simp [hoj])
          simp only [hdj, beq_self_eq_true, Bool.not_true, Bool.false_or, Bool.and_eq_true, List.any_eq_true, Bool.not_eq_true'] at h1
          obtain ⟨h2, e, he, hb, hon⟩ := h1
          refine ⟨fun hlt => ?_, e, he, hb, Nat.eq_of_beq_eq_true hon⟩
          have h3 : Nat.blt j i = true := Nat.ble_eq_true_of_le hlt
          rw [h3] at h2; cases h2
        have hsome : ∀ j : Nat, (vs.map (·.1))[j]? = some (some t) → ∃ oj, ops[j]? = some oj := fun j hj => by
          have h1 : j < (vs.map (·.1)).length := (List.getElem?_eq_some_iff.1 hj).1
          exact ⟨_, Array.getElem?_eq_getElem (by omega)⟩
        refine lookA t (fun j hj => ?_) (fun j hji hj => ?_)
        · obtain ⟨oj, hoj⟩ := hsome j hj
          obtain ⟨_, e, he, hb, hon⟩ := hl j oj hoj hj
          cases hLj : ran L j with
          | false => rfl
          | true =>
            have := hcl j oj hLj hoj e (by simpa using he) hb
            rw [hon, hunL] at this; cases this
        · obtain ⟨oj, hoj⟩ := hsome j hj
          exact (hl j oj hoj hj).1 hji
    | _ => rfl
  have hexec : execOp (ev ρ') o = execOp (ev (fin_ (vs.take i) ρ g)) o := execOp_congr o (fun cs b he => by simp [notSelect, he] at hsel) hops'
  have hwant : Region.wanted o (nyield ops ρ') = Region.wanted o (nyield ops (fin_ (vs.take i) ρ g)) := by
    unfold Region.wanted
    cases hgd : o.guard with
    | none => rfl
    | some gd =>
      obtain ⟨j, b⟩ := gd
      have : nyield ops ρ' j = nyield ops (fin_ (vs.take i) ρ g) j := by
        unfold nyield
        cases hj : (ops[j]?).bind (·.dst) with
        | none => rfl
        | some t =>
          simp only [hgd, List.any_eq_true, Bool.and_eq_true, beq_iff_eq] at hguard
          obtain ⟨e, he, hb, hon⟩ := hguard
          have hjds : (vs.map (·.1))[j]? = some (some t) := by
            cases hoj : ops[j]? with
            | none => simp [hoj] at hj
            | some oj =>
              have hjj : opOK ops (vs.map (·.1)) j oj = true := hops (oj, j) (by
                rw [List.mem_iff_getElem?]
                refine ⟨j, ?_⟩
                rw [List.getElem?_zipIdx]
                simp [hoj])
              simp only [opOK, Bool.and_eq_true, beq_iff_eq] at hjj
              have := hjj.1.1.1.1
              simp [hoj] at hj
              rw [← this, hj]
          have hlk := lookB t j (hon ▸ hbk e he hb) (hon ▸ hready e (by simpa using he) hb) hjds
          simp only [hlk]
      simp only [this]
  have hmid : ∀ b, Mid ρ vs (setN g i b) (put1 (ran L) i) (updO ρ' d (f b)) := by
    intro b t
    have hds : (vs.map (·.1))[i]? = some d := by simp [hv]
    by_cases htd : d = some t
    · subst htd
      have e : updO ρ' (some t) (f b) t = f b := by
        show (bif Nat.beq t t then f b else _) = f b
        rw [Nat.beq_refl]; rfl
      refine ⟨fun j f1 hj hvj => ?_, fun hn => absurd hds (hn i (put1_self _ _))⟩
      have hji : j = i := nodupO_inj hnd (by rw [List.getElem?_map, hvj]; rfl) hds
      subst hji
      rw [hv] at hvj
      obtain rfl : f1 = f := by simpa using hvj.symm
      rw [e]
      unfold setN; rw [Nat.beq_refl]; rfl
    · have e : updO ρ' d (f b) t = ρ' t := by
        cases d with
        | none => rfl
        | some k =>
          have hne : Nat.beq t k = false := by
            cases hb : Nat.beq t k with
            | false => rfl
            | true => exact absurd (by rw [Nat.eq_of_beq_eq_true hb]) htd
          show (bif Nat.beq t k then f b else ρ' t) = ρ' t
          rw [hne]; rfl
      rw [e]
      refine ⟨fun j f1 hj hvj => ?_, fun hn => (hm t).2 fun j hj => hn j (put1_of hj)⟩
      have hji : j ≠ i := by
        rintro rfl
        rw [hv] at hvj
        have : d = some t := by simpa using congrArg (Option.map (·.1)) hvj
        exact htd this
      have hLj : ran L j = true := (put1_or hj).resolve_left hji
      have hN' : setN g i b j = g j := by
        unfold setN
        cases hb : Nat.beq j i with
        | false => rfl
        | true => exact absurd (Nat.eq_of_beq_eq_true hb) hji
      rw [hN']
      exact (hm t).1 j f1 hLj hvj
  have hgi := hg.get hv
  rw [Nat.zero_add] at hgi
  obtain ⟨o', ho', hd', hrun⟩ := hgi (ran L) g w hp hunL (fun o1 ho1 e he hb => by
      rw [ho] at ho1; obtain rfl := Option.some.inj ho1; exact hready e he hb) hcl
  have : o' = o := by rw [ho] at ho'; exact (Option.some.inj ho').symm
  subst this
  have hput : ∀ v, Rep (a.put o'.dst v) (updO ρ' d v) N := fun v => by
    have := ha.put o'.dst (fun k hk => hdN k (by rw [← hd, hk])) v
    rwa [hd] at this ⊢
  unfold wpOp
  simp only [ho, wanted_eq ha, hwant]
  rcases hrun with ⟨hwf, hV, hp'⟩ | ⟨hwt, hR⟩
  · simp only [hwf, Bool.false_eq_true, if_false]
    refine hK _ _ g _ (hput undef) ?_ hcl' hp'
    have := hmid (g i)
    rwa [setN_self, hV] at this
  · simp only [hwt, if_true]
    refine .inl ?_
    unfold Oper.wp
    rw [ha.eval, hexec]
    generalize (execOp (ev (fin_ (vs.take i) ρ g)) o').run P w = r at hR
    cases r with
    | halt h w' => exact hR.elim
    | ok n w' =>
      cases n with
      | value v => obtain ⟨b, rfl, hb⟩ := hR; exact hK _ _ _ _ (hput _) (hmid b) hcl' hb
      | skip => obtain ⟨b, hu, hb⟩ := hR; exact hK _ _ _ _ (by have := hput undef; rwa [hu] at this ⊢) (hmid b) hcl' hb
      | enter f' args =>
        refine Calls.mono hR fun e w'' he => ?_
        obtain ⟨v, rfl, b, rfl, hb⟩ := he
        exact hK _ _ _ _ (hput _) (hmid b) hcl' hb
      | _ => exact hR.elim

theorem draw_any (hok : drawOK ops (vs.map (·.1)) N = true) (hg : GivesAll P ops (fun i => fin_ (vs.take i) ρ) pre vs 0)
    (hfin : ∀ L g w', (∀ i, i < ops.size → L i = true) → pre L g w' → Q .normal (fin_ vs ρ g) w') :
    ∀ (fuel : Nat) (L : Array Bool), L.size = ops.size → (L.toList.countP (! ·)) ≤ fuel → ∀ (a : Act) (ρ' : Env) (g : Nat → Gh) (w : World), Rep a ρ' N → Mid ρ vs g (ran L) ρ' → Closed ops (ran L) → pre (ran L) g w →
      wpAny P .any ops (lift N Q) fuel L a w := by
  have hdone : ∀ (L : Array Bool), L.size = ops.size → Region.ready .any ops L = [] → ∀ (a : Act) (ρ' : Env) (g : Nat → Gh) (w : World), Rep a ρ' N → Mid ρ vs g (ran L) ρ' → pre (ran L) g w → lift N Q .normal a w := by
    intro L hL hr a ρ' g w ha hm hp
    have hok' := hok
    simp only [drawOK, Bool.and_eq_true, List.all_eq_true, beq_iff_eq] at hok'
    obtain ⟨⟨⟨hsz, hnd⟩, hN⟩, hops⟩ := hok'
    have hall : ∀ i, i < ops.size → ran L i = true := by
      intro i
      induction i using Nat.strongRecOn with
      | _ i ih =>
        intro hi
        cases hb : ran L i with
        | true => rfl
        | false =>
          have hmem : i ∈ Region.ready .any ops L := by
            refine mem_ready.2 ⟨?_, ops[i], Array.getElem?_eq_getElem hi, fun e he hbd => ?_⟩
            · have hlt : i < L.size := by omega
              unfold ran at hb
              simp [hlt] at hb ⊢; exact hb
            · have hoi : opOK ops (vs.map (·.1)) i ops[i] = true := hops (ops[i], i) (by
                rw [List.mem_iff_getElem?]
                refine ⟨i, ?_⟩
                rw [List.getElem?_zipIdx]
                simp [hi])
              simp only [opOK, Bool.and_eq_true] at hoi
              have := List.all_eq_true.1 hoi.1.1.2 e (by simpa using he)
              rw [hbd] at this
              have hlt : e.on < i := Nat.le_of_ble_eq_true this
              exact ih e.on hlt (by omega)
          rw [hr] at hmem; cases hmem
    have heq : ρ' = fin_ vs ρ g := by
      funext t
      by_cases ht : some t ∈ vs.map (·.1)
      · obtain ⟨i, hi, hit⟩ := List.getElem_of_mem ht
        have hi' : i < vs.length := by simpa using hi
        obtain ⟨⟨d, f⟩, hv⟩ : ∃ p, vs[i]? = some p := ⟨_, List.getElem?_eq_getElem hi'⟩
        have hd : d = some t := by
          rw [List.getElem_map] at hit
          rw [List.getElem?_eq_getElem hi'] at hv
          rw [Option.some.inj hv] at hit
          exact hit
        subst hd
        rw [fin_in hnd hv]
        exact (hm t).1 i f (hall i (by rw [hsz]; exact hi)) hv
      · rw [fin_out ht]
        exact (hm t).2 fun j hj heq => ht (List.mem_of_getElem? heq)
    exact ⟨_, ha, heq ▸ hfin (ran L) g w hall hp⟩
  intro fuel
  induction fuel with
  | zero =>
    intro L hL hc a ρ' g w ha hm hcl hp
    have hr : Region.ready .any ops L = [] := by
      cases hr : Region.ready .any ops L with
      | nil => rfl
      | cons i r =>
        have hi : i ∈ Region.ready .any ops L := by rw [hr]; exact List.mem_cons_self
        obtain ⟨hun, o, ho, _⟩ := mem_ready.1 hi
        have hlt : i < L.size := by rw [hL]; exact (Array.getElem?_eq_some_iff.1 ho).1
        have : L.toList.countP (! ·) = 0 := by omega
        rw [List.countP_eq_zero] at this
        have h1 := this L[i] (by simp)
        simp [hlt] at hun h1
        rw [hun] at h1; cases h1
    exact ⟨hr, hdone L hL hr a ρ' g w ha hm hp⟩
  | succ fuel ih =>
    intro L hL hc a ρ' g w ha hm hcl hp
    refine ⟨fun hr => hdone L hL hr a ρ' g w ha hm hp, fun i hi => ?_⟩
    obtain ⟨hun, o, ho, _⟩ := mem_ready.1 hi
    have hlt : i < L.size := by rw [hL]; exact (Array.getElem?_eq_some_iff.1 ho).1
    refine draw_step hok hg hi ha hm hL hcl hp fun a' ρ'' g' w' ha' hm' hcl' hp' => ih (L.setIfInBounds i true) (by simpa using hL) ?_ a' ρ'' g' w' ha' (by rw [ran_set hlt]; exact hm') (by rw [ran_set hlt]; exact hcl') (by rw [ran_set hlt]; exact hp')
    have hf : L[i] = false := by simpa [hlt] using hun
    have hc2 : (L.setIfInBounds i true).toList.countP (! ·) + 1 = L.toList.countP (! ·) := by
      rw [Array.toList_setIfInBounds]
      have hl : i < L.toList.length := by simpa using hlt
      have hfl : L.toList[i] = false := by simpa using hf
      have hpos : 0 < L.toList.countP (! ·) := List.countP_pos_iff.2 ⟨_, List.getElem_mem hl, by rw [hfl]; rfl⟩
      have hset := List.countP_set (p := fun b : Bool => !b) (l := L.toList) (i := i) (a := true) hl
      rw [hfl] at hset
      simp only [Bool.not_true, Bool.false_eq_true, if_false, Bool.not_false, if_true] at hset
      omega
    omega

theorem WP.draw {id : Nat} (hm : P.follows .mixedOrders = true) (hok : drawOK ops (vs.map (·.1)) N = true) (hp : pre (fun _ => false) (fun _ => default) w.drew) (hg : GivesAll P ops (fun i => fin_ (vs.take i) ρ) pre vs 0)
    (hfin : ∀ L g w', (∀ i, i < ops.size → L i = true) → pre L g w' → Q .normal (fin_ vs ρ g) w') : WP P N (.region id ops true) Q ρ w := fun a ha =>
  have hno : ran (Array.replicate ops.size false) = fun _ => false := funext fun i => by
    show (Array.replicate ops.size false).getD i false = false
    simp only [Array.getD_eq_getD_getElem?, Array.getElem?_replicate]; split <;> rfl
  wp_region_any hm (draw_any hok hg hfin ops.size _ (by simp) (by have := @List.countP_le_length Bool (! ·) (List.replicate ops.size false); simpa using this) a ρ (fun _ => default) _ ha
    (fun t => ⟨fun i f hi _ => (by rw [hno] at hi; cases hi), fun _ => rfl⟩) (fun j o hj => (by rw [hno] at hj; cases hj)) (by rw [hno]; exact hp))
theorem g_draw0 {c : Code} (l : List Nat) (vs : List (Option Nat × (Gh → Value))) (pre : (Nat → Bool) → (Nat → Gh) → World → Prop) (hc : regOf c = some (l, true)) (hm : P.follows .mixedOrders = true) (hok : drawOK (opsOf c) (vs.map (·.1)) N = true) (hp : pre (fun _ => false) (fun _ => default) w.drew)
    (hg : GivesAll P (opsOf c) (fun i => fin_ (vs.take i) ρ) pre vs 0) (hfin : ∀ L g w', (∀ i, i < (opsOf c).size → L i = true) → pre L g w' → Q .normal (fin_ vs ρ g) w') : WP P N c Q ρ w := by
  obtain ⟨id, he, hl⟩ := regOf_eq hc
  rw [he]; exact WP.draw hm hok hp hg hfin
theorem g_sdraw {c : Code} (l : List Nat) (vs : List (Option Nat × (Gh → Value))) (pre : (Nat → Bool) → (Nat → Gh) → World → Prop) (hs : isSeq c = true) (hc : regOf (seqL c) = some (l, true)) (hm : P.follows .mixedOrders = true) (hok : drawOK (opsOf (seqL c)) (vs.map (·.1)) N = true) (hp : pre (fun _ => false) (fun _ => default) w.drew)
    (hg : GivesAll P (opsOf (seqL c)) (fun i => fin_ (vs.take i) ρ) pre vs 0) (hfin : ∀ L g w', (∀ i, i < (opsOf (seqL c)).size → L i = true) → pre L g w' → WP P N (seqR c) Q (fin_ vs ρ g) w') : WP P N c Q ρ w :=
  g_seq hs (g_draw0 l vs pre hc hm hok hp hg hfin)
end


/-! ### What the call owns, entry by entry: is it there, and what -/
abbrev Ent := Bool × (Nat × Obj)
structure StE (B : Nat) (w0 w : World) (E : List Ent) : Prop where
  below : Below B w0 w
  le : B ≤ w.heap.size
  own : ∀ (k : Nat) (e : Nat × Obj), E[k]? = some (true, e) → B ≤ e.1 ∧ w.heap[e.1]? = some e.2
  inj : ∀ (j k : Nat) (e e' : Nat × Obj), E[j]? = some (true, e) → E[k]? = some (true, e') → e.1 = e'.1 → j = k
def pres : List Ent → List (Nat × Obj)
  | [] => []
  | (true, e) :: r => e :: pres r
  | (false, _) :: r => pres r
theorem pres_mem : ∀ {E : List Ent} {k : Nat} {e : Nat × Obj}, E[k]? = some (true, e) → e ∈ pres E
  | [], _, _, h => by simp at h
  | (true, x) :: r, 0, e, h => by simp at h; subst h; simp [pres]
  | (false, x) :: r, 0, e, h => by simp at h
  | (true, x) :: r, k + 1, e, h => List.mem_cons_of_mem _ (pres_mem (E := r) (by simpa using h))
  | (false, x) :: r, k + 1, e, h => pres_mem (E := r) (by simpa using h)
theorem mem_pres : ∀ {E : List Ent} {e : Nat × Obj}, e ∈ pres E → ∃ k : Nat, E[k]? = some (true, e)
  | [], _, h => by simp [pres] at h
  | (true, x) :: r, e, h => by
    rcases List.mem_cons.1 h with rfl | h
    · exact ⟨0, rfl⟩
    · obtain ⟨k, hk⟩ := mem_pres (E := r) h; exact ⟨k + 1, by simpa using hk⟩
  | (false, x) :: r, e, h => by obtain ⟨k, hk⟩ := mem_pres (E := r) h; exact ⟨k + 1, by simpa using hk⟩
theorem pres_inj : ∀ {E : List Ent}, ((pres E).map (·.1)).Nodup → ∀ {j k : Nat} {e e' : Nat × Obj}, E[j]? = some (true, e) → E[k]? = some (true, e') → e.1 = e'.1 → j = k
  | [], _, _, _, _, _, h, _, _ => by simp at h
  | (true, x) :: r, hn, 0, 0, _, _, _, _, _ => rfl
  | (true, x) :: r, hn, 0, k + 1, e, e', h, h', q => by
    simp only [pres, List.map_cons, List.nodup_cons] at hn
    simp at h; subst h
    exact absurd (List.mem_map.2 ⟨e', pres_mem (by simpa using h'), q.symm⟩) hn.1
  | (true, x) :: r, hn, j + 1, 0, e, e', h, h', q => by
    simp only [pres, List.map_cons, List.nodup_cons] at hn
    simp at h'; subst h'
    exact absurd (List.mem_map.2 ⟨e, pres_mem (by simpa using h), q⟩) hn.1
  | (true, x) :: r, hn, j + 1, k + 1, e, e', h, h', q => by
    simp only [pres, List.map_cons, List.nodup_cons] at hn
    exact congrArg (· + 1) (pres_inj (E := r) hn.2 (j := j) (k := k) (by simpa using h) (by simpa using h') q)
  | (false, x) :: r, hn, 0, _, _, _, h, _, _ => by simp at h
  | (false, x) :: r, hn, _ + 1, 0, _, _, _, h', _ => by simp at h'
  | (false, x) :: r, hn, j + 1, k + 1, e, e', h, h', q => by
    exact congrArg (· + 1) (pres_inj (E := r) hn (j := j) (k := k) (by simpa using h) (by simpa using h') q)
theorem pres_nodup : ∀ {E : List Ent}, (∀ (j k : Nat) (e e' : Nat × Obj), E[j]? = some (true, e) → E[k]? = some (true, e') → e.1 = e'.1 → j = k) → ((pres E).map (·.1)).Nodup
  | [], _ => by simp [pres]
  | (true, x) :: r, h => by
    simp only [pres, List.map_cons, List.nodup_cons]
    refine ⟨fun hm => ?_, pres_nodup fun j k e e' hj hk q => by have := h (j + 1) (k + 1) e e' (by simpa using hj) (by simpa using hk) q; omega⟩
    obtain ⟨e, he, q⟩ := List.mem_map.1 hm
    obtain ⟨k, hk⟩ := mem_pres he
    have := h 0 (k + 1) x e rfl (by simpa using hk) q.symm
    omega
  | (false, x) :: r, h => pres_nodup (E := r) fun j k e e' hj hk q => by have := h (j + 1) (k + 1) e e' (by simpa using hj) (by simpa using hk) q; omega
theorem StE.of {B : Nat} {w0 w : World} {l : List (Nat × Obj)} (h : St B w0 w l) (E : List Ent) (he : pres E = l) : StE B w0 w E := by
  subst he
  exact ⟨h.below, h.le, fun k e hk => h.own e (pres_mem hk), fun j k e e' hj hk q => pres_inj h.nd hj hk q⟩
theorem StE.st {B : Nat} {w0 w : World} {E : List Ent} (h : StE B w0 w E) : St B w0 w (pres E) :=
  ⟨h.below, h.le, fun e he => by obtain ⟨k, hk⟩ := mem_pres he; exact h.own k e hk, pres_nodup h.inj⟩
theorem StE.get {B : Nat} {w0 w : World} {E : List Ent} (h : StE B w0 w E) (k : Nat) {b : Nat} {o : Obj} (hk : E[k]? = some (true, (b, o))) : w.heap[b]? = some o := (h.own k _ hk).2
theorem StE.call {B : Nat} {w0 w w' : World} {E : List Ent} (h : StE B w0 w E) (hb : Below w.heap.size w w') : StE B w0 w' E :=
  ⟨h.below.trans (hb.mono h.le), Nat.le_trans h.le hb.size, fun k e hk => ⟨(h.own k e hk).1, by rw [hb.block _ (lt_of_heap (h.own k e hk).2)]; exact (h.own k e hk).2⟩, h.inj⟩
/-- A new block takes its place. -/
theorem StE.add {B : Nat} {w0 w w' : World} {E : List Ent} (h : StE B w0 w E) (hb : Below w.heap.size w w') (k : Nat) {b : Nat} {o : Obj} (hle : w.heap.size ≤ b) (ho : w'.heap[b]? = some o) : StE B w0 w' (E.set k (true, (b, o))) := by
  have h' := h.call hb
  refine ⟨h'.below, h'.le, fun j e hj => ?_, fun i j e e' hi hj q => ?_⟩
  · rw [List.getElem?_set] at hj
    split at hj
    · split at hj
      · simp at hj; subst hj; exact ⟨Nat.le_trans h.le hle, ho⟩
      · cases hj
    · exact h'.own j e hj
  · rw [List.getElem?_set] at hi hj
    split at hi <;> split at hj
    · omega
    · split at hi
      · simp at hi; subst hi
        have := lt_of_heap (h.own j e' hj).2
        simp at q; omega
      · cases hi
    · split at hj
      · simp at hj; subst hj
        have := lt_of_heap (h.own i e hi).2
        simp at q; omega
      · cases hj
    · exact h.inj i j e e' hi hj q
theorem StE.drop {B : Nat} {w0 w : World} {E : List Ent} (h : StE B w0 w E) (k : Nat) (x : Nat × Obj) : StE B w0 w (E.set k (false, x)) := by
  have look : ∀ (j : Nat) (e : Nat × Obj), (E.set k (false, x))[j]? = some (true, e) → E[j]? = some (true, e) := fun j e hj => by
    rw [List.getElem?_set] at hj
    split at hj
    · split at hj
      · simp at hj
      · cases hj
    · exact hj
  exact ⟨h.below, h.le, fun j e hj => h.own j e (look j e hj), fun i j e e' hi hj q => h.inj i j e e' (look i e hi) (look j e' hj) q⟩
/-- An entry's block is turned, where it lies. -/
theorem StE.turn {B : Nat} {w0 w w' : World} {E : List Ent} (h : StE B w0 w E) (k : Nat) {b b' : Nat} {o o' : Obj} (hk : E[k]? = some (true, (b, o))) (hg : w.grownBy w' (some b)) (hb : b' = b ∨ b' = w.heap.size) (ho : w'.heap[b']? = some o') : StE B w0 w' (E.set k (true, (b', o'))) := by
  have hB := (h.own k _ hk).1
  have hlt := lt_of_heap (h.own k _ hk).2
  have hle := h.le
  have hB' : B ≤ b' := by
    rcases hb with q | q
    · rw [q]; exact hB
    · rw [q]; exact hle
  refine ⟨h.below.grown hg hle (fun q hq => by injection hq with hq; subst hq; exact hB), Nat.le_trans hle hg.size, fun j e hj => ?_, fun i j e e' hi hj q => ?_⟩
  · rw [List.getElem?_set] at hj
    split at hj
    · split at hj
      · simp at hj; subst hj; exact ⟨hB', ho⟩
      · cases hj
    · rename_i hkj
      have hne : e.1 ≠ b := fun q => hkj (h.inj k j _ e hk hj q.symm)
      exact ⟨(h.own j e hj).1, by rw [hg.block e.1 (lt_of_heap (h.own j e hj).2) (fun q => hne (by injection q))]; exact (h.own j e hj).2⟩
  · have other : ∀ (j : Nat) (e : Nat × Obj), k ≠ j → E[j]? = some (true, e) → b' ≠ e.1 := fun j1 e1 hne1 hj1 q1 => by
      rcases hb with hq | hq
      · exact hne1 (h.inj k j1 _ e1 hk hj1 (hq ▸ q1))
      · have h9 := lt_of_heap (h.own j1 e1 hj1).2; omega
    rw [List.getElem?_set] at hi hj
    split at hi <;> split at hj
    · omega
    · rename_i _ hne
      split at hi
      · simp at hi; subst hi; exact absurd q (other j e' hne hj)
      · cases hi
    · rename_i hne _
      split at hj
      · simp at hj; subst hj; exact absurd q.symm (other i e hne hi)
      · cases hj
    · exact h.inj i j e e' hi hj q
theorem grownBy_setRow (w : World) (b : Nat) (C : Array Value) : w.grownBy (w.setRow b C) (some b) :=
  ⟨rfl, rfl, rfl, by simp [World.setRow], fun k hk hne => setRow_heap_ne _ _ _ _ (fun q => hne (by rw [q]))⟩
theorem StE.store {B : Nat} {w0 w : World} {E : List Ent} (h : StE B w0 w E) (k : Nat) {b : Nat} {C C' : Array Value} {T : TypeId} {fz : Nat × Nat} (hk : E[k]? = some (true, (b, .cells C T fz))) :
    StE B w0 (w.setRow b C') (E.set k (true, (b, .cells C' T fz))) :=
  h.turn k hk (grownBy_setRow w b C') (.inl rfl) (setRow_heap w b C C' T fz (h.get k hk))

section
variable {P : Program} {ops : Array Oper} {R : (Nat → Gh) → Env} {pre : (Nat → Bool) → (Nat → Gh) → World → Prop} {i : Nat} {d : Option Nat} {V : Gh → Value}
/-- Does operation j stand straight behind operation i? -/
def edge (ops : Array Oper) (i j : Nat) : Bool := match ops[j]? with | some o => o.after.toList.any fun e => Region.binds .any e && Nat.beq e.on i | none => false
theorem Closed.no {L : Nat → Bool} (h : Closed ops L) (i j : Nat) (he : edge ops i j = true) (hn : L i = false) : L j = false := by
  cases hj : L j with
  | false => rfl
  | true =>
    unfold edge at he
    cases ho : ops[j]? with
    | none => rw [ho] at he; cases he
    | some o =>
      rw [ho] at he
      simp only [List.any_eq_true, Bool.and_eq_true] at he
      obtain ⟨e, hm, hb, hon⟩ := he
      have := h j o hj ho e (by simpa using hm) hb
      rw [Nat.eq_of_beq_eq_true hon, hn] at this
      cases this
theorem Closed.yes {L : Nat → Bool} (h : Closed ops L) (i j : Nat) (he : edge ops i j = true) (hn : L j = true) : L i = true := by
  cases hi : L i with
  | true => rfl
  | false => rw [h.no i j he hi] at hn; cases hn
theorem before_yes {L : Nat → Bool} {j : Nat} (h : ∀ o, ops[j]? = some o → ∀ e ∈ o.after, Region.binds .any e = true → L e.on = true) (i : Nat) (he : edge ops i j = true) : L i = true := by
  unfold edge at he
  cases ho : ops[j]? with
  | none => rw [ho] at he; cases he
  | some o =>
    rw [ho] at he
    simp only [List.any_eq_true, Bool.and_eq_true] at he
    obtain ⟨e, hm, hb, hon⟩ := he
    have := h o ho e (by simpa using hm) hb
    rwa [Nat.eq_of_beq_eq_true hon] at this

/-- When operation i comes up. -/
def Now (ops : Array Oper) (i : Nat) (L : Nat → Bool) : Prop := L i = false ∧ (∀ o, ops[i]? = some o → ∀ e ∈ o.after, Region.binds .any e = true → L e.on = true) ∧ Closed ops L
theorem Now.bef {L : Nat → Bool} (h : Now ops i L) (j : Nat) (he : edge ops j i = true) : L j = true := before_yes h.2.1 j he
theorem Now.post {L : Nat → Bool} (h : Now ops i L) (j : Nat) (he : edge ops i j = true) : L j = false := h.2.2.no i j he h.1
/-- From the operation itself. -/
theorem gives_of (h : ∀ L g w, pre L g w → Now ops i L → ∃ o, ops[i]? = some o ∧ o.dst = d ∧
    ((Region.wanted o (nyield ops (R g)) = false ∧ V (g i) = undef ∧ pre (put1 L i) g w) ∨ (Region.wanted o (nyield ops (R g)) = true ∧ Runs P (fun v w' => ∃ b, v = V b ∧ pre (put1 L i) (setN g i b) w') ((execOp (ev (R g)) o).run P w)))) : Gives P ops R pre i d V :=
  fun L g w hp hn hr hc => h L g w hp ⟨hn, hr, hc⟩
/-- An operation that leaves the world: a value. -/
theorem gv_val {V : Value} (hs : ∀ L g w, pre L g w → pre (put1 L i) g w) (h : ∀ g w, opv P ops i (R g) w = some (d, true, .ok (.value V) w)) : Gives P ops R pre i d (fun _ => V) := fun L g w hp _ _ _ => by
  obtain ⟨o, ho, hd, hw, hr⟩ := opv_some (h g w)
  exact ⟨o, ho, hd, .inr ⟨hw, by rw [hr]; exact ⟨g i, rfl, by rw [setN_self]; exact hs _ _ _ hp⟩⟩⟩
/-- The same, where the value hangs on what was chosen before: it is put down again as the operation's own choice. -/
theorem gv_valG (f : (Nat → Gh) → Gh) (hs : ∀ L g w, Now ops i L → pre L g w → pre (put1 L i) (setN g i (f g)) w) (h : ∀ g w, opv P ops i (R g) w = some (d, true, .ok (.value (V (f g))) w)) : Gives P ops R pre i d V := gives_of fun L g w hp hN => by
  obtain ⟨o, ho, hd, hw, hr⟩ := opv_some (h g w)
  exact ⟨o, ho, hd, .inr ⟨hw, by rw [hr]; exact ⟨f g, rfl, hs _ _ _ hN hp⟩⟩⟩
theorem gv_valE {V V' : Value} (hs : ∀ L g w, pre L g w → pre (put1 L i) g w) (h : ∀ g w, opv P ops i (R g) w = some (d, true, .ok (.value V') w)) (e : V' = V) : Gives P ops R pre i d (fun _ => V) := e ▸ gv_val hs h
theorem gv_not (hs : ∀ L g w, pre L g w → pre (put1 L i) g w) (h : ∀ g, opn ops i (R g) = some (d, false)) : Gives P ops R pre i d (fun _ => undef) := fun L g w hp _ _ _ => by
  obtain ⟨o, ho, hd, hw⟩ := opn_some (h g)
  exact ⟨o, ho, hd, .inl ⟨hw, rfl, hs _ _ _ hp⟩⟩
/-- An operation whose run in this world is known by the operation. -/
theorem gv_run (op : Op) (h : ∀ g, opk ops i (R g) = some (d, true, op)) (hr : ∀ L g w, pre L g w → Now ops i L → ∀ o : Oper, o.op = op → ∃ b, pre (put1 L i) (setN g i b) w ∧ (execOp (ev (R g)) o).run P w = .ok (.value (V b)) w) : Gives P ops R pre i d V := gives_of fun L g w hp hN => by
  obtain ⟨o, ho, hd, hw, hop⟩ := opk_some (h g)
  obtain ⟨b, hp', e⟩ := hr L g w hp hN o hop
  exact ⟨o, ho, hd, .inr ⟨hw, by rw [e]; exact ⟨b, rfl, hp'⟩⟩⟩
theorem gv_op {V : Value} (hs : ∀ L g w, pre L g w → pre (put1 L i) g w) (op : Op) (h : ∀ g, opk ops i (R g) = some (d, true, op)) (hr : ∀ g (o : Oper) w, o.op = op → (execOp (ev (R g)) o).run P w = .ok (.value V) w) : Gives P ops R pre i d (fun _ => V) := fun L g w hp _ _ _ => by
  obtain ⟨o, ho, hd, hw, hop⟩ := opk_some (h g)
  exact ⟨o, ho, hd, .inr ⟨hw, by rw [hr g o w hop]; exact ⟨g i, rfl, by rw [setN_self]; exact hs _ _ _ hp⟩⟩⟩
theorem gv_opE {V V' : Value} (hs : ∀ L g w, pre L g w → pre (put1 L i) g w) (op : Op) (h : ∀ g, opk ops i (R g) = some (d, true, op)) (hr : ∀ g (o : Oper) w, o.op = op → (execOp (ev (R g)) o).run P w = .ok (.value V') w) (e : V' = V) : Gives P ops R pre i d (fun _ => V) := e ▸ gv_op hs op h hr

variable {E : (Nat → Bool) → (Nat → Gh) → List Ent} {F : (Nat → Bool) → (Nat → Gh) → Prop} {B : Nat} {w0 : World}
/-- What pre is in a drawn region: the entries, and facts on what was chosen. -/
def Pre (B : Nat) (w0 : World) (E : (Nat → Bool) → (Nat → Gh) → List Ent) (F : (Nat → Bool) → (Nat → Gh) → Prop) : (Nat → Bool) → (Nat → Gh) → World → Prop := fun L g w => StE B w0 w (E L g) ∧ F L g
/-- Loads. -/
theorem gv_load (t : TypeId) (x : Operand) (k : Nat) (b : (Nat → Gh) → Nat) (C : Array Value) (T : TypeId) (fz : Nat × Nat) (hs : ∀ L g w, Pre B w0 E F L g w → Pre B w0 E F (put1 L i) g w) (h : ∀ g, opk ops i (R g) = some (d, true, .load t x))
    (hx : ∀ g, ev (R g) x = .pointer (some ⟨b g, 0, none⟩)) (hj : ∀ L g, Now ops i L → (E L g)[k]? = some (true, (b g, .cells C T fz))) (ht : aggSize P t = some C.size) : Gives P ops R (Pre B w0 E F) i d (fun _ => .agg C) := gives_of fun L g w hp hN => by
  obtain ⟨o, ho, hd, hw, hop⟩ := opk_some (h g)
  have := load_agg (w := w) (off := 0) ht (hp.1.get k (hj L g hN)) (by omega)
  have e : C.extract 0 (0 + C.size) = C := by simp
  rw [e] at this
  have e2 : (execOp (ev (R g)) o).run P w = .ok (.value (.agg C)) w := by simp [execOp, hop, Instr.loadAt, Instr.sureAddr, hx g, this]
  exact ⟨o, ho, hd, .inr ⟨hw, by rw [e2]; exact ⟨g i, rfl, by rw [setN_self]; exact hs _ _ _ hp⟩⟩⟩
theorem gv_loadp (t : TypeId) (x : Operand) (k : Nat) (b : (Nat → Gh) → Nat) (off n : Nat) (C W : Array Value) (T : TypeId) (fz : Nat × Nat) (hs : ∀ L g w, Pre B w0 E F L g w → Pre B w0 E F (put1 L i) g w) (h : ∀ g, opk ops i (R g) = some (d, true, .load t x))
    (hx : ∀ g, ev (R g) x = .pointer (some ⟨b g, off, none⟩)) (hj : ∀ L g, Now ops i L → (E L g)[k]? = some (true, (b g, .cells C T fz))) (ht : aggSize P t = some n) (hsz : off + n ≤ C.size) (hV : C.extract off (off + n) = W) : Gives P ops R (Pre B w0 E F) i d (fun _ => .agg W) := gives_of fun L g w hp hN => by
  obtain ⟨o, ho, hd, hw, hop⟩ := opk_some (h g)
  have := load_agg (w := w) ht (hp.1.get k (hj L g hN)) hsz
  rw [hV] at this
  have e2 : (execOp (ev (R g)) o).run P w = .ok (.value (.agg W)) w := by simp [execOp, hop, Instr.loadAt, Instr.sureAddr, hx g, this]
  exact ⟨o, ho, hd, .inr ⟨hw, by rw [e2]; exact ⟨g i, rfl, by rw [setN_self]; exact hs _ _ _ hp⟩⟩⟩
/-- One cell, at a place that may hang on what was chosen. -/
theorem gv_load1 {V : Value} (t : TypeId) (x : Operand) (k : Nat) (b off : (Nat → Gh) → Nat) (C : (Nat → Gh) → Array Value) (T : TypeId) (fz : Nat × Nat) (hs : ∀ L g w, Pre B w0 E F L g w → Pre B w0 E F (put1 L i) g w) (h : ∀ g, opk ops i (R g) = some (d, true, .load t x))
    (hx : ∀ g, ev (R g) x = .pointer (some ⟨b g, off g, none⟩)) (hj : ∀ L g, Now ops i L → (E L g)[k]? = some (true, (b g, .cells (C g) T fz))) (ht : oneCell P t = true) (hv : ∀ L g, Now ops i L → F L g → (C g)[off g]? = some V) : Gives P ops R (Pre B w0 E F) i d (fun _ => V) := gives_of fun L g w hp hN => by
  obtain ⟨o, ho, hd, hw, hop⟩ := opk_some (h g)
  have := load_one (w := w) ht (hp.1.get k (hj L g hN)) (hv L g hN hp.2)
  have e2 : (execOp (ev (R g)) o).run P w = .ok (.value V) w := by
    have e3 : (Instr.loadAt t (ev (R g) x)).run P w = .ok V w := by rw [hx g]; exact this
    simp only [execOp, hop, Sem.run_bind, e3, Result.andThen_ok]; rfl
  exact ⟨o, ho, hd, .inr ⟨hw, by rw [e2]; exact ⟨g i, rfl, by rw [setN_self]; exact hs _ _ _ hp⟩⟩⟩
/-- Calls that give a value and make at most new blocks. -/
theorem gv_call {V : Value} (f : Nat) (args : Array Value) (hs : ∀ L g w, Pre B w0 E F L g w → Pre B w0 E F (put1 L i) g w) (hc : Fn P f args V) (h : ∀ g w, opv P ops i (R g) w = some (d, true, .ok (.enter f args) w)) : Gives P ops R (Pre B w0 E F) i d (fun _ => V) := gives_of fun L g w hp hN => by
  obtain ⟨o, ho, hd, hw, hr⟩ := opv_some (h g w)
  exact ⟨o, ho, hd, .inr ⟨hw, by rw [hr]; exact (hc w).mono fun e w' ⟨he, hb⟩ => ⟨V, he, g i, rfl, by rw [setN_self]; exact hs _ _ _ ⟨hp.1.call hb, hp.2⟩⟩⟩⟩
/-- The same, with a premise on the world and on what was chosen. -/
theorem gv_callP {V : Value} (f : Nat) (args : (Nat → Gh) → Array Value) (pr : (Nat → Gh) → World → Prop) (hs : ∀ L g w, Pre B w0 E F L g w → Pre B w0 E F (put1 L i) g w) (hc : ∀ L g, Now ops i L → F L g → FnP P f (args g) (pr g) V) (hpr : ∀ L g w, Now ops i L → StE B w0 w (E L g) → F L g → pr g w) (h : ∀ g w, opv P ops i (R g) w = some (d, true, .ok (.enter f (args g)) w)) : Gives P ops R (Pre B w0 E F) i d (fun _ => V) := gives_of fun L g w hp hN => by
  obtain ⟨o, ho, hd, hw, hr⟩ := opv_some (h g w)
  exact ⟨o, ho, hd, .inr ⟨hw, by rw [hr]; exact (hc L g hN hp.2 w (hpr L g w hN hp.1 hp.2)).mono fun e w' ⟨he, hb⟩ => ⟨V, he, g i, rfl, by rw [setN_self]; exact hs _ _ _ ⟨hp.1.call hb, hp.2⟩⟩⟩⟩
/-- A call that gives what R says: what was chosen is read off it. -/
theorem gv_callR (f : Nat) (args : (Nat → Gh) → Array Value) (pr : (Nat → Gh) → World → Prop) (RR : (Nat → Gh) → Nat → Value → World → Prop) (hc : ∀ L g, Now ops i L → F L g → FnR P f (args g) (pr g) (RR g)) (hpr : ∀ L g w, Now ops i L → StE B w0 w (E L g) → F L g → pr g w) (h : ∀ g w, opv P ops i (R g) w = some (d, true, .ok (.enter f (args g)) w))
    (hR : ∀ L g w v w', Now ops i L → StE B w0 w (E L g) → F L g → Below w.heap.size w w' → RR g w.heap.size v w' → ∃ b, v = V b ∧ StE B w0 w' (E (put1 L i) (setN g i b)) ∧ F (put1 L i) (setN g i b)) : Gives P ops R (Pre B w0 E F) i d V := gives_of fun L g w hp hN => by
  obtain ⟨o, ho, hd, hw, hr⟩ := opv_some (h g w)
  exact ⟨o, ho, hd, .inr ⟨hw, by
    rw [hr]
    exact (hc L g hN hp.2 w (hpr L g w hN hp.1 hp.2)).mono fun e w' ⟨v, he, hb, hq⟩ => by
      obtain ⟨b, hv, hp'⟩ := hR L g w v w' hN hp.1 hp.2 hb hq
      exact ⟨v, he, b, hv, hp'⟩⟩⟩
/-- Stores: into entry k. -/
theorem gv_store (k : Nat) (t : TypeId) (x y : Operand) (b off : (Nat → Gh) → Nat) (C C' : Array Value) (T : TypeId) (v : Value) (h : ∀ g, opk ops i (R g) = some (none, true, .store t x y))
    (hx : ∀ g, ev (R g) x = .pointer (some ⟨b g, off g, none⟩)) (hy : ∀ g, ev (R g) y = v) (hi : (P.info? t).map (·.size) = some v.cells.size) (h1 : v.cells.all (·.oneCell') = true) (hsz : ∀ g, off g + v.cells.size ≤ C.size)
    (hC : ∀ g, (C.toList.take (off g) ++ v.cells.toList ++ C.toList.drop (off g + v.cells.size)).toArray = C')
    (hj : ∀ L g, Now ops i L → (E L g)[k]? = some (true, (b g, .cells C T (0, 0))) ∧ (E L g).set k (true, (b g, .cells C' T (0, 0))) = E (put1 L i) g) (hF : ∀ L g, Now ops i L → F L g → F (put1 L i) g) : Gives P ops R (Pre B w0 E F) i none (fun _ => undef) := gives_of fun L g w hp hN => by
  obtain ⟨o, ho, hd, hw, hop⟩ := opk_some (h g)
  obtain ⟨hk, hl⟩ := hj L g hN
  have := store_agg (P := P) (w := w) hi h1 (hp.1.get k hk) (hsz g)
  rw [hC g] at this
  have e2 : (execOp (ev (R g)) o).run P w = .ok .skip (w.setRow (b g) C') := by simp [execOp, hop, Instr.storeAt, Instr.sureAddr, hx g, hy g, this]
  exact ⟨o, ho, hd, .inr ⟨hw, by rw [e2]; exact ⟨g i, rfl, by rw [setN_self, Pre, ← hl]; exact ⟨hp.1.store k hk, hF L g hN hp.2⟩⟩⟩⟩
/-- New blocks: entry k. -/
theorem gv_alloc (t : TypeId) (z : Value) (k : Nat) (h : ∀ g, opk ops i (R g) = some (d, true, .alloc t)) (hz : (P.info? t).bind (·.zero) = some z)
    (hl : ∀ L g b, Now ops i L → (E L g).set k (true, (b, .cells z.cells t (0, 0))) = E (put1 L i) (setN g i { b := b })) (hF : ∀ L g b, Now ops i L → F L g → F (put1 L i) (setN g i b)) :
    Gives P ops R (Pre B w0 E F) i d (fun b => .pointer (some ⟨b.b, 0, none⟩)) := gives_of fun L g w hp hN => by
  obtain ⟨o, ho, hd, hw, hop⟩ := opk_some (h g)
  have H2 := hp.1.add (w' := w.alloc (.cells z.cells t (0, 0))) ((Below.refl _ _).alloc (Nat.le_refl _) _) k (Nat.le_refl _) (heap_alloc_new w _)
  rw [hl L g _ hN] at H2
  refine ⟨o, ho, hd, .inr ⟨hw, ?_⟩⟩
  cases hq : P.info? t with
  | none => simp [hq] at hz
  | some it =>
    simp [hq] at hz
    have e : (execOp (ev (R g)) o).run P w = .ok (.value (.pointer (some ⟨w.heap.size, 0, none⟩))) (w.alloc (.cells z.cells t (0, 0))) := by
      simp [execOp, hop, Instr.alloc, zeroValue, typeInfo, hq, hz, newVar, newRow, newObj]
      rfl
    rw [e]
    exact ⟨{ b := w.heap.size }, rfl, H2, hF L g _ hN hp.2⟩
theorem gv_box (t : TypeId) (x : Operand) (v : Value) (k : Nat) (h : ∀ g, opk ops i (R g) = some (d, true, .box t x)) (hx : ∀ g, ev (R g) x = v)
    (hl : ∀ L g b, Now ops i L → (E L g).set k (true, (b, .cells v.cells t (0, 0))) = E (put1 L i) (setN g i { b := b })) (hF : ∀ L g b, Now ops i L → F L g → F (put1 L i) (setN g i b)) :
    Gives P ops R (Pre B w0 E F) i d (fun b => .pointer (some ⟨b.b, 0, none⟩)) := gives_of fun L g w hp hN => by
  obtain ⟨o, ho, hd, hw, hop⟩ := opk_some (h g)
  have H2 := hp.1.add (w' := w.alloc (.cells v.cells t (0, 0))) ((Below.refl _ _).alloc (Nat.le_refl _) _) k (Nat.le_refl _) (heap_alloc_new w _)
  rw [hl L g _ hN] at H2
  refine ⟨o, ho, hd, .inr ⟨hw, ?_⟩⟩
  have e : (execOp (ev (R g)) o).run P w = .ok (.value (.pointer (some ⟨w.heap.size, 0, none⟩))) (w.alloc (.cells v.cells t (0, 0))) := by
    simp [execOp, hop, Instr.box, newVar, newRow, newObj, hx g]
    rfl
  rw [e]
  exact ⟨{ b := w.heap.size }, rfl, H2, hF L g _ hN hp.2⟩
end
end Go.Proofs.Ytljhbhhpfkmemaa.D2
