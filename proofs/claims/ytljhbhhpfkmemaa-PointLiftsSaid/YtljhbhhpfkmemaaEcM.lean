/-
  Points of a curve y y = x x x + b over any field in which 2 and 3 are not 0: the group's law.
-/
import Derived.Test.YtljhbhhpfkmemaaMath
namespace Go.Proofs.Ec
set_option linter.unusedVariables false

set_option linter.unusedSectionVars false
section
variable {F : Type} [Lean.Grind.Field F]
/-- A line y = k x + m meets the curve y y = x x x + b in three places. -/
structure Line (b k m x1 y1 x2 y2 x3 y3 : F) : Prop where
  e1 : x1 + x2 + x3 = k * k
  e2 : x1 * x2 + x1 * x3 + x2 * x3 = -2 * k * m
  e3 : x1 * x2 * x3 = m * m - b
  l1 : y1 = k * x1 + m
  l2 : y2 = k * x2 + m
  l3 : y3 = k * x3 + m
theorem Line.on1 {b k m x1 y1 x2 y2 x3 y3 : F} (h : Line b k m x1 y1 x2 y2 x3 y3) : y1 * y1 = x1 * x1 * x1 + b := by
  obtain ⟨e1, e2, e3, l1, l2, l3⟩ := h
  grind
theorem Line.swap {b k m x1 y1 x2 y2 x3 y3 : F} (h : Line b k m x1 y1 x2 y2 x3 y3) : Line b k m x2 y2 x1 y1 x3 y3 := by
  obtain ⟨e1, e2, e3, l1, l2, l3⟩ := h
  constructor <;> grind
theorem Line.rot {b k m x1 y1 x2 y2 x3 y3 : F} (h : Line b k m x1 y1 x2 y2 x3 y3) : Line b k m x2 y2 x3 y3 x1 y1 := by
  obtain ⟨e1, e2, e3, l1, l2, l3⟩ := h
  constructor <;> grind
theorem Line.neg {b k m x1 y1 x2 y2 x3 y3 : F} (h : Line b k m x1 y1 x2 y2 x3 y3) : Line b (-k) (-m) x1 (-y1) x2 (-y2) x3 (-y3) := by
  obtain ⟨e1, e2, e3, l1, l2, l3⟩ := h
  constructor <;> grind
theorem Line.third {b k m x1 y1 x2 x3 : F} (e1 : x1 + x2 + x3 = k * k) (e2 : x1 * x2 + x1 * x3 + x2 * x3 = -2 * k * m) (l1 : y1 = k * x1 + m) (h : y1 * y1 = x1 * x1 * x1 + b) : x1 * x2 * x3 = m * m - b := by
  grind
theorem diamond2 {b k m x1 y1 x2 y2 xs ys k' m' x3 y3 xt yt d v : F} (h : Line b k m x1 y1 x2 y2 xs ys) (h' : Line b k' m' x2 y2 x3 y3 xt yt) (hd : d = k - k') (hv : 2 * d * v = x1 + xt - xs - x3 - d * d) (h2 : 2 * d ≠ 0) :
    y3 = v * x3 + (-ys - v * xs) ∧ xs * x3 + xs * (v * v - xs - x3) + x3 * (v * v - xs - x3) = -2 * v * (-ys - v * xs) := by
  obtain ⟨e1, e2, e3, l1, l2, l3⟩ := h
  obtain ⟨f1, f2, f3, g1, g2, g3⟩ := h'
  have l : y3 = v * x3 + (-ys - v * xs) := by grind
  exact ⟨l, by grind⟩
theorem diamond {b k m x1 y1 x2 y2 xs ys k' m' x3 y3 xt yt d v : F} (h : Line b k m x1 y1 x2 y2 xs ys) (h' : Line b k' m' x2 y2 x3 y3 xt yt) (hd : d = k - k') (hv : 2 * d * v = x1 + xt - xs - x3 - d * d) (h2 : 2 * d ≠ 0) :
    Line b v (-ys - v * xs) xs (-ys) x3 y3 (v * v - xs - x3) (v * (v * v - xs - x3) + (-ys - v * xs)) := by
  obtain ⟨l, e2⟩ := diamond2 h h' hd hv h2
  have hs := h.rot.rot.on1
  have e1 : xs + x3 + (v * v - xs - x3) = v * v := by grind
  have l1 : -ys = v * xs + (-ys - v * xs) := by grind
  exact ⟨e1, e2, Line.third e1 e2 l1 (by grind), l1, l, rfl⟩
/-- The two ways meet in one point. -/
theorem diamond_same {b k m x1 y1 x2 y2 xs ys k' m' x3 y3 xt yt d v v' : F} (h : Line b k m x1 y1 x2 y2 xs ys) (h' : Line b k' m' x2 y2 x3 y3 xt yt) (hd : d = k - k') (hv : 2 * d * v = x1 + xt - xs - x3 - d * d) (hv' : 2 * (-d) * v' = x3 + xs - xt - x1 - d * d) (h2 : 2 * d ≠ 0) :
    v * v - xs - x3 = v' * v' - xt - x1 ∧ v * (v * v - xs - x3) + (-ys - v * xs) = v' * (v' * v' - xt - x1) + (-yt - v' * xt) := by
  have hdv : v' = v + d := by grind
  have hw : v' * v' - v * v = x1 + xt - xs - x3 := by grind
  have hx : v * v - xs - x3 = v' * v' - xt - x1 := by grind
  refine ⟨hx, ?_⟩
  rw [← hx]
  obtain ⟨e1, e2, e3, l1, l2, l3⟩ := h
  obtain ⟨f1, f2, f3, g1, g2, g3⟩ := h'
  grind

inductive Pt (F : Type) where
  | zero
  | pt (x y : F)
  deriving DecidableEq
def Pt.On (b : F) : Pt F → Prop
  | .zero => True
  | .pt x y => y * y = x * x * x + b
def Pt.neg : Pt F → Pt F
  | .zero => .zero
  | .pt x y => .pt x (-y)
def slope [DecidableEq F] (x1 y1 x2 y2 : F) : F := if x1 = x2 then (x1 * x1 + x1 * x1 + x1 * x1) / (y1 + y1) else (y2 - y1) / (x2 - x1)
def Pt.add [DecidableEq F] : Pt F → Pt F → Pt F
  | .zero, q => q
  | .pt x1 y1, .zero => .pt x1 y1
  | .pt x1 y1, .pt x2 y2 => if x2 = x1 ∧ y2 = -y1 then .zero else
    .pt (slope x1 y1 x2 y2 * slope x1 y1 x2 y2 - x1 - x2) (slope x1 y1 x2 y2 * (x1 - (slope x1 y1 x2 y2 * slope x1 y1 x2 y2 - x1 - x2)) - y1)
theorem Pt.neg_neg (p : Pt F) : p.neg.neg = p := by
  cases p with
  | zero => rfl
  | pt x y => show Pt.pt x (- -y) = _; congr 1; grind
theorem Pt.neg_on {b : F} {p : Pt F} (h : p.On b) : p.neg.On b := by
  cases p with
  | zero => trivial
  | pt x y => show -y * -y = _; have h : y * y = x * x * x + b := h; grind
variable [DecidableEq F]
theorem slope_ne {x1 y1 x2 y2 : F} (h : x1 ≠ x2) : slope x1 y1 x2 y2 * (x2 - x1) = y2 - y1 := by
  unfold slope; rw [if_neg h]
  have : x2 - x1 ≠ 0 := by grind
  grind
theorem slope_eq {x1 y1 x2 y2 : F} (h : x1 = x2) (hy : y1 + y1 ≠ 0) : slope x1 y1 x2 y2 * (y1 + y1) = x1 * x1 + x1 * x1 + x1 * x1 := by
  unfold slope; rw [if_pos h]
  grind
/-- Two points of the curve that are not turned ones of each other lie on a line. -/
theorem add_line {b : F} (h2 : (2 : F) ≠ 0) {x1 y1 x2 y2 : F} (o1 : y1 * y1 = x1 * x1 * x1 + b) (o2 : y2 * y2 = x2 * x2 * x2 + b) (hn : ¬ (x2 = x1 ∧ y2 = -y1)) :
    ∃ k m x3 y3, Line b k m x1 y1 x2 y2 x3 y3 ∧ Pt.add (.pt x1 y1) (.pt x2 y2) = .pt x3 (-y3) := by
  have hadd : Pt.add (.pt x1 y1) (.pt x2 y2) = .pt (slope x1 y1 x2 y2 * slope x1 y1 x2 y2 - x1 - x2) (slope x1 y1 x2 y2 * (x1 - (slope x1 y1 x2 y2 * slope x1 y1 x2 y2 - x1 - x2)) - y1) := if_neg hn
  rw [hadd]
  by_cases hx : x1 = x2
  · subst hx
    have hyy : y2 = y1 := by
      have : (y2 - y1) * (y2 + y1) = 0 := by grind
      have h3 : y2 + y1 ≠ 0 := fun q => hn ⟨rfl, by grind⟩
      grind
    subst hyy
    have hy0 : y2 + y2 ≠ 0 := fun q => hn ⟨rfl, by grind⟩
    have hs := slope_eq (x2 := x1) (y2 := y2) (rfl : x1 = x1) hy0
    generalize slope x1 y2 x1 y2 = k at *
    refine ⟨k, y2 - k * x1, k * k - x1 - x1, k * (k * k - x1 - x1) + (y2 - k * x1), ?_, ?_⟩
    · have e1 : x1 + x1 + (k * k - x1 - x1) = k * k := by grind
      have e2 : x1 * x1 + x1 * (k * k - x1 - x1) + x1 * (k * k - x1 - x1) = -2 * k * (y2 - k * x1) := by grind
      have l1 : y2 = k * x1 + (y2 - k * x1) := by grind
      exact ⟨e1, e2, Line.third e1 e2 l1 o1, l1, l1, rfl⟩
    · congr 1; grind
  · have hs := slope_ne (y1 := y1) (y2 := y2) hx
    generalize slope x1 y1 x2 y2 = k at *
    refine ⟨k, y1 - k * x1, k * k - x1 - x2, k * (k * k - x1 - x2) + (y1 - k * x1), ?_, ?_⟩
    · have hd : x2 - x1 ≠ 0 := by grind
      have e1 : x1 + x2 + (k * k - x1 - x2) = k * k := by grind
      have l1 : y1 = k * x1 + (y1 - k * x1) := by grind
      have l2 : y2 = k * x2 + (y1 - k * x1) := by grind
      have e2 : x1 * x2 + x1 * (k * k - x1 - x2) + x2 * (k * k - x1 - x2) = -2 * k * (y1 - k * x1) := by
        have : (x2 - x1) * (x1 * x2 + x1 * (k * k - x1 - x2) + x2 * (k * k - x1 - x2) + 2 * k * (y1 - k * x1)) = 0 := by grind
        grind
      exact ⟨e1, e2, Line.third e1 e2 l1 o1, l1, l2, rfl⟩
    · congr 1; grind
theorem line_add {b : F} (h2 : (2 : F) ≠ 0) (h3 : (3 : F) ≠ 0) (hb : b ≠ 0) {k m x1 y1 x2 y2 x3 y3 : F} (h : Line b k m x1 y1 x2 y2 x3 y3) : Pt.add (.pt x1 y1) (.pt x2 y2) = .pt x3 (-y3) := by
  have o1 := h.on1
  have o2 := h.swap.on1
  have tang : x1 = x2 → y1 = y2 ∧ 2 * k * y1 = 3 * x1 * x1 ∧ y1 ≠ 0 := by
    intro e
    obtain ⟨e1, e2, e3, l1, l2, l3⟩ := h
    subst e
    have hy : y1 = y2 := by grind
    have ht : 2 * k * y1 = 3 * x1 * x1 := by grind
    refine ⟨hy, ht, fun q => ?_⟩
    have : x1 = 0 := by grind
    grind
  have hn : ¬ (x2 = x1 ∧ y2 = -y1) := by
    rintro ⟨e, q⟩
    obtain ⟨hy, _, h0⟩ := tang e.symm
    apply h0
    have : 2 * y1 = 0 := by grind
    grind
  obtain ⟨k', m', x3', y3', h', ha⟩ := add_line h2 o1 o2 hn
  rw [ha]
  have hk : k' = k := by
    by_cases e : x1 = x2
    · obtain ⟨hy, ht, h0⟩ := tang e
      obtain ⟨e1, e2, e3, l1, l2, l3⟩ := h'
      subst e
      have ht' : 2 * k' * y1 = 3 * x1 * x1 := by grind
      grind
    · have l1 := h.l1; have l2 := h.l2; have l1' := h'.l1; have l2' := h'.l2
      have : (k' - k) * (x1 - x2) = 0 := by grind
      have : x1 - x2 ≠ 0 := by grind
      grind
  subst hk
  have hx : x3' = x3 := by have := h.e1; have := h'.e1; grind
  have hy : y3' = y3 := by have := h.l3; have := h'.l3; have := h.l1; have := h'.l1; grind
  rw [hx, hy]
theorem add_comm' {b : F} (h2 : (2 : F) ≠ 0) (h3 : (3 : F) ≠ 0) (hb : b ≠ 0) {p q : Pt F} (hp : p.On b) (hq : q.On b) : p.add q = q.add p := by
  cases p with
  | zero => cases q <;> rfl
  | pt x1 y1 =>
    cases q with
    | zero => rfl
    | pt x2 y2 =>
      by_cases hn : x2 = x1 ∧ y2 = -y1
      · have hm : x1 = x2 ∧ y1 = -y2 := ⟨hn.1.symm, by have := hn.2; grind⟩
        show (if _ then _ else _) = (if _ then _ else _)
        rw [if_pos hn, if_pos hm]
      · obtain ⟨k, m, x3, y3, h, ha⟩ := add_line h2 hp hq hn
        rw [ha, line_add h2 h3 hb h.swap]
theorem add_neg (p : Pt F) : p.add p.neg = .zero := by
  cases p with
  | zero => rfl
  | pt x y => show (if _ then _ else _) = _; rw [if_pos ⟨rfl, rfl⟩]
theorem add_zero (p : Pt F) : p.add .zero = p := by cases p <;> rfl
theorem zero_add (p : Pt F) : Pt.add .zero p = p := rfl
theorem add_on {b : F} (h2 : (2 : F) ≠ 0) {p q : Pt F} (hp : p.On b) (hq : q.On b) : (p.add q).On b := by
  cases p with
  | zero => exact hq
  | pt x1 y1 =>
    cases q with
    | zero => exact hp
    | pt x2 y2 =>
      by_cases hn : x2 = x1 ∧ y2 = -y1
      · show Pt.On b (if _ then _ else _); rw [if_pos hn]; trivial
      · obtain ⟨k, m, x3, y3, h, ha⟩ := add_line h2 hp hq hn
        rw [ha]; have := h.rot.rot.on1; show -y3 * -y3 = _; grind
/-- A turned one goes back. -/
theorem neg_add_cancel {b : F} (h2 : (2 : F) ≠ 0) (h3 : (3 : F) ≠ 0) (hb : b ≠ 0) {q r : Pt F} (hq : q.On b) (hr : r.On b) : q.neg.add (q.add r) = r := by
  cases q with
  | zero => rfl
  | pt x2 y2 =>
    cases r with
    | zero => rw [add_zero, add_comm' h2 h3 hb (Pt.neg_on hq) hq, add_neg]
    | pt x3 y3 =>
      by_cases hn : x3 = x2 ∧ y3 = -y2
      · show Pt.add _ (if _ then _ else _) = _
        rw [if_pos hn, add_zero]
        obtain ⟨rfl, rfl⟩ := hn; rfl
      · obtain ⟨k, m, xt, yt, h, ha⟩ := add_line h2 hq hr hn
        rw [ha]
        have := line_add h2 h3 hb (h.neg.rot.rot.swap)
        show Pt.add (.pt x2 (-y2)) (.pt xt (-yt)) = _
        rw [this]; congr 1; grind
theorem add_assoc' {b : F} (h2 : (2 : F) ≠ 0) (h3 : (3 : F) ≠ 0) (hb : b ≠ 0) {p q r : Pt F} (hp : p.On b) (hq : q.On b) (hr : r.On b) : (p.add q).add r = p.add (q.add r) := by
  cases p with
  | zero => rfl
  | pt x1 y1 =>
    cases q with
    | zero => rfl
    | pt x2 y2 =>
      cases r with
      | zero => rw [add_zero, add_zero]
      | pt x3 y3 =>
        by_cases hn : x2 = x1 ∧ y2 = -y1
        · obtain ⟨rfl, rfl⟩ := hn
          have := neg_add_cancel h2 h3 hb hq hr
          have e : Pt.neg (.pt x2 (-y1)) = Pt.pt x2 y1 := by show Pt.pt x2 (- -y1) = _; congr 1; grind
          rw [e] at this
          rw [this]
          have : Pt.add (.pt x2 y1) (.pt x2 (-y1)) = Pt.zero := add_neg (.pt x2 y1)
          rw [this]; rfl
        · by_cases hm : x3 = x2 ∧ y3 = -y2
          · obtain ⟨rfl, rfl⟩ := hm
            have e0 : Pt.add (.pt x3 y2) (.pt x3 (-y2)) = Pt.zero := add_neg (.pt x3 y2)
            rw [e0, add_zero, add_comm' h2 h3 hb hp hq, add_comm' h2 h3 hb (add_on h2 hq hp) hr]
            exact neg_add_cancel h2 h3 hb hq hp
          · obtain ⟨k, m, xs, ys, h, ha⟩ := add_line h2 hp hq hn
            obtain ⟨k', m', xt, yt, h', ha'⟩ := add_line h2 hq hr hm
            rw [ha, ha']
            by_cases hk : k = k'
            · subst hk
              have hmm : m = m' := by have := h.l2; have := h'.l1; grind
              subst hmm
              have hxx : (x3 - x1) * (x3 - xs) = 0 := by
                have a1 := h.e1; have a2 := h.e2; have b1 := h'.e1; have b2 := h'.e2
                grind
              have hcase : x3 = x1 ∨ x3 = xs := by
                by_cases q : x3 = x1
                · exact Or.inl q
                · right
                  have : x3 - x1 ≠ 0 := by grind
                  grind
              rcases hcase with q | q
              · have hy : y3 = y1 := by have := h.l1; have := h'.l2; grind
                have ht : xt = xs := by have := h.e1; have := h'.e1; grind
                have hty : yt = ys := by have := h.l3; have := h'.l3; grind
                subst q hy ht hty
                have ons : (Pt.pt xt (-yt)).On b := by have := h.rot.rot.on1; show -yt * -yt = _; grind
                exact add_comm' h2 h3 hb ons hp
              · have hy : y3 = ys := by have := h.l3; have := h'.l2; grind
                have ht : xt = x1 := by have := h.e1; have := h'.e1; grind
                have hty : yt = y1 := by have := h.l1; have := h'.l3; grind
                subst q hy ht hty
                have e1 : Pt.add (.pt xt yt) (.pt xt (-yt)) = Pt.zero := add_neg (.pt xt yt)
                rw [e1]
                have ons : (Pt.pt x3 (-y3)).On b := by have := h.rot.rot.on1; show -y3 * -y3 = _; grind
                rw [add_comm' h2 h3 hb ons hr]
                exact add_neg (.pt x3 y3)
            · have hd : k - k' ≠ 0 := by grind
              have h2d : 2 * (k - k') ≠ 0 := by grind
              have h2d' : 2 * (k' - k) ≠ 0 := by grind
              obtain ⟨v, hv⟩ : ∃ v, 2 * (k - k') * v = x1 + xt - xs - x3 - (k - k') * (k - k') := ⟨(x1 + xt - xs - x3 - (k - k') * (k - k')) / (2 * (k - k')), by grind⟩
              obtain ⟨v', hv'⟩ : ∃ v, 2 * (k' - k) * v = x3 + xs - xt - x1 - (k' - k) * (k' - k) := ⟨(x3 + xs - xt - x1 - (k' - k) * (k' - k)) / (2 * (k' - k)), by grind⟩
              have D1 := diamond h h' rfl hv h2d
              have D2 := diamond h'.swap h.swap rfl hv' h2d'
              have A1 := line_add h2 h3 hb D1
              have A2 := line_add h2 h3 hb D2
              obtain ⟨s1, s2⟩ := diamond_same h h' rfl hv (v' := v') (by grind) h2d
              have ont : (Pt.pt xt (-yt)).On b := by have := h'.rot.rot.on1; show -yt * -yt = _; grind
              rw [A1, add_comm' h2 h3 hb hp ont, A2, s1, ← s2, s1]
end
end Go.Proofs.Ec
