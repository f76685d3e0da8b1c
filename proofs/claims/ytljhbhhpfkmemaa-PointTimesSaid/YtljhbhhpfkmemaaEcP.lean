/-
  Points with a third number: what they stand for.
-/
import Derived.Test.YtljhbhhpfkmemaaEcN
namespace Go.Proofs.Ec
open Go.Proofs.Ytljhbhhpfkmemaa Go.Proofs.Zm
set_option linter.unusedVariables false
theorem mk_ml (a b : Nat) : (mk (fMul a b PR) : Fp) = mk a * mk b := by unfold fMul; rw [mk_mod, mk_mul]
theorem mk_ad (a b : Nat) : (mk (fAdd a b PR) : Fp) = mk a + mk b := by unfold fAdd; rw [mk_mod, mk_add]
theorem mk_su (a b : Nat) : (mk (fSub a b PR) : Fp) = mk a - mk b := by unfold fSub; rw [mk_mod]; exact (mk_sub a b).symm
theorem mlP (a b : Nat) : fMul a b PR < PR := Nat.mod_lt _ prpos
theorem adP (a b : Nat) : fAdd a b PR < PR := Nat.mod_lt _ prpos
theorem suP (a b : Nat) : fSub a b PR < PR := Nat.mod_lt _ prpos
theorem zero_iff {a : Nat} (h : a < PR) : a = 0 ↔ (mk a : Fp) = mk 0 := (mk_inj h prpos).symm
theorem P_big {a : Nat} (h : a < PR) : a < big := Nat.lt_trans h pr_ok.1
/-- A point with a third number. -/
structure Wp where
  X : Nat
  Y : Nat
  b : Bool
  Z : Nat
structure Wp.Ok (a : Wp) : Prop where
  X : a.X < big
  Y : a.Y < big
  Z : a.Z < big
def zeroW : Wp := ⟨0, 0, true, 0⟩
def thirdW (rise x ox y z : Nat) : Wp :=
  ⟨fSub (fSub (fMul rise rise PR) x PR) ox PR, fSub (fMul rise (fSub x (fSub (fSub (fMul rise rise PR) x PR) ox PR) PR) PR) y PR, false, z⟩
def dblF (p : Wp) : Wp :=
  thirdW (fAdd (fAdd (fMul p.X p.X PR) (fMul p.X p.X PR) PR) (fMul p.X p.X PR) PR)
    (fMul p.X (fAdd (fMul (fAdd p.Y p.Y PR) p.Y PR) (fMul (fAdd p.Y p.Y PR) p.Y PR) PR) PR)
    (fMul p.X (fAdd (fMul (fAdd p.Y p.Y PR) p.Y PR) (fMul (fAdd p.Y p.Y PR) p.Y PR) PR) PR)
    (fMul (fAdd (fMul (fAdd p.Y p.Y PR) p.Y PR) (fMul (fAdd p.Y p.Y PR) p.Y PR) PR) (fMul (fAdd p.Y p.Y PR) p.Y PR) PR)
    (fMul (fAdd p.Y p.Y PR) p.Z PR)
def dblW (p : Wp) : Wp := bif p.b then p else dblF p
def runW (p q : Wp) : Nat := fSub (fMul q.X (fMul p.Z p.Z PR) PR) (fMul p.X (fMul q.Z q.Z PR) PR) PR
def riseW (p q : Wp) : Nat := fSub (fMul q.Y (fMul (fMul p.Z p.Z PR) p.Z PR) PR) (fMul p.Y (fMul (fMul q.Z q.Z PR) q.Z PR) PR) PR
def sumW (p q : Wp) : Wp :=
  thirdW (riseW p q) (fMul (fMul p.X (fMul q.Z q.Z PR) PR) (fMul (runW p q) (runW p q) PR) PR)
    (fAdd (fMul (fMul p.X (fMul q.Z q.Z PR) PR) (fMul (runW p q) (runW p q) PR) PR) (fMul (fMul (runW p q) (runW p q) PR) (runW p q) PR) PR)
    (fMul (fMul p.Y (fMul (fMul q.Z q.Z PR) q.Z PR) PR) (fMul (fMul (runW p q) (runW p q) PR) (runW p q) PR) PR)
    (fMul (fMul p.Z q.Z PR) (runW p q) PR)
def plusF (p q : Wp) : Wp := if runW p q = 0 then (if riseW p q = 0 then dblW p else zeroW) else sumW p q
def plusW (p q : Wp) : Wp := bif p.b then q else bif q.b then p else plusF p q
theorem plusW_1 {p q : Wp} (h : p.b = true) : plusW p q = q := by unfold plusW; rw [h]; rfl
theorem plusW_2 {p q : Wp} (h : p.b = false) (h2 : q.b = true) : plusW p q = p := by unfold plusW; rw [h, h2]; rfl
theorem plusW_3 {p q : Wp} (h : p.b = false) (h2 : q.b = false) (h3 : runW p q ≠ 0) : plusW p q = sumW p q := by unfold plusW plusF; rw [h, h2, if_neg h3]; rfl
theorem plusW_4 {p q : Wp} (h : p.b = false) (h2 : q.b = false) (h3 : runW p q = 0) (h4 : riseW p q ≠ 0) : plusW p q = zeroW := by unfold plusW plusF; rw [h, h2, if_pos h3, if_neg h4]; rfl
theorem plusW_5 {p q : Wp} (h : p.b = false) (h2 : q.b = false) (h3 : runW p q = 0) (h4 : riseW p q = 0) : plusW p q = dblW p := by unfold plusW plusF; rw [h, h2, if_pos h3, if_pos h4]; rfl
theorem dblW_1 {p : Wp} (h : p.b = true) : dblW p = p := by unfold dblW; rw [h]; rfl
theorem dblW_2 {p : Wp} (h : p.b = false) : dblW p = dblF p := by unfold dblW; rw [h]; rfl
theorem zeroW_ok : zeroW.Ok := ⟨by show 0 < big; unfold big; omega, by show 0 < big; unfold big; omega, by show 0 < big; unfold big; omega⟩
theorem thirdW_ok {rise x ox y z : Nat} (hz : z < big) : (thirdW rise x ox y z).Ok := ⟨P_big (suP _ _), P_big (suP _ _), hz⟩
theorem dblW_ok {p : Wp} (h : p.Ok) : (dblW p).Ok := by
  cases hb : p.b
  · rw [dblW_2 hb]; exact thirdW_ok (P_big (mlP _ _))
  · rw [dblW_1 hb]; exact h
theorem plusW_ok {p q : Wp} (h : p.Ok) (h2 : q.Ok) : (plusW p q).Ok := by
  unfold plusW
  cases p.b
  · cases q.b
    · show (plusF p q).Ok
      unfold plusF
      split
      · split
        · exact dblW_ok h
        · exact zeroW_ok
      · exact thirdW_ok (P_big (mlP _ _))
    · exact h
  · exact h2
/-- It stands for a point. -/
def Stands (a : Wp) : Pt Fp → Prop
  | .zero => a.b = true ∧ a.X = 0 ∧ a.Y = 0
  | .pt x y => a.b = false ∧ a.X < PR ∧ a.Y < PR ∧ a.Z < PR ∧ (mk a.Z : Fp) ≠ 0 ∧ mk a.X = x * (mk a.Z * mk a.Z) ∧ mk a.Y = y * (mk a.Z * mk a.Z * mk a.Z)
theorem third_rep {rise x ox y z : Nat} {k x1 x2 y1 : Fp} (hz : z < PR) (h0 : (mk z : Fp) ≠ 0) (hr : mk rise = k * mk z) (hx : mk x = x1 * (mk z * mk z)) (ho : mk ox = x2 * (mk z * mk z)) (hy : mk y = y1 * (mk z * mk z * mk z)) :
    Stands (thirdW rise x ox y z) (.pt (k * k - x1 - x2) (k * (x1 - (k * k - x1 - x2)) - y1)) := by
  refine ⟨rfl, suP _ _, suP _ _, hz, h0, ?_, ?_⟩
  · show mk (fSub (fSub (fMul rise rise PR) x PR) ox PR) = _
    rw [mk_su, mk_su, mk_ml, hr, hx, ho]; show _ = _ * (mk z * mk z)
    grind
  · show mk (fSub (fMul rise (fSub x (fSub (fSub (fMul rise rise PR) x PR) ox PR) PR) PR) y PR) = _
    rw [mk_su, mk_ml, mk_su, mk_su, mk_su, mk_ml, hr, hx, ho, hy]; show _ = _ * (mk z * mk z * mk z)
    grind
/-- No point has the second number 0. -/
theorem nocube {p e c n : Nat} (hp : Pr p) (he : 3 * e = p - 1) (hc : n ^ 3 % p = c) (hd : ¬ p ∣ n) : c ^ e % p = 1 := by
  rw [← hc, ← Nat.pow_mod, ← Nat.pow_mul, he, fermat hp hd]
def ER : Nat := (PR - 1) / 3
theorem er_3 : 3 * ER = PR - 1 := by decide +kernel
theorem er_256 : ER < 2 ^ 256 := by decide +kernel
theorem cube_pm : pm (PR - 7) PR 256 ER ≠ 1 := by decide +kernel
theorem seven_lt : 7 < PR := by decide +kernel
theorem seven_up {t p : Nat} (h7 : 7 < p) (h2 : (t + 7) % p = 0) (hm : t < p) : t = p - 7 := by
  rcases Nat.lt_or_ge (t + 7) p with q | q
  · rw [Nat.mod_eq_of_lt q] at h2; omega
  · rw [Nat.mod_eq_sub_mod q, Nat.mod_eq_of_lt (by omega)] at h2; omega
theorem noy {x y : Fp} (h : y * y = x * x * x + seven) : y ≠ 0 := fun hy => by
  obtain ⟨n, rfl⟩ := rep x
  rw [hy] at h
  have h1 : (mk (n * n * n + 7) : Fp) = mk 0 := by rw [← mk_add, ← mk_mul, ← mk_mul]; show _ + seven = (0 : Fp); rw [← h]; grind
  have h2 := mk_iff.1 h1
  rw [Nat.zero_mod] at h2
  have h3 : n ^ 3 % PR = PR - 7 := by
    rw [show n ^ 3 = n * n * n by rw [Nat.pow_succ, Nat.pow_succ, Nat.pow_succ, Nat.pow_zero, Nat.one_mul]]
    rw [Nat.add_mod, Nat.mod_eq_of_lt seven_lt] at h2
    exact seven_up seven_lt h2 (Nat.mod_lt (n * n * n) prpos)
  have hd : ¬ PR ∣ n := fun q => by
    have : n ^ 3 % PR = 0 := Nat.mod_eq_zero_of_dvd (Nat.dvd_trans q ⟨n ^ 2, by rw [Nat.pow_succ, Nat.mul_comm]⟩)
    have h7 := seven_lt
    omega
  have := nocube pr_prime er_3 h3 hd
  rw [← pm_eq (PR - 7) PR 256 ER er_256] at this
  exact cube_pm this
theorem dbl_rep {a : Wp} {P : Pt Fp} (ha : Stands a P) (hP : P.On seven) : Stands (dblW a) (P.add P) := by
  cases P with
  | zero => rw [dblW_1 ha.1]; exact ha
  | pt x y =>
    obtain ⟨hb, hx, hy, hz, h0, ex, ey⟩ := ha
    rw [dblW_2 hb]
    have hy0 := noy hP
    have h2 := good.two
    have hyy : y + y ≠ 0 := by grind
    have hn : ¬ (x = x ∧ y = -y) := fun q => hyy (by have := q.2; grind)
    show Stands _ (if _ then _ else _)
    rw [if_neg hn]
    have hk := slope_eq (x1 := x) (x2 := x) (y2 := y) rfl hyy
    generalize slope x y x y = k at *
    have e2 : (mk (fMul (fAdd a.Y a.Y PR) a.Z PR) : Fp) = (y + y) * (mk a.Z * mk a.Z * mk a.Z * mk a.Z) := by rw [mk_ml, mk_ad, ey]; grind
    refine third_rep (mlP _ _) ?_ ?_ ?_ ?_ ?_
    · rw [e2]; grind
    · rw [e2, mk_ad, mk_ad, mk_ml, ex]; grind
    · rw [e2]; simp only [mk_ad, mk_ml]; rw [ex, ey]; grind
    · rw [e2]; simp only [mk_ad, mk_ml]; rw [ex, ey]; grind
    · rw [e2]; simp only [mk_ad, mk_ml]; rw [ey]; grind
theorem mul_ne {a b : Fp} (ha : a ≠ 0) (hb : b ≠ 0) : a * b ≠ 0 := by grind
theorem plus_rep {a b : Wp} {P Q : Pt Fp} (ha : Stands a P) (hb : Stands b Q) (hP : P.On seven) (hQ : Q.On seven) : Stands (plusW a b) (P.add Q) := by
  cases P with
  | zero => rw [plusW_1 ha.1]; exact hb
  | pt x1 y1 =>
    cases Q with
    | zero => rw [plusW_2 ha.1 hb.1]; exact ha
    | pt x2 y2 =>
      have ha0 := ha
      obtain ⟨ab, ax, ay, az, a0, aex, aey⟩ := ha
      obtain ⟨bb, bx, by_, bz, b0, bex, bey⟩ := hb
      have hP' : y1 * y1 = x1 * x1 * x1 + seven := hP
      have hQ' : y2 * y2 = x2 * x2 * x2 + seven := hQ
      have er : (mk (runW a b) : Fp) = (x2 - x1) * (mk a.Z * mk a.Z * (mk b.Z * mk b.Z)) := by
        unfold runW; simp only [mk_su, mk_ml]; rw [aex, bex]; grind
      have es : (mk (riseW a b) : Fp) = (y2 - y1) * (mk a.Z * mk a.Z * mk a.Z * (mk b.Z * mk b.Z * mk b.Z)) := by
        unfold riseW; simp only [mk_su, mk_ml]; rw [aey, bey]; grind
      have n2 : (mk a.Z * mk a.Z * (mk b.Z * mk b.Z) : Fp) ≠ 0 := mul_ne (mul_ne a0 a0) (mul_ne b0 b0)
      have n3 : (mk a.Z * mk a.Z * mk a.Z * (mk b.Z * mk b.Z * mk b.Z) : Fp) ≠ 0 := mul_ne (mul_ne (mul_ne a0 a0) a0) (mul_ne (mul_ne b0 b0) b0)
      by_cases hr : runW a b = 0
      · have hx : x2 = x1 := by
          rw [hr] at er
          have er : (x2 - x1) * (mk a.Z * mk a.Z * (mk b.Z * mk b.Z)) = 0 := er.symm
          grind
        subst hx
        by_cases hs : riseW a b = 0
        · have hy : y2 = y1 := by
            rw [hs] at es
            have es : (y2 - y1) * (mk a.Z * mk a.Z * mk a.Z * (mk b.Z * mk b.Z * mk b.Z)) = 0 := es.symm
            grind
          subst hy
          rw [plusW_5 ab bb hr hs]
          exact dbl_rep ha0 hP
        · have hy : y2 ≠ y1 := fun q => hs ((zero_iff (suP _ _)).2 (by show (mk (riseW a b) : Fp) = (0 : Fp); rw [es, q]; grind))
          have hy2 : y2 = -y1 := by
            have q1 : (y2 - y1) * (y2 + y1) = 0 := by grind
            have q2 : y2 - y1 ≠ 0 := by grind
            grind
          rw [plusW_4 ab bb hr hs]
          show Stands _ (if _ then _ else _)
          rw [if_pos ⟨rfl, hy2⟩]
          exact ⟨rfl, rfl, rfl⟩
      · have hx : x1 ≠ x2 := fun q => hr ((zero_iff (suP _ _)).2 (by show (mk (runW a b) : Fp) = (0 : Fp); rw [er, q]; grind))
        rw [plusW_3 ab bb hr]
        have hn : ¬ (x2 = x1 ∧ y2 = -y1) := fun q => hx q.1.symm
        show Stands _ (if _ then _ else _)
        rw [if_neg hn]
        have hk := slope_ne (y1 := y1) (y2 := y2) hx
        generalize slope x1 y1 x2 y2 = k at *
        have hx' : x2 - x1 ≠ 0 := by grind
        have ez : (mk (fMul (fMul a.Z b.Z PR) (runW a b) PR) : Fp) = mk a.Z * mk b.Z * mk (runW a b) := by rw [mk_ml, mk_ml]
        have r0 : (mk (runW a b) : Fp) ≠ 0 := by rw [er]; exact mul_ne hx' n2
        unfold sumW
        generalize runW a b = r at *
        generalize riseW a b = s at *
        refine third_rep (mlP _ _) ?_ ?_ ?_ ?_ ?_
        · rw [ez]; exact mul_ne (mul_ne a0 b0) r0
        · rw [ez, es, er, ← hk]; grind
        · rw [ez]; simp only [mk_ad, mk_ml]; rw [aex]; grind
        · rw [ez]; simp only [mk_ad, mk_ml]; rw [aex, er]; grind
        · rw [ez]; simp only [mk_ad, mk_ml]; rw [aey]; grind
/-- A point as it is handed over. -/
structure Pd where
  X : Nat
  Y : Nat
  b : Bool
  deriving DecidableEq
structure Pd.Ok (p : Pd) : Prop where
  X : p.X < big
  Y : p.Y < big
def ofPt : Pt Fp → Pd
  | .zero => ⟨0, 0, true⟩
  | .pt x y => ⟨x.v, y.v, false⟩
theorem ofPt_inj {P Q : Pt Fp} (h : ofPt P = ofPt Q) : P = Q := by
  cases P with
  | zero => cases Q with
    | zero => rfl
    | pt => exact Bool.noConfusion (show true = false from congrArg Pd.b h)
  | pt x y => cases Q with
    | zero => exact Bool.noConfusion (show false = true from congrArg Pd.b h)
    | pt x' y' => injection h with h1 h2; rw [Zm.ext h1, Zm.ext h2]
theorem big_0 : 0 < big := by unfold big; omega
theorem ofPt_ok (P : Pt Fp) : (ofPt P).Ok := by
  cases P with
  | zero => exact ⟨big_0, big_0⟩
  | pt x y => exact ⟨P_big x.lt, P_big y.lt⟩
def sqN (x : Nat) : Nat := fAdd (fMul (fMul x x PR) x PR) 7 PR
theorem mk_sqN (x : Nat) : (mk (sqN x) : Fp) = mk x * mk x * mk x + seven := by unfold sqN; rw [mk_ad, mk_ml, mk_ml]
def onB (p : Pd) : Bool := bif p.b then (decide (p.X = 0) && decide (p.Y = 0)) else (decide (p.X < PR) && (decide (p.Y < PR) && decide (fMul p.Y p.Y PR = sqN p.X)))
theorem onB_1 {p : Pd} (h : p.b = true) : onB p = decide (p = ⟨0, 0, true⟩) := by
  obtain ⟨X, Y, b⟩ := p
  obtain rfl : b = true := h
  show (decide (X = 0) && decide (Y = 0)) = _
  rw [Bool.eq_iff_iff, Bool.and_eq_true, decide_eq_true_iff, decide_eq_true_iff, decide_eq_true_iff]
  exact ⟨fun ⟨a, b⟩ => by rw [a, b], fun q => by injection q with a b; exact ⟨a, b⟩⟩
theorem onB_x {p : Pd} (h : p.b = false) (hx : ¬ p.X < PR) : onB p = false := by unfold onB; rw [h, decide_eq_false hx]; rfl
theorem onB_y {p : Pd} (h : p.b = false) (hx : p.X < PR) (hy : ¬ p.Y < PR) : onB p = false := by unfold onB; rw [h, decide_eq_true hx, decide_eq_false hy]; rfl
theorem onB_e {p : Pd} (h : p.b = false) (hx : p.X < PR) (hy : p.Y < PR) : onB p = decide (fMul p.Y p.Y PR = sqN p.X) := by unfold onB; rw [h, decide_eq_true hx, decide_eq_true hy]; rfl
theorem sqN_lt (x : Nat) : sqN x < PR := adP _ _
theorem onB_of {p : Pd} (h : onB p = true) : ∃ P : Pt Fp, P.On seven ∧ p = ofPt P := by
  obtain ⟨X, Y, b⟩ := p
  cases b
  · unfold onB at h
    simp only [cond_false, Bool.and_eq_true, decide_eq_true_iff] at h
    obtain ⟨hx, hy, he⟩ := h
    refine ⟨.pt (mk X) (mk Y), ?_, ?_⟩
    · show mk Y * mk Y = mk X * mk X * mk X + seven
      rw [← mk_ml, ← mk_sqN, he]
    · show _ = Pd.mk (X % PR) (Y % PR) false
      rw [Nat.mod_eq_of_lt hx, Nat.mod_eq_of_lt hy]
  · rw [onB_1 rfl, decide_eq_true_iff] at h
    exact ⟨.zero, trivial, h⟩
theorem onB_pt {P : Pt Fp} (h : P.On seven) : onB (ofPt P) = true := by
  cases P with
  | zero => rfl
  | pt x y =>
    rw [onB_e rfl x.lt y.lt, decide_eq_true_iff]
    refine (mk_inj (mlP _ _) (adP _ _)).1 ?_
    show (mk (fMul y.v y.v PR) : Fp) = mk (sqN x.v)
    rw [mk_ml, mk_sqN, mk_v, mk_v]; exact h
/-- With and without a third number. -/
def widenW (p : Pd) : Wp := ⟨p.X, p.Y, p.b, 1⟩
theorem widen_rep (P : Pt Fp) : Stands (widenW (ofPt P)) P := by
  cases P with
  | zero => exact ⟨rfl, rfl, rfl⟩
  | pt x y =>
    refine ⟨rfl, x.lt, y.lt, Nat.lt_trans (show 1 < 2 by decide) pr_two, ?_, ?_, ?_⟩
    · exact fun q => one_ne q.symm
    · show mk x.v = x * (mk 1 * mk 1); rw [mk_v]; show x = x * ((1 : Fp) * 1); grind
    · show mk y.v = y * (mk 1 * mk 1 * mk 1); rw [mk_v]; show y = y * ((1 : Fp) * 1 * 1); grind
theorem widenW_ok {p : Pd} (h : p.Ok) : (widenW p).Ok := ⟨h.X, h.Y, by show 1 < big; unfold big; omega⟩
def invF (a : Nat) : Nat := fpw a (df PR 2) PR
theorem df_pr : df PR 2 = PR - 2 := by
  have h := pr_ok
  unfold df MOK big at *
  rw [show PR + 115792089237316195423570985008687907853269984665640564039457584007913129639936 - 2 = (PR - 2) + 115792089237316195423570985008687907853269984665640564039457584007913129639936 by omega, Nat.add_mod_right, Nat.mod_eq_of_lt (by omega)]
theorem mk_invF (a : Nat) : (mk (invF a) : Fp) = (mk a)⁻¹ := by unfold invF; rw [fpw_eq, mk_mod, df_pr, mk_inv]
def narrowF (a : Wp) : Pd := ⟨fMul a.X (fMul (invF a.Z) (invF a.Z) PR) PR, fMul a.Y (fMul (fMul (invF a.Z) (invF a.Z) PR) (invF a.Z) PR) PR, false⟩
def narrowW (a : Wp) : Pd := bif a.b then ⟨a.X, a.Y, true⟩ else narrowF a
theorem narrow_rep {a : Wp} {P : Pt Fp} (h : Stands a P) : narrowW a = ofPt P := by
  cases P with
  | zero => obtain ⟨hb, hx, hy⟩ := h; unfold narrowW; rw [hb, hx, hy]; rfl
  | pt x y =>
    obtain ⟨hb, hx, hy, hz, h0, ex, ey⟩ := h
    unfold narrowW
    rw [hb]
    have e1 : fMul a.X (fMul (invF a.Z) (invF a.Z) PR) PR = x.v := by
      refine (mk_inj (mlP _ _) x.lt).1 ?_
      rw [mk_v, mk_ml, mk_ml, mk_invF, ex]; grind
    have e2 : fMul a.Y (fMul (fMul (invF a.Z) (invF a.Z) PR) (invF a.Z) PR) PR = y.v := by
      refine (mk_inj (mlP _ _) y.lt).1 ?_
      rw [mk_v, mk_ml, mk_ml, mk_ml, mk_invF, ey]; grind
    show Pd.mk _ _ false = Pd.mk x.v y.v false
    rw [e1, e2]
theorem stands_nz {a : Wp} {P : Pt Fp} (h : Stands a P) (hb : a.b = false) : rs a.Z 0 PR ≠ 0 := by
  cases P with
  | zero => rw [h.1] at hb; cases hb
  | pt x y =>
    intro q
    have h0 := h.2.2.2.2.1
    apply h0
    show mk a.Z = mk 0
    refine mk_iff.2 ?_
    unfold rs at q
    rw [Nat.mul_zero, Nat.add_zero] at q
    rw [q, Nat.zero_mod]
/-- A point's multiples. -/
def mults (p : Wp) : Nat → Wp
  | 0 => zeroW
  | k + 1 => plusW (mults p k) p
theorem mults_ok {p : Wp} (h : p.Ok) : ∀ k, (mults p k).Ok
  | 0 => zeroW_ok
  | k + 1 => plusW_ok (mults_ok h k) h
theorem mults_rep {p : Wp} {P : Pt Fp} (h : Stands p P) (hP : P.On seven) : ∀ k, Stands (mults p k) (mulP P k)
  | 0 => ⟨rfl, rfl, rfl⟩
  | k + 1 => plus_rep (mults_rep h hP k) h (mulP_on good hP k) hP
/-- The digit that comes after k others. -/
def dig (n k : Nat) : Nat := n / 16 ^ (63 - k) % 16
def quad (t : Wp) : Wp := dblW (dblW (dblW (dblW t)))
theorem quad_ok {t : Wp} (h : t.Ok) : (quad t).Ok := dblW_ok (dblW_ok (dblW_ok (dblW_ok h)))
theorem quad_rep {t : Wp} {P : Pt Fp} {q : Nat} (hP : P.On seven) (h : Stands t (mulP P q)) : Stands (quad t) (mulP P (16 * q)) := by
  have s : ∀ {u m}, Stands u (mulP P m) → Stands (dblW u) (mulP P (2 * m)) := fun {u m} hu => by
    have := dbl_rep hu (mulP_on good hP m)
    rwa [← mulP_add good hP, show m + m = 2 * m by omega] at this
  have := s (s (s (s h)))
  rwa [show 2 * (2 * (2 * (2 * q))) = 16 * q by omega] at this
def tog (n : Nat) (p : Wp) : Nat → Wp
  | 0 => zeroW
  | k + 1 => plusW (quad (tog n p k)) (mults p (dig n k))
theorem tog_ok {n : Nat} {p : Wp} (h : p.Ok) : ∀ k, (tog n p k).Ok
  | 0 => zeroW_ok
  | k + 1 => plusW_ok (quad_ok (tog_ok h k)) (mults_ok h _)
theorem dig_next (n k : Nat) (hk : k < 64) : 16 * (n / 16 ^ (64 - k)) + dig n k = n / 16 ^ (64 - (k + 1)) := by
  unfold dig
  rw [show 64 - k = (63 - k) + 1 by omega, show 64 - (k + 1) = 63 - k by omega, Nat.pow_succ, ← Nat.div_div_eq_div_mul]
  generalize n / 16 ^ (63 - k) = m
  omega
theorem big_16 : big = 16 ^ 64 := by decide +kernel
theorem tog_rep {n : Nat} {p : Wp} {P : Pt Fp} (hn : n < big) (h : Stands p P) (hP : P.On seven) : ∀ k, k ≤ 64 → Stands (tog n p k) (mulP P (n / 16 ^ (64 - k)))
  | 0, _ => by
    rw [big_16] at hn
    rw [show 64 - 0 = 64 from rfl, Nat.div_eq_of_lt hn]; exact ⟨rfl, rfl, rfl⟩
  | k + 1, hk => by
    have ih := quad_rep hP (tog_rep hn h hP k (by omega))
    have := plus_rep ih (mults_rep h hP (dig n k)) (mulP_on good hP _) (mulP_on good hP _)
    rwa [← mulP_add good hP, dig_next n k (by omega)] at this
theorem tog_end {n : Nat} {P : Pt Fp} (hn : n < big) (hP : P.On seven) : Stands (tog n (widenW (ofPt P)) 64) (mulP P n) := by
  have := tog_rep hn (widen_rep P) hP 64 (Nat.le_refl _)
  rwa [Nat.sub_self, Nat.pow_zero, Nat.div_one] at this
/-- Two together. -/
def tog2 (n : Nat) (p : Wp) (m : Nat) (q : Wp) : Nat → Wp
  | 0 => zeroW
  | k + 1 => plusW (plusW (quad (tog2 n p m q k)) (mults p (dig n k))) (mults q (dig m k))
theorem tog2_ok {n m : Nat} {p q : Wp} (h : p.Ok) (hq : q.Ok) : ∀ k, (tog2 n p m q k).Ok
  | 0 => zeroW_ok
  | k + 1 => plusW_ok (plusW_ok (quad_ok (tog2_ok h hq k)) (mults_ok h _)) (mults_ok hq _)
theorem quad_rep2 {t : Wp} {R : Pt Fp} (hR : R.On seven) (h : Stands t R) : Stands (quad t) (mulP R 16) := by
  have := quad_rep (q := 1) hR (by show Stands t (Pt.add .zero R); exact h)
  exact this
theorem four_swap {A B r t : Pt Fp} (hA : A.On seven) (hB : B.On seven) (hr : r.On seven) (ht : t.On seven) : ((A.add B).add r).add t = (A.add r).add (B.add t) := by
  have g := good
  rw [add_assoc' g.two g.three g.b hA hB hr, add_comm' g.two g.three g.b hB hr, ← add_assoc' g.two g.three g.b hA hr hB, add_assoc' g.two g.three g.b (add_on g.two hA hr) hB ht]
theorem tog2_rep {n m : Nat} {p q : Wp} {P Q : Pt Fp} (hn : n < big) (hm : m < big) (h : Stands p P) (hq : Stands q Q) (hP : P.On seven) (hQ : Q.On seven) :
    ∀ k, k ≤ 64 → Stands (tog2 n p m q k) ((mulP P (n / 16 ^ (64 - k))).add (mulP Q (m / 16 ^ (64 - k))))
  | 0, _ => by
    rw [big_16] at hn hm
    rw [show 64 - 0 = 64 from rfl, Nat.div_eq_of_lt hn, Nat.div_eq_of_lt hm]; exact ⟨rfl, rfl, rfl⟩
  | k + 1, hk => by
    have oP := fun a => mulP_on good hP a
    have oQ := fun a => mulP_on good hQ a
    have g := good
    have ih := quad_rep2 (add_on g.two (oP _) (oQ _)) (tog2_rep hn hm h hq hP hQ k (by omega))
    have o16 := mulP_on g (add_on g.two (oP (n / 16 ^ (64 - k))) (oQ (m / 16 ^ (64 - k)))) 16
    have h1 := plus_rep ih (mults_rep h hP (dig n k)) o16 (oP _)
    have h2 := plus_rep h1 (mults_rep hq hQ (dig m k)) (add_on g.two o16 (oP _)) (oQ _)
    have key : ∀ (A B : Pt Fp) (hA : A.On seven) (hB : B.On seven) (j : Nat), mulP (A.add B) j = (mulP A j).add (mulP B j) := fun A B hA hB j => by
      induction j with
      | zero => rfl
      | succ j ih =>
        have oa := mulP_on g hA j; have ob := mulP_on g hB j
        show (mulP (A.add B) j).add (A.add B) = ((mulP A j).add A).add ((mulP B j).add B)
        rw [ih, add_assoc' g.two g.three g.b oa ob (add_on g.two hA hB), add_assoc' g.two g.three g.b oa hA (add_on g.two ob hB), ← add_assoc' g.two g.three g.b ob hA hB, ← add_assoc' g.two g.three g.b hA ob hB, add_comm' g.two g.three g.b hA ob]
    have e1 := dig_next n k (by omega)
    have e2 := dig_next m k (by omega)
    have e : ((mulP ((mulP P (n / 16 ^ (64 - k))).add (mulP Q (m / 16 ^ (64 - k)))) 16).add (mulP P (dig n k))).add (mulP Q (dig m k)) = (mulP P (n / 16 ^ (64 - (k + 1)))).add (mulP Q (m / 16 ^ (64 - (k + 1)))) := by
      rw [key _ _ (oP _) (oQ _), ← mulP_mul g hP, ← mulP_mul g hQ, Nat.mul_comm _ 16, Nat.mul_comm _ 16, ← e1, ← e2, mulP_add g hP, mulP_add g hQ]
      exact four_swap (oP _) (oQ _) (oP _) (oQ _)
    rw [e] at h2
    exact h2
end Go.Proofs.Ec
