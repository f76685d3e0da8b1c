/-
  What lies in memory behind a call that leaves what was there.
-/
import Derived.Test.YtiollplcmmlcgaaWords
namespace Go.Proofs.Ytiollplcmmlcgaa
open Go.RowKit

/-- At block b lie the four words of n. -/
def Lie (wr : World) (b : Nat) (n : Nat) : Prop :=
  wr.cell? ⟨b, 0, none⟩ = some (.int .u64 (w0 n)) ∧ wr.cell? ⟨b, 1, none⟩ = some (.int .u64 (w1 n)) ∧ wr.cell? ⟨b, 2, none⟩ = some (.int .u64 (w2 n)) ∧ wr.cell? ⟨b, 3, none⟩ = some (.int .u64 (w3 n))
theorem Lie.lt {W : World} {b n : Nat} (h : Lie W b n) : b < W.heap.size := World.block_lt_of_cell? W _ h.1
theorem Lie.later {B : Nat} {W w1 : World} {b n : Nat} (h : Lie W b n) (hb : Below B W w1) (hl : b < B) : Lie w1 b n :=
  ⟨(hb.cell (p := ⟨b, 0, none⟩) hl).trans h.1, (hb.cell (p := ⟨b, 1, none⟩) hl).trans h.2.1, (hb.cell (p := ⟨b, 2, none⟩) hl).trans h.2.2.1, (hb.cell (p := ⟨b, 3, none⟩) hl).trans h.2.2.2⟩
theorem Lie.past {W w1 : World} {b n : Nat} (h : Lie W b n) (hb : Below W.heap.size W w1) : Lie w1 b n := h.later hb h.lt
theorem Lie.alloc {W : World} {b n : Nat} (h : Lie W b n) (o : Obj) : Lie (W.alloc o) b n := h.past ((Below.refl _ _).alloc (Nat.le_refl _) o)
theorem Lie.drew {W : World} {b n : Nat} (h : Lie W b n) : Lie W.drew b n := h
theorem Lie.here (W : World) (n : Nat) : Lie (W.alloc (.cells #[.int .u64 (w0 n), .int .u64 (w1 n), .int .u64 (w2 n), .int .u64 (w3 n)] 24)) W.heap.size n :=
  ⟨by simp, by simp, by simp, by simp⟩
theorem Lie.hereAt (W : World) (n b : Nat) (h : W.heap.size = b) : Lie (W.alloc (.cells #[.int .u64 (w0 n), .int .u64 (w1 n), .int .u64 (w2 n), .int .u64 (w3 n)] 24)) b n := h ▸ Lie.here W n
theorem below_step {B : Nat} {w W w1 : World} (h : Below B w W) (hB : B ≤ W.heap.size) (hb : Below W.heap.size W w1) : Below B w w1 := h.trans (hb.mono hB)
theorem below_le {B : Nat} {w W : World} (h : Below B w W) (hB : B ≤ w.heap.size) : B ≤ W.heap.size := Nat.le_trans hB h.size
theorem below_call {w W w1 : World} (h : Below w.heap.size w W) (hb : Below W.heap.size W w1) : Below w.heap.size w w1 := h.trans (hb.mono h.size)
theorem below_laid {w W : World} (h : Below w.heap.size w W) (o : Obj) : Below w.heap.size w (W.alloc o) := h.alloc h.size o

theorem Lie.set {W : World} {b n : Nat} (h : Lie W b n) {a : Addr} (hne : a.block ≠ b) (v : Value) : Lie (W.setCell a v) b n :=
  ⟨(World.cell?_setCell_other _ _ _ _ (fun e => hne (by rw [e]))).trans h.1, (World.cell?_setCell_other _ _ _ _ (fun e => hne (by rw [e]))).trans h.2.1, (World.cell?_setCell_other _ _ _ _ (fun e => hne (by rw [e]))).trans h.2.2.1, (World.cell?_setCell_other _ _ _ _ (fun e => hne (by rw [e]))).trans h.2.2.2⟩

/-- At block b lie four words 0 that may be written. -/
def Zr (W : World) (b : Nat) : Prop :=
  (W.cell? ⟨b, 0, none⟩ = some (.int .u64 0) ∧ W.cell? ⟨b, 1, none⟩ = some (.int .u64 0) ∧ W.cell? ⟨b, 2, none⟩ = some (.int .u64 0) ∧ W.cell? ⟨b, 3, none⟩ = some (.int .u64 0)) ∧
  (W.frozen? ⟨b, 0, none⟩ = false ∧ W.frozen? ⟨b, 1, none⟩ = false ∧ W.frozen? ⟨b, 2, none⟩ = false ∧ W.frozen? ⟨b, 3, none⟩ = false)
theorem Zr.lt {W : World} {b : Nat} (h : Zr W b) : b < W.heap.size := World.block_lt_of_cell? W _ h.1.1
theorem Zr.past {W w1 : World} {b : Nat} (h : Zr W b) (hb : Below W.heap.size W w1) : Zr w1 b :=
  ⟨⟨(hb.cell (p := ⟨b, 0, none⟩) h.lt).trans h.1.1, (hb.cell (p := ⟨b, 1, none⟩) h.lt).trans h.1.2.1, (hb.cell (p := ⟨b, 2, none⟩) h.lt).trans h.1.2.2.1, (hb.cell (p := ⟨b, 3, none⟩) h.lt).trans h.1.2.2.2⟩,
   (hb.frozen (p := ⟨b, 0, none⟩) h.lt).trans h.2.1, (hb.frozen (p := ⟨b, 1, none⟩) h.lt).trans h.2.2.1, (hb.frozen (p := ⟨b, 2, none⟩) h.lt).trans h.2.2.2.1, (hb.frozen (p := ⟨b, 3, none⟩) h.lt).trans h.2.2.2.2⟩
theorem Zr.alloc {W : World} {b : Nat} (h : Zr W b) (o : Obj) : Zr (W.alloc o) b := h.past ((Below.refl _ _).alloc (Nat.le_refl _) o)
theorem Zr.hereAt (W : World) (b : Nat) (h : W.heap.size = b) : Zr (W.alloc (.cells #[.int .u64 0, .int .u64 0, .int .u64 0, .int .u64 0] 24)) b := by
  subst h
  exact ⟨⟨by simp, by simp, by simp, by simp⟩, by simp, by simp, by simp, by simp⟩
theorem Zr.set {W : World} {b : Nat} (h : Zr W b) {a : Addr} (hne : a.block ≠ b) (v : Value) : Zr (W.setCell a v) b :=
  ⟨⟨(World.cell?_setCell_other _ _ _ _ (fun e => hne (by rw [e]))).trans h.1.1, (World.cell?_setCell_other _ _ _ _ (fun e => hne (by rw [e]))).trans h.1.2.1, (World.cell?_setCell_other _ _ _ _ (fun e => hne (by rw [e]))).trans h.1.2.2.1, (World.cell?_setCell_other _ _ _ _ (fun e => hne (by rw [e]))).trans h.1.2.2.2⟩,
   by simp [h.2.1], by simp [h.2.2.1], by simp [h.2.2.2.1], by simp [h.2.2.2.2]⟩
/-- Four cells of a block, whatever they hold. -/
def Four (W : World) (b : Nat) (x0 x1 x2 x3 : Value) : Prop :=
  W.cell? ⟨b, 0, none⟩ = some x0 ∧ W.cell? ⟨b, 1, none⟩ = some x1 ∧ W.cell? ⟨b, 2, none⟩ = some x2 ∧ W.cell? ⟨b, 3, none⟩ = some x3
theorem Four.set {W : World} {b : Nat} {x0 x1 x2 x3 : Value} (h : Four W b x0 x1 x2 x3) {a : Addr} (hne : a.block ≠ b) (v : Value) : Four (W.setCell a v) b x0 x1 x2 x3 :=
  ⟨(World.cell?_setCell_other _ _ _ _ (fun e => hne (by rw [e]))).trans h.1, (World.cell?_setCell_other _ _ _ _ (fun e => hne (by rw [e]))).trans h.2.1, (World.cell?_setCell_other _ _ _ _ (fun e => hne (by rw [e]))).trans h.2.2.1, (World.cell?_setCell_other _ _ _ _ (fun e => hne (by rw [e]))).trans h.2.2.2⟩
theorem Zr.put {W : World} {b : Nat} (h : Zr W b) (x0 x1 x2 x3 : Value) : Four ((((W.setCell ⟨b, 0, none⟩ x0).setCell ⟨b, 1, none⟩ x1).setCell ⟨b, 2, none⟩ x2).setCell ⟨b, 3, none⟩ x3) b x0 x1 x2 x3 := by
  obtain ⟨⟨c0, c1, c2, c3⟩, _⟩ := h
  have n : ∀ {i j : Nat}, i ≠ j → (⟨b, i, none⟩ : Addr) ≠ ⟨b, j, none⟩ := fun hij e => hij (by injection e)
  have s0 := World.cell?_setCell_same W _ x0 c0
  have k1 := (World.cell?_setCell_other W ⟨b, 0, none⟩ ⟨b, 1, none⟩ x0 (n (by decide))).trans c1
  have s1 := World.cell?_setCell_same (W.setCell ⟨b, 0, none⟩ x0) _ x1 k1
  have k2 := (World.cell?_setCell_other (W.setCell ⟨b, 0, none⟩ x0) ⟨b, 1, none⟩ ⟨b, 2, none⟩ x1 (n (by decide))).trans ((World.cell?_setCell_other W ⟨b, 0, none⟩ ⟨b, 2, none⟩ x0 (n (by decide))).trans c2)
  have s2 := World.cell?_setCell_same _ _ x2 k2
  have k3 := (World.cell?_setCell_other _ ⟨b, 2, none⟩ ⟨b, 3, none⟩ x2 (n (by decide))).trans ((World.cell?_setCell_other (W.setCell ⟨b, 0, none⟩ x0) ⟨b, 1, none⟩ ⟨b, 3, none⟩ x1 (n (by decide))).trans ((World.cell?_setCell_other W ⟨b, 0, none⟩ ⟨b, 3, none⟩ x0 (n (by decide))).trans c3))
  have s3 := World.cell?_setCell_same _ _ x3 k3
  refine ⟨?_, ?_, ?_, s3⟩
  · exact (World.cell?_setCell_other _ _ _ _ (n (by decide))).trans ((World.cell?_setCell_other _ _ _ _ (n (by decide))).trans ((World.cell?_setCell_other _ _ _ _ (n (by decide))).trans s0))
  · exact (World.cell?_setCell_other _ _ _ _ (n (by decide))).trans ((World.cell?_setCell_other _ _ _ _ (n (by decide))).trans s1)
  · exact (World.cell?_setCell_other _ _ _ _ (n (by decide))).trans s2
end Go.Proofs.Ytiollplcmmlcgaa
