/-
  Texts of the proof, part 5.
-/
import Derived.Test.YtmmloghbnpfedaaDoorProg
import Derived.Test.YtmmloghbnpfedaaDoorChecked
import Derived.Laws.IdiomArrays
import Derived.Deep.Strs
import Derived.Test.YtmmloghbnpfedaaDoorRows
import Derived.Lib.LaidTab
import Derived.MakeChecks
import Derived.LaidLaws
import Derived.LaidHandle
import Derived.ProofKit
import Derived.Test.YtmmloghbnpfedaaDoorSA2
import Derived.Test.YtmmloghbnpfedaaDoorSA3
import Derived.Test.YtmmloghbnpfedaaDoorSA4

namespace Go.Proofs.YtmmloghbnpfedaaDoor.Ke
open Go Go.RowKit Go.Proofs.Kec
set_option linter.unusedVariables false
def arrW (n : Nat) (f : Nat → BitVec 64) : Value := .agg (arrF n fun j => .int .u64 ((BitVec.toNat (f j) : Nat) : Int)).toArray
theorem arrW_at {n : Nat} (f : Nat → BitVec 64) {k off : Nat} (ho : off = 0 + k * 1) (hk : k < n) : (Value.cells (arrW n f))[off]? = some (.int .u64 ((BitVec.toNat (f k) : Nat) : Int)) :=
  seg_at (pre := []) (post := []) (n := n) (f := fun j => .int .u64 ((BitVec.toNat (f j) : Nat) : Int)) (by show arrF n _ = [] ++ arrF n _ ++ []; simp) (by simpa using ho) hk
theorem arrW_put {n : Nat} {f g : Nat → BitVec 64} {k off : Nat} {x : BitVec 64} (ho : off = 0 + k * 1) (hk : k < n) (hg : ∀ j, j < n → g j = if j = k then x else f j) :
    ((Value.cells (arrW n f)).toList.take off ++ (Value.int .u64 ((BitVec.toNat x : Nat) : Int)).cells.toList ++ (Value.cells (arrW n f)).toList.drop (off + (Value.int .u64 ((BitVec.toNat x : Nat) : Int)).cells.size)).toArray = Value.cells (arrW n g) := by
  rw [seg_put (pre := []) (post := []) (n := n) (f := fun j => .int .u64 ((BitVec.toNat (f j) : Nat) : Int)) (g := fun j => .int .u64 ((BitVec.toNat (g j) : Nat) : Int)) (by show arrF n _ = [] ++ arrF n _ ++ []; simp) rfl (by simpa using ho) hk (fun j hj => by rw [hg j hj]; split <;> rfl)]
  simp; rfl
theorem arrW_congr {n : Nat} {f g : Nat → BitVec 64} (h : ∀ k, k < n → f k = g k) : arrW n f = arrW n g := by
  unfold arrW arrF
  rw [List.map_congr_left fun k hk => by rw [h k (by simpa using hk)]]
def pS (s : List (BitVec 64)) (x : Nat) : Nat → BitVec 64
  | 0 => 0
  | y + 1 => pS s x y ^^^ nth s (x + 5 * y)
theorem pS5 (s : List (BitVec 64)) (x : Nat) : pS s x 5 = cC s x := by
  show ((((0 ^^^ nth s x) ^^^ nth s (x + 5)) ^^^ nth s (x + 10)) ^^^ nth s (x + 15)) ^^^ nth s (x + 20) = _
  rw [show (0 : BitVec 64) = 0#64 from rfl, BitVec.zero_xor]; rfl
def cF (s : List (BitVec 64)) (x y k : Nat) : BitVec 64 := if k < x then cC s k else if k = x then pS s x y else 0
theorem cF_put (s : List (BitVec 64)) (x y j : Nat) : cF s x (y + 1) j = if j = x then cF s x y x ^^^ nth s (x + 5 * y) else cF s x y j := by
  unfold cF
  by_cases h : j = x
  · subst h; simp [pS]
  · rw [if_neg h, if_neg h, if_neg h]
theorem cF_row (s : List (BitVec 64)) (x y : Nat) (h : y = 5) : arrW 5 (cF s x y) = arrW 5 (cF s (x + 1) 0) := by
  subst h
  refine arrW_congr fun k _ => ?_
  unfold cF
  by_cases h1 : k < x
  · rw [if_pos h1, if_pos (by omega)]
  · rw [if_neg h1]
    by_cases h2 : k = x
    · rw [if_pos h2, if_pos (by omega), pS5, h2]
    · rw [if_neg h2, if_neg (by omega)]
      by_cases h3 : k = x + 1
      · rw [if_pos h3]; rfl
      · rw [if_neg h3]
theorem cF_all (s : List (BitVec 64)) (x : Nat) (h : x = 5) : arrW 5 (cF s x 0) = arrW 5 (cC s) := by
  subst h; exact arrW_congr fun k hk => by unfold cF; rw [if_pos hk]
def rk (k : Nat) : Nat := (3 * (k / 5) + k % 5) % 5 * 5 + k % 5
def bF (s : List (BitVec 64)) (x y k : Nat) : BitVec 64 := if rk k < 5 * x + y then pI s k else 0
theorem rk_lt (k : Nat) : rk k < 25 := by unfold rk; omega
theorem rk_one : ∀ x, x < 5 → ∀ y, y < 5 → ∀ k, k < 25 → (rk k = 5 * x + y ↔ k = y % 5 + 5 * ((2 * x + 3 * y) % 5)) := by decide
theorem bF_put (s : List (BitVec 64)) {x y j : Nat} (hx : x < 5) (hy : y < 5) (hj : j < 25) : bF s x (y + 1) j = if j = y % 5 + 5 * ((2 * x + 3 * y) % 5) then pI s (y % 5 + 5 * ((2 * x + 3 * y) % 5)) else bF s x y j := by
  have h := rk_one x hx y hy j hj
  unfold bF
  by_cases h1 : j = y % 5 + 5 * ((2 * x + 3 * y) % 5)
  · rw [if_pos h1, if_pos (by have := h.2 h1; omega), ← h1]
  · rw [if_neg h1]
    have h2 : rk j ≠ 5 * x + y := fun e => h1 (h.1 e)
    by_cases h3 : rk j < 5 * x + y
    · rw [if_pos h3, if_pos (by omega)]
    · rw [if_neg h3, if_neg (by omega)]
theorem bF_row (s : List (BitVec 64)) (x y : Nat) (h : y = 5) : arrW 25 (bF s x y) = arrW 25 (bF s (x + 1) 0) := by subst h; rfl
theorem bF_all (s : List (BitVec 64)) (x : Nat) (h : x = 5) : arrW 25 (bF s x 0) = arrW 25 (pI s) := by
  subst h; exact arrW_congr fun k _ => by unfold bF; rw [if_pos (rk_lt k)]
def oF (s : List (BitVec 64)) (x y k : Nat) : BitVec 64 := if k % 5 * 5 + k / 5 < 5 * x + y then xI (pI s) k else 0
theorem oF_put (s : List (BitVec 64)) {x y j : Nat} (hx : x < 5) (hy : y < 5) (hj : j < 25) : oF s x (y + 1) j = if j = x + 5 * y then xI (pI s) (x + 5 * y) else oF s x y j := by
  unfold oF
  by_cases h1 : j = x + 5 * y
  · rw [if_pos h1, if_pos (by omega), h1]
  · rw [if_neg h1]
    by_cases h3 : j % 5 * 5 + j / 5 < 5 * x + y
    · rw [if_pos h3, if_pos (by omega)]
    · rw [if_neg h3, if_neg (by omega)]
theorem oF_row (s : List (BitVec 64)) (x y : Nat) (h : y = 5) : arrW 25 (oF s x y) = arrW 25 (oF s (x + 1) 0) := by subst h; rfl
theorem oF_all (s : List (BitVec 64)) (x : Nat) (h : x = 5) : arrW 25 (oF s x 0) = svn (rnd s) := by
  subst h
  rw [arrW_congr (g := xI (pI s)) fun k hk => by unfold oF; rw [if_pos (by omega)]]
  rfl
theorem oF_rm (s : List (BitVec 64)) (z : BitVec 64) {x : Nat} (h : x = 5) :
    (List.take 0 (arrW 25 (oF s x 0)).cells.toList ++ (Value.int .u64 ((BitVec.toNat (oF s x 0 0 ^^^ z) : Nat) : Int)).cells.toList ++ List.drop (0 + (Value.int .u64 ((BitVec.toNat (oF s x 0 0 ^^^ z) : Nat) : Int)).cells.size) (arrW 25 (oF s x 0)).cells.toList).toArray = (svn (rm s z)).cells := by
  rw [oF_all s x h]; subst h; exact svn_rm s z
theorem th_at (s : List (BitVec 64)) {x y : Nat} (hx : x < 5) : nth s (x + 5 * y) ^^^ dD (cC s) x = th s (x + 5 * y) := by
  unfold th; rw [show (x + 5 * y) % 5 = x by omega]
theorem sr_at : ∀ x, x < 5 → ∀ y, y < 5 → srcT.getD (y % 5 + 5 * ((2 * x + 3 * y) % 5)) 0 = x + 5 * y ∧ rotT.getD (y % 5 + 5 * ((2 * x + 3 * y) % 5)) 0 = rotN x y ∧ rotN x y < 64 := by decide
theorem leftR_fn (s : List (BitVec 64)) (x y : Nat) (hx : x < 5) (hy : y < 5) : Fn Tryd.prog 100 #[.int .u64 ((BitVec.toNat (th s (x + 5 * y)) : Nat) : Int), .int .i64 ((rotN x y : Nat) : Int)] (.int .u64 ((BitVec.toNat (pI s (y % 5 + 5 * ((2 * x + 3 * y) % 5))) : Nat) : Int)) := by
  obtain ⟨h1, h2, h3⟩ := sr_at x hx y hy
  unfold pI; rw [h1, h2]
  by_cases h : rotN x y = 0
  · rw [h, rl0]; exact left0_fn _
  · exact left_fn _ _ (by omega) h3
theorem xI_at (b : Nat → BitVec 64) {x y : Nat} (hx : x < 5) (hy : y < 5) : b (x + 5 * y) ^^^ (~~~(b ((x + 1) % 5 + 5 * (y % 5))) &&& b ((x + 2) % 5 + 5 * (y % 5))) = xI b (x + 5 * y) := by
  unfold xI rowX
  rw [show (x + 5 * y) / 5 * 5 + ((x + 5 * y) % 5 + 1) % 5 = (x + 1) % 5 + 5 * (y % 5) by omega, show (x + 5 * y) / 5 * 5 + ((x + 5 * y) % 5 + 2) % 5 = (x + 2) % 5 + 5 * (y % 5) by omega, BitVec.and_comm]
set_option maxRecDepth 100000 in
set_option maxHeartbeats 2000000 in
theorem roundR_fn (s : List (BitVec 64)) (i : Nat) (hi : i < 24) : Fn Tryd.prog 91 #[svn s, .int .i64 ((i : Nat) : Int)] (svn (rm s (lastB i 7))) := by
  refine Fn.intro (c := codeOf Tryd.f91) [.cell 4 84] 117 Tryd.func91 kr kr kr fun w => ?_
  have H0 := St.start w
  refine rS [.b, .a] H0 kr fun gs1 w1 H1 => ?_
  clear H0
  refine rS [.v, .a, .s 2] H1 kr fun gs2 w2 H2 => ?_
  clear H1
  refine g_seq kr ?_
  refine rS [.v] H2 kr fun gs3 w3 H3 => ?_
  clear H2
  refine g_block 0 kr ?_
  have HL1 : St w.heap.size w w3 [((gs1 0).b, Obj.cells (Value.cells (svn s)) 84 (0, 0)), ((gs1 1).b, Obj.cells #[.int .u64 0, .int .u64 0, .int .u64 0, .int .u64 0, .int .u64 0, .int .u64 0, .int .u64 0, .int .u64 0, .int .u64 0, .int .u64 0, .int .u64 0, .int .u64 0, .int .u64 0, .int .u64 0, .int .u64 0, .int .u64 0, .int .u64 0, .int .u64 0, .int .u64 0, .int .u64 0, .int .u64 0, .int .u64 0, .int .u64 0, .int .u64 0, .int .u64 0] 84 (0, 0)), ((gs2 1).b, Obj.cells #[.int .u64 0, .int .u64 0, .int .u64 0, .int .u64 0, .int .u64 0] 117 (0, 0))] := H3.as kr
  clear H3
  have HM2 : St w.heap.size w w3 [((gs1 0).b, Obj.cells (Value.cells (svn s)) 84 (0, 0)), ((gs1 1).b, Obj.cells #[.int .u64 0, .int .u64 0, .int .u64 0, .int .u64 0, .int .u64 0, .int .u64 0, .int .u64 0, .int .u64 0, .int .u64 0, .int .u64 0, .int .u64 0, .int .u64 0, .int .u64 0, .int .u64 0, .int .u64 0, .int .u64 0, .int .u64 0, .int .u64 0, .int .u64 0, .int .u64 0, .int .u64 0, .int .u64 0, .int .u64 0, .int .u64 0, .int .u64 0] 84 (0, 0)), ((gs2 1).b, Obj.cells (Value.cells (arrW 5 (cF s 0 0))) 117 (0, 0))] := HL1
  refine g_loop kr (fun mz ρ ww => ∃ (x : Nat), 5 - x = mz ∧ (x ≤ 5) ∧ St w.heap.size w ww [((gs1 0).b, Obj.cells (Value.cells (svn s)) 84 (0, 0)), ((gs1 1).b, Obj.cells #[.int .u64 0, .int .u64 0, .int .u64 0, .int .u64 0, .int .u64 0, .int .u64 0, .int .u64 0, .int .u64 0, .int .u64 0, .int .u64 0, .int .u64 0, .int .u64 0, .int .u64 0, .int .u64 0, .int .u64 0, .int .u64 0, .int .u64 0, .int .u64 0, .int .u64 0, .int .u64 0, .int .u64 0, .int .u64 0, .int .u64 0, .int .u64 0, .int .u64 0] 84 (0, 0)), ((gs2 1).b, Obj.cells (Value.cells (arrW 5 (cF s x 0))) 117 (0, 0))] ∧ Is [(0, svn s), (1, .int .i64 ((i : Nat) : Int)), (2, .pointer (some ⟨(gs1 0).b, 0, none⟩)), (4, .pointer (some ⟨(gs1 1).b, 0, none⟩)), (5, .pointer (some ⟨(gs2 1).b, 0, none⟩)), (6, .int .i64 ((x : Nat) : Int))] ρ) (5 - 0) ⟨0, rfl, (by omega), HM2, (Is.of ⟨kr, kr, kr, kr, kr, kr, trivial⟩)⟩ ?_
  clear HM2
  rintro _ _ w4 ⟨x, rfl, hx, H4, _, rfl⟩
  refine g_seq kr ?_
  refine g_sreg [0, 1] kr kr ?_
  refine rp [.v] H4 kr fun gs5 w5 H5 => ?_
  show WPs _ _ _ _ [1] _ _
  clear H4
  by_cases hc3 : (x : Nat) < 5
  · skip
    refine rp [.e (v := .bool (decide (((x : Nat) : Int) < 5))) (v' := .bool true) (bool_eq (decide_eq_true (by omega)))] H5 kr fun gs6 w6 H6 => ?_
    show WPs _ _ _ _ [] _ _
    clear H5
    refine s_nil ?_
    refine g_cond_t kr kr ?_
    refine g_skip kr ?_
    show WP _ _ _ _ _ _
    refine g_seq kr ?_
    refine g_block 1 kr ?_
    refine rS [.v] H6 kr fun gs7 w7 H7 => ?_
    clear H6
    refine g_block 2 kr ?_
    have HL4 : St w.heap.size w w7 [((gs1 0).b, Obj.cells (Value.cells (svn s)) 84 (0, 0)), ((gs1 1).b, Obj.cells #[.int .u64 0, .int .u64 0, .int .u64 0, .int .u64 0, .int .u64 0, .int .u64 0, .int .u64 0, .int .u64 0, .int .u64 0, .int .u64 0, .int .u64 0, .int .u64 0, .int .u64 0, .int .u64 0, .int .u64 0, .int .u64 0, .int .u64 0, .int .u64 0, .int .u64 0, .int .u64 0, .int .u64 0, .int .u64 0, .int .u64 0, .int .u64 0, .int .u64 0] 84 (0, 0)), ((gs2 1).b, Obj.cells (Value.cells (arrW 5 (cF s x 0))) 117 (0, 0))] := H7.as kr
    clear H7
    refine g_loop kr (fun mz ρ ww => ∃ (y : Nat), 5 - y = mz ∧ (y ≤ 5) ∧ St w.heap.size w ww [((gs1 0).b, Obj.cells (Value.cells (svn s)) 84 (0, 0)), ((gs1 1).b, Obj.cells #[.int .u64 0, .int .u64 0, .int .u64 0, .int .u64 0, .int .u64 0, .int .u64 0, .int .u64 0, .int .u64 0, .int .u64 0, .int .u64 0, .int .u64 0, .int .u64 0, .int .u64 0, .int .u64 0, .int .u64 0, .int .u64 0, .int .u64 0, .int .u64 0, .int .u64 0, .int .u64 0, .int .u64 0, .int .u64 0, .int .u64 0, .int .u64 0, .int .u64 0] 84 (0, 0)), ((gs2 1).b, Obj.cells (Value.cells (arrW 5 (cF s x y))) 117 (0, 0))] ∧ Is [(0, svn s), (1, .int .i64 ((i : Nat) : Int)), (2, .pointer (some ⟨(gs1 0).b, 0, none⟩)), (4, .pointer (some ⟨(gs1 1).b, 0, none⟩)), (5, .pointer (some ⟨(gs2 1).b, 0, none⟩)), (6, .int .i64 ((x : Nat) : Int)), (7, .int .i64 ((y : Nat) : Int)), (18, .bool true)] ρ) (5 - 0) ⟨0, rfl, (by omega), HL4, (Is.of ⟨kr, kr, kr, kr, kr, kr, kr, kr, trivial⟩)⟩ ?_
    clear HL4
    rintro _ _ w8 ⟨y, rfl, hy, H8, _, rfl⟩
    refine g_seq kr ?_
    refine g_sreg [0, 1] kr kr ?_
    refine rp [.v] H8 kr fun gs9 w9 H9 => ?_
    show WPs _ _ _ _ [1] _ _
    clear H8
    by_cases hc5 : (y : Nat) < 5
    · skip
      refine rp [.e (v := .bool (decide (((y : Nat) : Int) < 5))) (v' := .bool true) (bool_eq (decide_eq_true (by omega)))] H9 kr fun gs10 w10 H10 => ?_
      show WPs _ _ _ _ [] _ _
      clear H9
      refine s_nil ?_
      refine g_cond_t kr kr ?_
      refine g_skip kr ?_
      show WP _ _ _ _ _ _
      refine g_seq kr ?_
      refine g_block 3 kr ?_
      refine dL [.v, .v, .o (ins := [((.tmp 5), .pointer (some ⟨(gs2 1).b, 0, none⟩)), ((.tmp 26), .int .i64 ((x : Nat) : Int))]) (v := .pointer (some ⟨(gs2 1).b, 0 + x * 1, none⟩)) (fun ρ o w ho hi => idxA_run (kd := .i64) (t := 117) (n := 5) (size := 1) kr (x := (.tmp 5)) (y := (.tmp 26)) (gs2 1).b 0 x ho hi.1 hi.2.1 (by omega) w), .ls (C := (Value.cells (arrW 5 (cF s x y)))) (off := 0 + x * 1) (v := .int .u64 ((BitVec.toNat (cF s x y x) : Nat) : Int)) 2 (arrW_at (n := 5) (cF s x y) (k := x) (by omega) (by omega)), .v, .v, .c (at_fn x y (by omega) (by omega)), .o (ins := [((.tmp 2), .pointer (some ⟨(gs1 0).b, 0, none⟩)), ((.tmp 31), .int .i64 ((x % 5 + 5 * (y % 5) : Nat) : Int))]) (v := .pointer (some ⟨(gs1 0).b, 0 + (x % 5 + 5 * (y % 5)) * 1, none⟩)) (fun ρ o w ho hi => idxA_run (kd := .i64) (t := 84) (n := 25) (size := 1) kr (x := (.tmp 2)) (y := (.tmp 31)) (gs1 0).b 0 (x % 5 + 5 * (y % 5)) ho hi.1 hi.2.1 (by omega) w), .ls (C := (Value.cells (svn s))) (off := 0 + (x % 5 + 5 * (y % 5)) * 1) (v := .int .u64 ((BitVec.toNat (nth s (x + 5 * y)) : Nat) : Int)) 0 (svn_at s (x + 5 * y) _ (by omega) (by omega)), .e (v := .int .u64 (Go.bits .xor .u64 (((BitVec.toNat (cF s x y x) : Nat) : Int)) (((BitVec.toNat (nth s (x + 5 * y)) : Nat) : Int)))) (v' := .int .u64 ((BitVec.toNat ((cF s x y x) ^^^ (nth s (x + 5 * y))) : Nat) : Int)) (bv_xor_u64 (cF s x y x) (nth s (x + 5 * y))), .o (ins := [((.tmp 5), .pointer (some ⟨(gs2 1).b, 0, none⟩)), ((.tmp 25), .int .i64 ((x : Nat) : Int))]) (v := .pointer (some ⟨(gs2 1).b, 0 + x * 1, none⟩)) (fun ρ o w ho hi => idxA_run (kd := .i64) (t := 117) (n := 5) (size := 1) kr (x := (.tmp 5)) (y := (.tmp 25)) (gs2 1).b 0 x ho hi.1 hi.2.1 (by omega) w), .se (C := (Value.cells (arrW 5 (cF s x y)))) (C' := (Value.cells (arrW 5 (cF s x (y + 1))))) (off := 0 + x * 1) (v := .int .u64 ((BitVec.toNat ((cF s x y x) ^^^ (nth s (x + 5 * y))) : Nat) : Int)) 2 (by show _ + 1 ≤ 5; omega) (arrW_put (k := x) (x := (cF s x y x) ^^^ (nth s (x + 5 * y))) (by omega) (by omega) (fun j hj => cF_put s x y j))] H10 kr fun w11 H11 => ?_
      clear H10
      show WP _ _ _ _ _ _
      refine g_keep [0, 1, 2, 4, 5, 6, 7, 18, 22] fun ρ1 => ?_
      have HK6 := H11.keep
      clear H11
      refine rL [.v, .e (v := .int .i64 (IntKind.i64.wrap (((y : Nat) : Int) + 1))) (v' := .int .i64 ((y + 1 : Nat) : Int)) (int_eq (wrapAdd_i64 (a := y) (b := 1) (by omega))), .v] HK6 kr fun gs12 w12 H12 => ?_
      clear HK6
      have HL7 : St w.heap.size w w12 [((gs1 0).b, Obj.cells (Value.cells (svn s)) 84 (0, 0)), ((gs1 1).b, Obj.cells #[.int .u64 0, .int .u64 0, .int .u64 0, .int .u64 0, .int .u64 0, .int .u64 0, .int .u64 0, .int .u64 0, .int .u64 0, .int .u64 0, .int .u64 0, .int .u64 0, .int .u64 0, .int .u64 0, .int .u64 0, .int .u64 0, .int .u64 0, .int .u64 0, .int .u64 0, .int .u64 0, .int .u64 0, .int .u64 0, .int .u64 0, .int .u64 0, .int .u64 0] 84 (0, 0)), ((gs2 1).b, Obj.cells (Value.cells (arrW 5 (cF s x (y + 1)))) 117 (0, 0))] := H12.as kr
      clear H12
      show ∃ m, _ ∧ _
      exact ⟨_, (by omega), (y + 1), rfl, (by omega), HL7, (Is.of ⟨kr, kr, kr, kr, kr, kr, kr, kr, trivial⟩)⟩
    · skip
      refine rp [.e (v := .bool (decide (((y : Nat) : Int) < 5))) (v' := .bool false) (bool_eq (decide_eq_false (by omega)))] H9 kr fun gs13 w13 H13 => ?_
      show WPs _ _ _ _ [] _ _
      clear H9
      refine s_nil ?_
      refine g_cond_f kr kr ?_
      refine g_exit 2 kr ?_
      show WP _ _ _ _ _ _
      refine rL [.v, .e (v := .int .i64 (IntKind.i64.wrap (((x : Nat) : Int) + 1))) (v' := .int .i64 ((x + 1 : Nat) : Int)) (int_eq (wrapAdd_i64 (a := x) (b := 1) (by omega))), .v] H13 kr fun gs14 w14 H14 => ?_
      clear H13
      have HL8 : St w.heap.size w w14 [((gs1 0).b, Obj.cells (Value.cells (svn s)) 84 (0, 0)), ((gs1 1).b, Obj.cells #[.int .u64 0, .int .u64 0, .int .u64 0, .int .u64 0, .int .u64 0, .int .u64 0, .int .u64 0, .int .u64 0, .int .u64 0, .int .u64 0, .int .u64 0, .int .u64 0, .int .u64 0, .int .u64 0, .int .u64 0, .int .u64 0, .int .u64 0, .int .u64 0, .int .u64 0, .int .u64 0, .int .u64 0, .int .u64 0, .int .u64 0, .int .u64 0, .int .u64 0] 84 (0, 0)), ((gs2 1).b, Obj.cells (Value.cells (arrW 5 (cF s x y))) 117 (0, 0))] := H14.as kr
      clear H14
      have HM9 : St w.heap.size w w14 [((gs1 0).b, Obj.cells (Value.cells (svn s)) 84 (0, 0)), ((gs1 1).b, Obj.cells #[.int .u64 0, .int .u64 0, .int .u64 0, .int .u64 0, .int .u64 0, .int .u64 0, .int .u64 0, .int .u64 0, .int .u64 0, .int .u64 0, .int .u64 0, .int .u64 0, .int .u64 0, .int .u64 0, .int .u64 0, .int .u64 0, .int .u64 0, .int .u64 0, .int .u64 0, .int .u64 0, .int .u64 0, .int .u64 0, .int .u64 0, .int .u64 0, .int .u64 0] 84 (0, 0)), ((gs2 1).b, Obj.cells (Value.cells (arrW 5 (cF s (x + 1) 0))) 117 (0, 0))] := by have h := HL8; rw [cF_row s x y (by omega)] at h; exact h
      show ∃ m, _ ∧ _
      exact ⟨_, (by omega), (x + 1), rfl, (by omega), HM9, (Is.of ⟨kr, kr, kr, kr, kr, kr, trivial⟩)⟩
  · skip
    refine rp [.e (v := .bool (decide (((x : Nat) : Int) < 5))) (v' := .bool false) (bool_eq (decide_eq_false (by omega)))] H5 kr fun gs15 w15 H15 => ?_
    show WPs _ _ _ _ [] _ _
    clear H5
    refine s_nil ?_
    refine g_cond_f kr kr ?_
    refine g_exit 0 kr ?_
    show WP _ _ _ _ _ _
    refine rS [.v, .a, .s 3] H15 kr fun gs16 w16 H16 => ?_
    clear H15
    refine g_seq kr ?_
    refine rS [.v] H16 kr fun gs17 w17 H17 => ?_
    clear H16
    refine g_block 4 kr ?_
    have HL10 : St w.heap.size w w17 [((gs1 0).b, Obj.cells (Value.cells (svn s)) 84 (0, 0)), ((gs1 1).b, Obj.cells #[.int .u64 0, .int .u64 0, .int .u64 0, .int .u64 0, .int .u64 0, .int .u64 0, .int .u64 0, .int .u64 0, .int .u64 0, .int .u64 0, .int .u64 0, .int .u64 0, .int .u64 0, .int .u64 0, .int .u64 0, .int .u64 0, .int .u64 0, .int .u64 0, .int .u64 0, .int .u64 0, .int .u64 0, .int .u64 0, .int .u64 0, .int .u64 0, .int .u64 0] 84 (0, 0)), ((gs2 1).b, Obj.cells (Value.cells (arrW 5 (cF s x 0))) 117 (0, 0)), ((gs16 1).b, Obj.cells #[.int .u64 0, .int .u64 0, .int .u64 0, .int .u64 0, .int .u64 0, .int .u64 0, .int .u64 0, .int .u64 0, .int .u64 0, .int .u64 0, .int .u64 0, .int .u64 0, .int .u64 0, .int .u64 0, .int .u64 0, .int .u64 0, .int .u64 0, .int .u64 0, .int .u64 0, .int .u64 0, .int .u64 0, .int .u64 0, .int .u64 0, .int .u64 0, .int .u64 0] 84 (0, 0))] := H17.as kr
    clear H17
    have HM11 : St w.heap.size w w17 [((gs1 0).b, Obj.cells (Value.cells (svn s)) 84 (0, 0)), ((gs1 1).b, Obj.cells #[.int .u64 0, .int .u64 0, .int .u64 0, .int .u64 0, .int .u64 0, .int .u64 0, .int .u64 0, .int .u64 0, .int .u64 0, .int .u64 0, .int .u64 0, .int .u64 0, .int .u64 0, .int .u64 0, .int .u64 0, .int .u64 0, .int .u64 0, .int .u64 0, .int .u64 0, .int .u64 0, .int .u64 0, .int .u64 0, .int .u64 0, .int .u64 0, .int .u64 0] 84 (0, 0)), ((gs2 1).b, Obj.cells (Value.cells (arrW 5 (cC s))) 117 (0, 0)), ((gs16 1).b, Obj.cells #[.int .u64 0, .int .u64 0, .int .u64 0, .int .u64 0, .int .u64 0, .int .u64 0, .int .u64 0, .int .u64 0, .int .u64 0, .int .u64 0, .int .u64 0, .int .u64 0, .int .u64 0, .int .u64 0, .int .u64 0, .int .u64 0, .int .u64 0, .int .u64 0, .int .u64 0, .int .u64 0, .int .u64 0, .int .u64 0, .int .u64 0, .int .u64 0, .int .u64 0] 84 (0, 0))] := by have h := HL10; rw [cF_all s x (by omega)] at h; exact h
    have HM12 : St w.heap.size w w17 [((gs1 0).b, Obj.cells (Value.cells (svn s)) 84 (0, 0)), ((gs1 1).b, Obj.cells #[.int .u64 0, .int .u64 0, .int .u64 0, .int .u64 0, .int .u64 0, .int .u64 0, .int .u64 0, .int .u64 0, .int .u64 0, .int .u64 0, .int .u64 0, .int .u64 0, .int .u64 0, .int .u64 0, .int .u64 0, .int .u64 0, .int .u64 0, .int .u64 0, .int .u64 0, .int .u64 0, .int .u64 0, .int .u64 0, .int .u64 0, .int .u64 0, .int .u64 0] 84 (0, 0)), ((gs2 1).b, Obj.cells (Value.cells (arrW 5 (cC s))) 117 (0, 0)), ((gs16 1).b, Obj.cells (Value.cells (arrW 25 (bF s 0 0))) 84 (0, 0))] := HM11
    refine g_loop kr (fun mz ρ ww => ∃ (u : Nat), 5 - u = mz ∧ (u ≤ 5) ∧ St w.heap.size w ww [((gs1 0).b, Obj.cells (Value.cells (svn s)) 84 (0, 0)), ((gs1 1).b, Obj.cells #[.int .u64 0, .int .u64 0, .int .u64 0, .int .u64 0, .int .u64 0, .int .u64 0, .int .u64 0, .int .u64 0, .int .u64 0, .int .u64 0, .int .u64 0, .int .u64 0, .int .u64 0, .int .u64 0, .int .u64 0, .int .u64 0, .int .u64 0, .int .u64 0, .int .u64 0, .int .u64 0, .int .u64 0, .int .u64 0, .int .u64 0, .int .u64 0, .int .u64 0] 84 (0, 0)), ((gs2 1).b, Obj.cells (Value.cells (arrW 5 (cC s))) 117 (0, 0)), ((gs16 1).b, Obj.cells (Value.cells (arrW 25 (bF s u 0))) 84 (0, 0))] ∧ Is [(0, svn s), (1, .int .i64 ((i : Nat) : Int)), (2, .pointer (some ⟨(gs1 0).b, 0, none⟩)), (4, .pointer (some ⟨(gs1 1).b, 0, none⟩)), (5, .pointer (some ⟨(gs2 1).b, 0, none⟩)), (6, .int .i64 ((x : Nat) : Int)), (8, .pointer (some ⟨(gs16 1).b, 0, none⟩)), (9, .int .i64 ((u : Nat) : Int)), (18, .bool false)] ρ) (5 - 0) ⟨0, rfl, (by omega), HM12, (Is.of ⟨kr, kr, kr, kr, kr, kr, kr, kr, kr, trivial⟩)⟩ ?_
    clear HM12
    rintro _ _ w18 ⟨u, rfl, hu, H18, _, rfl⟩
    refine g_seq kr ?_
    refine g_sreg [0, 1] kr kr ?_
    refine rp [.v] H18 kr fun gs19 w19 H19 => ?_
    show WPs _ _ _ _ [1] _ _
    clear H18
    by_cases hc13 : (u : Nat) < 5
    · skip
      refine rp [.e (v := .bool (decide (((u : Nat) : Int) < 5))) (v' := .bool true) (bool_eq (decide_eq_true (by omega)))] H19 kr fun gs20 w20 H20 => ?_
      show WPs _ _ _ _ [] _ _
      clear H19
      refine s_nil ?_
      refine g_cond_t kr kr ?_
      refine g_skip kr ?_
      show WP _ _ _ _ _ _
      refine g_seq kr ?_
      refine g_block 5 kr ?_
      refine dS [.v, .e (v := .int .i64 (IntKind.i64.wrap (((u : Nat) : Int) + 4))) (v' := .int .i64 ((u + 4 : Nat) : Int)) (int_eq (wrapAdd_i64 (a := u) (b := 4) (by omega))), .e (v := .int .i64 (Int.tmod ((u + 4 : Nat) : Int) 5)) (v' := .int .i64 (((u + 4) % 5 : Nat) : Int)) (int_eq (remN (u + 4) 5)), .o (ins := [((.tmp 5), .pointer (some ⟨(gs2 1).b, 0, none⟩)), ((.tmp 43), .int .i64 (((u + 4) % 5 : Nat) : Int))]) (v := .pointer (some ⟨(gs2 1).b, 0 + ((u + 4) % 5) * 1, none⟩)) (fun ρ o w ho hi => idxA_run (kd := .i64) (t := 117) (n := 5) (size := 1) kr (x := (.tmp 5)) (y := (.tmp 43)) (gs2 1).b 0 ((u + 4) % 5) ho hi.1 hi.2.1 (by omega) w), .ls (C := (Value.cells (arrW 5 (cC s)))) (off := 0 + ((u + 4) % 5) * 1) (v := .int .u64 ((BitVec.toNat (cC s ((u + 4) % 5)) : Nat) : Int)) 2 (arrW_at (n := 5) (cC s) (k := ((u + 4) % 5)) (by omega) (by omega)), .v, .e (v := .int .i64 (IntKind.i64.wrap (((u : Nat) : Int) + 1))) (v' := .int .i64 ((u + 1 : Nat) : Int)) (int_eq (wrapAdd_i64 (a := u) (b := 1) (by omega))), .e (v := .int .i64 (Int.tmod ((u + 1 : Nat) : Int) 5)) (v' := .int .i64 (((u + 1) % 5 : Nat) : Int)) (int_eq (remN (u + 1) 5)), .o (ins := [((.tmp 5), .pointer (some ⟨(gs2 1).b, 0, none⟩)), ((.tmp 48), .int .i64 (((u + 1) % 5 : Nat) : Int))]) (v := .pointer (some ⟨(gs2 1).b, 0 + ((u + 1) % 5) * 1, none⟩)) (fun ρ o w ho hi => idxA_run (kd := .i64) (t := 117) (n := 5) (size := 1) kr (x := (.tmp 5)) (y := (.tmp 48)) (gs2 1).b 0 ((u + 1) % 5) ho hi.1 hi.2.1 (by omega) w), .ls (C := (Value.cells (arrW 5 (cC s)))) (off := 0 + ((u + 1) % 5) * 1) (v := .int .u64 ((BitVec.toNat (cC s ((u + 1) % 5)) : Nat) : Int)) 2 (arrW_at (n := 5) (cC s) (k := ((u + 1) % 5)) (by omega) (by omega)), .c (left_fn (cC s ((u + 1) % 5)) 1 (by omega) (by omega)), .e (v := .int .u64 (Go.bits .xor .u64 (((BitVec.toNat (cC s ((u + 4) % 5)) : Nat) : Int)) (((BitVec.toNat (rl (cC s ((u + 1) % 5)) 1) : Nat) : Int)))) (v' := .int .u64 ((BitVec.toNat (dD (cC s) u) : Nat) : Int)) (bv_xor_u64 (cC s ((u + 4) % 5)) (rl (cC s ((u + 1) % 5)) 1)), .v] H20 kr fun w21 H21 => ?_
      clear H20
      refine g_keep [0, 1, 2, 4, 5, 6, 8, 9, 10, 18, 38] fun ρ2 => ?_
      have HK14 := H21.keep
      clear H21
      refine rS [.v] HK14 kr fun gs22 w22 H22 => ?_
      clear HK14
      refine g_block 6 kr ?_
      have HL15 : St w.heap.size w w22 [((gs1 0).b, Obj.cells (Value.cells (svn s)) 84 (0, 0)), ((gs1 1).b, Obj.cells #[.int .u64 0, .int .u64 0, .int .u64 0, .int .u64 0, .int .u64 0, .int .u64 0, .int .u64 0, .int .u64 0, .int .u64 0, .int .u64 0, .int .u64 0, .int .u64 0, .int .u64 0, .int .u64 0, .int .u64 0, .int .u64 0, .int .u64 0, .int .u64 0, .int .u64 0, .int .u64 0, .int .u64 0, .int .u64 0, .int .u64 0, .int .u64 0, .int .u64 0] 84 (0, 0)), ((gs2 1).b, Obj.cells (Value.cells (arrW 5 (cC s))) 117 (0, 0)), ((gs16 1).b, Obj.cells (Value.cells (arrW 25 (bF s u 0))) 84 (0, 0))] := H22.as kr
      clear H22
      refine g_loop kr (fun mz ρ ww => ∃ (v : Nat), 5 - v = mz ∧ (v ≤ 5) ∧ St w.heap.size w ww [((gs1 0).b, Obj.cells (Value.cells (svn s)) 84 (0, 0)), ((gs1 1).b, Obj.cells #[.int .u64 0, .int .u64 0, .int .u64 0, .int .u64 0, .int .u64 0, .int .u64 0, .int .u64 0, .int .u64 0, .int .u64 0, .int .u64 0, .int .u64 0, .int .u64 0, .int .u64 0, .int .u64 0, .int .u64 0, .int .u64 0, .int .u64 0, .int .u64 0, .int .u64 0, .int .u64 0, .int .u64 0, .int .u64 0, .int .u64 0, .int .u64 0, .int .u64 0] 84 (0, 0)), ((gs2 1).b, Obj.cells (Value.cells (arrW 5 (cC s))) 117 (0, 0)), ((gs16 1).b, Obj.cells (Value.cells (arrW 25 (bF s u v))) 84 (0, 0))] ∧ Is [(0, svn s), (1, .int .i64 ((i : Nat) : Int)), (2, .pointer (some ⟨(gs1 0).b, 0, none⟩)), (4, .pointer (some ⟨(gs1 1).b, 0, none⟩)), (5, .pointer (some ⟨(gs2 1).b, 0, none⟩)), (6, .int .i64 ((x : Nat) : Int)), (8, .pointer (some ⟨(gs16 1).b, 0, none⟩)), (9, .int .i64 ((u : Nat) : Int)), (10, .int .u64 ((BitVec.toNat (dD (cC s) u) : Nat) : Int)), (11, .int .i64 ((v : Nat) : Int)), (18, .bool false), (38, .bool true)] ρ) (5 - 0) ⟨0, rfl, (by omega), HL15, (Is.of ⟨kr, kr, kr, kr, kr, kr, kr, kr, kr, kr, kr, kr, trivial⟩)⟩ ?_
      clear HL15
      rintro _ _ w23 ⟨v, rfl, hv, H23, _, rfl⟩
      refine g_seq kr ?_
      refine g_sreg [0, 1] kr kr ?_
      refine rp [.v] H23 kr fun gs24 w24 H24 => ?_
      show WPs _ _ _ _ [1] _ _
      clear H23
      by_cases hc16 : (v : Nat) < 5
      · skip
        refine rp [.e (v := .bool (decide (((v : Nat) : Int) < 5))) (v' := .bool true) (bool_eq (decide_eq_true (by omega)))] H24 kr fun gs25 w25 H25 => ?_
        show WPs _ _ _ _ [] _ _
        clear H24
        refine s_nil ?_
        refine g_cond_t kr kr ?_
        refine g_skip kr ?_
        show WP _ _ _ _ _ _
        refine g_seq kr ?_
        refine g_block 7 kr ?_
        refine dL [.v, .v, .e (v := .int .i64 (IntKind.i64.wrap (2 * ((u : Nat) : Int)))) (v' := .int .i64 ((2 * u : Nat) : Int)) (int_eq (wrapMul_i64 (a := 2) (b := u) (by omega))), .v, .e (v := .int .i64 (IntKind.i64.wrap (3 * ((v : Nat) : Int)))) (v' := .int .i64 ((3 * v : Nat) : Int)) (int_eq (wrapMul_i64 (a := 3) (b := v) (by omega))), .e (v := .int .i64 (IntKind.i64.wrap (((2 * u : Nat) : Int) + ((3 * v : Nat) : Int)))) (v' := .int .i64 (((2 * u) + (3 * v) : Nat) : Int)) (int_eq (wrapAdd_i64 (a := 2 * u) (b := 3 * v) (by omega))), .c (at_fn v ((2 * u) + (3 * v)) (by omega) (by omega)), .v, .v, .c (at_fn u v (by omega) (by omega)), .o (ins := [((.tmp 2), .pointer (some ⟨(gs1 0).b, 0, none⟩)), ((.tmp 66), .int .i64 ((u % 5 + 5 * (v % 5) : Nat) : Int))]) (v := .pointer (some ⟨(gs1 0).b, 0 + (u % 5 + 5 * (v % 5)) * 1, none⟩)) (fun ρ o w ho hi => idxA_run (kd := .i64) (t := 84) (n := 25) (size := 1) kr (x := (.tmp 2)) (y := (.tmp 66)) (gs1 0).b 0 (u % 5 + 5 * (v % 5)) ho hi.1 hi.2.1 (by omega) w), .ls (C := (Value.cells (svn s))) (off := 0 + (u % 5 + 5 * (v % 5)) * 1) (v := .int .u64 ((BitVec.toNat (nth s (u + 5 * v)) : Nat) : Int)) 0 (svn_at s (u + 5 * v) _ (by omega) (by omega)), .v, .e (v := .int .u64 (Go.bits .xor .u64 (((BitVec.toNat (nth s (u + 5 * v)) : Nat) : Int)) (((BitVec.toNat (dD (cC s) u) : Nat) : Int)))) (v' := .int .u64 ((BitVec.toNat (th s (u + 5 * v)) : Nat) : Int)) ((bv_xor_u64 (nth s (u + 5 * v)) (dD (cC s) u)).trans (bv_congr (th_at s (by omega)))), .v, .v, .c (turnR_fn u v (by omega) (by omega)), .c (leftR_fn s u v (by omega) (by omega)), .o (ins := [((.tmp 8), .pointer (some ⟨(gs16 1).b, 0, none⟩)), ((.tmp 63), .int .i64 ((v % 5 + 5 * (((2 * u) + (3 * v)) % 5) : Nat) : Int))]) (v := .pointer (some ⟨(gs16 1).b, 0 + (v % 5 + 5 * (((2 * u) + (3 * v)) % 5)) * 1, none⟩)) (fun ρ o w ho hi => idxA_run (kd := .i64) (t := 84) (n := 25) (size := 1) kr (x := (.tmp 8)) (y := (.tmp 63)) (gs16 1).b 0 (v % 5 + 5 * (((2 * u) + (3 * v)) % 5)) ho hi.1 hi.2.1 (by omega) w), .se (C := (Value.cells (arrW 25 (bF s u v)))) (C' := (Value.cells (arrW 25 (bF s u (v + 1))))) (off := 0 + (v % 5 + 5 * (((2 * u) + (3 * v)) % 5)) * 1) (v := .int .u64 ((BitVec.toNat (pI s (v % 5 + 5 * ((2 * u + 3 * v) % 5))) : Nat) : Int)) 3 (by show _ + 1 ≤ 25; omega) (arrW_put (k := v % 5 + 5 * ((2 * u + 3 * v) % 5)) (x := pI s (v % 5 + 5 * ((2 * u + 3 * v) % 5))) (by omega) (by omega) (fun j hj => bF_put s (by omega) (by omega) hj))] H25 kr fun w26 H26 => ?_
        clear H25
        show WP _ _ _ _ _ _
        refine g_keep [0, 1, 2, 4, 5, 6, 8, 9, 10, 11, 18, 38, 54] fun ρ3 => ?_
        have HK17 := H26.keep
        clear H26
        refine rL [.v, .e (v := .int .i64 (IntKind.i64.wrap (((v : Nat) : Int) + 1))) (v' := .int .i64 ((v + 1 : Nat) : Int)) (int_eq (wrapAdd_i64 (a := v) (b := 1) (by omega))), .v] HK17 kr fun gs27 w27 H27 => ?_
        clear HK17
        have HL18 : St w.heap.size w w27 [((gs1 0).b, Obj.cells (Value.cells (svn s)) 84 (0, 0)), ((gs1 1).b, Obj.cells #[.int .u64 0, .int .u64 0, .int .u64 0, .int .u64 0, .int .u64 0, .int .u64 0, .int .u64 0, .int .u64 0, .int .u64 0, .int .u64 0, .int .u64 0, .int .u64 0, .int .u64 0, .int .u64 0, .int .u64 0, .int .u64 0, .int .u64 0, .int .u64 0, .int .u64 0, .int .u64 0, .int .u64 0, .int .u64 0, .int .u64 0, .int .u64 0, .int .u64 0] 84 (0, 0)), ((gs2 1).b, Obj.cells (Value.cells (arrW 5 (cC s))) 117 (0, 0)), ((gs16 1).b, Obj.cells (Value.cells (arrW 25 (bF s u (v + 1)))) 84 (0, 0))] := H27.as kr
        clear H27
        show ∃ m, _ ∧ _
        exact ⟨_, (by omega), (v + 1), rfl, (by omega), HL18, (Is.of ⟨kr, kr, kr, kr, kr, kr, kr, kr, kr, kr, kr, kr, trivial⟩)⟩
      · skip
        refine rp [.e (v := .bool (decide (((v : Nat) : Int) < 5))) (v' := .bool false) (bool_eq (decide_eq_false (by omega)))] H24 kr fun gs28 w28 H28 => ?_
        show WPs _ _ _ _ [] _ _
        clear H24
        refine s_nil ?_
        refine g_cond_f kr kr ?_
        refine g_exit 6 kr ?_
        show WP _ _ _ _ _ _
        refine rL [.v, .e (v := .int .i64 (IntKind.i64.wrap (((u : Nat) : Int) + 1))) (v' := .int .i64 ((u + 1 : Nat) : Int)) (int_eq (wrapAdd_i64 (a := u) (b := 1) (by omega))), .v] H28 kr fun gs29 w29 H29 => ?_
        clear H28
        have HL19 : St w.heap.size w w29 [((gs1 0).b, Obj.cells (Value.cells (svn s)) 84 (0, 0)), ((gs1 1).b, Obj.cells #[.int .u64 0, .int .u64 0, .int .u64 0, .int .u64 0, .int .u64 0, .int .u64 0, .int .u64 0, .int .u64 0, .int .u64 0, .int .u64 0, .int .u64 0, .int .u64 0, .int .u64 0, .int .u64 0, .int .u64 0, .int .u64 0, .int .u64 0, .int .u64 0, .int .u64 0, .int .u64 0, .int .u64 0, .int .u64 0, .int .u64 0, .int .u64 0, .int .u64 0] 84 (0, 0)), ((gs2 1).b, Obj.cells (Value.cells (arrW 5 (cC s))) 117 (0, 0)), ((gs16 1).b, Obj.cells (Value.cells (arrW 25 (bF s u v))) 84 (0, 0))] := H29.as kr
        clear H29
        have HM20 : St w.heap.size w w29 [((gs1 0).b, Obj.cells (Value.cells (svn s)) 84 (0, 0)), ((gs1 1).b, Obj.cells #[.int .u64 0, .int .u64 0, .int .u64 0, .int .u64 0, .int .u64 0, .int .u64 0, .int .u64 0, .int .u64 0, .int .u64 0, .int .u64 0, .int .u64 0, .int .u64 0, .int .u64 0, .int .u64 0, .int .u64 0, .int .u64 0, .int .u64 0, .int .u64 0, .int .u64 0, .int .u64 0, .int .u64 0, .int .u64 0, .int .u64 0, .int .u64 0, .int .u64 0] 84 (0, 0)), ((gs2 1).b, Obj.cells (Value.cells (arrW 5 (cC s))) 117 (0, 0)), ((gs16 1).b, Obj.cells (Value.cells (arrW 25 (bF s (u + 1) 0))) 84 (0, 0))] := by have h := HL19; rw [bF_row s u v (by omega)] at h; exact h
        show ∃ m, _ ∧ _
        exact ⟨_, (by omega), (u + 1), rfl, (by omega), HM20, (Is.of ⟨kr, kr, kr, kr, kr, kr, kr, kr, kr, trivial⟩)⟩
    · skip
      refine rp [.e (v := .bool (decide (((u : Nat) : Int) < 5))) (v' := .bool false) (bool_eq (decide_eq_false (by omega)))] H19 kr fun gs30 w30 H30 => ?_
      show WPs _ _ _ _ [] _ _
      clear H19
      refine s_nil ?_
      refine g_cond_f kr kr ?_
      refine g_exit 4 kr ?_
      show WP _ _ _ _ _ _
      refine rS [.v, .a, .s 4] H30 kr fun gs31 w31 H31 => ?_
      clear H30
      refine g_keep [0, 1, 2, 4, 5, 6, 8, 9, 12, 18, 38] fun ρ4 => ?_
      have HK21 := H31.keep
      clear H31
      refine g_seq kr ?_
      refine rS [.v] HK21 kr fun gs32 w32 H32 => ?_
      clear HK21
      refine g_block 8 kr ?_
      have HL22 : St w.heap.size w w32 [((gs1 0).b, Obj.cells (Value.cells (svn s)) 84 (0, 0)), ((gs1 1).b, Obj.cells #[.int .u64 0, .int .u64 0, .int .u64 0, .int .u64 0, .int .u64 0, .int .u64 0, .int .u64 0, .int .u64 0, .int .u64 0, .int .u64 0, .int .u64 0, .int .u64 0, .int .u64 0, .int .u64 0, .int .u64 0, .int .u64 0, .int .u64 0, .int .u64 0, .int .u64 0, .int .u64 0, .int .u64 0, .int .u64 0, .int .u64 0, .int .u64 0, .int .u64 0] 84 (0, 0)), ((gs2 1).b, Obj.cells (Value.cells (arrW 5 (cC s))) 117 (0, 0)), ((gs16 1).b, Obj.cells (Value.cells (arrW 25 (bF s u 0))) 84 (0, 0)), ((gs31 1).b, Obj.cells #[.int .u64 0, .int .u64 0, .int .u64 0, .int .u64 0, .int .u64 0, .int .u64 0, .int .u64 0, .int .u64 0, .int .u64 0, .int .u64 0, .int .u64 0, .int .u64 0, .int .u64 0, .int .u64 0, .int .u64 0, .int .u64 0, .int .u64 0, .int .u64 0, .int .u64 0, .int .u64 0, .int .u64 0, .int .u64 0, .int .u64 0, .int .u64 0, .int .u64 0] 84 (0, 0))] := H32.as kr
      clear H32
      have HM23 : St w.heap.size w w32 [((gs1 0).b, Obj.cells (Value.cells (svn s)) 84 (0, 0)), ((gs1 1).b, Obj.cells #[.int .u64 0, .int .u64 0, .int .u64 0, .int .u64 0, .int .u64 0, .int .u64 0, .int .u64 0, .int .u64 0, .int .u64 0, .int .u64 0, .int .u64 0, .int .u64 0, .int .u64 0, .int .u64 0, .int .u64 0, .int .u64 0, .int .u64 0, .int .u64 0, .int .u64 0, .int .u64 0, .int .u64 0, .int .u64 0, .int .u64 0, .int .u64 0, .int .u64 0] 84 (0, 0)), ((gs2 1).b, Obj.cells (Value.cells (arrW 5 (cC s))) 117 (0, 0)), ((gs16 1).b, Obj.cells (Value.cells (arrW 25 (pI s))) 84 (0, 0)), ((gs31 1).b, Obj.cells #[.int .u64 0, .int .u64 0, .int .u64 0, .int .u64 0, .int .u64 0, .int .u64 0, .int .u64 0, .int .u64 0, .int .u64 0, .int .u64 0, .int .u64 0, .int .u64 0, .int .u64 0, .int .u64 0, .int .u64 0, .int .u64 0, .int .u64 0, .int .u64 0, .int .u64 0, .int .u64 0, .int .u64 0, .int .u64 0, .int .u64 0, .int .u64 0, .int .u64 0] 84 (0, 0))] := by have h := HL22; rw [bF_all s u (by omega)] at h; exact h
      have HM24 : St w.heap.size w w32 [((gs1 0).b, Obj.cells (Value.cells (svn s)) 84 (0, 0)), ((gs1 1).b, Obj.cells #[.int .u64 0, .int .u64 0, .int .u64 0, .int .u64 0, .int .u64 0, .int .u64 0, .int .u64 0, .int .u64 0, .int .u64 0, .int .u64 0, .int .u64 0, .int .u64 0, .int .u64 0, .int .u64 0, .int .u64 0, .int .u64 0, .int .u64 0, .int .u64 0, .int .u64 0, .int .u64 0, .int .u64 0, .int .u64 0, .int .u64 0, .int .u64 0, .int .u64 0] 84 (0, 0)), ((gs2 1).b, Obj.cells (Value.cells (arrW 5 (cC s))) 117 (0, 0)), ((gs16 1).b, Obj.cells (Value.cells (arrW 25 (pI s))) 84 (0, 0)), ((gs31 1).b, Obj.cells (Value.cells (arrW 25 (oF s 0 0))) 84 (0, 0))] := HM23
      have HD25 : St w.heap.size w w32 [((gs1 1).b, Obj.cells #[.int .u64 0, .int .u64 0, .int .u64 0, .int .u64 0, .int .u64 0, .int .u64 0, .int .u64 0, .int .u64 0, .int .u64 0, .int .u64 0, .int .u64 0, .int .u64 0, .int .u64 0, .int .u64 0, .int .u64 0, .int .u64 0, .int .u64 0, .int .u64 0, .int .u64 0, .int .u64 0, .int .u64 0, .int .u64 0, .int .u64 0, .int .u64 0, .int .u64 0] 84 (0, 0)), ((gs16 1).b, Obj.cells (Value.cells (arrW 25 (pI s))) 84 (0, 0)), ((gs31 1).b, Obj.cells (Value.cells (arrW 25 (oF s 0 0))) 84 (0, 0))] := HM24.sub (List.Sublist.cons _ (List.Sublist.cons_cons _ (List.Sublist.cons _ (List.Sublist.cons_cons _ (List.Sublist.cons_cons _ List.Sublist.slnil)))))
      refine g_loop kr (fun mz ρ ww => ∃ (m : Nat), 5 - m = mz ∧ (m ≤ 5) ∧ St w.heap.size w ww [((gs1 1).b, Obj.cells #[.int .u64 0, .int .u64 0, .int .u64 0, .int .u64 0, .int .u64 0, .int .u64 0, .int .u64 0, .int .u64 0, .int .u64 0, .int .u64 0, .int .u64 0, .int .u64 0, .int .u64 0, .int .u64 0, .int .u64 0, .int .u64 0, .int .u64 0, .int .u64 0, .int .u64 0, .int .u64 0, .int .u64 0, .int .u64 0, .int .u64 0, .int .u64 0, .int .u64 0] 84 (0, 0)), ((gs16 1).b, Obj.cells (Value.cells (arrW 25 (pI s))) 84 (0, 0)), ((gs31 1).b, Obj.cells (Value.cells (arrW 25 (oF s m 0))) 84 (0, 0))] ∧ Is [(0, svn s), (1, .int .i64 ((i : Nat) : Int)), (2, .pointer (some ⟨(gs1 0).b, 0, none⟩)), (4, .pointer (some ⟨(gs1 1).b, 0, none⟩)), (5, .pointer (some ⟨(gs2 1).b, 0, none⟩)), (6, .int .i64 ((x : Nat) : Int)), (8, .pointer (some ⟨(gs16 1).b, 0, none⟩)), (9, .int .i64 ((u : Nat) : Int)), (12, .pointer (some ⟨(gs31 1).b, 0, none⟩)), (13, .int .i64 ((m : Nat) : Int)), (18, .bool false), (38, .bool false)] ρ) (5 - 0) ⟨0, rfl, (by omega), HD25, (Is.of ⟨kr, kr, kr, kr, kr, kr, kr, kr, kr, kr, kr, kr, trivial⟩)⟩ ?_
      clear HD25
      rintro _ _ w33 ⟨m, rfl, hm, H33, _, rfl⟩
      refine g_seq kr ?_
      refine g_sreg [0, 1] kr kr ?_
      refine rp [.v] H33 kr fun gs34 w34 H34 => ?_
      show WPs _ _ _ _ [1] _ _
      clear H33
      by_cases hc26 : (m : Nat) < 5
      · skip
        refine rp [.e (v := .bool (decide (((m : Nat) : Int) < 5))) (v' := .bool true) (bool_eq (decide_eq_true (by omega)))] H34 kr fun gs35 w35 H35 => ?_
        show WPs _ _ _ _ [] _ _
        clear H34
        refine s_nil ?_
        refine g_cond_t kr kr ?_
        refine g_skip kr ?_
        show WP _ _ _ _ _ _
        refine g_seq kr ?_
        refine g_block 9 kr ?_
        refine rS [.v] H35 kr fun gs36 w36 H36 => ?_
        clear H35
        refine g_block 10 kr ?_
        have HL27 : St w.heap.size w w36 [((gs1 1).b, Obj.cells #[.int .u64 0, .int .u64 0, .int .u64 0, .int .u64 0, .int .u64 0, .int .u64 0, .int .u64 0, .int .u64 0, .int .u64 0, .int .u64 0, .int .u64 0, .int .u64 0, .int .u64 0, .int .u64 0, .int .u64 0, .int .u64 0, .int .u64 0, .int .u64 0, .int .u64 0, .int .u64 0, .int .u64 0, .int .u64 0, .int .u64 0, .int .u64 0, .int .u64 0] 84 (0, 0)), ((gs16 1).b, Obj.cells (Value.cells (arrW 25 (pI s))) 84 (0, 0)), ((gs31 1).b, Obj.cells (Value.cells (arrW 25 (oF s m 0))) 84 (0, 0))] := H36.as kr
        clear H36
        refine g_loop kr (fun mz ρ ww => ∃ (l : Nat), 5 - l = mz ∧ (l ≤ 5) ∧ St w.heap.size w ww [((gs1 1).b, Obj.cells #[.int .u64 0, .int .u64 0, .int .u64 0, .int .u64 0, .int .u64 0, .int .u64 0, .int .u64 0, .int .u64 0, .int .u64 0, .int .u64 0, .int .u64 0, .int .u64 0, .int .u64 0, .int .u64 0, .int .u64 0, .int .u64 0, .int .u64 0, .int .u64 0, .int .u64 0, .int .u64 0, .int .u64 0, .int .u64 0, .int .u64 0, .int .u64 0, .int .u64 0] 84 (0, 0)), ((gs16 1).b, Obj.cells (Value.cells (arrW 25 (pI s))) 84 (0, 0)), ((gs31 1).b, Obj.cells (Value.cells (arrW 25 (oF s m l))) 84 (0, 0))] ∧ Is [(0, svn s), (1, .int .i64 ((i : Nat) : Int)), (2, .pointer (some ⟨(gs1 0).b, 0, none⟩)), (4, .pointer (some ⟨(gs1 1).b, 0, none⟩)), (5, .pointer (some ⟨(gs2 1).b, 0, none⟩)), (6, .int .i64 ((x : Nat) : Int)), (8, .pointer (some ⟨(gs16 1).b, 0, none⟩)), (9, .int .i64 ((u : Nat) : Int)), (12, .pointer (some ⟨(gs31 1).b, 0, none⟩)), (13, .int .i64 ((m : Nat) : Int)), (14, .int .i64 ((l : Nat) : Int)), (18, .bool false), (38, .bool false), (78, .bool true)] ρ) (5 - 0) ⟨0, rfl, (by omega), HL27, (Is.of ⟨kr, kr, kr, kr, kr, kr, kr, kr, kr, kr, kr, kr, kr, kr, trivial⟩)⟩ ?_
        clear HL27
        rintro _ _ w37 ⟨l, rfl, hl, H37, _, rfl⟩
        refine g_seq kr ?_
        refine g_sreg [0, 1] kr kr ?_
        refine rp [.v] H37 kr fun gs38 w38 H38 => ?_
        show WPs _ _ _ _ [1] _ _
        clear H37
        by_cases hc28 : (l : Nat) < 5
        · skip
          refine rp [.e (v := .bool (decide (((l : Nat) : Int) < 5))) (v' := .bool true) (bool_eq (decide_eq_true (by omega)))] H38 kr fun gs39 w39 H39 => ?_
          show WPs _ _ _ _ [] _ _
          clear H38
          refine s_nil ?_
          refine g_cond_t kr kr ?_
          refine g_skip kr ?_
          show WP _ _ _ _ _ _
          refine g_seq kr ?_
          refine g_block 11 kr ?_
          refine rS [.v, .e (v := .int .i64 (IntKind.i64.wrap (((m : Nat) : Int) + 1))) (v' := .int .i64 ((m + 1 : Nat) : Int)) (int_eq (wrapAdd_i64 (a := m) (b := 1) (by omega))), .v, .c (at_fn (m + 1) l (by omega) (by omega)), .o (ins := [((.tmp 8), .pointer (some ⟨(gs16 1).b, 0, none⟩)), ((.tmp 88), .int .i64 (((m + 1) % 5 + 5 * (l % 5) : Nat) : Int))]) (v := .pointer (some ⟨(gs16 1).b, 0 + ((m + 1) % 5 + 5 * (l % 5)) * 1, none⟩)) (fun ρ o w ho hi => idxA_run (kd := .i64) (t := 84) (n := 25) (size := 1) kr (x := (.tmp 8)) (y := (.tmp 88)) (gs16 1).b 0 ((m + 1) % 5 + 5 * (l % 5)) ho hi.1 hi.2.1 (by omega) w), .ls (C := (Value.cells (arrW 25 (pI s)))) (off := 0 + ((m + 1) % 5 + 5 * (l % 5)) * 1) (v := .int .u64 ((BitVec.toNat (pI s ((m + 1) % 5 + 5 * (l % 5))) : Nat) : Int)) 1 (arrW_at (n := 25) (pI s) (k := ((m + 1) % 5 + 5 * (l % 5))) (by omega) (by omega)), .e (v := .int .u64 (IntKind.u64.wrap ((18446744073709551615) - (((BitVec.toNat (pI s ((m + 1) % 5 + 5 * (l % 5))) : Nat) : Int))))) (v' := .int .u64 ((BitVec.toNat (~~~(pI s ((m + 1) % 5 + 5 * (l % 5)))) : Nat) : Int)) ((bv_sub_u64 (18446744073709551615 : BitVec 64) (pI s ((m + 1) % 5 + 5 * (l % 5)))).trans (bv_congr (sub_not (pI s ((m + 1) % 5 + 5 * (l % 5)))))), .v] H39 kr fun gs40 w40 H40 => ?_
          clear H39
          refine dL [.v, .v, .c (at_fn m l (by omega) (by omega)), .v, .v, .c (at_fn m l (by omega) (by omega)), .o (ins := [((.tmp 8), .pointer (some ⟨(gs16 1).b, 0, none⟩)), ((.tmp 97), .int .i64 ((m % 5 + 5 * (l % 5) : Nat) : Int))]) (v := .pointer (some ⟨(gs16 1).b, 0 + (m % 5 + 5 * (l % 5)) * 1, none⟩)) (fun ρ o w ho hi => idxA_run (kd := .i64) (t := 84) (n := 25) (size := 1) kr (x := (.tmp 8)) (y := (.tmp 97)) (gs16 1).b 0 (m % 5 + 5 * (l % 5)) ho hi.1 hi.2.1 (by omega) w), .ls (C := (Value.cells (arrW 25 (pI s)))) (off := 0 + (m % 5 + 5 * (l % 5)) * 1) (v := .int .u64 ((BitVec.toNat (pI s (m + 5 * l)) : Nat) : Int)) 1 (arrW_at (n := 25) (pI s) (k := m + 5 * l) (by omega) (by omega)), .v, .v, .e (v := .int .i64 (IntKind.i64.wrap (((m : Nat) : Int) + 2))) (v' := .int .i64 ((m + 2 : Nat) : Int)) (int_eq (wrapAdd_i64 (a := m) (b := 2) (by omega))), .v, .c (at_fn (m + 2) l (by omega) (by omega)), .o (ins := [((.tmp 8), .pointer (some ⟨(gs16 1).b, 0, none⟩)), ((.tmp 104), .int .i64 (((m + 2) % 5 + 5 * (l % 5) : Nat) : Int))]) (v := .pointer (some ⟨(gs16 1).b, 0 + ((m + 2) % 5 + 5 * (l % 5)) * 1, none⟩)) (fun ρ o w ho hi => idxA_run (kd := .i64) (t := 84) (n := 25) (size := 1) kr (x := (.tmp 8)) (y := (.tmp 104)) (gs16 1).b 0 ((m + 2) % 5 + 5 * (l % 5)) ho hi.1 hi.2.1 (by omega) w), .ls (C := (Value.cells (arrW 25 (pI s)))) (off := 0 + ((m + 2) % 5 + 5 * (l % 5)) * 1) (v := .int .u64 ((BitVec.toNat (pI s ((m + 2) % 5 + 5 * (l % 5))) : Nat) : Int)) 1 (arrW_at (n := 25) (pI s) (k := ((m + 2) % 5 + 5 * (l % 5))) (by omega) (by omega)), .e (v := .int .u64 (Go.bits .and .u64 (((BitVec.toNat (~~~(pI s ((m + 1) % 5 + 5 * (l % 5)))) : Nat) : Int)) (((BitVec.toNat (pI s ((m + 2) % 5 + 5 * (l % 5))) : Nat) : Int)))) (v' := .int .u64 ((BitVec.toNat ((~~~(pI s ((m + 1) % 5 + 5 * (l % 5)))) &&& (pI s ((m + 2) % 5 + 5 * (l % 5)))) : Nat) : Int)) (bv_and_u64 (~~~(pI s ((m + 1) % 5 + 5 * (l % 5)))) (pI s ((m + 2) % 5 + 5 * (l % 5)))), .e (v := .int .u64 (Go.bits .xor .u64 (((BitVec.toNat (pI s (m + 5 * l)) : Nat) : Int)) (((BitVec.toNat ((~~~(pI s ((m + 1) % 5 + 5 * (l % 5)))) &&& (pI s ((m + 2) % 5 + 5 * (l % 5)))) : Nat) : Int)))) (v' := .int .u64 ((BitVec.toNat (xI (pI s) (m + 5 * l)) : Nat) : Int)) ((bv_xor_u64 (pI s (m + 5 * l)) ((~~~(pI s ((m + 1) % 5 + 5 * (l % 5)))) &&& (pI s ((m + 2) % 5 + 5 * (l % 5))))).trans (bv_congr (xI_at (pI s) (by omega) (by omega)))), .o (ins := [((.tmp 12), .pointer (some ⟨(gs31 1).b, 0, none⟩)), ((.tmp 94), .int .i64 ((m % 5 + 5 * (l % 5) : Nat) : Int))]) (v := .pointer (some ⟨(gs31 1).b, 0 + (m % 5 + 5 * (l % 5)) * 1, none⟩)) (fun ρ o w ho hi => idxA_run (kd := .i64) (t := 84) (n := 25) (size := 1) kr (x := (.tmp 12)) (y := (.tmp 94)) (gs31 1).b 0 (m % 5 + 5 * (l % 5)) ho hi.1 hi.2.1 (by omega) w), .se (C := (Value.cells (arrW 25 (oF s m l)))) (C' := (Value.cells (arrW 25 (oF s m (l + 1))))) (off := 0 + (m % 5 + 5 * (l % 5)) * 1) (v := .int .u64 ((BitVec.toNat (xI (pI s) (m + 5 * l)) : Nat) : Int)) 2 (by show _ + 1 ≤ 25; omega) (arrW_put (k := m + 5 * l) (x := xI (pI s) (m + 5 * l)) (by omega) (by omega) (fun j hj => oF_put s (by omega) (by omega) hj))] H40 kr fun w41 H41 => ?_
          clear H40
          show WP _ _ _ _ _ _
          refine g_keep [0, 1, 2, 4, 5, 6, 8, 9, 12, 13, 14, 15, 18, 38, 78, 82] fun ρ5 => ?_
          have HK29 := H41.keep
          clear H41
          refine rL [.v, .e (v := .int .i64 (IntKind.i64.wrap (((l : Nat) : Int) + 1))) (v' := .int .i64 ((l + 1 : Nat) : Int)) (int_eq (wrapAdd_i64 (a := l) (b := 1) (by omega))), .v] HK29 kr fun gs42 w42 H42 => ?_
          clear HK29
          have HL30 : St w.heap.size w w42 [((gs1 1).b, Obj.cells #[.int .u64 0, .int .u64 0, .int .u64 0, .int .u64 0, .int .u64 0, .int .u64 0, .int .u64 0, .int .u64 0, .int .u64 0, .int .u64 0, .int .u64 0, .int .u64 0, .int .u64 0, .int .u64 0, .int .u64 0, .int .u64 0, .int .u64 0, .int .u64 0, .int .u64 0, .int .u64 0, .int .u64 0, .int .u64 0, .int .u64 0, .int .u64 0, .int .u64 0] 84 (0, 0)), ((gs16 1).b, Obj.cells (Value.cells (arrW 25 (pI s))) 84 (0, 0)), ((gs31 1).b, Obj.cells (Value.cells (arrW 25 (oF s m (l + 1)))) 84 (0, 0))] := H42.as kr
          clear H42
          show ∃ m, _ ∧ _
          exact ⟨_, (by omega), (l + 1), rfl, (by omega), HL30, (Is.of ⟨kr, kr, kr, kr, kr, kr, kr, kr, kr, kr, kr, kr, kr, kr, trivial⟩)⟩
        · skip
          refine rp [.e (v := .bool (decide (((l : Nat) : Int) < 5))) (v' := .bool false) (bool_eq (decide_eq_false (by omega)))] H38 kr fun gs43 w43 H43 => ?_
          show WPs _ _ _ _ [] _ _
          clear H38
          refine s_nil ?_
          refine g_cond_f kr kr ?_
          refine g_exit 10 kr ?_
          show WP _ _ _ _ _ _
          refine rL [.v, .e (v := .int .i64 (IntKind.i64.wrap (((m : Nat) : Int) + 1))) (v' := .int .i64 ((m + 1 : Nat) : Int)) (int_eq (wrapAdd_i64 (a := m) (b := 1) (by omega))), .v] H43 kr fun gs44 w44 H44 => ?_
          clear H43
          have HL31 : St w.heap.size w w44 [((gs1 1).b, Obj.cells #[.int .u64 0, .int .u64 0, .int .u64 0, .int .u64 0, .int .u64 0, .int .u64 0, .int .u64 0, .int .u64 0, .int .u64 0, .int .u64 0, .int .u64 0, .int .u64 0, .int .u64 0, .int .u64 0, .int .u64 0, .int .u64 0, .int .u64 0, .int .u64 0, .int .u64 0, .int .u64 0, .int .u64 0, .int .u64 0, .int .u64 0, .int .u64 0, .int .u64 0] 84 (0, 0)), ((gs16 1).b, Obj.cells (Value.cells (arrW 25 (pI s))) 84 (0, 0)), ((gs31 1).b, Obj.cells (Value.cells (arrW 25 (oF s m l))) 84 (0, 0))] := H44.as kr
          clear H44
          have HM32 : St w.heap.size w w44 [((gs1 1).b, Obj.cells #[.int .u64 0, .int .u64 0, .int .u64 0, .int .u64 0, .int .u64 0, .int .u64 0, .int .u64 0, .int .u64 0, .int .u64 0, .int .u64 0, .int .u64 0, .int .u64 0, .int .u64 0, .int .u64 0, .int .u64 0, .int .u64 0, .int .u64 0, .int .u64 0, .int .u64 0, .int .u64 0, .int .u64 0, .int .u64 0, .int .u64 0, .int .u64 0, .int .u64 0] 84 (0, 0)), ((gs16 1).b, Obj.cells (Value.cells (arrW 25 (pI s))) 84 (0, 0)), ((gs31 1).b, Obj.cells (Value.cells (arrW 25 (oF s (m + 1) 0))) 84 (0, 0))] := by have h := HL31; rw [oF_row s m l (by omega)] at h; exact h
          show ∃ m, _ ∧ _
          exact ⟨_, (by omega), (m + 1), rfl, (by omega), HM32, (Is.of ⟨kr, kr, kr, kr, kr, kr, kr, kr, kr, kr, kr, kr, trivial⟩)⟩
      · skip
        refine rp [.e (v := .bool (decide (((m : Nat) : Int) < 5))) (v' := .bool false) (bool_eq (decide_eq_false (by omega)))] H34 kr fun gs45 w45 H45 => ?_
        show WPs _ _ _ _ [] _ _
        clear H34
        refine s_nil ?_
        refine g_cond_f kr kr ?_
        refine g_exit 8 kr ?_
        show WP _ _ _ _ _ _
        refine dS [.v, .l 2, .v, .c (last_fn i (by omega)), .e (v := .int .u64 (Go.bits .xor .u64 (((BitVec.toNat (oF s m 0 0) : Nat) : Int)) (((BitVec.toNat (lastB i 7) : Nat) : Int)))) (v' := .int .u64 ((BitVec.toNat ((oF s m 0 0) ^^^ (lastB i 7)) : Nat) : Int)) (bv_xor_u64 (oF s m 0 0) (lastB i 7)), .v, .se (C := (Value.cells (arrW 25 (oF s m 0)))) (C' := (Value.cells (svn (rm s (lastB i 7))))) (off := 0) (v := .int .u64 ((BitVec.toNat ((oF s m 0 0) ^^^ (lastB i 7)) : Nat) : Int)) 2 (of_decide_eq_true kr) (oF_rm s (lastB i 7) (by omega))] H45 kr fun w46 H46 => ?_
        clear H45
        refine rS [.l 2, .s 0] H46 kr fun gs47 w47 H47 => ?_
        clear H46
        refine g_ret kr ?_
        show ∃ vs, Res _ _ _ _ vs ∧ _
        refine ⟨[svn (rm s (lastB i 7))], (.agg (b := (gs1 1).b) (Value.cells (svn (rm s (lastB i 7)))) 84 (0, 0) kr (H47.get 0 kr) kr .nil), ?_, H47.below⟩
        rfl
end Go.Proofs.YtmmloghbnpfedaaDoor.Ke

namespace Go.Proofs.YtmmloghbnpfedaaDoor.Ke
open Go Go.RowKit Go.Proofs.Kec
set_option linter.unusedVariables false
theorem mixL_succ (s : List (BitVec 64)) (j : Nat) (h : j < 24) : mixK s (j + 1) = rm (mixK s j) (lastB j 7) := by rw [mixK_succ s j h, ← last_mark ⟨j, h⟩]
set_option maxRecDepth 100000 in
set_option maxHeartbeats 2000000 in
theorem mixR_fn (s : List (BitVec 64)) : Fn Tryd.prog 70 #[svn s] (svn (mix s)) := by
  refine Fn.intro (c := codeOf Tryd.f70) [.cell 2 84] 12 Tryd.func70 kr kr kr fun w => ?_
  have H0 := St.start w
  refine rS [.b, .a] H0 kr fun gs1 w1 H1 => ?_
  clear H0
  refine g_seq kr ?_
  refine rS [.v] H1 kr fun gs2 w2 H2 => ?_
  clear H1
  refine g_block 0 kr ?_
  have HL1 : St w.heap.size w w2 [((gs1 0).b, Obj.cells (Value.cells (svn s)) 84 (0, 0)), ((gs1 1).b, Obj.cells #[.int .u64 0, .int .u64 0, .int .u64 0, .int .u64 0, .int .u64 0, .int .u64 0, .int .u64 0, .int .u64 0, .int .u64 0, .int .u64 0, .int .u64 0, .int .u64 0, .int .u64 0, .int .u64 0, .int .u64 0, .int .u64 0, .int .u64 0, .int .u64 0, .int .u64 0, .int .u64 0, .int .u64 0, .int .u64 0, .int .u64 0, .int .u64 0, .int .u64 0] 84 (0, 0))] := H2.as kr
  clear H2
  have HM2 : St w.heap.size w w2 [((gs1 0).b, Obj.cells (Value.cells (svn (mixK s 0))) 84 (0, 0)), ((gs1 1).b, Obj.cells #[.int .u64 0, .int .u64 0, .int .u64 0, .int .u64 0, .int .u64 0, .int .u64 0, .int .u64 0, .int .u64 0, .int .u64 0, .int .u64 0, .int .u64 0, .int .u64 0, .int .u64 0, .int .u64 0, .int .u64 0, .int .u64 0, .int .u64 0, .int .u64 0, .int .u64 0, .int .u64 0, .int .u64 0, .int .u64 0, .int .u64 0, .int .u64 0, .int .u64 0] 84 (0, 0))] := HL1
  refine g_loop kr (fun mz ρ ww => ∃ (j : Nat), 24 - j = mz ∧ (j ≤ 24) ∧ St w.heap.size w ww [((gs1 0).b, Obj.cells (Value.cells (svn (mixK s j))) 84 (0, 0)), ((gs1 1).b, Obj.cells #[.int .u64 0, .int .u64 0, .int .u64 0, .int .u64 0, .int .u64 0, .int .u64 0, .int .u64 0, .int .u64 0, .int .u64 0, .int .u64 0, .int .u64 0, .int .u64 0, .int .u64 0, .int .u64 0, .int .u64 0, .int .u64 0, .int .u64 0, .int .u64 0, .int .u64 0, .int .u64 0, .int .u64 0, .int .u64 0, .int .u64 0, .int .u64 0, .int .u64 0] 84 (0, 0))] ∧ Is [(0, svn s), (1, .pointer (some ⟨(gs1 0).b, 0, none⟩)), (2, .pointer (some ⟨(gs1 1).b, 0, none⟩)), (3, .int .i64 ((j : Nat) : Int))] ρ) (24 - 0) ⟨0, rfl, (by omega), HM2, (Is.of ⟨kr, kr, kr, kr, trivial⟩)⟩ ?_
  clear HM2
  rintro _ _ w3 ⟨j, rfl, hj, H3, _, rfl⟩
  refine g_seq kr ?_
  refine g_sreg [0, 1] kr kr ?_
  refine rp [.v] H3 kr fun gs4 w4 H4 => ?_
  show WPs _ _ _ _ [1] _ _
  clear H3
  by_cases hc3 : (j : Nat) < 24
  · skip
    refine rp [.e (v := .bool (decide (((j : Nat) : Int) < 24))) (v' := .bool true) (bool_eq (decide_eq_true (by omega)))] H4 kr fun gs5 w5 H5 => ?_
    show WPs _ _ _ _ [] _ _
    clear H4
    refine s_nil ?_
    refine g_cond_t kr kr ?_
    refine g_skip kr ?_
    show WP _ _ _ _ _ _
    refine g_seq kr ?_
    refine g_block 1 kr ?_
    refine rL [.l 0, .v, .c (roundR_fn (mixK s j) j (by omega)), .s 0] H5 kr fun gs6 w6 H6 => ?_
    clear H5
    show WP _ _ _ _ _ _
    refine rL [.v, .e (v := .int .i64 (IntKind.i64.wrap (((j : Nat) : Int) + 1))) (v' := .int .i64 ((j + 1 : Nat) : Int)) (int_eq (wrapAdd_i64 (a := j) (b := 1) (by omega))), .v] H6 kr fun gs7 w7 H7 => ?_
    clear H6
    have HL4 : St w.heap.size w w7 [((gs1 0).b, Obj.cells (Value.cells (svn (rm (mixK s j) (lastB j 7)))) 84 (0, 0)), ((gs1 1).b, Obj.cells #[.int .u64 0, .int .u64 0, .int .u64 0, .int .u64 0, .int .u64 0, .int .u64 0, .int .u64 0, .int .u64 0, .int .u64 0, .int .u64 0, .int .u64 0, .int .u64 0, .int .u64 0, .int .u64 0, .int .u64 0, .int .u64 0, .int .u64 0, .int .u64 0, .int .u64 0, .int .u64 0, .int .u64 0, .int .u64 0, .int .u64 0, .int .u64 0, .int .u64 0] 84 (0, 0))] := H7.as kr
    clear H7
    have HM5 : St w.heap.size w w7 [((gs1 0).b, Obj.cells (Value.cells (svn (mixK s (j + 1)))) 84 (0, 0)), ((gs1 1).b, Obj.cells #[.int .u64 0, .int .u64 0, .int .u64 0, .int .u64 0, .int .u64 0, .int .u64 0, .int .u64 0, .int .u64 0, .int .u64 0, .int .u64 0, .int .u64 0, .int .u64 0, .int .u64 0, .int .u64 0, .int .u64 0, .int .u64 0, .int .u64 0, .int .u64 0, .int .u64 0, .int .u64 0, .int .u64 0, .int .u64 0, .int .u64 0, .int .u64 0, .int .u64 0] 84 (0, 0))] := by rw [mixL_succ s j (by omega)]; exact HL4
    show ∃ m, _ ∧ _
    exact ⟨_, (by omega), (j + 1), rfl, (by omega), HM5, (Is.of ⟨kr, kr, kr, kr, trivial⟩)⟩
  · skip
    refine rp [.e (v := .bool (decide (((j : Nat) : Int) < 24))) (v' := .bool false) (bool_eq (decide_eq_false (by omega)))] H4 kr fun gs8 w8 H8 => ?_
    show WPs _ _ _ _ [] _ _
    clear H4
    refine s_nil ?_
    refine g_cond_f kr kr ?_
    refine g_exit 0 kr ?_
    show WP _ _ _ _ _ _
    refine rS [.l 0, .s 1] H8 kr fun gs9 w9 H9 => ?_
    clear H8
    refine g_ret kr ?_
    show ∃ vs, Res _ _ _ _ vs ∧ _
    refine ⟨[svn (mixK s j)], (.agg (b := (gs1 1).b) (Value.cells (svn (mixK s j))) 84 (0, 0) kr (H9.get 1 kr) kr .nil), ?_, H9.below⟩
    obtain rfl : j = 24 := by omega
    exact congrArg svn (mixK_all s)
end Go.Proofs.YtmmloghbnpfedaaDoor.Ke

namespace Go.Proofs.YtmmloghbnpfedaaDoor.Ke
open Go Go.RowKit Go.Proofs.Kec
set_option linter.unusedVariables false
def bt (X : List UInt8) (k : Nat) : B64 := byteB (X.getD k 0)
def wpx (X : List UInt8) (q : Nat) : Nat → B64
  | 0 => 0
  | m + 1 => wpx X q m ^^^ bt X (8 * q + m) <<< (8 * m)
/-- The word of eight bytes, from the highest one on: k of them are taken. -/
def wrk (X : List UInt8) (o : Nat) : Nat → B64
  | 0 => 0
  | k + 1 => 256 * wrk X o k + bt X (o + (7 - k))
theorem byteB_lt (b : UInt8) : (byteB b).toNat < 256 := by
  unfold byteB; rw [BitVec.toNat_ofNat]; have := b.toNat_lt; omega
theorem byte_xor (x : B64) (b : B64) (hb : b.toNat < 256) : x <<< 8 ^^^ b = 256 * x + b := by
  have hbit : ∀ i, 8 ≤ i → b.getLsbD i = false := fun i hi => by
    unfold BitVec.getLsbD
    exact Nat.testBit_lt_two_pow (Nat.lt_of_lt_of_le hb (show 256 ≤ 2 ^ i from Nat.pow_le_pow_right (n := 2) (by omega) hi))
  have h0 : x <<< 8 &&& b = 0#64 := by
    apply BitVec.eq_of_getLsbD_eq
    intro i hi
    rw [BitVec.getLsbD_and, BitVec.getLsbD_shiftLeft, BitVec.getLsbD_zero]
    by_cases h : i < 8
    · simp [h]
    · rw [hbit i (by omega)]; simp
  have h1 : x <<< 8 ^^^ b = x <<< 8 ||| b := by
    apply BitVec.eq_of_getLsbD_eq
    intro i hi
    rw [BitVec.getLsbD_xor, BitVec.getLsbD_or, BitVec.getLsbD_shiftLeft]
    by_cases h : i < 8
    · simp [h]
    · rw [hbit i (by omega)]; simp
  rw [h1, ← BitVec.add_eq_or_of_and_eq_zero _ _ h0, BitVec.shiftLeft_eq_mul_twoPow, BitVec.mul_comm]; rfl
theorem wr_inv (X : List UInt8) (q : Nat) : ∀ m, m ≤ 8 → wrk X (8 * q) 8 = wpx X q m ^^^ wrk X (8 * q) (8 - m) <<< (8 * m)
  | 0, _ => by show wrk X (8 * q) 8 = (0#64 : B64) ^^^ (wrk X (8 * q) 8) <<< (0 : Nat); rw [BitVec.zero_xor, BitVec.shiftLeft_zero]
  | m + 1, h => by
    rw [wr_inv X q m (by omega), show 8 - m = 8 - (m + 1) + 1 by omega]
    show _ ^^^ (256 * wrk X (8 * q) (8 - (m + 1)) + bt X (8 * q + (7 - (8 - (m + 1))))) <<< (8 * m) = (wpx X q m ^^^ bt X (8 * q + m) <<< (8 * m)) ^^^ _
    rw [show 7 - (8 - (m + 1)) = m by omega, ← byte_xor _ (bt X (8 * q + m)) (byteB_lt _), BitVec.shiftLeft_xor_distrib, show 8 * (m + 1) = 8 + 8 * m by omega, BitVec.shiftLeft_add, BitVec.xor_assoc, BitVec.xor_comm (bt X (8 * q + m) <<< (8 * m))]
theorem wpx_word (X : List UInt8) (q : Nat) : wpx X q 8 = wrk X (8 * q) 8 := by
  rw [wr_inv X q 8 (by omega)]
  show _ = _ ^^^ (0#64 : B64) <<< _
  rw [BitVec.zero_shiftLeft, BitVec.xor_zero]
/-- A state with a block's words laid in, i of them. -/
def xw (a : List B64) (f : Nat → B64) (i : Nat) : List B64 := (List.range 25).map fun j => if j < i then nth a j ^^^ f j else nth a j
theorem xw_len (a : List B64) (f : Nat → B64) (i : Nat) : (xw a f i).length = 25 := by unfold xw; simp
theorem nth_map (g : Nat → B64) (j : Nat) (h : j < 25) : nth ((List.range 25).map g) j = g j := by
  unfold nth; rw [List.getD_eq_getElem?_getD, List.getElem?_map]; simp [h]
theorem nth_xw (a : List B64) (f : Nat → B64) (i j : Nat) (h : j < 25) : nth (xw a f i) j = if j < i then nth a j ^^^ f j else nth a j := nth_map _ j h
theorem ext25 {s t : List B64} (hs : s.length = 25) (ht : t.length = 25) (h : ∀ j, j < 25 → nth s j = nth t j) : s = t := by
  apply List.ext_getElem (by rw [hs, ht])
  intro i h1 h2
  have := h i (by omega)
  unfold nth at this
  rw [List.getD_eq_getElem?_getD, List.getD_eq_getElem?_getD, List.getElem?_eq_getElem h1, List.getElem?_eq_getElem h2] at this
  exact this
theorem xw_zero {a : List B64} (f : Nat → B64) (ha : a.length = 25) : a = xw a f 0 := ext25 ha (xw_len _ _ _) fun j hj => by rw [nth_xw _ _ _ _ hj, if_neg (by omega)]
theorem xw_at (a : List B64) (f : Nat → B64) (i : Nat) (h : i < 25) : nth (xw a f i) i = nth a i := by rw [nth_xw _ _ _ _ h, if_neg (by omega)]
theorem xw_set (a : List B64) (f : Nat → B64) (i : Nat) (h : i < 25) : (xw a f i).set i (nth a i ^^^ f i) = xw a f (i + 1) := by
  refine ext25 (by rw [List.length_set, xw_len]) (xw_len _ _ _) fun j hj => ?_
  rw [nth_set _ _ _ _ (by rw [xw_len]; exact h)]
  by_cases e : j = i
  · subst e; rw [if_pos rfl, nth_xw _ _ _ _ hj, if_pos (by omega)]
  · rw [if_neg e, nth_xw _ _ _ _ hj, nth_xw _ _ _ _ hj]
    by_cases e2 : j < i
    · rw [if_pos e2, if_pos (by omega)]
    · rw [if_neg e2, if_neg (by omega)]
theorem lay_nth (s : List B64) (n : Nat) (b : B64) (j : Nat) (hs : s.length = 25) (hn : n < 200) : nth (lay s n b) j = if j = n / 8 then nth s (n / 8) ^^^ liftB b n else nth s j := by
  unfold lay; rw [nth_set _ _ _ _ (by omega)]
theorem bytes_in (a : List B64) (ha : a.length = 25) (X : List UInt8) : ∀ j, j ≤ 135 → j ≤ X.length → ∃ B, takeB (a, 0) (X.take j) = (B, j) ∧ B.length = 25 ∧ ∀ q, q < 25 → nth B q = nth a q ^^^ wpx X q (min 8 (j - 8 * q))
  | 0, _, _ => ⟨a, rfl, ha, fun q _ => by rw [show min 8 (0 - 8 * q) = 0 by omega]; show _ = _ ^^^ (0#64 : B64); rw [BitVec.xor_zero]⟩
  | j + 1, h, hX => by
    obtain ⟨B, hB, hl, hp⟩ := bytes_in a ha X j (by omega) (by omega)
    have hx : X.take (j + 1) = X.take j ++ [X.getD j 0] := by
      rw [List.take_add_one, List.getElem?_eq_getElem (show j < X.length by omega), Option.toList_some, List.getD_eq_getElem?_getD, List.getElem?_eq_getElem (show j < X.length by omega)]; rfl
    refine ⟨lay B j (bt X j), ?_, lay_len _ _ hl, fun q hq => ?_⟩
    · rw [hx, takeB_snoc, hB]
      unfold step1
      exact if_neg (by show ¬ j + 1 = 136; omega)
    · rw [lay_nth _ _ _ _ hl (by omega)]
      by_cases e : q = j / 8
      · rw [if_pos e, ← e, hp q hq, show min 8 (j + 1 - 8 * q) = min 8 (j - 8 * q) + 1 by omega]
        show _ = nth a q ^^^ (wpx X q (min 8 (j - 8 * q)) ^^^ bt X (8 * q + min 8 (j - 8 * q)) <<< (8 * min 8 (j - 8 * q)))
        rw [show 8 * q + min 8 (j - 8 * q) = j by omega]
        unfold liftB
        rw [show j % 8 * 8 = 8 * min 8 (j - 8 * q) by omega, BitVec.xor_assoc]
      · rw [if_neg e, hp q hq, show min 8 (j + 1 - 8 * q) = min 8 (j - 8 * q) by omega]
/-- A whole block. -/
theorem block_in (a : List B64) (ha : a.length = 25) (X : List UInt8) (hX : X.length = 136) : takeB (a, 0) X = (mix (xw a (fun q => wrk X (8 * q) 8) 17), 0) := by
  obtain ⟨B, hB, hl, hp⟩ := bytes_in a ha X 135 (by omega) (by omega)
  have hx : X = X.take 135 ++ [X.getD 135 0] := by
    conv => lhs; rw [← List.take_of_length_le (show X.length ≤ 135 + 1 by omega)]
    rw [List.take_add_one, List.getElem?_eq_getElem (show 135 < X.length by omega), Option.toList_some, List.getD_eq_getElem?_getD, List.getElem?_eq_getElem (show 135 < X.length by omega)]; rfl
  have h1 : takeB (a, 0) X = (mix (lay B 135 (bt X 135)), 0) := by
    rw [hx, takeB_snoc, hB]
    unfold step1
    rw [if_pos (by show 135 + 1 = 136; rfl)]
    congr 3
    unfold bt; rw [← hx]
  rw [h1]
  congr 2
  refine ext25 (lay_len _ _ hl) (xw_len _ _ _) fun q hq => ?_
  rw [lay_nth _ _ _ _ hl (by omega), nth_xw _ _ _ _ hq]
  by_cases e : q = 135 / 8
  · rw [if_pos e, if_pos (by omega), ← e, hp q hq, ← wpx_word, show min 8 (135 - 8 * q) = 7 by omega]
    show _ = nth a q ^^^ (wpx X q 7 ^^^ bt X (8 * q + 7) <<< (8 * 7))
    rw [show 8 * q + 7 = 135 by omega, BitVec.xor_assoc]; rfl
  · rw [if_neg e, hp q hq]
    by_cases e2 : q < 17
    · rw [if_pos e2, ← wpx_word, show min 8 (135 - 8 * q) = 8 by omega]
    · rw [if_neg e2, show min 8 (135 - 8 * q) = 0 by omega]
      show _ ^^^ (0#64 : B64) = _; rw [BitVec.xor_zero]
theorem lay_zero {s : List B64} (n : Nat) (hs : s.length = 25) (hn : n < 200) : lay s n 0 = s := ext25 (lay_len _ _ hs) hs fun j hj => by
  rw [lay_nth _ _ _ _ hs hn]
  by_cases e : j = n / 8
  · rw [if_pos e, ← e]; unfold liftB; show _ ^^^ (0#64 : B64) <<< _ = _; rw [BitVec.zero_shiftLeft, BitVec.xor_zero]
  · rw [if_neg e]
theorem zeros_in : ∀ (z n : Nat) {s : List B64}, s.length = 25 → n + z ≤ 135 → takeB (s, n) (List.replicate z 0) = (s, n + z)
  | 0, n, s, _, _ => rfl
  | z + 1, n, s, hs, h => by
    rw [List.replicate_succ]
    show takeB (step1 (s, n) 0) _ = _
    have e : step1 (s, n) 0 = (s, n + 1) := by
      unfold step1
      rw [if_neg (by show ¬ n + 1 = 136; omega)]
      show (lay s n (byteB 0), n + 1) = _
      rw [show byteB 0 = (0 : B64) from rfl, lay_zero n hs (by omega)]
    rw [e, zeros_in z (n + 1) hs (by omega)]
    congr 1; omega
theorem lay_two {s : List B64} (b c : B64) (hs : s.length = 25) : lay (lay s 135 b) 135 c = lay s 135 (b ^^^ c) := ext25 (lay_len _ _ (lay_len _ _ hs)) (lay_len _ _ hs) fun j hj => by
  rw [lay_nth _ _ _ _ (lay_len _ _ hs) (by omega), lay_nth _ _ _ _ hs (by omega), lay_nth _ _ _ _ hs (by omega), lay_nth _ _ _ _ hs (by omega)]
  by_cases e : j = 135 / 8
  · rw [if_pos e, if_pos rfl, if_pos e]; unfold liftB; rw [BitVec.shiftLeft_xor_distrib, BitVec.xor_assoc]
  · rw [if_neg e, if_neg e]; rw [if_neg e]
/-- A text with what the reference puts behind it; the last byte not yet raised. -/
def padK (s : ByteArray) (z : Nat) : List UInt8 := tl s ++ (1 :: List.replicate z 0)
theorem padK_succ (s : ByteArray) (z : Nat) : padK s z ++ [UInt8.ofBitVec (0 : BitVec 8)] = padK s (z + 1) := by
  unfold padK; rw [List.replicate_succ']; simp
theorem padK_len (s : ByteArray) (z : Nat) : (padK s z).length = ByteArray.size s + 1 + z := by unfold padK; simp [tl_len]; omega
def PK (s : ByteArray) (z : Nat) : List UInt8 := (padK s z).set ((padK s z).length - 1) (UInt8.ofBitVec (UInt8.toBitVec ((padK s z).getD ((padK s z).length - 1) 0) + (128 : BitVec 8)))
theorem PK_len (s : ByteArray) (z : Nat) : (PK s z).length = ByteArray.size s + 1 + z := by unfold PK; rw [List.length_set, padK_len]
theorem PK_zero (s : ByteArray) : PK s 0 = tl s ++ [129] := by
  unfold PK
  rw [padK_len, show ByteArray.size s + 1 + 0 - 1 = (tl s).length from by rw [tl_len]; omega]
  unfold padK
  rw [List.set_append_right _ _ (Nat.le_refl _), List.getD_eq_getElem?_getD, List.getElem?_append_right (Nat.le_refl _), Nat.sub_self]; rfl
theorem PK_succ (s : ByteArray) (z : Nat) : PK s (z + 1) = tl s ++ (1 :: (List.replicate z 0 ++ [128])) := by
  unfold PK
  rw [padK_len, show ByteArray.size s + 1 + (z + 1) - 1 = (tl s).length + (z + 1) from by rw [tl_len]; omega]
  unfold padK
  rw [List.set_append_right _ _ (by omega), List.getD_eq_getElem?_getD, List.getElem?_append_right (by omega), show (tl s).length + (z + 1) - (tl s).length = z + 1 by omega]
  congr 1
  rw [List.replicate_succ']
  have e : (1 :: (List.replicate z (0 : UInt8) ++ [0]))[z + 1]?.getD 0 = 0 := by simp
  rw [e, List.set_cons_succ, List.set_append_right _ _ (by simp), List.length_replicate, Nat.sub_self]; rfl
theorem takeB_lt (l : List UInt8) : ∀ {st : List B64 × Nat}, st.2 < 136 → (takeB st l).2 = (st.2 + l.length) % 136 := by
  induction l with
  | nil => intro st h; show st.2 = _; rw [List.length_nil, Nat.add_zero, Nat.mod_eq_of_lt h]
  | cons b l ih =>
    intro st h
    show (takeB (step1 st b) l).2 = _
    have e : (step1 st b).2 = (st.2 + 1) % 136 := by
      unfold step1
      split
      · rename_i q; show 0 = _; rw [q]
      · rename_i q; show st.2 + 1 = _; rw [Nat.mod_eq_of_lt (by omega)]
    rw [ih (by rw [e]; exact Nat.mod_lt _ (by omega)), e, List.length_cons, Nat.mod_add_mod]
    congr 1; omega
/-- All blocks of it leave the state whose first bytes are the sum. -/
theorem PK_all (s : ByteArray) (z : Nat) (hz : z = 135 - ByteArray.size s % 136) : takeB (zeroS, 0) (PK s z) = (mix (endB (takeB (zeroS, 0) (tl s))), 0) := by
  have hok := takeB_ok (tl s) zero_ok
  have hn := takeB_lt (tl s) (st := (zeroS, 0)) (by decide)
  rw [show (zeroS, 0).2 + (tl s).length = ByteArray.size s by rw [tl_len]; simp] at hn
  generalize hst : takeB (zeroS, 0) (tl s) = st at hok hn
  obtain ⟨S, n⟩ := st
  have hl : S.length = 25 := hok.len
  simp only at hn
  unfold endB
  cases z with
  | zero =>
    rw [PK_zero, takeB_snoc, hst]
    obtain rfl : n = 135 := by omega
    unfold step1
    rw [if_pos (by rfl), lay_two _ _ hl]
    rfl
  | succ z =>
    rw [PK_succ, takeB_append, hst]
    show takeB (step1 (S, n) 1) (List.replicate z 0 ++ [128]) = _
    have e : step1 (S, n) 1 = (lay S n 1, n + 1) := by
      unfold step1
      rw [if_neg (by show ¬ n + 1 = 136; omega)]; rfl
    rw [e, takeB_append, zeros_in z (n + 1) (lay_len _ _ hl) (by omega), show n + 1 + z = 135 by omega]
    show step1 (lay S n 1, 135) 128 = _
    unfold step1
    rw [if_pos (by rfl)]; rfl
def wd (s : ByteArray) (z m : Nat) (j : Nat) : B64 := wrk (List.take 8 (List.drop (136 * m + 8 * j) (PK s z))) 0 8
theorem wrk_congr (X Y : List UInt8) (o p : Nat) (h : ∀ k, k < 8 → X.getD (o + k) 0 = Y.getD (p + k) 0) : ∀ k, k ≤ 8 → wrk X o k = wrk Y p k
  | 0, _ => rfl
  | k + 1, hk => by
    show 256 * wrk X o k + bt X (o + (7 - k)) = 256 * wrk Y p k + bt Y (p + (7 - k))
    rw [wrk_congr X Y o p h k (by omega)]
    unfold bt; rw [h (7 - k) (by omega)]
theorem wd_is (s : ByteArray) (z m j : Nat) (hj : j < 17) (hm : 136 * m + 136 ≤ (PK s z).length) : wrk (List.take 136 (List.drop (136 * m) (PK s z))) (8 * j) 8 = wd s z m j :=
  wrk_congr _ _ _ _ (fun k hk => by
    rw [List.getD_eq_getElem?_getD, List.getD_eq_getElem?_getD, List.getElem?_take, if_pos (by omega), List.getElem?_drop, List.getElem?_take, if_pos (by omega), List.getElem?_drop]
    congr 2; omega) 8 (Nat.le_refl _)
theorem xw_congr (a : List B64) (f g : Nat → B64) (i : Nat) (h : ∀ j, j < i → f j = g j) : xw a f i = xw a g i := by
  unfold xw
  refine List.map_congr_left fun j _ => ?_
  split
  · rename_i hj; rw [h j hj]
  · rfl
theorem block_go (s : ByteArray) (z m : Nat) (a : List B64) (ha : a.length = 25) (h : takeB (zeroS, 0) ((PK s z).take (136 * m)) = (a, 0)) (hm : 136 * m + 136 ≤ (PK s z).length) :
    takeB (zeroS, 0) ((PK s z).take (136 * (m + 1))) = (mix (xw a (wd s z m) 17), 0) := by
  rw [show 136 * (m + 1) = 136 * m + 136 by omega, List.take_add, takeB_append, h, block_in a ha _ (by rw [List.length_take, List.length_drop]; omega)]
  rw [xw_congr a _ (wd s z m) 17 (fun j hj => wd_is s z m j hj hm)]
theorem sum_done (s : ByteArray) (z m : Nat) (a : List B64) (hz : z = 135 - ByteArray.size s % 136) (h : takeB (zeroS, 0) ((PK s z).take (136 * m)) = (a, 0)) (hm : ¬ 136 * m < (PK s z).length) : firstB a = sumB (tl s) := by
  rw [List.take_of_length_le (by omega), PK_all s z hz] at h
  have e : mix (endB (takeB (zeroS, 0) (tl s))) = a := congrArg Prod.fst h
  unfold sumB
  rw [e]
def outK (a : List B64) (i : Nat) : List UInt8 := (List.range i).map fun i => UInt8.ofNat ((nth a (i / 8)).toNat / 2 ^ (i % 8 * 8))
theorem outK_succ (a : List B64) (i : Nat) : outK a (i + 1) = outK a i ++ [UInt8.ofNat ((nth a (i / 8)).toNat / 2 ^ (i % 8 * 8))] := by unfold outK; rw [List.range_succ, List.map_append]; rfl
theorem outK_len (a : List B64) (i : Nat) : (outK a i).length = i := by unfold outK; simp
theorem byteK (x : B64) (i : Nat) : UInt8.ofBitVec (BitVec.setWidth 8 ((x >>> (8 * (i % 8))) % (256 : BitVec 64))) = UInt8.ofNat (x.toNat / 2 ^ (i % 8 * 8)) := by
  apply UInt8.toNat_inj.1
  show BitVec.toNat (BitVec.setWidth 8 ((x >>> (8 * (i % 8))) % (256 : BitVec 64))) = (UInt8.ofNat (x.toNat / 2 ^ (i % 8 * 8))).toNat
  rw [BitVec.toNat_setWidth, BitVec.toNat_umod, BitVec.toNat_ushiftRight, UInt8.toNat_ofNat', Nat.shiftRight_eq_div_pow, Nat.mul_comm (i % 8) 8]
  generalize x.toNat / 2 ^ (8 * (i % 8)) = X
  show X % 256 % 2 ^ 8 = X % 2 ^ 8
  omega
end Go.Proofs.YtmmloghbnpfedaaDoor.Ke

namespace Go.Proofs.YtmmloghbnpfedaaDoor.Ke
open Go Go.RowKit Go.Proofs.Kec
set_option linter.unusedVariables false
set_option maxRecDepth 100000 in
set_option maxHeartbeats 2000000 in
theorem word_fn (s : ByteArray) (hs : ByteArray.size s = 8) : Fn Tryd.prog 69 #[.string s] (.int .u64 ((BitVec.toNat (wrk (tl s) 0 8) : Nat) : Int)) := by
  refine Fn.intro (c := codeOf Tryd.f69) [.tmp 2] 17 Tryd.func69 kr kr kr fun w => ?_
  have H0 := St.start w
  refine rS [.v] H0 kr fun gs1 w1 H1 => ?_
  clear H0
  refine rS [.v] H1 kr fun gs2 w2 H2 => ?_
  clear H1
  refine g_seq kr ?_
  refine rS [.v] H2 kr fun gs3 w3 H3 => ?_
  clear H2
  refine g_block 0 kr ?_
  have HL1 : St w.heap.size w w3 [] := H3.as kr
  clear H3
  refine g_loop kr (fun mz ρ ww => ∃ (j : Nat), j = mz ∧ (j ≤ 8) ∧ St w.heap.size w ww [] ∧ Is [(0, .string s), (2, .int .u64 0), (3, .int .u64 ((BitVec.toNat (wrk (tl s) 0 (8 - j)) : Nat) : Int)), (4, .int .i64 (((j : Nat) : Int) - 1))] ρ) 8 ⟨8, rfl, (by omega), HL1, (Is.of ⟨kr, kr, kr, kr, trivial⟩)⟩ ?_
  clear HL1
  rintro _ _ w4 ⟨j, rfl, hj, H4, _, rfl⟩
  refine g_seq kr ?_
  refine g_sreg [0, 1] kr kr ?_
  refine rp [.v] H4 kr fun gs5 w5 H5 => ?_
  show WPs _ _ _ _ [1] _ _
  clear H4
  by_cases hc2 : (((j : Nat) : Int) - 1 : Int) ≥ 0
  · skip
    refine rp [.e (v := .bool (decide (0 ≤ ((j : Nat) : Int) - 1))) (v' := .bool true) (bool_eq (decide_eq_true (by omega)))] H5 kr fun gs6 w6 H6 => ?_
    show WPs _ _ _ _ [] _ _
    clear H5
    refine s_nil ?_
    refine g_cond_t kr kr ?_
    refine g_skip kr ?_
    show WP _ _ _ _ _ _
    refine g_seq kr ?_
    refine g_block 1 kr ?_
    refine g_now 4 (v := .int .i64 (((j : Nat) : Int) - 1)) (v' := .int .i64 ((j - 1 : Nat) : Int)) (int_eq (show (((j : Nat) : Int) - 1) = ((j - 1 : Nat) : Int) from by omega)) kr ?_
    refine g_now 5 (v := .int .i64 (((j : Nat) : Int) - 1)) (v' := .int .i64 ((j - 1 : Nat) : Int)) (int_eq (show (((j : Nat) : Int) - 1) = ((j - 1 : Nat) : Int) from by omega)) kr ?_
    have hbl := by_lt s (j - 1)
    refine rL [.v, .e (v := .int .u64 (IntKind.u64.wrap ((256) * (((BitVec.toNat (wrk (tl s) 0 (8 - j)) : Nat) : Int))))) (v' := .int .u64 ((BitVec.toNat ((256 : BitVec 64) * (wrk (tl s) 0 (8 - j))) : Nat) : Int)) (bv_mul_u64 (256 : BitVec 64) (wrk (tl s) 0 (8 - j))), .v, .v, .o (ins := [((.tmp 11), .string s), ((.tmp 12), .int .i64 ((j - 1 : Nat) : Int))]) (v := .int .u8 ((by_ s (j - 1) : Nat) : Int)) (fun ρ o w ho hi => sindex_run (t := 9) (kd := .i64) kr (x := (.tmp 11)) (y := (.tmp 12)) s (j - 1) ho hi.1 hi.2.1 (by omega) w), .e (v := .int .u64 (IntKind.u64.wrap (((by_ s (j - 1) : Nat) : Int)))) (v' := .int .u64 ((BitVec.toNat (BitVec.ofNat 64 (by_ s (j - 1))) : Nat) : Int)) (bv_ofNat_u64 (by_ s (j - 1))), .e (v := .int .u64 (IntKind.u64.wrap ((((BitVec.toNat ((256 : BitVec 64) * (wrk (tl s) 0 (8 - j))) : Nat) : Int)) + (((BitVec.toNat (BitVec.ofNat 64 (by_ s (j - 1))) : Nat) : Int))))) (v' := .int .u64 ((BitVec.toNat (((256 : BitVec 64) * (wrk (tl s) 0 (8 - j))) + (BitVec.ofNat 64 (by_ s (j - 1)))) : Nat) : Int)) (bv_add_u64 ((256 : BitVec 64) * (wrk (tl s) 0 (8 - j))) (BitVec.ofNat 64 (by_ s (j - 1)))), .v] H6 kr fun gs7 w7 H7 => ?_
    clear H6
    show WP _ _ _ _ _ _
    refine rL [.v, .e (v := .int .i64 (IntKind.i64.wrap (((j - 1 : Nat) : Int) - 1))) (v' := .int .i64 (((j - 1 : Nat) : Int) - 1)) (int_eq (wrap_i64 (by omega) (by omega))), .v] H7 kr fun gs8 w8 H8 => ?_
    clear H7
    have HL3 : St w.heap.size w w8 [] := H8.as kr
    clear H8
    have hw : wrk (tl s) 0 (8 - (j - 1)) = ((256 : BitVec 64) * (wrk (tl s) 0 (8 - j))) + (BitVec.ofNat 64 (by_ s (j - 1))) := by rw [show 8 - (j - 1) = 8 - j + 1 by omega]; show 256 * wrk (tl s) 0 (8 - j) + bt (tl s) (0 + (7 - (8 - j))) = _; rw [show 0 + (7 - (8 - j)) = j - 1 by omega]; rfl
    show ∃ m, _ ∧ _
    exact ⟨_, (by omega), (j - 1), rfl, (by omega), HL3, (Is.of ⟨kr, kr, (Eq.trans (b := .int .u64 ((BitVec.toNat (((256 : BitVec 64) * (wrk (tl s) 0 (8 - j))) + (BitVec.ofNat 64 (by_ s (j - 1)))) : Nat) : Int)) kr (by rw [hw])), kr, trivial⟩)⟩
  · skip
    refine rp [.e (v := .bool (decide (0 ≤ ((j : Nat) : Int) - 1))) (v' := .bool false) (bool_eq (decide_eq_false (by omega)))] H5 kr fun gs9 w9 H9 => ?_
    show WPs _ _ _ _ [] _ _
    clear H5
    refine s_nil ?_
    refine g_cond_f kr kr ?_
    refine g_exit 0 kr ?_
    show WP _ _ _ _ _ _
    refine rS [.v, .v] H9 kr fun gs10 w10 H10 => ?_
    clear H9
    refine g_ret kr ?_
    show ∃ vs, Res _ _ _ _ vs ∧ _
    refine ⟨[.int .u64 ((BitVec.toNat (wrk (tl s) 0 (8 - j)) : Nat) : Int)], (.tmp (.int .u64 ((BitVec.toNat (wrk (tl s) 0 (8 - j)) : Nat) : Int)) kr .nil), ?_, H10.below⟩
    obtain rfl : j = 0 := by omega
    rfl
set_option maxRecDepth 100000 in
set_option maxHeartbeats 2000000 in
theorem sumR_fn (s : ByteArray) (hsz : ByteArray.size s ≤ 100000000000000) : Fn Tryd.prog 33 #[.string s] (.string (strB (sumB (tl s)))) := by
  refine Fn.intro (c := codeOf Tryd.f33) [.tmp 2] 86 Tryd.func33 kr kr kr fun w => ?_
  have H0 := St.start w
  refine rS [.v] H0 kr fun gs1 w1 H1 => ?_
  clear H0
  refine g_sreg [0, 1, 2] kr kr ?_
  refine rp [.v] H1 kr fun gs2 w2 H2 => ?_
  show WPs _ _ _ _ [1, 2] _ _
  clear H1
  refine s_strBytes H2 (some 10) 9 69 5 (.tmp 9) s kr kr kr kr kr kr (by unfold maxLen; omega) ?_
  intro b_1 cap_2 cur_3 fz_4 w3 H3 hf_5 hr_6; clear H2
  refine rp [.v] H3 kr fun gs4 w4 H4 => ?_
  show WPs _ _ _ _ [] _ _
  clear H3
  refine s_nil ?_
  refine g_sreg [0, 1, 2, 3] kr kr ?_
  refine rp [.v, .nw (fun b => .slice (some ⟨b, 0, none⟩) 1 1) #[.int .u8 1] 5] H4 kr fun gs5 w5 H5 => ?_
  show WPs _ _ _ _ [2, 3] _ _
  clear H4
  refine s_appendM H5 (some 13) 69 5 1 1 (.tmp 11) (.tmp 12) 0 1 b_1 ((gs5 1).b) (ByteArray.size s) 1 cap_2 1 cur_3 #[.int .u8 1] fz_4 5 (0, 0) (cellsB (tl s)) ([.int .u8 1]) (fun b_7 cur_9 fz_10 => [(b_7, Obj.cells cur_9 5 fz_10), ((gs5 1).b, Obj.cells #[.int .u8 1] 5 (0, 0))]) kr kr kr kr kr hf_5 hr_6 kr kr (by rfl) (by rfl) (by intro u hu; simp at hu; first | exact hu.elim | (rcases hu with rfl | rfl | rfl | rfl <;> rfl) | (rcases hu with rfl | rfl <;> rfl) | (subst hu; rfl)) (by omega) (by unfold maxLen; omega) (fun _ _ _ => by kernel_rfl) ?_
  intro b_7 cap_8 cur_9 fz_10 w6 H6 hf_11 hr_12; clear H5
  have hr_12t : Rw 1 cur_9 cap_8 ((ByteArray.size s) + 1) (cellsB (tl s ++ [UInt8.ofBitVec (1 : BitVec 8)])) := by rw [cellsB_append]; exact hr_12
  have hr_12n : (ByteArray.size s) + 1 = List.length (tl s ++ [UInt8.ofBitVec (1 : BitVec 8)]) := by have h0 : ByteArray.size s = List.length (tl s) := rfl; rw [List.length_append, ← h0]; rfl
  refine rp [.v] H6 kr fun gs7 w7 H7 => ?_
  show WPs _ _ _ _ [] _ _
  clear H6
  refine s_nil ?_
  refine g_seq kr ?_
  refine g_block 0 kr ?_
  have HL1 : St w.heap.size w w7 [(b_7, Obj.cells cur_9 5 fz_10), ((gs5 1).b, Obj.cells #[.int .u8 1] 5 (0, 0))] := H7.as kr
  clear H7
  have HD2 : St w.heap.size w w7 [(b_7, Obj.cells cur_9 5 fz_10)] := HL1.sub (List.Sublist.cons_cons _ (List.Sublist.cons _ List.Sublist.slnil))
  refine g_loop kr (fun mz ρ ww => ∃ (b : Nat) (cap : Nat) (n : Nat) (cur : Array Value) (fz : Nat × Nat) (z : Nat), 135 - z = mz ∧ (n = List.length (padK s z)) ∧ (Rw 1 cur cap n (cellsB (padK s z))) ∧ (Clr fz cur) ∧ (z ≤ 135 - ByteArray.size s % 136) ∧ St w.heap.size w ww [(b, Obj.cells cur 5 fz)] ∧ Is [(0, .string s), (2, .string (⟨#[]⟩)), (3, .slice (some ⟨b, 0, none⟩) n cap)] ρ) (135 - 0) ⟨b_7, cap_8, (ByteArray.size s) + 1, cur_9, fz_10, 0, rfl, hr_12n, hr_12t, hf_11, (by omega), HD2, (Is.of ⟨kr, kr, kr, trivial⟩)⟩ ?_
  clear HD2
  rintro _ _ w8 ⟨b, cap, n, cur, fz, z, rfl, hn, hr, hf, hz, H8, _, rfl⟩
  have hlz := padK_len s z; rw [← hn] at hlz
  refine g_seq kr ?_
  refine g_sreg [0, 1, 2, 3] kr kr ?_
  refine rp [.v, .v, .e (v := .int .i64 (Int.tmod ((n : Nat) : Int) 136)) (v' := .int .i64 ((n % 136 : Nat) : Int)) (int_eq (remN n 136))] H8 kr fun gs9 w9 H9 => ?_
  show WPs _ _ _ _ [3] _ _
  clear H8
  by_cases hc3 : (n % 136 : Nat) > 0
  · skip
    refine rp [.e (v := .bool (decide (0 < ((n % 136 : Nat) : Int)))) (v' := .bool true) (bool_eq (decide_eq_true (by omega)))] H9 kr fun gs10 w10 H10 => ?_
    show WPs _ _ _ _ [] _ _
    clear H9
    refine s_nil ?_
    refine g_cond_t kr kr ?_
    refine g_skip kr ?_
    show WP _ _ _ _ _ _
    refine g_block 1 kr ?_
    refine g_reg0 [0, 1, 2, 3] kr ?_
    refine rp [.v, .nw (fun b => .slice (some ⟨b, 0, none⟩) 1 1) #[.int .u8 0] 5] H10 kr fun gs11 w11 H11 => ?_
    show WPs _ _ _ _ [2, 3] _ _
    clear H10
    refine s_appendM H11 (some 20) 69 5 1 1 (.tmp 18) (.tmp 19) 0 1 b ((gs11 1).b) n 1 cap 1 cur #[.int .u8 0] fz 5 (0, 0) (cellsB (padK s z)) ([.int .u8 0]) (fun b_13 cur_15 fz_16 => [(b_13, Obj.cells cur_15 5 fz_16), ((gs11 1).b, Obj.cells #[.int .u8 0] 5 (0, 0))]) kr kr kr kr kr hf hr kr kr (by rfl) (by rfl) (by intro u hu; simp at hu; first | exact hu.elim | (rcases hu with rfl | rfl | rfl | rfl <;> rfl) | (rcases hu with rfl | rfl <;> rfl) | (subst hu; rfl)) (by omega) (by unfold maxLen; omega) (fun _ _ _ => by kernel_rfl) ?_
    intro b_13 cap_14 cur_15 fz_16 w12 H12 hf_17 hr_18; clear H11
    have hr_18t : Rw 1 cur_15 cap_14 (n + 1) (cellsB (padK s z ++ [UInt8.ofBitVec (0 : BitVec 8)])) := by rw [cellsB_append]; exact hr_18
    have hr_18n : n + 1 = List.length (padK s z ++ [UInt8.ofBitVec (0 : BitVec 8)]) := by have h0 : n = List.length (padK s z) := hn; rw [List.length_append, ← h0]; rfl
    refine rp [.v] H12 kr fun gs13 w13 H13 => ?_
    show WPs _ _ _ _ [] _ _
    clear H12
    refine s_nil ?_
    have HL4 : St w.heap.size w w13 [(b_13, Obj.cells cur_15 5 fz_16), ((gs11 1).b, Obj.cells #[.int .u8 0] 5 (0, 0))] := H13.as kr
    clear H13
    have hrw := hr_18t; rw [padK_succ] at hrw
    have HD5 : St w.heap.size w w13 [(b_13, Obj.cells cur_15 5 fz_16)] := HL4.sub (List.Sublist.cons_cons _ (List.Sublist.cons _ List.Sublist.slnil))
    show ∃ m, _ ∧ _
    exact ⟨_, (by omega), b_13, cap_14, n + 1, cur_15, fz_16, (z + 1), rfl, (by rw [padK_len]; omega), hrw, hf_17, (by omega), HD5, (Is.of ⟨kr, kr, kr, trivial⟩)⟩
  · skip
    refine rp [.e (v := .bool (decide (0 < ((n % 136 : Nat) : Int)))) (v' := .bool false) (bool_eq (decide_eq_false (by omega)))] H9 kr fun gs14 w14 H14 => ?_
    show WPs _ _ _ _ [] _ _
    clear H9
    refine s_nil ?_
    refine g_cond_f kr kr ?_
    refine g_exit 0 kr ?_
    show WP _ _ _ _ _ _
    have hnp : 1 ≤ n := by omega
    refine g_sreg [0, 1, 2, 3, 4, 5, 6, 7, 8, 9, 10, 11, 12] kr kr ?_
    refine rp [.v, .v, .v, .e (v := .int .i64 (IntKind.i64.wrap (((n : Nat) : Int) - 1))) (v' := .int .i64 ((n - 1 : Nat) : Int)) (int_eq (wrapSub_i64 (a := n) (b := 1) (by omega))), .v, .v, .v, .e (v := .int .i64 (IntKind.i64.wrap (((n : Nat) : Int) - 1))) (v' := .int .i64 ((n - 1 : Nat) : Int)) (int_eq (wrapSub_i64 (a := n) (b := 1) (by omega))), .o (ins := [((.tmp 25), .slice (some ⟨b, 0, none⟩) n cap), ((.tmp 28), .int .i64 ((n - 1 : Nat) : Int))]) (v := .pointer (some ⟨b, 0 + (n - 1) * 1, none⟩)) (fun ρ o w ho hi => idxS_run (kd := .i64) (t := 69) (e := 5) (size := 1) (bytes := 1) kr (x := (.tmp 25)) (y := (.tmp 28)) b 0 n cap (n - 1) ho hi.1 hi.2.1 (by omega) w), .ls (C := cur) (off := 0 + (n - 1) * 1) (v := .int .u8 ((BitVec.toNat (UInt8.toBitVec (List.getD (padK s z) (n - 1) 0)) : Nat) : Int)) 0 (hr.atB (by omega) hn), .e (v := .int .u8 (IntKind.u8.wrap ((((BitVec.toNat (UInt8.toBitVec (List.getD (padK s z) (n - 1) 0)) : Nat) : Int)) + (128)))) (v' := .int .u8 ((BitVec.toNat ((UInt8.toBitVec (List.getD (padK s z) (n - 1) 0)) + (128 : BitVec 8)) : Nat) : Int)) (bv_add_u8 (UInt8.toBitVec (List.getD (padK s z) (n - 1) 0)) (128 : BitVec 8)), .o (ins := [((.tmp 21), .slice (some ⟨b, 0, none⟩) n cap), ((.tmp 24), .int .i64 ((n - 1 : Nat) : Int))]) (v := .pointer (some ⟨b, 0 + (n - 1) * 1, none⟩)) (fun ρ o w ho hi => idxS_run (kd := .i64) (t := 69) (e := 5) (size := 1) (bytes := 1) kr (x := (.tmp 21)) (y := (.tmp 24)) b 0 n cap (n - 1) ho hi.1 hi.2.1 (by omega) w)] H14 kr fun gs15 w15 H15 => ?_
    show WPs _ _ _ _ [12] _ _
    clear H14
    obtain ⟨cur_20, hc_21, hs_22, hr_23⟩ := hr.putB (n - 1) (UInt8.ofBitVec ((UInt8.toBitVec (List.getD (padK s z) (n - 1) 0)) + (128 : BitVec 8))) (by omega)
    refine s_storeM H15 0 [(b, Obj.cells cur_20 5 fz)] 5 (.tmp 32) (.tmp 31) b (0 + (n - 1) * 1) cur cur_20 5 fz (.int .u8 ((BitVec.toNat ((UInt8.toBitVec (List.getD (padK s z) (n - 1) 0)) + (128 : BitVec 8)) : Nat) : Int)) kr kr kr kr hf kr kr hs_22 hc_21 kr ?_
    intro w16 H16 hf_19; clear H15
    refine s_nil ?_
    refine g_keep [0, 2, 3, 17] fun ρ1 => ?_
    refine rS [.v, .a, .s 1] H16 kr fun gs17 w17 H17 => ?_
    clear H16
    refine g_seq kr ?_
    refine rS [.v] H17 kr fun gs18 w18 H18 => ?_
    clear H17
    refine g_block 2 kr ?_
    have HL6 : St w.heap.size w w18 [(b, Obj.cells cur_20 5 fz), ((gs17 1).b, Obj.cells #[.int .u64 0, .int .u64 0, .int .u64 0, .int .u64 0, .int .u64 0, .int .u64 0, .int .u64 0, .int .u64 0, .int .u64 0, .int .u64 0, .int .u64 0, .int .u64 0, .int .u64 0, .int .u64 0, .int .u64 0, .int .u64 0, .int .u64 0, .int .u64 0, .int .u64 0, .int .u64 0, .int .u64 0, .int .u64 0, .int .u64 0, .int .u64 0, .int .u64 0] 84 (0, 0))] := H18.as kr
    clear H18
    have hz2 : z = 135 - ByteArray.size s % 136 := by omega
    have hLr : Rw 1 cur_20 cap n (cellsB (PK s z)) := by have h0 := hr_23; rw [show n - 1 = (padK s z).length - 1 by rw [← hn]] at h0; exact h0
    have hLn : n = List.length (PK s z) := by rw [PK_len]; omega
    have hn136 : n % 136 = 0 := by omega
    have HS7 : St w.heap.size w w18 [(b, Obj.cells cur_20 5 fz), ((gs17 1).b, Obj.cells (Value.cells (svn zeroS)) 84 (0, 0))] := by rw [show (Value.cells (svn zeroS)) = #[.int .u64 0, .int .u64 0, .int .u64 0, .int .u64 0, .int .u64 0, .int .u64 0, .int .u64 0, .int .u64 0, .int .u64 0, .int .u64 0, .int .u64 0, .int .u64 0, .int .u64 0, .int .u64 0, .int .u64 0, .int .u64 0, .int .u64 0, .int .u64 0, .int .u64 0, .int .u64 0, .int .u64 0, .int .u64 0, .int .u64 0, .int .u64 0, .int .u64 0] from by kernel_rfl]; exact HL6
    have HF8 : St w.heap.size w w18 [(b, Obj.cells cur_20 5 fz), ((gs17 1).b, Obj.cells (Value.cells (svn zeroS)) 84 (0, 0))] := HS7.front 0 kr kr
    have HF9 : St w.heap.size w w18 [((gs17 1).b, Obj.cells (Value.cells (svn zeroS)) 84 (0, 0)), (b, Obj.cells cur_20 5 fz)] := HF8.front 1 kr kr
    refine g_loop kr (fun mz ρ ww => ∃ (a : List (BitVec 64)) (m : Nat), n - 136 * m = mz ∧ (136 * m ≤ n) ∧ (a.length = 25) ∧ (takeB (zeroS, 0) ((PK s z).take (136 * m)) = (a, 0)) ∧ St w.heap.size w ww [((gs17 1).b, Obj.cells (Value.cells (svn a)) 84 (0, 0)), (b, Obj.cells cur_20 5 fz)] ∧ Is [(0, .string s), (2, .string (⟨#[]⟩)), (3, .slice (some ⟨b, 0, none⟩) n cap), (4, .pointer (some ⟨(gs17 1).b, 0, none⟩)), (5, .int .i64 ((136 * m : Nat) : Int)), (17, .bool false)] ρ) (n - 0) ⟨zeroS, 0, rfl, (by omega), (by decide), rfl, HF9, (Is.of ⟨kr, kr, kr, kr, kr, kr, trivial⟩)⟩ ?_
    clear HF9
    rintro _ _ w19 ⟨a, m, rfl, hm, ha, ht, H19, _, rfl⟩
    refine g_seq kr ?_
    refine g_sreg [0, 1, 2, 3] kr kr ?_
    refine rp [.v, .v, .v] H19 kr fun gs20 w20 H20 => ?_
    show WPs _ _ _ _ [3] _ _
    clear H19
    by_cases hc10 : (136 * m : Nat) < n
    · skip
      refine rp [.e (v := .bool (decide (((136 * m : Nat) : Int) < ((n : Nat) : Int)))) (v' := .bool true) (bool_eq (decide_eq_true (by omega)))] H20 kr fun gs21 w21 H21 => ?_
      show WPs _ _ _ _ [] _ _
      clear H20
      refine s_nil ?_
      refine g_cond_t kr kr ?_
      refine g_skip kr ?_
      show WP _ _ _ _ _ _
      refine g_seq kr ?_
      refine g_block 3 kr ?_
      refine g_seq kr ?_
      refine rS [.v] H21 kr fun gs22 w22 H22 => ?_
      clear H21
      refine g_block 4 kr ?_
      have HL11 : St w.heap.size w w22 [((gs17 1).b, Obj.cells (Value.cells (svn a)) 84 (0, 0)), (b, Obj.cells cur_20 5 fz)] := H22.as kr
      clear H22
      have HX : St w.heap.size w w22 [((gs17 1).b, Obj.cells (Value.cells (svn (xw a (wd s z m) 0))) 84 (0, 0)), (b, Obj.cells cur_20 5 fz)] := by rw [← xw_zero (wd s z m) ha]; exact HL11
      refine g_loop kr (fun mz ρ ww => ∃ (i : Nat), 17 - i = mz ∧ (i ≤ 17) ∧ St w.heap.size w ww [((gs17 1).b, Obj.cells (Value.cells (svn (xw a (wd s z m) i))) 84 (0, 0)), (b, Obj.cells cur_20 5 fz)] ∧ Is [(0, .string s), (2, .string (⟨#[]⟩)), (3, .slice (some ⟨b, 0, none⟩) n cap), (4, .pointer (some ⟨(gs17 1).b, 0, none⟩)), (5, .int .i64 ((136 * m : Nat) : Int)), (6, .int .i64 ((i : Nat) : Int)), (17, .bool false), (37, .bool true)] ρ) (17 - 0) ⟨0, rfl, (by omega), HX, (Is.of ⟨kr, kr, kr, kr, kr, kr, kr, kr, trivial⟩)⟩ ?_
      clear HX
      rintro _ _ w23 ⟨i, rfl, hi, H23, _, rfl⟩
      refine g_seq kr ?_
      refine g_sreg [0, 1] kr kr ?_
      refine rp [.v] H23 kr fun gs24 w24 H24 => ?_
      show WPs _ _ _ _ [1] _ _
      clear H23
      by_cases hc12 : (i : Nat) < 17
      · skip
        refine rp [.e (v := .bool (decide (((i : Nat) : Int) < 17))) (v' := .bool true) (bool_eq (decide_eq_true (by omega)))] H24 kr fun gs25 w25 H25 => ?_
        show WPs _ _ _ _ [] _ _
        clear H24
        refine s_nil ?_
        refine g_cond_t kr kr ?_
        refine g_skip kr ?_
        show WP _ _ _ _ _ _
        refine g_seq kr ?_
        refine g_block 5 kr ?_
        have HL13 : St w.heap.size w w25 [((gs17 1).b, Obj.cells (Value.cells (svn (xw a (wd s z m) i))) 84 (0, 0)), (b, Obj.cells cur_20 5 fz)] := H25.as kr
        clear H25
        refine D2.g_draw0 [0, 1, 2, 3, 4, 5, 6, 7, 8, 9, 10, 11, 12, 13, 14, 15, 16, 17, 18, 19] [((some 44), fun _ => .int .i64 ((i : Nat) : Int)), ((some 45), fun _ => .int .i64 ((i : Nat) : Int)), ((some 46), fun _ => .pointer (some ⟨(gs17 1).b, 0 + i * 1, none⟩)), ((some 47), fun _ => .int .u64 ((BitVec.toNat (nth a i) : Nat) : Int)), ((some 48), fun _ => .slice (some ⟨b, 0, none⟩) n cap), ((some 49), fun _ => .int .i64 ((136 * m : Nat) : Int)), ((some 50), fun _ => .int .i64 ((i : Nat) : Int)), ((some 51), fun _ => .int .i64 ((8 * i : Nat) : Int)), ((some 52), fun _ => .int .i64 (((136 * m) + (8 * i) : Nat) : Int)), ((some 53), fun _ => .int .i64 ((136 * m : Nat) : Int)), ((some 54), fun _ => .int .i64 ((i : Nat) : Int)), ((some 55), fun _ => .int .i64 ((8 * i : Nat) : Int)), ((some 56), fun _ => .int .i64 (((136 * m) + (8 * i) : Nat) : Int)), ((some 57), fun _ => .int .i64 ((((136 * m) + (8 * i)) + 8 : Nat) : Int)), ((some 58), fun _ => .slice (some ⟨b, 136 * m + 8 * i, none⟩) 8 (cap - ((136 * m) + (8 * i)))), ((some 59), fun _ => .string (strB (List.take 8 (List.drop (136 * m + 8 * i) (PK s z))))), ((some 60), fun _ => .int .u64 ((BitVec.toNat (wrk (List.take 8 (List.drop (136 * m + 8 * i) (PK s z))) 0 8) : Nat) : Int)), ((some 61), fun _ => .int .u64 ((BitVec.toNat ((nth a i) ^^^ (wrk (List.take 8 (List.drop (136 * m + 8 * i) (PK s z))) 0 8)) : Nat) : Int)), ((some 62), fun _ => .pointer (some ⟨(gs17 1).b, 0 + i * 1, none⟩)), (none, fun _ => undef)] (D2.Pre w.heap.size w (fun L g => [(true, (bif L 19 then ((gs17 1).b, Obj.cells (Value.cells (svn (xw a (wd s z m) (i + 1)))) 84 (0, 0)) else ((gs17 1).b, Obj.cells (Value.cells (svn (xw a (wd s z m) i))) 84 (0, 0)))), (true, (b, Obj.cells cur_20 5 fz))]) (fun L g => True)) kr kr kr ⟨D2.StE.of HL13.drew _ kr, trivial⟩ ⟨?_, ?_, ?_, ?_, ?_, ?_, ?_, ?_, ?_, ?_, ?_, ?_, ?_, ?_, ?_, ?_, ?_, ?_, ?_, ?_, trivial⟩ ?_
        · exact D2.gv_val (fun _ _ _ h => h) (fun g w => by kernel_rfl)
        · exact D2.gv_val (fun _ _ _ h => h) (fun g w => by kernel_rfl)
        · exact D2.gv_op (fun _ _ _ h => h) _ (fun g => by kernel_rfl) (fun g => (fun o w ho => idxA_run (kd := .i64) (t := 84) (n := 25) (size := 1) kr (x := (.tmp 4)) (y := (.tmp 45)) (gs17 1).b 0 i ho kr kr (by omega) w))
        · exact D2.gv_load1 22 (.tmp 46) 0 (fun g => (gs17 1).b) (fun g => 0 + i * 1) (fun g => (Value.cells (svn (xw a (wd s z m) i)))) 84 (0, 0) (fun _ _ _ h => h) (fun g => by kernel_rfl) (fun g => by kernel_rfl) (fun L g hN => (by have hL19 : L 19 = false := (hN.post 19 kr); exact D2.ent_get' (p := true) (e := (bif L 19 then ((gs17 1).b, Obj.cells (Value.cells (svn (xw a (wd s z m) (i + 1)))) 84 (0, 0)) else ((gs17 1).b, Obj.cells (Value.cells (svn (xw a (wd s z m) i))) 84 (0, 0)))) kr (by rfl) (by simp only [hL19, cond_true, cond_false] <;> rfl))) kr (fun L g hN hF => by exact ((show nth (xw a (wd s z m) i) i = nth a i from xw_at _ _ _ (by omega)) ▸ svn_at (xw a (wd s z m) i) i _ (by omega) (by omega)))
        · exact D2.gv_val (fun _ _ _ h => h) (fun g w => by kernel_rfl)
        · exact D2.gv_val (fun _ _ _ h => h) (fun g w => by kernel_rfl)
        · exact D2.gv_val (fun _ _ _ h => h) (fun g w => by kernel_rfl)
        · exact D2.gv_valE (fun _ _ _ h => h) (V' := .int .i64 (IntKind.i64.wrap (8 * ((i : Nat) : Int)))) (fun g w => by kernel_rfl) (int_eq (wrapMul_i64 (a := 8) (b := i) (by omega)))
        · exact D2.gv_valE (fun _ _ _ h => h) (V' := .int .i64 (IntKind.i64.wrap (((136 * m : Nat) : Int) + ((8 * i : Nat) : Int)))) (fun g w => by kernel_rfl) (int_eq (wrapAdd_i64 (a := 136 * m) (b := 8 * i) (by omega)))
        · exact D2.gv_val (fun _ _ _ h => h) (fun g w => by kernel_rfl)
        · exact D2.gv_val (fun _ _ _ h => h) (fun g w => by kernel_rfl)
        · exact D2.gv_valE (fun _ _ _ h => h) (V' := .int .i64 (IntKind.i64.wrap (8 * ((i : Nat) : Int)))) (fun g w => by kernel_rfl) (int_eq (wrapMul_i64 (a := 8) (b := i) (by omega)))
        · exact D2.gv_valE (fun _ _ _ h => h) (V' := .int .i64 (IntKind.i64.wrap (((136 * m : Nat) : Int) + ((8 * i : Nat) : Int)))) (fun g w => by kernel_rfl) (int_eq (wrapAdd_i64 (a := 136 * m) (b := 8 * i) (by omega)))
        · exact D2.gv_valE (fun _ _ _ h => h) (V' := .int .i64 (IntKind.i64.wrap ((((136 * m) + (8 * i) : Nat) : Int) + 8))) (fun g w => by kernel_rfl) (int_eq (wrapAdd_i64 (a := (136 * m) + (8 * i)) (b := 8) (by omega)))
        · exact D2.gv_op (fun _ _ _ h => h) _ (fun g => by kernel_rfl) (fun g => (fun o w ho => cut2_run (kd := .i64) (kz := .i64) (t := 69) (e := 5) (size := 1) (bytes := 1) kr (x := (.tmp 48)) (y := (.tmp 57)) (z := (.tmp 52)) b n cap ((136 * m) + (8 * i)) (((136 * m) + (8 * i)) + 8) ho kr kr kr (by have := hLr.le; omega) (by omega) (by have := hLr.le; omega) (136 * m + 8 * i) (8) (by omega) (by omega) w))
        · exact D2.gv_bytesCut 1 69 9 5 (.tmp 58) (fun g => b) (136 * m + 8 * i) 8 (cap - ((136 * m) + (8 * i))) cap n cur_20 5 fz (PK s z) (fun _ _ _ h => h) (fun g => by kernel_rfl) kr kr kr (fun g => by kernel_rfl) (fun L g hN => kr) hLr (by omega)
        · exact D2.gv_call 69 #[.string (strB (List.take 8 (List.drop (136 * m + 8 * i) (PK s z))))] (fun _ _ _ h => h) (word_fn (strB (List.take 8 (List.drop (136 * m + 8 * i) (PK s z)))) (show ByteArray.size (strB (List.take 8 (List.drop (136 * m + 8 * i) (PK s z)))) = 8 by rw [strB_size, List.length_take, List.length_drop]; omega)) (fun g w => by kernel_rfl)
        · exact D2.gv_valE (fun _ _ _ h => h) (V' := .int .u64 (Go.bits .xor .u64 (((BitVec.toNat (nth a i) : Nat) : Int)) (((BitVec.toNat (wrk (List.take 8 (List.drop (136 * m + 8 * i) (PK s z))) 0 8) : Nat) : Int)))) (fun g w => by kernel_rfl) (bv_xor_u64 (nth a i) (wrk (List.take 8 (List.drop (136 * m + 8 * i) (PK s z))) 0 8))
        · exact D2.gv_op (fun _ _ _ h => h) _ (fun g => by kernel_rfl) (fun g => (fun o w ho => idxA_run (kd := .i64) (t := 84) (n := 25) (size := 1) kr (x := (.tmp 4)) (y := (.tmp 44)) (gs17 1).b 0 i ho kr kr (by omega) w))
        · exact D2.gv_store 0 22 (.tmp 62) (.tmp 61) (fun g => (gs17 1).b) (fun g => 0 + i * 1) (Value.cells (svn (xw a (wd s z m) i))) (Value.cells (svn (xw a (wd s z m) (i + 1)))) 84 (.int .u64 ((BitVec.toNat ((nth a i) ^^^ (wrk (List.take 8 (List.drop (136 * m + 8 * i) (PK s z))) 0 8)) : Nat) : Int)) (fun g => by kernel_rfl) (fun g => by kernel_rfl) (fun g => by kernel_rfl) kr kr (fun g => (by show _ + 1 ≤ 25; omega)) (fun g => ((xw_set a (wd s z m) i (by omega)) ▸ svn_put (xw a (wd s z m) i) i _ ((nth a i) ^^^ (wrk (List.take 8 (List.drop (136 * m + 8 * i) (PK s z))) 0 8)) (xw_len _ _ _) (by omega) (by omega))) (fun L g hN => ⟨(by have hL19 : L 19 = false := hN.1; exact D2.ent_get' (p := true) (e := (bif L 19 then ((gs17 1).b, Obj.cells (Value.cells (svn (xw a (wd s z m) (i + 1)))) 84 (0, 0)) else ((gs17 1).b, Obj.cells (Value.cells (svn (xw a (wd s z m) i))) 84 (0, 0)))) kr (by rfl) (by simp only [hL19, cond_true, cond_false] <;> rfl)), kr⟩) (fun L g hN hF => hF)
        intro L0 G26 w26 hall HL; clear HL13
        have H26 : St w.heap.size w w26 [((gs17 1).b, Obj.cells (Value.cells (svn (xw a (wd s z m) (i + 1)))) 84 (0, 0)), (b, Obj.cells cur_20 5 fz)] := by have e19 := hall 19 (Nat.le_of_ble_eq_true kr); have hS := D2.StE.st HL.1; simp only [e19, cond_true, D2.pres] at hS; exact hS
        clear HL hall
        show WP _ _ _ _ _ _
        refine g_keep [0, 2, 3, 4, 5, 6, 17, 37, 41] fun ρ2 => ?_
        refine rL [.v, .e (v := .int .i64 (IntKind.i64.wrap (((i : Nat) : Int) + 1))) (v' := .int .i64 ((i + 1 : Nat) : Int)) (int_eq (wrapAdd_i64 (a := i) (b := 1) (by omega))), .v] H26 kr fun gs27 w27 H27 => ?_
        clear H26
        have HL14 : St w.heap.size w w27 [((gs17 1).b, Obj.cells (Value.cells (svn (xw a (wd s z m) (i + 1)))) 84 (0, 0)), (b, Obj.cells cur_20 5 fz)] := H27.as kr
        clear H27
        show ∃ m, _ ∧ _
        exact ⟨_, (by omega), (i + 1), rfl, (by omega), HL14, (Is.of ⟨kr, kr, kr, kr, kr, kr, kr, kr, trivial⟩)⟩
      · skip
        refine rp [.e (v := .bool (decide (((i : Nat) : Int) < 17))) (v' := .bool false) (bool_eq (decide_eq_false (by omega)))] H24 kr fun gs28 w28 H28 => ?_
        show WPs _ _ _ _ [] _ _
        clear H24
        refine s_nil ?_
        refine g_cond_f kr kr ?_
        refine g_exit 4 kr ?_
        show WP _ _ _ _ _ _
        refine rL [.l 0, .c (mixR_fn (xw a (wd s z m) i)), .s 0] H28 kr fun gs29 w29 H29 => ?_
        clear H28
        show WP _ _ _ _ _ _
        refine rL [.v, .e (v := .int .i64 (IntKind.i64.wrap (((136 * m : Nat) : Int) + 136))) (v' := .int .i64 (((136 * m) + 136 : Nat) : Int)) (int_eq (wrapAdd_i64 (a := 136 * m) (b := 136) (by omega))), .v] H29 kr fun gs30 w30 H30 => ?_
        clear H29
        have HL15 : St w.heap.size w w30 [((gs17 1).b, Obj.cells (Value.cells (svn (mix (xw a (wd s z m) i)))) 84 (0, 0)), (b, Obj.cells cur_20 5 fz)] := H30.as kr
        clear H30
        have hw5 : (.int .i64 (((136 * m) + 136 : Nat) : Int) : Value) = .int .i64 ((136 * (m + 1) : Nat) : Int) := (int_eq (by omega))
        obtain rfl : i = 17 := by omega
        show ∃ m, _ ∧ _
        exact ⟨_, (by omega), (mix (xw a (wd s z m) 17)), (m + 1), rfl, (by omega), (mix_len (xw_len _ _ _)), (block_go s z m a ha ht (by omega)), HL15, (Is.of ⟨kr, kr, kr, kr, (Eq.trans (b := .int .i64 (((136 * m) + 136 : Nat) : Int)) kr hw5), kr, trivial⟩)⟩
    · skip
      refine rp [.e (v := .bool (decide (((136 * m : Nat) : Int) < ((n : Nat) : Int)))) (v' := .bool false) (bool_eq (decide_eq_false (by omega)))] H20 kr fun gs31 w31 H31 => ?_
      show WPs _ _ _ _ [] _ _
      clear H20
      refine s_nil ?_
      refine g_cond_f kr kr ?_
      refine g_exit 2 kr ?_
      show WP _ _ _ _ _ _
      refine rS [.nw (fun b => .slice (some ⟨b, 0, none⟩) 0 0) #[] 5, .v] H31 kr fun gs32 w32 H32 => ?_
      clear H31
      refine g_seq kr ?_
      refine rS [.v] H32 kr fun gs33 w33 H33 => ?_
      clear H32
      refine g_block 6 kr ?_
      have HL16 : St w.heap.size w w33 [((gs17 1).b, Obj.cells (Value.cells (svn a)) 84 (0, 0)), (b, Obj.cells cur_20 5 fz), ((gs32 0).b, Obj.cells #[] 5 (0, 0))] := H33.as kr
      clear H33
      have HD17 : St w.heap.size w w33 [((gs17 1).b, Obj.cells (Value.cells (svn a)) 84 (0, 0)), ((gs32 0).b, Obj.cells #[] 5 (0, 0))] := HL16.sub (List.Sublist.cons_cons _ (List.Sublist.cons _ (List.Sublist.cons_cons _ List.Sublist.slnil)))
      have HF18 : St w.heap.size w w33 [((gs17 1).b, Obj.cells (Value.cells (svn a)) 84 (0, 0)), ((gs32 0).b, Obj.cells #[] 5 (0, 0))] := HD17.front 0 kr kr
      have HF19 : St w.heap.size w w33 [((gs32 0).b, Obj.cells #[] 5 (0, 0)), ((gs17 1).b, Obj.cells (Value.cells (svn a)) 84 (0, 0))] := HF18.front 1 kr kr
      refine g_loop kr (fun mz ρ ww => ∃ (bo : Nat) (capo : Nat) (no : Nat) (curo : Array Value) (i : Nat), 32 - i = mz ∧ (no = i) ∧ (Rw 1 curo capo no (cellsB (outK a i))) ∧ (i ≤ 32) ∧ St w.heap.size w ww [(bo, Obj.cells curo 5 (0, 0)), ((gs17 1).b, Obj.cells (Value.cells (svn a)) 84 (0, 0))] ∧ Is [(0, .string s), (2, .string (⟨#[]⟩)), (3, .slice (some ⟨b, 0, none⟩) n cap), (4, .pointer (some ⟨(gs17 1).b, 0, none⟩)), (5, .int .i64 ((136 * m : Nat) : Int)), (7, .slice (some ⟨bo, 0, none⟩) no capo), (8, .int .i64 ((i : Nat) : Int)), (17, .bool false), (37, .bool false)] ρ) (32 - 0) ⟨(gs32 0).b, 0, 0, #[], 0, rfl, rfl, (Rw.lit #[] 0 rfl (by unfold maxLen; omega)), (by omega), HF19, (Is.of ⟨kr, kr, kr, kr, kr, kr, kr, kr, kr, trivial⟩)⟩ ?_
      clear HF19
      rintro _ _ w34 ⟨bo, capo, no, curo, i, rfl, hno, hro, hi, H34, _, rfl⟩
      refine g_seq kr ?_
      refine g_sreg [0, 1] kr kr ?_
      refine rp [.v] H34 kr fun gs35 w35 H35 => ?_
      show WPs _ _ _ _ [1] _ _
      clear H34
      by_cases hc20 : (i : Nat) < 32
      · skip
        refine rp [.e (v := .bool (decide (((i : Nat) : Int) < 32))) (v' := .bool true) (bool_eq (decide_eq_true (by omega)))] H35 kr fun gs36 w36 H36 => ?_
        show WPs _ _ _ _ [] _ _
        clear H35
        refine s_nil ?_
        refine g_cond_t kr kr ?_
        refine g_skip kr ?_
        show WP _ _ _ _ _ _
        refine g_seq kr ?_
        refine g_block 7 kr ?_
        refine g_reg0 [0, 1, 2, 3, 4, 5, 6, 7, 8, 9, 10, 11, 12, 13, 14] kr ?_
        refine rp [.v, .v, .e (v := .int .i64 (IntKind.i64.wrap (((i : Nat) : Int).tdiv 8))) (v' := .int .i64 ((i / 8 : Nat) : Int)) (int_eq (quoN_i64 (a := i) (b := 8) (by omega))), .o (ins := [((.tmp 4), .pointer (some ⟨(gs17 1).b, 0, none⟩)), ((.tmp 72), .int .i64 ((i / 8 : Nat) : Int))]) (v := .pointer (some ⟨(gs17 1).b, 0 + (i / 8) * 1, none⟩)) (fun ρ o w ho hi => idxA_run (kd := .i64) (t := 84) (n := 25) (size := 1) kr (x := (.tmp 4)) (y := (.tmp 72)) (gs17 1).b 0 (i / 8) ho hi.1 hi.2.1 (by omega) w), .ls (C := (Value.cells (svn a))) (off := 0 + (i / 8) * 1) (v := .int .u64 ((BitVec.toNat (nth a (i / 8)) : Nat) : Int)) 1 (svn_at a (i / 8) _ (by omega) (by omega)), .v, .e (v := .int .i64 (Int.tmod ((i : Nat) : Int) 8)) (v' := .int .i64 ((i % 8 : Nat) : Int)) (int_eq (remN i 8)), .e (v := .int .i64 (IntKind.i64.wrap (8 * ((i % 8 : Nat) : Int)))) (v' := .int .i64 ((8 * (i % 8) : Nat) : Int)) (int_eq (wrapMul_i64 (a := 8) (b := i % 8) (by omega))), .e (v := .int .u64 (IntKind.u64.wrap (((8 * (i % 8) : Nat) : Int)))) (v' := .int .u64 ((8 * (i % 8) : Nat) : Int)) (int_eq (wrapN_u64 (a := 8 * (i % 8)) (by omega))), .e (v := .int .u64 (Int.fdiv (((BitVec.toNat (nth a (i / 8)) : Nat) : Int)) (2 ^ (min (8 * (i % 8)) 64)))) (v' := .int .u64 ((BitVec.toNat ((nth a (i / 8)) >>> (8 * (i % 8))) : Nat) : Int)) (bv_shr_u64 (nth a (i / 8)) (8 * (i % 8))), .e (v := .int .u64 (Int.tmod (((BitVec.toNat ((nth a (i / 8)) >>> (8 * (i % 8))) : Nat) : Int)) (256))) (v' := .int .u64 ((BitVec.toNat (((nth a (i / 8)) >>> (8 * (i % 8))) % (256 : BitVec 64)) : Nat) : Int)) (bv_rem_u64 ((nth a (i / 8)) >>> (8 * (i % 8))) (256 : BitVec 64)), .e (v := .int .u8 (IntKind.u8.wrap (((BitVec.toNat (((nth a (i / 8)) >>> (8 * (i % 8))) % (256 : BitVec 64)) : Nat) : Int)))) (v' := .int .u8 ((BitVec.toNat (BitVec.setWidth 8 (((nth a (i / 8)) >>> (8 * (i % 8))) % (256 : BitVec 64))) : Nat) : Int)) (bv_conv_u8 (((nth a (i / 8)) >>> (8 * (i % 8))) % (256 : BitVec 64))), .nw (fun b => .slice (some ⟨b, 0, none⟩) 1 1) #[.int .u8 ((BitVec.toNat (BitVec.setWidth 8 (((nth a (i / 8)) >>> (8 * (i % 8))) % (256 : BitVec 64))) : Nat) : Int)] 5] H36 kr fun gs37 w37 H37 => ?_
        show WPs _ _ _ _ [13, 14] _ _
        clear H36
        refine s_append H37 (some 83) 69 5 1 1 (.tmp 70) (.tmp 82) 0 2 bo ((gs37 12).b) no 1 capo 1 curo #[.int .u8 ((BitVec.toNat (BitVec.setWidth 8 (((nth a (i / 8)) >>> (8 * (i % 8))) % (256 : BitVec 64))) : Nat) : Int)] 5 (0, 0) (cellsB (outK a i)) ([.int .u8 ((BitVec.toNat (BitVec.setWidth 8 (((nth a (i / 8)) >>> (8 * (i % 8))) % (256 : BitVec 64))) : Nat) : Int)]) (fun b_24 cur_26 => [(b_24, Obj.cells cur_26 5 (0, 0)), ((gs17 1).b, Obj.cells (Value.cells (svn a)) 84 (0, 0)), ((gs37 12).b, Obj.cells #[.int .u8 ((BitVec.toNat (BitVec.setWidth 8 (((nth a (i / 8)) >>> (8 * (i % 8))) % (256 : BitVec 64))) : Nat) : Int)] 5 (0, 0))]) kr kr kr kr kr hro kr kr (by rfl) (by rfl) (by intro u hu; simp at hu; first | exact hu.elim | (rcases hu with rfl | rfl | rfl | rfl <;> rfl) | (rcases hu with rfl | rfl <;> rfl) | (subst hu; rfl)) (by omega) (by unfold maxLen; omega) (fun _ _ => by kernel_rfl) ?_
        intro b_24 cap_25 cur_26 w38 H38 hr_27; clear H37
        have hr_27t : Rw 1 cur_26 cap_25 (no + 1) (cellsB (outK a i ++ [UInt8.ofBitVec (BitVec.setWidth 8 (((nth a (i / 8)) >>> (8 * (i % 8))) % (256 : BitVec 64)))])) := by rw [cellsB_append]; exact hr_27
        have hr_27n : no + 1 = List.length (outK a i ++ [UInt8.ofBitVec (BitVec.setWidth 8 (((nth a (i / 8)) >>> (8 * (i % 8))) % (256 : BitVec 64)))]) := by have h0 : no = List.length (outK a i) := (by rw [outK_len]; exact hno); rw [List.length_append, ← h0]; rfl
        refine rp [.v] H38 kr fun gs39 w39 H39 => ?_
        show WPs _ _ _ _ [] _ _
        clear H38
        refine s_nil ?_
        show WP _ _ _ _ _ _
        refine g_keep [0, 2, 3, 4, 5, 7, 8, 17, 37, 67] fun ρ3 => ?_
        have HK21 := H39.keep
        clear H39
        refine rL [.v, .e (v := .int .i64 (IntKind.i64.wrap (((i : Nat) : Int) + 1))) (v' := .int .i64 ((i + 1 : Nat) : Int)) (int_eq (wrapAdd_i64 (a := i) (b := 1) (by omega))), .v] HK21 kr fun gs40 w40 H40 => ?_
        clear HK21
        have HL22 : St w.heap.size w w40 [(b_24, Obj.cells cur_26 5 (0, 0)), ((gs17 1).b, Obj.cells (Value.cells (svn a)) 84 (0, 0)), ((gs37 12).b, Obj.cells #[.int .u8 ((BitVec.toNat (BitVec.setWidth 8 (((nth a (i / 8)) >>> (8 * (i % 8))) % (256 : BitVec 64))) : Nat) : Int)] 5 (0, 0))] := H40.as kr
        clear H40
        have hrw : Rw 1 cur_26 cap_25 (no + 1) (cellsB (outK a (i + 1))) := by rw [outK_succ]; have h0 := hr_27t; rw [byteK] at h0; exact h0
        have HD23 : St w.heap.size w w40 [(b_24, Obj.cells cur_26 5 (0, 0)), ((gs17 1).b, Obj.cells (Value.cells (svn a)) 84 (0, 0))] := HL22.sub (List.Sublist.cons_cons _ (List.Sublist.cons_cons _ (List.Sublist.cons _ List.Sublist.slnil)))
        show ∃ m, _ ∧ _
        exact ⟨_, (by omega), b_24, cap_25, no + 1, cur_26, (i + 1), rfl, (by omega), hrw, (by omega), HD23, (Is.of ⟨kr, kr, kr, kr, kr, kr, kr, kr, kr, trivial⟩)⟩
      · skip
        refine rp [.e (v := .bool (decide (((i : Nat) : Int) < 32))) (v' := .bool false) (bool_eq (decide_eq_false (by omega)))] H35 kr fun gs41 w41 H41 => ?_
        show WPs _ _ _ _ [] _ _
        clear H35
        refine s_nil ?_
        refine g_cond_f kr kr ?_
        refine g_exit 6 kr ?_
        show WP _ _ _ _ _ _
        refine g_sreg [0, 1, 2] kr kr ?_
        refine rp [.v] H41 kr fun gs42 w42 H42 => ?_
        show WPs _ _ _ _ [1, 2] _ _
        clear H41
        refine s_bytesStrB H42 (some 85) 69 9 5 (.tmp 84) 0 bo no capo curo 5 (0, 0) (outK a i) kr kr kr kr kr kr kr hro ?_
        refine rp [.v] H42 kr fun gs43 w43 H43 => ?_
        show WPs _ _ _ _ [] _ _
        clear H42
        refine s_nil ?_
        refine g_ret kr ?_
        show ∃ vs, Res _ _ _ _ vs ∧ _
        refine ⟨[.string (strB (outK a i))], (.tmp (.string (strB (outK a i))) kr .nil), ?_, H43.below⟩
        obtain rfl : i = 32 := by omega
        exact congrArg (fun x => Value.string (strB x)) (sum_done s z m a hz2 ht (by omega))
end Go.Proofs.YtmmloghbnpfedaaDoor.Ke

namespace Go.Proofs.YtmmloghbnpfedaaDoor
open Go Go.RowKit
set_option linter.unusedVariables false
open Go.Proofs.Kec Ke
theorem pt_nz {N : Nat} (hN : Pr N) (ho : Ec.mulP Ec.G N = .zero) {a : Nat} (ha : ¬ N ∣ a) : Ec.mulP Ec.G a ≠ .zero := by
  intro hz
  obtain ⟨m, rfl⟩ : ∃ m, N = m + 2 := ⟨N - 2, by have := hN.1; omega⟩
  have hf := fermat hN ha
  rw [show m + 2 - 1 = m + 1 by omega] at hf
  have h1 : Ec.mulP Ec.G (a ^ (m + 1)) = .zero := by
    rw [Nat.pow_succ, Nat.mul_comm, Ec.mulP_mul Ec.good Ec.G_on, hz]
    exact Ec.mulP_zero _
  have h2 := Ec.mulP_mod Ec.good Ec.G_on ho (a ^ (m + 1))
  rw [hf, h1, mulP1] at h2
  exact absurd (congrArg (fun p => (Ec.ofPt p).b) h2) (by decide +kernel)
def gx (a : Nat) : Nat := (Ec.ofPt (Ec.mulP Ec.G a)).X
def gy (a : Nat) : Nat := (Ec.ofPt (Ec.mulP Ec.G a)).Y
theorem gx_lt (a : Nat) : gx a < big := (Ec.ofPt_ok _).X
theorem gy_lt (a : Nat) : gy a < big := (Ec.ofPt_ok _).Y
theorem inN_dvd {a : Nat} (h : inN a = true) : ¬ NR ∣ a := by
  unfold inN at h
  simp only [Bool.and_eq_true, Bool.not_eq_true', decide_eq_false_iff_not, decide_eq_true_iff] at h
  intro hd
  have := Nat.le_of_dvd (Nat.pos_of_ne_zero h.1) hd
  omega
theorem g_pt {a : Nat} (h : inN a = true) : Ec.ofPt (Ec.mulP Ec.G a) = Ec.Pd.mk (gx a) (gy a) false := by
  have hz := pt_nz nr_prime Ec.G_order (inN_dvd h)
  unfold gx gy
  cases hp : Ec.mulP Ec.G a with
  | zero => exact absurd hp hz
  | pt x y => rfl
theorem g_on' {a : Nat} (h : inN a = true) : Ec.onB (Ec.Pd.mk (gx a) (gy a) false) = true := by
  rw [← g_pt h]; exact Ec.onB_pt (Ec.mulP_on Ec.good Ec.G_on a)
theorem timesG_fn (a : Nat) (ha : a < big) (h : inN a = true) : Fn Tryd.prog 12 #[pv (Ec.ofPt Ec.G), uv a] (.tuple #[pv (Ec.Pd.mk (gx a) (gy a) false), .int .i64 0]) := by
  have h9 := times_pt_fn Ec.G Ec.G_on a ha
  rw [g_pt h] at h9; exact h9
theorem radr (X Y : Nat) : ByteArray.extract (strB (sumB (tl (bs X ++ bs Y)))) 12 (ByteArray.size (strB (sumB (tl (bs X ++ bs Y))))) = adrB X Y := by
  have e : tl (bs X ++ bs Y) = tl (bs X) ++ tl (bs Y) := tl_add _ _
  unfold adrB; rw [e, ksum_size]
set_option maxRecDepth 100000 in
set_option maxHeartbeats 2000000 in
theorem address_y (a : Nat) (ha : a < big) (hs : inN a = true) : FnP Tryd.prog 6 #[uv a] (Marks) (.tuple #[.string (adrB (gx a) (gy a)), .int .i64 0]) := by
  refine FnP.intro (c := codeOf Tryd.f6) [.tmp 2, .tmp 3] 19 Tryd.func6 kr kr kr fun w hpre => ?_
  have H0 := St.start w
  refine rS [.b, .v, .v] H0 kr fun gs1 w1 H1 => ?_
  clear H0
  refine g_seq kr ?_
  refine g_sreg [0, 1, 2] kr kr ?_
  refine rp [.l 0, .c (within_fn a ha)] H1 kr fun gs2 w2 H2 => ?_
  show WPs _ _ _ _ [2] _ _
  clear H1
  refine s_now 7 (v := .bool (inN a)) (v' := .bool true) (bool_eq hs) kr ?_
  refine rp [.v] H2 kr fun gs3 w3 H3 => ?_
  show WPs _ _ _ _ [] _ _
  clear H2
  refine s_nil ?_
  refine g_cond_f kr kr ?_
  refine g_skip kr ?_
  show WP _ _ _ _ _ _
  refine dSg (fun gs4 => [.c base_fn, .l 0, .c (timesG_fn a ha hs), .v, .v, .v, .a, .s 1, .v]) H3 kr fun gs4 w4 H4 => ?_
  clear H3
  refine rS [.l 1, .cp (pre := Marks) (of_yes (gx a) (gy a) (gx_lt a) (gy_lt a) (g_on' hs)) [] (fun w hb hd => (Marks.oldB hb rfl hpre)), .v, .v, .v, .v] H4 kr fun gs5 w5 H5 => ?_
  clear H4
  refine g_ret kr ?_
  show ∃ vs, Res _ _ _ _ vs ∧ _
  refine ⟨[.string (adrB (gx a) (gy a)), .int .i64 0], (.tmp (.string (adrB (gx a) (gy a))) kr (.tmp (.int .i64 0) kr .nil)), ?_, H5.below⟩
  rfl
set_option maxRecDepth 100000 in
set_option maxHeartbeats 2000000 in
theorem address_n (a : Nat) (ha : a < big) (hs : inN a = false) : Fn Tryd.prog 6 #[uv a] (.tuple #[.string ⟨#[]⟩, .int .i64 1]) := by
  refine Fn.intro (c := codeOf Tryd.f6) [.tmp 2, .tmp 3] 19 Tryd.func6 kr kr kr fun w => ?_
  have H0 := St.start w
  refine rS [.b, .v, .v] H0 kr fun gs1 w1 H1 => ?_
  clear H0
  refine g_seq kr ?_
  refine g_sreg [0, 1, 2] kr kr ?_
  refine rp [.l 0, .c (within_fn a ha)] H1 kr fun gs2 w2 H2 => ?_
  show WPs _ _ _ _ [2] _ _
  clear H1
  refine s_now 7 (v := .bool (inN a)) (v' := .bool false) (bool_eq hs) kr ?_
  refine rp [.v] H2 kr fun gs3 w3 H3 => ?_
  show WPs _ _ _ _ [] _ _
  clear H2
  refine s_nil ?_
  refine g_cond_t kr kr ?_
  refine rS [.v, .v] H3 kr fun gs4 w4 H4 => ?_
  clear H3
  refine g_ret kr ?_
  show ∃ vs, Res _ _ _ _ vs ∧ _
  refine ⟨[.string (⟨#[]⟩), .int .i64 1], (.tmp (.string (⟨#[]⟩)) kr (.tmp (.int .i64 1) kr .nil)), ?_, H4.below⟩
  rfl
set_option maxRecDepth 100000 in
set_option maxHeartbeats 2000000 in
theorem raddr_p (X Y : Nat) (hX : X < big) (hY : Y < big) : Fn Tryd.prog 9 #[pv (Ec.Pd.mk X Y false)] (.string (adrB X Y)) := by
  have hz := ksum_size (tl (bs X ++ bs Y))
  refine Fn.intro (c := codeOf Tryd.f9) [.tmp 2] 12 Tryd.func9 kr kr kr fun w => ?_
  have H0 := St.start w
  refine rS [.b, .v] H0 kr fun gs1 w1 H1 => ?_
  clear H0
  refine dS [.v, .l 0, .c (refbytes_fn X hX), .v, .l 0, .c (refbytes_fn Y hY), .o (ins := [((.tmp 5), .string (bs X)), ((.tmp 8), .string (bs Y))]) (v := .string ((bs X) ++ (bs Y))) (fun ρ o w ho hi => sadd_run (t := 9) (t' := 9) (x := (.tmp 5)) (y := (.tmp 8)) (bs X) (bs Y) w ho hi.1 hi.2.1 (by rw [bs_size, bs_size]; omega)), .c (sumR_fn ((bs X) ++ (bs Y)) (by rw [sizes_add, bs_size, bs_size]; omega)), .o (ins := [((.tmp 10), .string (strB (sumB (tl ((bs X) ++ (bs Y)))))), ((.const (.int .i64 12)), .int .i64 12)]) (v := .string (ByteArray.extract (strB (sumB (tl ((bs X) ++ (bs Y))))) 12 (ByteArray.size (strB (sumB (tl ((bs X) ++ (bs Y)))))))) (fun ρ o w ho hi => scut3_run (t := 9) (kz := .i64) kr (x := (.tmp 10)) (z := (.const (.int .i64 12))) (strB (sumB (tl ((bs X) ++ (bs Y))))) 12 ho hi.1 hi.2.1 (by omega) w), .v] H1 kr fun w2 H2 => ?_
  clear H1
  refine g_ret kr ?_
  show ∃ vs, Res _ _ _ _ vs ∧ _
  refine ⟨[.string (ByteArray.extract (strB (sumB (tl ((bs X) ++ (bs Y))))) 12 (ByteArray.size (strB (sumB (tl ((bs X) ++ (bs Y)))))))], (.tmp (.string (ByteArray.extract (strB (sumB (tl ((bs X) ++ (bs Y))))) 12 (ByteArray.size (strB (sumB (tl ((bs X) ++ (bs Y)))))))) kr .nil), ?_, H2.below⟩
  exact congrArg Value.string (radr X Y)
end Go.Proofs.YtmmloghbnpfedaaDoor

namespace Go.Proofs.YtmmloghbnpfedaaDoor
open Go Go.RowKit
set_option linter.unusedVariables false
open Go.Proofs.Kec Ke
set_option maxRecDepth 100000 in
set_option maxHeartbeats 2000000 in
theorem sgA_z_y (a : Nat) (ha : a < big) (hs : inN a = true) (X Y : Nat) (hX : X < big) (hY : Y < big) : FnP Tryd.prog 3 #[uv a, pv (Ec.Pd.mk X Y true)] (Marks) (.bool true) := by
  refine FnP.intro (c := codeOf Tryd.f3) [.tmp 4] 75 Tryd.func3 kr kr kr fun w hpre => ?_
  have H0 := St.start w
  refine rS [.b, .b, .v] H0 kr fun gs1 w1 H1 => ?_
  clear H0
  refine rS [.l 0, .cp (pre := Marks) (address_y a ha hs) [] (fun w hb hd => (Marks.oldB hb rfl hpre)), .v, .v, .v, .v, .v] H1 kr fun gs2 w2 H2 => ?_
  clear H1
  refine rS [.l 1, .c (of_z X Y hX hY), .v, .v, .v, .v, .v] H2 kr fun gs3 w3 H3 => ?_
  clear H2
  refine g_keep [0, 1, 2, 3, 4, 5, 6, 7, 8] fun ρ1 => ?_
  have HK1 := H3.keep
  clear H3
  refine g_seq kr ?_
  refine rS [.v, .l 1, .v, .n, .n, .n, .v] HK1 kr fun gs4 w4 H4 => ?_
  clear HK1
  refine g_cond_t kr kr ?_
  refine rS [.v, .v, .v, .v, .e (v := .bool (!(ByteArray.toList (⟨#[]⟩) == ByteArray.toList (⟨#[]⟩)))) (v' := .bool false) (bool_eq (by rw [str_self (⟨#[]⟩)]; rfl)), .v] H4 kr fun gs5 w5 H5 => ?_
  clear H4
  refine g_cond_f kr kr ?_
  refine g_skip kr ?_
  show WP _ _ _ _ _ _
  refine g_seq kr ?_
  refine g_sreg [0, 1, 2] kr kr ?_
  refine rp [.l 0, .c (issec_fn a ha)] H5 kr fun gs6 w6 H6 => ?_
  show WPs _ _ _ _ [2] _ _
  clear H5
  refine s_now 43 (v := .bool (inN a)) (v' := .bool true) (bool_eq hs) kr ?_
  refine rp [.v] H6 kr fun gs7 w7 H7 => ?_
  show WPs _ _ _ _ [] _ _
  clear H6
  refine s_nil ?_
  refine g_cond_f kr kr ?_
  refine g_skip kr ?_
  show WP _ _ _ _ _ _
  refine dSg (fun gs8 => [.c base_fn, .l 0, .c (timesG_fn a ha hs), .v, .v, .v, .a, .s 2, .v]) H7 kr fun gs8 w8 H8 => ?_
  clear H7
  refine g_keep [0, 1, 2, 3, 4, 5, 6, 7, 8, 9, 10, 27, 33, 44] fun ρ2 => ?_
  have HK2 := H8.keep
  clear H8
  refine rS [.cp (pre := Marks) alive7_fn [] (fun w hb hd => (Marks.oldB hb rfl hpre)), .v, .v, .v, .v, .v, .v, .v, .v, .v, .v, .l 2, .c (raddr_p (gx a) (gy a) (gx_lt a) (gy_lt a)), .e (v := .bool (ByteArray.toList (adrB (gx a) (gy a)) == ByteArray.toList (adrB (gx a) (gy a)))) (v' := .bool true) (bool_eq (str_self (adrB (gx a) (gy a)))), .v, .v] HK2 kr fun gs9 w9 H9 => ?_
  clear HK2
  refine g_ret kr ?_
  show ∃ vs, Res _ _ _ _ vs ∧ _
  refine ⟨[.bool true], (.tmp (.bool true) kr .nil), ?_, H9.below⟩
  rfl
set_option maxRecDepth 100000 in
set_option maxHeartbeats 2000000 in
theorem sgA_z_n (a : Nat) (ha : a < big) (hs : inN a = false) (X Y : Nat) (hX : X < big) (hY : Y < big) : FnP Tryd.prog 3 #[uv a, pv (Ec.Pd.mk X Y true)] (Marks) (.bool true) := by
  refine FnP.intro (c := codeOf Tryd.f3) [.tmp 4] 75 Tryd.func3 kr kr kr fun w hpre => ?_
  have H0 := St.start w
  refine rS [.b, .b, .v] H0 kr fun gs1 w1 H1 => ?_
  clear H0
  refine rS [.l 0, .c (address_n a ha hs), .v, .v, .v, .v, .v] H1 kr fun gs2 w2 H2 => ?_
  clear H1
  refine rS [.l 1, .c (of_z X Y hX hY), .v, .v, .v, .v, .v] H2 kr fun gs3 w3 H3 => ?_
  clear H2
  refine g_keep [0, 1, 2, 3, 4, 5, 6, 7, 8] fun ρ1 => ?_
  have HK1 := H3.keep
  clear H3
  refine g_seq kr ?_
  refine rS [.v, .l 1, .v, .n, .n, .n, .v] HK1 kr fun gs4 w4 H4 => ?_
  clear HK1
  refine g_cond_t kr kr ?_
  refine rS [.v, .v, .v, .v, .e (v := .bool (!(ByteArray.toList (⟨#[]⟩) == ByteArray.toList (⟨#[]⟩)))) (v' := .bool false) (bool_eq (by rw [str_self (⟨#[]⟩)]; rfl)), .v] H4 kr fun gs5 w5 H5 => ?_
  clear H4
  refine g_cond_f kr kr ?_
  refine g_skip kr ?_
  show WP _ _ _ _ _ _
  refine g_seq kr ?_
  refine g_sreg [0, 1, 2] kr kr ?_
  refine rp [.l 0, .c (issec_fn a ha)] H5 kr fun gs6 w6 H6 => ?_
  show WPs _ _ _ _ [2] _ _
  clear H5
  refine s_now 43 (v := .bool (inN a)) (v' := .bool false) (bool_eq hs) kr ?_
  refine rp [.v] H6 kr fun gs7 w7 H7 => ?_
  show WPs _ _ _ _ [] _ _
  clear H6
  refine s_nil ?_
  refine g_cond_t kr kr ?_
  refine rS [.cp (pre := Marks) alive7_fn [] (fun w hb hd => (Marks.oldB hb rfl hpre)), .v, .v, .v, .v, .v, .v, .e (v := .bool (ByteArray.toList (⟨#[]⟩) == ByteArray.toList (⟨#[]⟩))) (v' := .bool true) (bool_eq (str_self (⟨#[]⟩))), .v, .v] H7 kr fun gs8 w8 H8 => ?_
  clear H7
  refine g_ret kr ?_
  show ∃ vs, Res _ _ _ _ vs ∧ _
  refine ⟨[.bool true], (.tmp (.bool true) kr .nil), ?_, H8.below⟩
  rfl
set_option maxRecDepth 100000 in
set_option maxHeartbeats 2000000 in
theorem sgA_n_y (a : Nat) (ha : a < big) (hs : inN a = true) (X Y : Nat) (hX : X < big) (hY : Y < big) (h : Ec.onB (Ec.Pd.mk X Y false) = false) : FnP Tryd.prog 3 #[uv a, pv (Ec.Pd.mk X Y false)] (Marks) (.bool true) := by
  refine FnP.intro (c := codeOf Tryd.f3) [.tmp 4] 75 Tryd.func3 kr kr kr fun w hpre => ?_
  have H0 := St.start w
  refine rS [.b, .b, .v] H0 kr fun gs1 w1 H1 => ?_
  clear H0
  refine rS [.l 0, .cp (pre := Marks) (address_y a ha hs) [] (fun w hb hd => (Marks.oldB hb rfl hpre)), .v, .v, .v, .v, .v] H1 kr fun gs2 w2 H2 => ?_
  clear H1
  refine rS [.l 1, .c (of_no X Y hX hY h), .v, .v, .v, .v, .v] H2 kr fun gs3 w3 H3 => ?_
  clear H2
  refine g_keep [0, 1, 2, 3, 4, 5, 6, 7, 8] fun ρ1 => ?_
  have HK1 := H3.keep
  clear H3
  refine g_seq kr ?_
  refine rS [.v, .l 1, .v, .l 1, .c (ron_no (Ec.Pd.mk X Y false) (Ec.Pd.Ok.mk (p := Ec.Pd.mk X Y false) hX hY) h), .v, .v] HK1 kr fun gs4 w4 H4 => ?_
  clear HK1
  refine g_cond_t kr kr ?_
  refine rS [.v, .v, .v, .v, .e (v := .bool (!(ByteArray.toList (⟨#[]⟩) == ByteArray.toList (⟨#[]⟩)))) (v' := .bool false) (bool_eq (by rw [str_self (⟨#[]⟩)]; rfl)), .v] H4 kr fun gs5 w5 H5 => ?_
  clear H4
  refine g_cond_f kr kr ?_
  refine g_skip kr ?_
  show WP _ _ _ _ _ _
  refine g_seq kr ?_
  refine g_sreg [0, 1, 2] kr kr ?_
  refine rp [.l 0, .c (issec_fn a ha)] H5 kr fun gs6 w6 H6 => ?_
  show WPs _ _ _ _ [2] _ _
  clear H5
  refine s_now 43 (v := .bool (inN a)) (v' := .bool true) (bool_eq hs) kr ?_
  refine rp [.v] H6 kr fun gs7 w7 H7 => ?_
  show WPs _ _ _ _ [] _ _
  clear H6
  refine s_nil ?_
  refine g_cond_f kr kr ?_
  refine g_skip kr ?_
  show WP _ _ _ _ _ _
  refine dSg (fun gs8 => [.c base_fn, .l 0, .c (timesG_fn a ha hs), .v, .v, .v, .a, .s 2, .v]) H7 kr fun gs8 w8 H8 => ?_
  clear H7
  refine g_keep [0, 1, 2, 3, 4, 5, 6, 7, 8, 9, 10, 27, 33, 44] fun ρ2 => ?_
  have HK2 := H8.keep
  clear H8
  refine rS [.cp (pre := Marks) alive7_fn [] (fun w hb hd => (Marks.oldB hb rfl hpre)), .v, .v, .v, .v, .v, .v, .v, .v, .v, .v, .l 2, .c (raddr_p (gx a) (gy a) (gx_lt a) (gy_lt a)), .e (v := .bool (ByteArray.toList (adrB (gx a) (gy a)) == ByteArray.toList (adrB (gx a) (gy a)))) (v' := .bool true) (bool_eq (str_self (adrB (gx a) (gy a)))), .v, .v] HK2 kr fun gs9 w9 H9 => ?_
  clear HK2
  refine g_ret kr ?_
  show ∃ vs, Res _ _ _ _ vs ∧ _
  refine ⟨[.bool true], (.tmp (.bool true) kr .nil), ?_, H9.below⟩
  rfl
set_option maxRecDepth 100000 in
set_option maxHeartbeats 2000000 in
theorem sgA_n_n (a : Nat) (ha : a < big) (hs : inN a = false) (X Y : Nat) (hX : X < big) (hY : Y < big) (h : Ec.onB (Ec.Pd.mk X Y false) = false) : FnP Tryd.prog 3 #[uv a, pv (Ec.Pd.mk X Y false)] (Marks) (.bool true) := by
  refine FnP.intro (c := codeOf Tryd.f3) [.tmp 4] 75 Tryd.func3 kr kr kr fun w hpre => ?_
  have H0 := St.start w
  refine rS [.b, .b, .v] H0 kr fun gs1 w1 H1 => ?_
  clear H0
  refine rS [.l 0, .c (address_n a ha hs), .v, .v, .v, .v, .v] H1 kr fun gs2 w2 H2 => ?_
  clear H1
  refine rS [.l 1, .c (of_no X Y hX hY h), .v, .v, .v, .v, .v] H2 kr fun gs3 w3 H3 => ?_
  clear H2
  refine g_keep [0, 1, 2, 3, 4, 5, 6, 7, 8] fun ρ1 => ?_
  have HK1 := H3.keep
  clear H3
  refine g_seq kr ?_
  refine rS [.v, .l 1, .v, .l 1, .c (ron_no (Ec.Pd.mk X Y false) (Ec.Pd.Ok.mk (p := Ec.Pd.mk X Y false) hX hY) h), .v, .v] HK1 kr fun gs4 w4 H4 => ?_
  clear HK1
  refine g_cond_t kr kr ?_
  refine rS [.v, .v, .v, .v, .e (v := .bool (!(ByteArray.toList (⟨#[]⟩) == ByteArray.toList (⟨#[]⟩)))) (v' := .bool false) (bool_eq (by rw [str_self (⟨#[]⟩)]; rfl)), .v] H4 kr fun gs5 w5 H5 => ?_
  clear H4
  refine g_cond_f kr kr ?_
  refine g_skip kr ?_
  show WP _ _ _ _ _ _
  refine g_seq kr ?_
  refine g_sreg [0, 1, 2] kr kr ?_
  refine rp [.l 0, .c (issec_fn a ha)] H5 kr fun gs6 w6 H6 => ?_
  show WPs _ _ _ _ [2] _ _
  clear H5
  refine s_now 43 (v := .bool (inN a)) (v' := .bool false) (bool_eq hs) kr ?_
  refine rp [.v] H6 kr fun gs7 w7 H7 => ?_
  show WPs _ _ _ _ [] _ _
  clear H6
  refine s_nil ?_
  refine g_cond_t kr kr ?_
  refine rS [.cp (pre := Marks) alive7_fn [] (fun w hb hd => (Marks.oldB hb rfl hpre)), .v, .v, .v, .v, .v, .v, .e (v := .bool (ByteArray.toList (⟨#[]⟩) == ByteArray.toList (⟨#[]⟩))) (v' := .bool true) (bool_eq (str_self (⟨#[]⟩))), .v, .v] H7 kr fun gs8 w8 H8 => ?_
  clear H7
  refine g_ret kr ?_
  show ∃ vs, Res _ _ _ _ vs ∧ _
  refine ⟨[.bool true], (.tmp (.bool true) kr .nil), ?_, H8.below⟩
  rfl
set_option maxRecDepth 100000 in
set_option maxHeartbeats 2000000 in
theorem sgA_y_y (a : Nat) (ha : a < big) (hs : inN a = true) (X Y : Nat) (hX : X < big) (hY : Y < big) (h : Ec.onB (Ec.Pd.mk X Y false) = true) : FnP Tryd.prog 3 #[uv a, pv (Ec.Pd.mk X Y false)] (Marks) (.bool true) := by
  refine FnP.intro (c := codeOf Tryd.f3) [.tmp 4] 75 Tryd.func3 kr kr kr fun w hpre => ?_
  have H0 := St.start w
  refine rS [.b, .b, .v] H0 kr fun gs1 w1 H1 => ?_
  clear H0
  refine rS [.l 0, .cp (pre := Marks) (address_y a ha hs) [] (fun w hb hd => (Marks.oldB hb rfl hpre)), .v, .v, .v, .v, .v] H1 kr fun gs2 w2 H2 => ?_
  clear H1
  refine rS [.l 1, .cp (pre := Marks) (of_yes X Y hX hY h) [] (fun w hb hd => (Marks.oldB hb rfl hpre)), .v, .v, .v, .v, .v] H2 kr fun gs3 w3 H3 => ?_
  clear H2
  refine g_keep [0, 1, 2, 3, 4, 5, 6, 7, 8] fun ρ1 => ?_
  have HK1 := H3.keep
  clear H3
  refine g_seq kr ?_
  refine rS [.v, .l 1, .v, .l 1, .c (ron_yes (Ec.Pd.mk X Y false) (Ec.Pd.Ok.mk (p := Ec.Pd.mk X Y false) hX hY) h), .v, .v] HK1 kr fun gs4 w4 H4 => ?_
  clear HK1
  refine g_cond_f kr kr ?_
  refine rS [.v, .v, .v, .v, .l 1, .c (raddr_p X Y hX hY), .e (v := .bool (!(ByteArray.toList (adrB X Y) == ByteArray.toList (adrB X Y)))) (v' := .bool false) (bool_eq (by rw [str_self (adrB X Y)]; rfl)), .v] H4 kr fun gs5 w5 H5 => ?_
  clear H4
  refine g_cond_f kr kr ?_
  refine g_skip kr ?_
  show WP _ _ _ _ _ _
  refine g_seq kr ?_
  refine g_sreg [0, 1, 2] kr kr ?_
  refine rp [.l 0, .c (issec_fn a ha)] H5 kr fun gs6 w6 H6 => ?_
  show WPs _ _ _ _ [2] _ _
  clear H5
  refine s_now 43 (v := .bool (inN a)) (v' := .bool true) (bool_eq hs) kr ?_
  refine rp [.v] H6 kr fun gs7 w7 H7 => ?_
  show WPs _ _ _ _ [] _ _
  clear H6
  refine s_nil ?_
  refine g_keep [0, 1, 2, 3, 4, 5, 6, 7, 8, 27, 41, 44] fun ρ2 => ?_
  have HK2 := H7.keep
  clear H7
  refine g_cond_f kr kr ?_
  refine g_skip kr ?_
  show WP _ _ _ _ _ _
  refine dSg (fun gs8 => [.c base_fn, .l 0, .c (timesG_fn a ha hs), .v, .v, .v, .a, .s 2, .v]) HK2 kr fun gs8 w8 H8 => ?_
  clear HK2
  refine rS [.cp (pre := Marks) alive7_fn [] (fun w hb hd => (Marks.oldB hb rfl hpre)), .v, .v, .v, .v, .v, .v, .v, .v, .v, .v, .l 2, .c (raddr_p (gx a) (gy a) (gx_lt a) (gy_lt a)), .e (v := .bool (ByteArray.toList (adrB (gx a) (gy a)) == ByteArray.toList (adrB (gx a) (gy a)))) (v' := .bool true) (bool_eq (str_self (adrB (gx a) (gy a)))), .v, .v] H8 kr fun gs9 w9 H9 => ?_
  clear H8
  refine g_ret kr ?_
  show ∃ vs, Res _ _ _ _ vs ∧ _
  refine ⟨[.bool true], (.tmp (.bool true) kr .nil), ?_, H9.below⟩
  rfl
set_option maxRecDepth 100000 in
set_option maxHeartbeats 2000000 in
theorem sgA_y_n (a : Nat) (ha : a < big) (hs : inN a = false) (X Y : Nat) (hX : X < big) (hY : Y < big) (h : Ec.onB (Ec.Pd.mk X Y false) = true) : FnP Tryd.prog 3 #[uv a, pv (Ec.Pd.mk X Y false)] (Marks) (.bool true) := by
  refine FnP.intro (c := codeOf Tryd.f3) [.tmp 4] 75 Tryd.func3 kr kr kr fun w hpre => ?_
  have H0 := St.start w
  refine rS [.b, .b, .v] H0 kr fun gs1 w1 H1 => ?_
  clear H0
  refine rS [.l 0, .c (address_n a ha hs), .v, .v, .v, .v, .v] H1 kr fun gs2 w2 H2 => ?_
  clear H1
  refine rS [.l 1, .cp (pre := Marks) (of_yes X Y hX hY h) [] (fun w hb hd => (Marks.oldB hb rfl hpre)), .v, .v, .v, .v, .v] H2 kr fun gs3 w3 H3 => ?_
  clear H2
  refine g_keep [0, 1, 2, 3, 4, 5, 6, 7, 8] fun ρ1 => ?_
  have HK1 := H3.keep
  clear H3
  refine g_seq kr ?_
  refine rS [.v, .l 1, .v, .l 1, .c (ron_yes (Ec.Pd.mk X Y false) (Ec.Pd.Ok.mk (p := Ec.Pd.mk X Y false) hX hY) h), .v, .v] HK1 kr fun gs4 w4 H4 => ?_
  clear HK1
  refine g_cond_f kr kr ?_
  refine rS [.v, .v, .v, .v, .l 1, .c (raddr_p X Y hX hY), .e (v := .bool (!(ByteArray.toList (adrB X Y) == ByteArray.toList (adrB X Y)))) (v' := .bool false) (bool_eq (by rw [str_self (adrB X Y)]; rfl)), .v] H4 kr fun gs5 w5 H5 => ?_
  clear H4
  refine g_cond_f kr kr ?_
  refine g_skip kr ?_
  show WP _ _ _ _ _ _
  refine g_seq kr ?_
  refine g_sreg [0, 1, 2] kr kr ?_
  refine rp [.l 0, .c (issec_fn a ha)] H5 kr fun gs6 w6 H6 => ?_
  show WPs _ _ _ _ [2] _ _
  clear H5
  refine s_now 43 (v := .bool (inN a)) (v' := .bool false) (bool_eq hs) kr ?_
  refine rp [.v] H6 kr fun gs7 w7 H7 => ?_
  show WPs _ _ _ _ [] _ _
  clear H6
  refine s_nil ?_
  refine g_keep [0, 1, 2, 3, 4, 5, 6, 7, 8, 27, 41, 44] fun ρ2 => ?_
  have HK2 := H7.keep
  clear H7
  refine g_cond_t kr kr ?_
  refine rS [.cp (pre := Marks) alive7_fn [] (fun w hb hd => (Marks.oldB hb rfl hpre)), .v, .v, .v, .v, .v, .v, .e (v := .bool (ByteArray.toList (⟨#[]⟩) == ByteArray.toList (⟨#[]⟩))) (v' := .bool true) (bool_eq (str_self (⟨#[]⟩))), .v, .v] HK2 kr fun gs8 w8 H8 => ?_
  clear HK2
  refine g_ret kr ?_
  show ∃ vs, Res _ _ _ _ vs ∧ _
  refine ⟨[.bool true], (.tmp (.bool true) kr .nil), ?_, H8.below⟩
  rfl
theorem sgA_at (a : Nat) (ha : a < big) (p : Ec.Pd) (hp : p.Ok) : FnP Tryd.prog 3 #[uv a, pv p] Marks (.bool true) := by
  obtain ⟨X, Y, b⟩ := p
  have hX : X < big := hp.X
  have hY : Y < big := hp.Y
  cases b
  · cases h : Ec.onB (Ec.Pd.mk X Y false)
    · cases hs : inN a
      · exact sgA_n_n a ha hs X Y hX hY h
      · exact sgA_n_y a ha hs X Y hX hY h
    · cases hs : inN a
      · exact sgA_y_n a ha hs X Y hX hY h
      · exact sgA_y_y a ha hs X Y hX hY h
  · cases hs : inN a
    · exact sgA_z_n a ha hs X Y hX hY
    · exact sgA_z_y a ha hs X Y hX hY
end Go.Proofs.YtmmloghbnpfedaaDoor

namespace Go.Proofs.YtmmloghbnpfedaaDoor
open Go Go.ChangeShapes Go.WideShapes Go.ChangeAt Go.RowKit
set_option linter.unusedVariables false
set_option maxRecDepth 100000
theorem cells64 : Tryd.prog.cellsOf 22 = 1 := kr
theorem cellsU : Tryd.prog.cellsOf 24 = 4 := kr
theorem list4 {α : Type} (l : List α) (h : (⟨l⟩ : Array α).size = 4) : ∃ a b c d, l = [a, b, c, d] := by
  match l, h with
  | [a, b, c, d], _ => exact ⟨a, b, c, d, rfl⟩
theorem wd_of_wf {x : Int} (h : (Lit.int .u64 x).wf = true) : Wd x := by
  have hmin : IntKind.u64.min = 0 := rfl
  have hmax : IntKind.u64.max = 18446744073709551615 := rfl
  simp only [Lit.wf, Bool.and_eq_true, decide_eq_true_eq] at h
  unfold Wd; omega
theorem openU {H : Type} {enc : TypeId × Value → H} {W : World} {base b0 : Nat} {v : Value} {sp : Nat → Bool} {held : Bool} {d : DataW H} {p : List MemPlace}
    (hv : Value.okWide Tryd.prog W .any base 24 v) (h : DataW.Trod enc Tryd.prog W b0 sp held 24 v d p) : ∃ n : Nat, n < big ∧ v = uv n := by
  obtain ⟨cs, rfl, hsz, _⟩ : ∃ cs, v = .agg cs ∧ cs.size = Tryd.prog.cellsOf 24 ∧ Row.okWide Tryd.prog W .any base 24 cs := by
    simpa [Value.okWide, Tryd.underlying24] using hv
  rw [cellsU] at hsz
  obtain ⟨l⟩ := cs
  obtain ⟨c0, c1, c2, c3, rfl⟩ := list4 l hsz
  obtain ⟨fuel, hf⟩ := h
  obtain ⟨y0, y1, y2, y3, m, hx, hy0, hy1, hy2, hy3⟩ := trod_array4 Tryd.underlying24 cells64 hf
  obtain ⟨x0, e0, rfl, w0⟩ := DataW.trod_int Tryd.underlying22 hy0
  obtain ⟨x1, e1, rfl, w1⟩ := DataW.trod_int Tryd.underlying22 hy1
  obtain ⟨x2, e2, rfl, w2⟩ := DataW.trod_int Tryd.underlying22 hy2
  obtain ⟨x3, e3, rfl, w3⟩ := DataW.trod_int Tryd.underlying22 hy3
  simp at e0 e1 e2 e3
  subst e0 e1 e2 e3
  obtain ⟨n, hn, g0, g1, g2, g3⟩ := of_words (wd_of_wf w0) (wd_of_wf w1) (wd_of_wf w2) (wd_of_wf w3)
  exact ⟨n, hn, by rw [g0, g1, g2, g3]⟩
theorem cells26 : Tryd.prog.cellsOf 26 = 9 := kr
theorem cells4b : Tryd.prog.cellsOf 4 = 1 := kr
theorem list9 {α : Type} (l : List α) (h : (⟨l⟩ : Array α).size = 9) : ∃ a b c d e f g i j, l = [a, b, c, d, e, f, g, i, j] := by
  match l, h with
  | [a, b, c, d, e, f, g, i, j], _ => exact ⟨a, b, c, d, e, f, g, i, j, rfl⟩
theorem four_words {H : Type} {enc : TypeId × Value → H} {W : World} {b0 : Nat} {sp : Nat → Bool} {held : Bool} {x : DataW H × List MemPlace} {fuel : Nat} {c0 c1 c2 c3 : Value}
    (hf : DataW.trod enc Tryd.prog W b0 sp held fuel 24 [c0, c1, c2, c3] = some x) : ∃ n : Nat, n < big ∧ c0 = .int .u64 (w0 n) ∧ c1 = .int .u64 (w1 n) ∧ c2 = .int .u64 (w2 n) ∧ c3 = .int .u64 (w3 n) := by
  obtain ⟨y0, y1, y2, y3, m, hx, hy0, hy1, hy2, hy3⟩ := trod_array4 Tryd.underlying24 cells64 hf
  obtain ⟨x0, e0, rfl, w0⟩ := DataW.trod_int Tryd.underlying22 hy0
  obtain ⟨x1, e1, rfl, w1⟩ := DataW.trod_int Tryd.underlying22 hy1
  obtain ⟨x2, e2, rfl, w2⟩ := DataW.trod_int Tryd.underlying22 hy2
  obtain ⟨x3, e3, rfl, w3⟩ := DataW.trod_int Tryd.underlying22 hy3
  simp at e0 e1 e2 e3
  subst e0 e1 e2 e3
  obtain ⟨n, hn, g0, g1, g2, g3⟩ := of_words (wd_of_wf w0) (wd_of_wf w1) (wd_of_wf w2) (wd_of_wf w3)
  exact ⟨n, hn, by rw [g0], by rw [g1], by rw [g2], by rw [g3]⟩
theorem openP {H : Type} {enc : TypeId × Value → H} {W : World} {base b0 : Nat} {v : Value} {sp : Nat → Bool} {held : Bool} {d : DataW H} {p : List MemPlace}
    (hv : Value.okWide Tryd.prog W .any base 26 v) (h : DataW.Trod enc Tryd.prog W b0 sp held 26 v d p) : ∃ q : Ec.Pd, q.Ok ∧ v = pv q := by
  obtain ⟨cs, rfl, hsz, _⟩ : ∃ cs, v = .agg cs ∧ cs.size = Tryd.prog.cellsOf 26 ∧ Row.okWide Tryd.prog W .any base 26 cs := by
    simpa [Value.okWide, Tryd.underlying26] using hv
  rw [cells26] at hsz
  obtain ⟨l⟩ := cs
  obtain ⟨c0, c1, c2, c3, c4, c5, c6, c7, c8, rfl⟩ := list9 l hsz
  obtain ⟨fuel, hf⟩ := h
  obtain ⟨y0, y1, y2, m, hx, hl, hy0, hy1, hy2⟩ := Go.Deep.trod_struct3 Tryd.underlying26 hf
  rw [cellsU] at hy0 hy1
  rw [cells4b] at hy2
  obtain ⟨n, hn, a0, a1, a2, a3⟩ := four_words (show DataW.trod enc Tryd.prog W b0 sp held m 24 [c0, c1, c2, c3] = some y0 from hy0)
  obtain ⟨k, hk, b0', b1, b2, b3⟩ := four_words (show DataW.trod enc Tryd.prog W b0 sp held m 24 [c4, c5, c6, c7] = some y1 from hy1)
  obtain ⟨b, hb, _⟩ := DataW.trod_bool Tryd.underlying4 (show DataW.trod enc Tryd.prog W b0 sp held m 4 [c8] = some y2 from hy2)
  have hb : c8 = .bool b := by simpa using hb
  exact ⟨⟨n, k, b⟩, ⟨hn, hk⟩, by rw [a0, a1, a2, a3, b0', b1, b2, b3, hb]; rfl⟩
end Go.Proofs.YtmmloghbnpfedaaDoor

namespace Go.Proofs.YtmmloghbnpfedaaDoor
open Go Go.ChangeShapes Go.WideShapes Go.ChangeAt Go.RowKit Ke
set_option linter.unusedVariables false
set_option maxRecDepth 100000
def marksL : List Int := [1, 32898, 9223372036854808714, 9223372039002292224, 32907, 2147483649, 9223372039002292353, 9223372036854808585, 138, 136, 2147516425, 2147483658, 2147516555, 9223372036854775947, 9223372036854808713, 9223372036854808579, 9223372036854808578, 9223372036854775936, 32778, 9223372039002259466, 9223372039002292353, 9223372036854808704, 2147483649, 9223372039002292232]
theorem marksC_eq : marksC = (marksL.map (Value.int .u64)).toArray := kr
theorem gMarks : Tryd.prog.globalNamed "ecclesia/keccak.marks" = some 0 := kr
theorem marks_of_laid {W : World} (h : laidMetH Tryd.prog [("ecclesia/keccak.marks", Rows.laid_ecclesia_keccak_marks)] W) : Marks W := by
  rw [MakeChecks.laidMetH_plain _ _ _ kr] at h
  have t := Lib.tabIs_of_head (k := .u64) (zs := marksL) gMarks (show (Tryd.prog.globals[0]?).map (·.type) = some 109 by kernel_rfl) Tryd.underlying109 Tryd.underlying22 kr kr h
  unfold Lib.TabIs World.var? at t
  rw [gMarks] at t
  simp only [Option.bind_some] at t
  split at t
  · rename_i cs T fz hh
    exact ⟨T, fz, by rw [hh, marksC_eq]; exact congrArg (fun c => some (Obj.cells c T fz)) (Option.some.inj t)⟩
  · cases t
/-- A world that meets the condition: the settled one, the table laid. -/
noncomputable def laidWorld (os : Os) : World :=
  let w0 := World.holding Tryd.prog os ⟨#[], #[], []⟩
  { w0 with heap := w0.heap.modify 0 fun
      | .cells _ t frozen => .cells (marksL.map (Value.int .u64)).toArray t frozen
      | o => o }
theorem laidWorld_met (os : Os) (args : Array Value) : laidMetH Tryd.prog [("ecclesia/keccak.marks", Rows.laid_ecclesia_keccak_marks)] ((laidWorld os).forCall (fun _ _ => 0) ⟨#[], args, []⟩).memory := by
  rw [MakeChecks.laidMetH_plain _ _ _ kr]
  exact laidMet_of_run' 8 kr kr
end Go.Proofs.YtmmloghbnpfedaaDoor
