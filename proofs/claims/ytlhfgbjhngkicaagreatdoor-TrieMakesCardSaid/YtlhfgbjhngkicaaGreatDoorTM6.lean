/-
  Texts of the proof, part 6.
-/
import Derived.Test.YtlhfgbjhngkicaaGreatDoorProg
import Derived.Test.YtlhfgbjhngkicaaGreatDoorTM1
import Derived.Test.YtlhfgbjhngkicaaGreatDoorTM2
import Derived.Test.YtlhfgbjhngkicaaGreatDoorTM3
import Derived.Test.YtlhfgbjhngkicaaGreatDoorTM4
import Derived.Test.YtlhfgbjhngkicaaGreatDoorTM5

namespace Go.Proofs.YtlhfgbjhngkicaaGreatDoor.Ke
open Go Go.RowKit Go.Proofs.Kec
set_option linter.unusedVariables false
def arrW (n : Nat) (f : Nat → BitVec 64) : Value := .agg (arrF n fun j => .int .u64 ((BitVec.toNat (f j) : Nat) : Int)).toArray
theorem arrW_at {n : Nat} (f : Nat → BitVec 64) {k off : Nat} (ho : off = 0 + k * 1) (hk : k < n) : (Value.cells (arrW n f))[off]? = some (.int .u64 ((BitVec.toNat (f k) : Nat) : Int)) :=
  seg_at (pre := []) (post := []) (n := n) (f := fun j => .int .u64 ((BitVec.toNat (f j) : Nat) : Int)) (by show arrF n _ = [] ++ arrF n _ ++ []; simp) (by simpa using ho) hk
theorem arrW_put {n : Nat} {f g : Nat → BitVec 64} {k off : Nat} {x : BitVec 64} (ho : off = 0 + k * 1) (hk : k < n) (hg : ∀ j, j < n → g j = if j = k then x else f j) :
    ((Value.cells (arrW n f)).toList.take off ++ (Value.int .u64 ((BitVec.toNat x : Nat) : Int)).cells.toList ++ (Value.cells (arrW n f)).toList.drop (off + (Value.int .u64 ((BitVec.toNat x : Nat) : Int)).cells.size)).toArray = Value.cells (arrW n g) := by
  rw [seg_put (pre := []) (post := []) (n := n) (f := fun j => .int .u64 ((BitVec.toNat (f j) : Nat) : Int)) (g := fun j => .int .u64 ((BitVec.toNat (g j) : Nat) : Int)) (by show arrF n _ = [] ++ arrF n _ ++ []; simp) rfl (by simpa using ho) hk (fun j hj => by rw [hg j hj]; split <;> rfl)]
  simp; rfl
theorem arrW_congr {n : Nat} {f g : Nat → BitVec 64} (h : ∀ k, k < n → f k = g k) : arrW n f = arrW n g := by
  unfold arrW arrF
  rw [List.map_congr_left fun k hk => by rw [h k (by simpa using hk)]]
def pS (s : List (BitVec 64)) (x : Nat) : Nat → BitVec 64
  | 0 => 0
  | y + 1 => pS s x y ^^^ nth s (x + 5 * y)
theorem pS5 (s : List (BitVec 64)) (x : Nat) : pS s x 5 = cC s x := by
  show ((((0 ^^^ nth s x) ^^^ nth s (x + 5)) ^^^ nth s (x + 10)) ^^^ nth s (x + 15)) ^^^ nth s (x + 20) = _
  rw [show (0 : BitVec 64) = 0#64 from rfl, BitVec.zero_xor]; rfl
def cF (s : List (BitVec 64)) (x y k : Nat) : BitVec 64 := if k < x then cC s k else if k = x then pS s x y else 0
theorem cF_put (s : List (BitVec 64)) (x y j : Nat) : cF s x (y + 1) j = if j = x then cF s x y x ^^^ nth s (x + 5 * y) else cF s x y j := by
  unfold cF
  by_cases h : j = x
  · subst h; simp [pS]
  · rw [if_neg h, if_neg h, if_neg h]
theorem cF_row (s : List (BitVec 64)) (x y : Nat) (h : y = 5) : arrW 5 (cF s x y) = arrW 5 (cF s (x + 1) 0) := by
  subst h
  refine arrW_congr fun k _ => ?_
  unfold cF
  by_cases h1 : k < x
  · rw [if_pos h1, if_pos (by omega)]
  · rw [if_neg h1]
    by_cases h2 : k = x
    · rw [if_pos h2, if_pos (by omega), pS5, h2]
    · rw [if_neg h2, if_neg (by omega)]
      by_cases h3 : k = x + 1
      · rw [if_pos h3]; rfl
      · rw [if_neg h3]
theorem cF_all (s : List (BitVec 64)) (x : Nat) (h : x = 5) : arrW 5 (cF s x 0) = arrW 5 (cC s) := by
  subst h; exact arrW_congr fun k hk => by unfold cF; rw [if_pos hk]
def rk (k : Nat) : Nat := (3 * (k / 5) + k % 5) % 5 * 5 + k % 5
def bF (s : List (BitVec 64)) (x y k : Nat) : BitVec 64 := if rk k < 5 * x + y then pI s k else 0
theorem rk_lt (k : Nat) : rk k < 25 := by unfold rk; omega
theorem rk_one : ∀ x, x < 5 → ∀ y, y < 5 → ∀ k, k < 25 → (rk k = 5 * x + y ↔ k = y % 5 + 5 * ((2 * x + 3 * y) % 5)) := by decide
theorem bF_put (s : List (BitVec 64)) {x y j : Nat} (hx : x < 5) (hy : y < 5) (hj : j < 25) : bF s x (y + 1) j = if j = y % 5 + 5 * ((2 * x + 3 * y) % 5) then pI s (y % 5 + 5 * ((2 * x + 3 * y) % 5)) else bF s x y j := by
  have h := rk_one x hx y hy j hj
  unfold bF
  by_cases h1 : j = y % 5 + 5 * ((2 * x + 3 * y) % 5)
  · rw [if_pos h1, if_pos (by have := h.2 h1; omega), ← h1]
  · rw [if_neg h1]
    have h2 : rk j ≠ 5 * x + y := fun e => h1 (h.1 e)
    by_cases h3 : rk j < 5 * x + y
    · rw [if_pos h3, if_pos (by omega)]
    · rw [if_neg h3, if_neg (by omega)]
theorem bF_row (s : List (BitVec 64)) (x y : Nat) (h : y = 5) : arrW 25 (bF s x y) = arrW 25 (bF s (x + 1) 0) := by subst h; rfl
theorem bF_all (s : List (BitVec 64)) (x : Nat) (h : x = 5) : arrW 25 (bF s x 0) = arrW 25 (pI s) := by
  subst h; exact arrW_congr fun k _ => by unfold bF; rw [if_pos (rk_lt k)]
def oF (s : List (BitVec 64)) (x y k : Nat) : BitVec 64 := if k % 5 * 5 + k / 5 < 5 * x + y then xI (pI s) k else 0
theorem oF_put (s : List (BitVec 64)) {x y j : Nat} (hx : x < 5) (hy : y < 5) (hj : j < 25) : oF s x (y + 1) j = if j = x + 5 * y then xI (pI s) (x + 5 * y) else oF s x y j := by
  unfold oF
  by_cases h1 : j = x + 5 * y
  · rw [if_pos h1, if_pos (by omega), h1]
  · rw [if_neg h1]
    by_cases h3 : j % 5 * 5 + j / 5 < 5 * x + y
    · rw [if_pos h3, if_pos (by omega)]
    · rw [if_neg h3, if_neg (by omega)]
theorem oF_row (s : List (BitVec 64)) (x y : Nat) (h : y = 5) : arrW 25 (oF s x y) = arrW 25 (oF s (x + 1) 0) := by subst h; rfl
theorem oF_all (s : List (BitVec 64)) (x : Nat) (h : x = 5) : arrW 25 (oF s x 0) = svn (rnd s) := by
  subst h
  rw [arrW_congr (g := xI (pI s)) fun k hk => by unfold oF; rw [if_pos (by omega)]]
  rfl
theorem oF_rm (s : List (BitVec 64)) (z : BitVec 64) {x : Nat} (h : x = 5) :
    (List.take 0 (arrW 25 (oF s x 0)).cells.toList ++ (Value.int .u64 ((BitVec.toNat (oF s x 0 0 ^^^ z) : Nat) : Int)).cells.toList ++ List.drop (0 + (Value.int .u64 ((BitVec.toNat (oF s x 0 0 ^^^ z) : Nat) : Int)).cells.size) (arrW 25 (oF s x 0)).cells.toList).toArray = (svn (rm s z)).cells := by
  rw [oF_all s x h]; subst h; exact svn_rm s z
theorem th_at (s : List (BitVec 64)) {x y : Nat} (hx : x < 5) : nth s (x + 5 * y) ^^^ dD (cC s) x = th s (x + 5 * y) := by
  unfold th; rw [show (x + 5 * y) % 5 = x by omega]
theorem sr_at : ∀ x, x < 5 → ∀ y, y < 5 → srcT.getD (y % 5 + 5 * ((2 * x + 3 * y) % 5)) 0 = x + 5 * y ∧ rotT.getD (y % 5 + 5 * ((2 * x + 3 * y) % 5)) 0 = rotN x y ∧ rotN x y < 64 := by decide
theorem leftR_fn (s : List (BitVec 64)) (x y : Nat) (hx : x < 5) (hy : y < 5) : Fn Tryz.prog 100 #[.int .u64 ((BitVec.toNat (th s (x + 5 * y)) : Nat) : Int), .int .i64 ((rotN x y : Nat) : Int)] (.int .u64 ((BitVec.toNat (pI s (y % 5 + 5 * ((2 * x + 3 * y) % 5))) : Nat) : Int)) := by
  obtain ⟨h1, h2, h3⟩ := sr_at x hx y hy
  unfold pI; rw [h1, h2]
  by_cases h : rotN x y = 0
  · rw [h, rl0]; exact left0_fn _
  · exact left_fn _ _ (by omega) h3
theorem xI_at (b : Nat → BitVec 64) {x y : Nat} (hx : x < 5) (hy : y < 5) : b (x + 5 * y) ^^^ (~~~(b ((x + 1) % 5 + 5 * (y % 5))) &&& b ((x + 2) % 5 + 5 * (y % 5))) = xI b (x + 5 * y) := by
  unfold xI rowX
  rw [show (x + 5 * y) / 5 * 5 + ((x + 5 * y) % 5 + 1) % 5 = (x + 1) % 5 + 5 * (y % 5) by omega, show (x + 5 * y) / 5 * 5 + ((x + 5 * y) % 5 + 2) % 5 = (x + 2) % 5 + 5 * (y % 5) by omega, BitVec.and_comm]
set_option maxRecDepth 100000 in
set_option maxHeartbeats 2000000 in
theorem roundR_fn (s : List (BitVec 64)) (i : Nat) (hi : i < 24) : Fn Tryz.prog 83 #[svn s, .int .i64 ((i : Nat) : Int)] (svn (rm s (lastB i 7))) := by
  refine Fn.intro (c := codeOf Tryz.f83) [.cell 4 96] 117 Tryz.func83 kr kr kr fun w => ?_
  have H0 := St.start w
  refine rS [.b, .a] H0 kr fun gs1 w1 H1 => ?_
  clear H0
  refine rS [.v, .a, .s 2] H1 kr fun gs2 w2 H2 => ?_
  clear H1
  refine g_seq kr ?_
  refine rS [.v] H2 kr fun gs3 w3 H3 => ?_
  clear H2
  refine g_block 0 kr ?_
  have HL1 : St w.heap.size w w3 [((gs1 0).b, Obj.cells (Value.cells (svn s)) 96 (0, 0)), ((gs1 1).b, Obj.cells #[.int .u64 0, .int .u64 0, .int .u64 0, .int .u64 0, .int .u64 0, .int .u64 0, .int .u64 0, .int .u64 0, .int .u64 0, .int .u64 0, .int .u64 0, .int .u64 0, .int .u64 0, .int .u64 0, .int .u64 0, .int .u64 0, .int .u64 0, .int .u64 0, .int .u64 0, .int .u64 0, .int .u64 0, .int .u64 0, .int .u64 0, .int .u64 0, .int .u64 0] 96 (0, 0)), ((gs2 1).b, Obj.cells #[.int .u64 0, .int .u64 0, .int .u64 0, .int .u64 0, .int .u64 0] 141 (0, 0))] := H3.as kr
  clear H3
  have HM2 : St w.heap.size w w3 [((gs1 0).b, Obj.cells (Value.cells (svn s)) 96 (0, 0)), ((gs1 1).b, Obj.cells #[.int .u64 0, .int .u64 0, .int .u64 0, .int .u64 0, .int .u64 0, .int .u64 0, .int .u64 0, .int .u64 0, .int .u64 0, .int .u64 0, .int .u64 0, .int .u64 0, .int .u64 0, .int .u64 0, .int .u64 0, .int .u64 0, .int .u64 0, .int .u64 0, .int .u64 0, .int .u64 0, .int .u64 0, .int .u64 0, .int .u64 0, .int .u64 0, .int .u64 0] 96 (0, 0)), ((gs2 1).b, Obj.cells (Value.cells (arrW 5 (cF s 0 0))) 141 (0, 0))] := HL1
  refine g_loop kr (fun mz ρ ww => ∃ (x : Nat), 5 - x = mz ∧ (x ≤ 5) ∧ St w.heap.size w ww [((gs1 0).b, Obj.cells (Value.cells (svn s)) 96 (0, 0)), ((gs1 1).b, Obj.cells #[.int .u64 0, .int .u64 0, .int .u64 0, .int .u64 0, .int .u64 0, .int .u64 0, .int .u64 0, .int .u64 0, .int .u64 0, .int .u64 0, .int .u64 0, .int .u64 0, .int .u64 0, .int .u64 0, .int .u64 0, .int .u64 0, .int .u64 0, .int .u64 0, .int .u64 0, .int .u64 0, .int .u64 0, .int .u64 0, .int .u64 0, .int .u64 0, .int .u64 0] 96 (0, 0)), ((gs2 1).b, Obj.cells (Value.cells (arrW 5 (cF s x 0))) 141 (0, 0))] ∧ Is [(0, svn s), (1, .int .i64 ((i : Nat) : Int)), (2, .pointer (some ⟨(gs1 0).b, 0, none⟩)), (4, .pointer (some ⟨(gs1 1).b, 0, none⟩)), (5, .pointer (some ⟨(gs2 1).b, 0, none⟩)), (6, .int .i64 ((x : Nat) : Int))] ρ) (5 - 0) ⟨0, rfl, (by omega), HM2, (Is.of ⟨kr, kr, kr, kr, kr, kr, trivial⟩)⟩ ?_
  clear HM2
  rintro _ _ w4 ⟨x, rfl, hx, H4, _, rfl⟩
  refine g_seq kr ?_
  refine g_sreg [0, 1] kr kr ?_
  refine rp [.v] H4 kr fun gs5 w5 H5 => ?_
  show WPs _ _ _ _ [1] _ _
  clear H4
  by_cases hc3 : (x : Nat) < 5
  · skip
    refine rp [.e (v := .bool (decide (((x : Nat) : Int) < 5))) (v' := .bool true) (bool_eq (decide_eq_true (by omega)))] H5 kr fun gs6 w6 H6 => ?_
    show WPs _ _ _ _ [] _ _
    clear H5
    refine s_nil ?_
    refine g_cond_t kr kr ?_
    refine g_skip kr ?_
    show WP _ _ _ _ _ _
    refine g_seq kr ?_
    refine g_block 1 kr ?_
    refine rS [.v] H6 kr fun gs7 w7 H7 => ?_
    clear H6
    refine g_block 2 kr ?_
    have HL4 : St w.heap.size w w7 [((gs1 0).b, Obj.cells (Value.cells (svn s)) 96 (0, 0)), ((gs1 1).b, Obj.cells #[.int .u64 0, .int .u64 0, .int .u64 0, .int .u64 0, .int .u64 0, .int .u64 0, .int .u64 0, .int .u64 0, .int .u64 0, .int .u64 0, .int .u64 0, .int .u64 0, .int .u64 0, .int .u64 0, .int .u64 0, .int .u64 0, .int .u64 0, .int .u64 0, .int .u64 0, .int .u64 0, .int .u64 0, .int .u64 0, .int .u64 0, .int .u64 0, .int .u64 0] 96 (0, 0)), ((gs2 1).b, Obj.cells (Value.cells (arrW 5 (cF s x 0))) 141 (0, 0))] := H7.as kr
    clear H7
    refine g_loop kr (fun mz ρ ww => ∃ (y : Nat), 5 - y = mz ∧ (y ≤ 5) ∧ St w.heap.size w ww [((gs1 0).b, Obj.cells (Value.cells (svn s)) 96 (0, 0)), ((gs1 1).b, Obj.cells #[.int .u64 0, .int .u64 0, .int .u64 0, .int .u64 0, .int .u64 0, .int .u64 0, .int .u64 0, .int .u64 0, .int .u64 0, .int .u64 0, .int .u64 0, .int .u64 0, .int .u64 0, .int .u64 0, .int .u64 0, .int .u64 0, .int .u64 0, .int .u64 0, .int .u64 0, .int .u64 0, .int .u64 0, .int .u64 0, .int .u64 0, .int .u64 0, .int .u64 0] 96 (0, 0)), ((gs2 1).b, Obj.cells (Value.cells (arrW 5 (cF s x y))) 141 (0, 0))] ∧ Is [(0, svn s), (1, .int .i64 ((i : Nat) : Int)), (2, .pointer (some ⟨(gs1 0).b, 0, none⟩)), (4, .pointer (some ⟨(gs1 1).b, 0, none⟩)), (5, .pointer (some ⟨(gs2 1).b, 0, none⟩)), (6, .int .i64 ((x : Nat) : Int)), (7, .int .i64 ((y : Nat) : Int)), (18, .bool true)] ρ) (5 - 0) ⟨0, rfl, (by omega), HL4, (Is.of ⟨kr, kr, kr, kr, kr, kr, kr, kr, trivial⟩)⟩ ?_
    clear HL4
    rintro _ _ w8 ⟨y, rfl, hy, H8, _, rfl⟩
    refine g_seq kr ?_
    refine g_sreg [0, 1] kr kr ?_
    refine rp [.v] H8 kr fun gs9 w9 H9 => ?_
    show WPs _ _ _ _ [1] _ _
    clear H8
    by_cases hc5 : (y : Nat) < 5
    · skip
      refine rp [.e (v := .bool (decide (((y : Nat) : Int) < 5))) (v' := .bool true) (bool_eq (decide_eq_true (by omega)))] H9 kr fun gs10 w10 H10 => ?_
      show WPs _ _ _ _ [] _ _
      clear H9
      refine s_nil ?_
      refine g_cond_t kr kr ?_
      refine g_skip kr ?_
      show WP _ _ _ _ _ _
      refine g_seq kr ?_
      refine g_block 3 kr ?_
      refine dL [.v, .v, .o (ins := [((.tmp 5), .pointer (some ⟨(gs2 1).b, 0, none⟩)), ((.tmp 26), .int .i64 ((x : Nat) : Int))]) (v := .pointer (some ⟨(gs2 1).b, 0 + x * 1, none⟩)) (fun ρ o w ho hi => idxA_run (kd := .i64) (t := 141) (n := 5) (size := 1) kr (x := (.tmp 5)) (y := (.tmp 26)) (gs2 1).b 0 x ho hi.1 hi.2.1 (by omega) w), .ls (C := (Value.cells (arrW 5 (cF s x y)))) (off := 0 + x * 1) (v := .int .u64 ((BitVec.toNat (cF s x y x) : Nat) : Int)) 2 (arrW_at (n := 5) (cF s x y) (k := x) (by omega) (by omega)), .v, .v, .c (at_fn x y (by omega) (by omega)), .o (ins := [((.tmp 2), .pointer (some ⟨(gs1 0).b, 0, none⟩)), ((.tmp 31), .int .i64 ((x % 5 + 5 * (y % 5) : Nat) : Int))]) (v := .pointer (some ⟨(gs1 0).b, 0 + (x % 5 + 5 * (y % 5)) * 1, none⟩)) (fun ρ o w ho hi => idxA_run (kd := .i64) (t := 96) (n := 25) (size := 1) kr (x := (.tmp 2)) (y := (.tmp 31)) (gs1 0).b 0 (x % 5 + 5 * (y % 5)) ho hi.1 hi.2.1 (by omega) w), .ls (C := (Value.cells (svn s))) (off := 0 + (x % 5 + 5 * (y % 5)) * 1) (v := .int .u64 ((BitVec.toNat (nth s (x + 5 * y)) : Nat) : Int)) 0 (svn_at s (x + 5 * y) _ (by omega) (by omega)), .e (v := .int .u64 (Go.bits .xor .u64 (((BitVec.toNat (cF s x y x) : Nat) : Int)) (((BitVec.toNat (nth s (x + 5 * y)) : Nat) : Int)))) (v' := .int .u64 ((BitVec.toNat ((cF s x y x) ^^^ (nth s (x + 5 * y))) : Nat) : Int)) (bv_xor_u64 (cF s x y x) (nth s (x + 5 * y))), .o (ins := [((.tmp 5), .pointer (some ⟨(gs2 1).b, 0, none⟩)), ((.tmp 25), .int .i64 ((x : Nat) : Int))]) (v := .pointer (some ⟨(gs2 1).b, 0 + x * 1, none⟩)) (fun ρ o w ho hi => idxA_run (kd := .i64) (t := 141) (n := 5) (size := 1) kr (x := (.tmp 5)) (y := (.tmp 25)) (gs2 1).b 0 x ho hi.1 hi.2.1 (by omega) w), .se (C := (Value.cells (arrW 5 (cF s x y)))) (C' := (Value.cells (arrW 5 (cF s x (y + 1))))) (off := 0 + x * 1) (v := .int .u64 ((BitVec.toNat ((cF s x y x) ^^^ (nth s (x + 5 * y))) : Nat) : Int)) 2 (by show _ + 1 ≤ 5; omega) (arrW_put (k := x) (x := (cF s x y x) ^^^ (nth s (x + 5 * y))) (by omega) (by omega) (fun j hj => cF_put s x y j))] H10 kr fun w11 H11 => ?_
      clear H10
      show WP _ _ _ _ _ _
      refine g_keep [0, 1, 2, 4, 5, 6, 7, 18, 22] fun ρ1 => ?_
      have HK6 := H11.keep
      clear H11
      refine rL [.v, .e (v := .int .i64 (IntKind.i64.wrap (((y : Nat) : Int) + 1))) (v' := .int .i64 ((y + 1 : Nat) : Int)) (int_eq (wrapAdd_i64 (a := y) (b := 1) (by omega))), .v] HK6 kr fun gs12 w12 H12 => ?_
      clear HK6
      have HL7 : St w.heap.size w w12 [((gs1 0).b, Obj.cells (Value.cells (svn s)) 96 (0, 0)), ((gs1 1).b, Obj.cells #[.int .u64 0, .int .u64 0, .int .u64 0, .int .u64 0, .int .u64 0, .int .u64 0, .int .u64 0, .int .u64 0, .int .u64 0, .int .u64 0, .int .u64 0, .int .u64 0, .int .u64 0, .int .u64 0, .int .u64 0, .int .u64 0, .int .u64 0, .int .u64 0, .int .u64 0, .int .u64 0, .int .u64 0, .int .u64 0, .int .u64 0, .int .u64 0, .int .u64 0] 96 (0, 0)), ((gs2 1).b, Obj.cells (Value.cells (arrW 5 (cF s x (y + 1)))) 141 (0, 0))] := H12.as kr
      clear H12
      show ∃ m, _ ∧ _
      exact ⟨_, (by omega), (y + 1), rfl, (by omega), HL7, (Is.of ⟨kr, kr, kr, kr, kr, kr, kr, kr, trivial⟩)⟩
    · skip
      refine rp [.e (v := .bool (decide (((y : Nat) : Int) < 5))) (v' := .bool false) (bool_eq (decide_eq_false (by omega)))] H9 kr fun gs13 w13 H13 => ?_
      show WPs _ _ _ _ [] _ _
      clear H9
      refine s_nil ?_
      refine g_cond_f kr kr ?_
      refine g_exit 2 kr ?_
      show WP _ _ _ _ _ _
      refine rL [.v, .e (v := .int .i64 (IntKind.i64.wrap (((x : Nat) : Int) + 1))) (v' := .int .i64 ((x + 1 : Nat) : Int)) (int_eq (wrapAdd_i64 (a := x) (b := 1) (by omega))), .v] H13 kr fun gs14 w14 H14 => ?_
      clear H13
      have HL8 : St w.heap.size w w14 [((gs1 0).b, Obj.cells (Value.cells (svn s)) 96 (0, 0)), ((gs1 1).b, Obj.cells #[.int .u64 0, .int .u64 0, .int .u64 0, .int .u64 0, .int .u64 0, .int .u64 0, .int .u64 0, .int .u64 0, .int .u64 0, .int .u64 0, .int .u64 0, .int .u64 0, .int .u64 0, .int .u64 0, .int .u64 0, .int .u64 0, .int .u64 0, .int .u64 0, .int .u64 0, .int .u64 0, .int .u64 0, .int .u64 0, .int .u64 0, .int .u64 0, .int .u64 0] 96 (0, 0)), ((gs2 1).b, Obj.cells (Value.cells (arrW 5 (cF s x y))) 141 (0, 0))] := H14.as kr
      clear H14
      have HM9 : St w.heap.size w w14 [((gs1 0).b, Obj.cells (Value.cells (svn s)) 96 (0, 0)), ((gs1 1).b, Obj.cells #[.int .u64 0, .int .u64 0, .int .u64 0, .int .u64 0, .int .u64 0, .int .u64 0, .int .u64 0, .int .u64 0, .int .u64 0, .int .u64 0, .int .u64 0, .int .u64 0, .int .u64 0, .int .u64 0, .int .u64 0, .int .u64 0, .int .u64 0, .int .u64 0, .int .u64 0, .int .u64 0, .int .u64 0, .int .u64 0, .int .u64 0, .int .u64 0, .int .u64 0] 96 (0, 0)), ((gs2 1).b, Obj.cells (Value.cells (arrW 5 (cF s (x + 1) 0))) 141 (0, 0))] := by have h := HL8; rw [cF_row s x y (by omega)] at h; exact h
      show ∃ m, _ ∧ _
      exact ⟨_, (by omega), (x + 1), rfl, (by omega), HM9, (Is.of ⟨kr, kr, kr, kr, kr, kr, trivial⟩)⟩
  · skip
    refine rp [.e (v := .bool (decide (((x : Nat) : Int) < 5))) (v' := .bool false) (bool_eq (decide_eq_false (by omega)))] H5 kr fun gs15 w15 H15 => ?_
    show WPs _ _ _ _ [] _ _
    clear H5
    refine s_nil ?_
    refine g_cond_f kr kr ?_
    refine g_exit 0 kr ?_
    show WP _ _ _ _ _ _
    refine rS [.v, .a, .s 3] H15 kr fun gs16 w16 H16 => ?_
    clear H15
    refine g_seq kr ?_
    refine rS [.v] H16 kr fun gs17 w17 H17 => ?_
    clear H16
    refine g_block 4 kr ?_
    have HL10 : St w.heap.size w w17 [((gs1 0).b, Obj.cells (Value.cells (svn s)) 96 (0, 0)), ((gs1 1).b, Obj.cells #[.int .u64 0, .int .u64 0, .int .u64 0, .int .u64 0, .int .u64 0, .int .u64 0, .int .u64 0, .int .u64 0, .int .u64 0, .int .u64 0, .int .u64 0, .int .u64 0, .int .u64 0, .int .u64 0, .int .u64 0, .int .u64 0, .int .u64 0, .int .u64 0, .int .u64 0, .int .u64 0, .int .u64 0, .int .u64 0, .int .u64 0, .int .u64 0, .int .u64 0] 96 (0, 0)), ((gs2 1).b, Obj.cells (Value.cells (arrW 5 (cF s x 0))) 141 (0, 0)), ((gs16 1).b, Obj.cells #[.int .u64 0, .int .u64 0, .int .u64 0, .int .u64 0, .int .u64 0, .int .u64 0, .int .u64 0, .int .u64 0, .int .u64 0, .int .u64 0, .int .u64 0, .int .u64 0, .int .u64 0, .int .u64 0, .int .u64 0, .int .u64 0, .int .u64 0, .int .u64 0, .int .u64 0, .int .u64 0, .int .u64 0, .int .u64 0, .int .u64 0, .int .u64 0, .int .u64 0] 96 (0, 0))] := H17.as kr
    clear H17
    have HM11 : St w.heap.size w w17 [((gs1 0).b, Obj.cells (Value.cells (svn s)) 96 (0, 0)), ((gs1 1).b, Obj.cells #[.int .u64 0, .int .u64 0, .int .u64 0, .int .u64 0, .int .u64 0, .int .u64 0, .int .u64 0, .int .u64 0, .int .u64 0, .int .u64 0, .int .u64 0, .int .u64 0, .int .u64 0, .int .u64 0, .int .u64 0, .int .u64 0, .int .u64 0, .int .u64 0, .int .u64 0, .int .u64 0, .int .u64 0, .int .u64 0, .int .u64 0, .int .u64 0, .int .u64 0] 96 (0, 0)), ((gs2 1).b, Obj.cells (Value.cells (arrW 5 (cC s))) 141 (0, 0)), ((gs16 1).b, Obj.cells #[.int .u64 0, .int .u64 0, .int .u64 0, .int .u64 0, .int .u64 0, .int .u64 0, .int .u64 0, .int .u64 0, .int .u64 0, .int .u64 0, .int .u64 0, .int .u64 0, .int .u64 0, .int .u64 0, .int .u64 0, .int .u64 0, .int .u64 0, .int .u64 0, .int .u64 0, .int .u64 0, .int .u64 0, .int .u64 0, .int .u64 0, .int .u64 0, .int .u64 0] 96 (0, 0))] := by have h := HL10; rw [cF_all s x (by omega)] at h; exact h
    have HM12 : St w.heap.size w w17 [((gs1 0).b, Obj.cells (Value.cells (svn s)) 96 (0, 0)), ((gs1 1).b, Obj.cells #[.int .u64 0, .int .u64 0, .int .u64 0, .int .u64 0, .int .u64 0, .int .u64 0, .int .u64 0, .int .u64 0, .int .u64 0, .int .u64 0, .int .u64 0, .int .u64 0, .int .u64 0, .int .u64 0, .int .u64 0, .int .u64 0, .int .u64 0, .int .u64 0, .int .u64 0, .int .u64 0, .int .u64 0, .int .u64 0, .int .u64 0, .int .u64 0, .int .u64 0] 96 (0, 0)), ((gs2 1).b, Obj.cells (Value.cells (arrW 5 (cC s))) 141 (0, 0)), ((gs16 1).b, Obj.cells (Value.cells (arrW 25 (bF s 0 0))) 96 (0, 0))] := HM11
    refine g_loop kr (fun mz ρ ww => ∃ (u : Nat), 5 - u = mz ∧ (u ≤ 5) ∧ St w.heap.size w ww [((gs1 0).b, Obj.cells (Value.cells (svn s)) 96 (0, 0)), ((gs1 1).b, Obj.cells #[.int .u64 0, .int .u64 0, .int .u64 0, .int .u64 0, .int .u64 0, .int .u64 0, .int .u64 0, .int .u64 0, .int .u64 0, .int .u64 0, .int .u64 0, .int .u64 0, .int .u64 0, .int .u64 0, .int .u64 0, .int .u64 0, .int .u64 0, .int .u64 0, .int .u64 0, .int .u64 0, .int .u64 0, .int .u64 0, .int .u64 0, .int .u64 0, .int .u64 0] 96 (0, 0)), ((gs2 1).b, Obj.cells (Value.cells (arrW 5 (cC s))) 141 (0, 0)), ((gs16 1).b, Obj.cells (Value.cells (arrW 25 (bF s u 0))) 96 (0, 0))] ∧ Is [(0, svn s), (1, .int .i64 ((i : Nat) : Int)), (2, .pointer (some ⟨(gs1 0).b, 0, none⟩)), (4, .pointer (some ⟨(gs1 1).b, 0, none⟩)), (5, .pointer (some ⟨(gs2 1).b, 0, none⟩)), (6, .int .i64 ((x : Nat) : Int)), (8, .pointer (some ⟨(gs16 1).b, 0, none⟩)), (9, .int .i64 ((u : Nat) : Int)), (18, .bool false)] ρ) (5 - 0) ⟨0, rfl, (by omega), HM12, (Is.of ⟨kr, kr, kr, kr, kr, kr, kr, kr, kr, trivial⟩)⟩ ?_
    clear HM12
    rintro _ _ w18 ⟨u, rfl, hu, H18, _, rfl⟩
    refine g_seq kr ?_
    refine g_sreg [0, 1] kr kr ?_
    refine rp [.v] H18 kr fun gs19 w19 H19 => ?_
    show WPs _ _ _ _ [1] _ _
    clear H18
    by_cases hc13 : (u : Nat) < 5
    · skip
      refine rp [.e (v := .bool (decide (((u : Nat) : Int) < 5))) (v' := .bool true) (bool_eq (decide_eq_true (by omega)))] H19 kr fun gs20 w20 H20 => ?_
      show WPs _ _ _ _ [] _ _
      clear H19
      refine s_nil ?_
      refine g_cond_t kr kr ?_
      refine g_skip kr ?_
      show WP _ _ _ _ _ _
      refine g_seq kr ?_
      refine g_block 5 kr ?_
      refine dS [.v, .e (v := .int .i64 (IntKind.i64.wrap (((u : Nat) : Int) + 4))) (v' := .int .i64 ((u + 4 : Nat) : Int)) (int_eq (wrapAdd_i64 (a := u) (b := 4) (by omega))), .e (v := .int .i64 (Int.tmod ((u + 4 : Nat) : Int) 5)) (v' := .int .i64 (((u + 4) % 5 : Nat) : Int)) (int_eq (remN (u + 4) 5)), .o (ins := [((.tmp 5), .pointer (some ⟨(gs2 1).b, 0, none⟩)), ((.tmp 43), .int .i64 (((u + 4) % 5 : Nat) : Int))]) (v := .pointer (some ⟨(gs2 1).b, 0 + ((u + 4) % 5) * 1, none⟩)) (fun ρ o w ho hi => idxA_run (kd := .i64) (t := 141) (n := 5) (size := 1) kr (x := (.tmp 5)) (y := (.tmp 43)) (gs2 1).b 0 ((u + 4) % 5) ho hi.1 hi.2.1 (by omega) w), .ls (C := (Value.cells (arrW 5 (cC s)))) (off := 0 + ((u + 4) % 5) * 1) (v := .int .u64 ((BitVec.toNat (cC s ((u + 4) % 5)) : Nat) : Int)) 2 (arrW_at (n := 5) (cC s) (k := ((u + 4) % 5)) (by omega) (by omega)), .v, .e (v := .int .i64 (IntKind.i64.wrap (((u : Nat) : Int) + 1))) (v' := .int .i64 ((u + 1 : Nat) : Int)) (int_eq (wrapAdd_i64 (a := u) (b := 1) (by omega))), .e (v := .int .i64 (Int.tmod ((u + 1 : Nat) : Int) 5)) (v' := .int .i64 (((u + 1) % 5 : Nat) : Int)) (int_eq (remN (u + 1) 5)), .o (ins := [((.tmp 5), .pointer (some ⟨(gs2 1).b, 0, none⟩)), ((.tmp 48), .int .i64 (((u + 1) % 5 : Nat) : Int))]) (v := .pointer (some ⟨(gs2 1).b, 0 + ((u + 1) % 5) * 1, none⟩)) (fun ρ o w ho hi => idxA_run (kd := .i64) (t := 141) (n := 5) (size := 1) kr (x := (.tmp 5)) (y := (.tmp 48)) (gs2 1).b 0 ((u + 1) % 5) ho hi.1 hi.2.1 (by omega) w), .ls (C := (Value.cells (arrW 5 (cC s)))) (off := 0 + ((u + 1) % 5) * 1) (v := .int .u64 ((BitVec.toNat (cC s ((u + 1) % 5)) : Nat) : Int)) 2 (arrW_at (n := 5) (cC s) (k := ((u + 1) % 5)) (by omega) (by omega)), .c (left_fn (cC s ((u + 1) % 5)) 1 (by omega) (by omega)), .e (v := .int .u64 (Go.bits .xor .u64 (((BitVec.toNat (cC s ((u + 4) % 5)) : Nat) : Int)) (((BitVec.toNat (rl (cC s ((u + 1) % 5)) 1) : Nat) : Int)))) (v' := .int .u64 ((BitVec.toNat (dD (cC s) u) : Nat) : Int)) (bv_xor_u64 (cC s ((u + 4) % 5)) (rl (cC s ((u + 1) % 5)) 1)), .v] H20 kr fun w21 H21 => ?_
      clear H20
      refine g_keep [0, 1, 2, 4, 5, 6, 8, 9, 10, 18, 38] fun ρ2 => ?_
      have HK14 := H21.keep
      clear H21
      refine rS [.v] HK14 kr fun gs22 w22 H22 => ?_
      clear HK14
      refine g_block 6 kr ?_
      have HL15 : St w.heap.size w w22 [((gs1 0).b, Obj.cells (Value.cells (svn s)) 96 (0, 0)), ((gs1 1).b, Obj.cells #[.int .u64 0, .int .u64 0, .int .u64 0, .int .u64 0, .int .u64 0, .int .u64 0, .int .u64 0, .int .u64 0, .int .u64 0, .int .u64 0, .int .u64 0, .int .u64 0, .int .u64 0, .int .u64 0, .int .u64 0, .int .u64 0, .int .u64 0, .int .u64 0, .int .u64 0, .int .u64 0, .int .u64 0, .int .u64 0, .int .u64 0, .int .u64 0, .int .u64 0] 96 (0, 0)), ((gs2 1).b, Obj.cells (Value.cells (arrW 5 (cC s))) 141 (0, 0)), ((gs16 1).b, Obj.cells (Value.cells (arrW 25 (bF s u 0))) 96 (0, 0))] := H22.as kr
      clear H22
      refine g_loop kr (fun mz ρ ww => ∃ (v : Nat), 5 - v = mz ∧ (v ≤ 5) ∧ St w.heap.size w ww [((gs1 0).b, Obj.cells (Value.cells (svn s)) 96 (0, 0)), ((gs1 1).b, Obj.cells #[.int .u64 0, .int .u64 0, .int .u64 0, .int .u64 0, .int .u64 0, .int .u64 0, .int .u64 0, .int .u64 0, .int .u64 0, .int .u64 0, .int .u64 0, .int .u64 0, .int .u64 0, .int .u64 0, .int .u64 0, .int .u64 0, .int .u64 0, .int .u64 0, .int .u64 0, .int .u64 0, .int .u64 0, .int .u64 0, .int .u64 0, .int .u64 0, .int .u64 0] 96 (0, 0)), ((gs2 1).b, Obj.cells (Value.cells (arrW 5 (cC s))) 141 (0, 0)), ((gs16 1).b, Obj.cells (Value.cells (arrW 25 (bF s u v))) 96 (0, 0))] ∧ Is [(0, svn s), (1, .int .i64 ((i : Nat) : Int)), (2, .pointer (some ⟨(gs1 0).b, 0, none⟩)), (4, .pointer (some ⟨(gs1 1).b, 0, none⟩)), (5, .pointer (some ⟨(gs2 1).b, 0, none⟩)), (6, .int .i64 ((x : Nat) : Int)), (8, .pointer (some ⟨(gs16 1).b, 0, none⟩)), (9, .int .i64 ((u : Nat) : Int)), (10, .int .u64 ((BitVec.toNat (dD (cC s) u) : Nat) : Int)), (11, .int .i64 ((v : Nat) : Int)), (18, .bool false), (38, .bool true)] ρ) (5 - 0) ⟨0, rfl, (by omega), HL15, (Is.of ⟨kr, kr, kr, kr, kr, kr, kr, kr, kr, kr, kr, kr, trivial⟩)⟩ ?_
      clear HL15
      rintro _ _ w23 ⟨v, rfl, hv, H23, _, rfl⟩
      refine g_seq kr ?_
      refine g_sreg [0, 1] kr kr ?_
      refine rp [.v] H23 kr fun gs24 w24 H24 => ?_
      show WPs _ _ _ _ [1] _ _
      clear H23
      by_cases hc16 : (v : Nat) < 5
      · skip
        refine rp [.e (v := .bool (decide (((v : Nat) : Int) < 5))) (v' := .bool true) (bool_eq (decide_eq_true (by omega)))] H24 kr fun gs25 w25 H25 => ?_
        show WPs _ _ _ _ [] _ _
        clear H24
        refine s_nil ?_
        refine g_cond_t kr kr ?_
        refine g_skip kr ?_
        show WP _ _ _ _ _ _
        refine g_seq kr ?_
        refine g_block 7 kr ?_
        refine dL [.v, .v, .e (v := .int .i64 (IntKind.i64.wrap (2 * ((u : Nat) : Int)))) (v' := .int .i64 ((2 * u : Nat) : Int)) (int_eq (wrapMul_i64 (a := 2) (b := u) (by omega))), .v, .e (v := .int .i64 (IntKind.i64.wrap (3 * ((v : Nat) : Int)))) (v' := .int .i64 ((3 * v : Nat) : Int)) (int_eq (wrapMul_i64 (a := 3) (b := v) (by omega))), .e (v := .int .i64 (IntKind.i64.wrap (((2 * u : Nat) : Int) + ((3 * v : Nat) : Int)))) (v' := .int .i64 (((2 * u) + (3 * v) : Nat) : Int)) (int_eq (wrapAdd_i64 (a := 2 * u) (b := 3 * v) (by omega))), .c (at_fn v ((2 * u) + (3 * v)) (by omega) (by omega)), .v, .v, .c (at_fn u v (by omega) (by omega)), .o (ins := [((.tmp 2), .pointer (some ⟨(gs1 0).b, 0, none⟩)), ((.tmp 66), .int .i64 ((u % 5 + 5 * (v % 5) : Nat) : Int))]) (v := .pointer (some ⟨(gs1 0).b, 0 + (u % 5 + 5 * (v % 5)) * 1, none⟩)) (fun ρ o w ho hi => idxA_run (kd := .i64) (t := 96) (n := 25) (size := 1) kr (x := (.tmp 2)) (y := (.tmp 66)) (gs1 0).b 0 (u % 5 + 5 * (v % 5)) ho hi.1 hi.2.1 (by omega) w), .ls (C := (Value.cells (svn s))) (off := 0 + (u % 5 + 5 * (v % 5)) * 1) (v := .int .u64 ((BitVec.toNat (nth s (u + 5 * v)) : Nat) : Int)) 0 (svn_at s (u + 5 * v) _ (by omega) (by omega)), .v, .e (v := .int .u64 (Go.bits .xor .u64 (((BitVec.toNat (nth s (u + 5 * v)) : Nat) : Int)) (((BitVec.toNat (dD (cC s) u) : Nat) : Int)))) (v' := .int .u64 ((BitVec.toNat (th s (u + 5 * v)) : Nat) : Int)) ((bv_xor_u64 (nth s (u + 5 * v)) (dD (cC s) u)).trans (bv_congr (th_at s (by omega)))), .v, .v, .c (turnR_fn u v (by omega) (by omega)), .c (leftR_fn s u v (by omega) (by omega)), .o (ins := [((.tmp 8), .pointer (some ⟨(gs16 1).b, 0, none⟩)), ((.tmp 63), .int .i64 ((v % 5 + 5 * (((2 * u) + (3 * v)) % 5) : Nat) : Int))]) (v := .pointer (some ⟨(gs16 1).b, 0 + (v % 5 + 5 * (((2 * u) + (3 * v)) % 5)) * 1, none⟩)) (fun ρ o w ho hi => idxA_run (kd := .i64) (t := 96) (n := 25) (size := 1) kr (x := (.tmp 8)) (y := (.tmp 63)) (gs16 1).b 0 (v % 5 + 5 * (((2 * u) + (3 * v)) % 5)) ho hi.1 hi.2.1 (by omega) w), .se (C := (Value.cells (arrW 25 (bF s u v)))) (C' := (Value.cells (arrW 25 (bF s u (v + 1))))) (off := 0 + (v % 5 + 5 * (((2 * u) + (3 * v)) % 5)) * 1) (v := .int .u64 ((BitVec.toNat (pI s (v % 5 + 5 * ((2 * u + 3 * v) % 5))) : Nat) : Int)) 3 (by show _ + 1 ≤ 25; omega) (arrW_put (k := v % 5 + 5 * ((2 * u + 3 * v) % 5)) (x := pI s (v % 5 + 5 * ((2 * u + 3 * v) % 5))) (by omega) (by omega) (fun j hj => bF_put s (by omega) (by omega) hj))] H25 kr fun w26 H26 => ?_
        clear H25
        show WP _ _ _ _ _ _
        refine g_keep [0, 1, 2, 4, 5, 6, 8, 9, 10, 11, 18, 38, 54] fun ρ3 => ?_
        have HK17 := H26.keep
        clear H26
        refine rL [.v, .e (v := .int .i64 (IntKind.i64.wrap (((v : Nat) : Int) + 1))) (v' := .int .i64 ((v + 1 : Nat) : Int)) (int_eq (wrapAdd_i64 (a := v) (b := 1) (by omega))), .v] HK17 kr fun gs27 w27 H27 => ?_
        clear HK17
        have HL18 : St w.heap.size w w27 [((gs1 0).b, Obj.cells (Value.cells (svn s)) 96 (0, 0)), ((gs1 1).b, Obj.cells #[.int .u64 0, .int .u64 0, .int .u64 0, .int .u64 0, .int .u64 0, .int .u64 0, .int .u64 0, .int .u64 0, .int .u64 0, .int .u64 0, .int .u64 0, .int .u64 0, .int .u64 0, .int .u64 0, .int .u64 0, .int .u64 0, .int .u64 0, .int .u64 0, .int .u64 0, .int .u64 0, .int .u64 0, .int .u64 0, .int .u64 0, .int .u64 0, .int .u64 0] 96 (0, 0)), ((gs2 1).b, Obj.cells (Value.cells (arrW 5 (cC s))) 141 (0, 0)), ((gs16 1).b, Obj.cells (Value.cells (arrW 25 (bF s u (v + 1)))) 96 (0, 0))] := H27.as kr
        clear H27
        show ∃ m, _ ∧ _
        exact ⟨_, (by omega), (v + 1), rfl, (by omega), HL18, (Is.of ⟨kr, kr, kr, kr, kr, kr, kr, kr, kr, kr, kr, kr, trivial⟩)⟩
      · skip
        refine rp [.e (v := .bool (decide (((v : Nat) : Int) < 5))) (v' := .bool false) (bool_eq (decide_eq_false (by omega)))] H24 kr fun gs28 w28 H28 => ?_
        show WPs _ _ _ _ [] _ _
        clear H24
        refine s_nil ?_
        refine g_cond_f kr kr ?_
        refine g_exit 6 kr ?_
        show WP _ _ _ _ _ _
        refine rL [.v, .e (v := .int .i64 (IntKind.i64.wrap (((u : Nat) : Int) + 1))) (v' := .int .i64 ((u + 1 : Nat) : Int)) (int_eq (wrapAdd_i64 (a := u) (b := 1) (by omega))), .v] H28 kr fun gs29 w29 H29 => ?_
        clear H28
        have HL19 : St w.heap.size w w29 [((gs1 0).b, Obj.cells (Value.cells (svn s)) 96 (0, 0)), ((gs1 1).b, Obj.cells #[.int .u64 0, .int .u64 0, .int .u64 0, .int .u64 0, .int .u64 0, .int .u64 0, .int .u64 0, .int .u64 0, .int .u64 0, .int .u64 0, .int .u64 0, .int .u64 0, .int .u64 0, .int .u64 0, .int .u64 0, .int .u64 0, .int .u64 0, .int .u64 0, .int .u64 0, .int .u64 0, .int .u64 0, .int .u64 0, .int .u64 0, .int .u64 0, .int .u64 0] 96 (0, 0)), ((gs2 1).b, Obj.cells (Value.cells (arrW 5 (cC s))) 141 (0, 0)), ((gs16 1).b, Obj.cells (Value.cells (arrW 25 (bF s u v))) 96 (0, 0))] := H29.as kr
        clear H29
        have HM20 : St w.heap.size w w29 [((gs1 0).b, Obj.cells (Value.cells (svn s)) 96 (0, 0)), ((gs1 1).b, Obj.cells #[.int .u64 0, .int .u64 0, .int .u64 0, .int .u64 0, .int .u64 0, .int .u64 0, .int .u64 0, .int .u64 0, .int .u64 0, .int .u64 0, .int .u64 0, .int .u64 0, .int .u64 0, .int .u64 0, .int .u64 0, .int .u64 0, .int .u64 0, .int .u64 0, .int .u64 0, .int .u64 0, .int .u64 0, .int .u64 0, .int .u64 0, .int .u64 0, .int .u64 0] 96 (0, 0)), ((gs2 1).b, Obj.cells (Value.cells (arrW 5 (cC s))) 141 (0, 0)), ((gs16 1).b, Obj.cells (Value.cells (arrW 25 (bF s (u + 1) 0))) 96 (0, 0))] := by have h := HL19; rw [bF_row s u v (by omega)] at h; exact h
        show ∃ m, _ ∧ _
        exact ⟨_, (by omega), (u + 1), rfl, (by omega), HM20, (Is.of ⟨kr, kr, kr, kr, kr, kr, kr, kr, kr, trivial⟩)⟩
    · skip
      refine rp [.e (v := .bool (decide (((u : Nat) : Int) < 5))) (v' := .bool false) (bool_eq (decide_eq_false (by omega)))] H19 kr fun gs30 w30 H30 => ?_
      show WPs _ _ _ _ [] _ _
      clear H19
      refine s_nil ?_
      refine g_cond_f kr kr ?_
      refine g_exit 4 kr ?_
      show WP _ _ _ _ _ _
      refine rS [.v, .a, .s 4] H30 kr fun gs31 w31 H31 => ?_
      clear H30
      refine g_keep [0, 1, 2, 4, 5, 6, 8, 9, 12, 18, 38] fun ρ4 => ?_
      have HK21 := H31.keep
      clear H31
      refine g_seq kr ?_
      refine rS [.v] HK21 kr fun gs32 w32 H32 => ?_
      clear HK21
      refine g_block 8 kr ?_
      have HL22 : St w.heap.size w w32 [((gs1 0).b, Obj.cells (Value.cells (svn s)) 96 (0, 0)), ((gs1 1).b, Obj.cells #[.int .u64 0, .int .u64 0, .int .u64 0, .int .u64 0, .int .u64 0, .int .u64 0, .int .u64 0, .int .u64 0, .int .u64 0, .int .u64 0, .int .u64 0, .int .u64 0, .int .u64 0, .int .u64 0, .int .u64 0, .int .u64 0, .int .u64 0, .int .u64 0, .int .u64 0, .int .u64 0, .int .u64 0, .int .u64 0, .int .u64 0, .int .u64 0, .int .u64 0] 96 (0, 0)), ((gs2 1).b, Obj.cells (Value.cells (arrW 5 (cC s))) 141 (0, 0)), ((gs16 1).b, Obj.cells (Value.cells (arrW 25 (bF s u 0))) 96 (0, 0)), ((gs31 1).b, Obj.cells #[.int .u64 0, .int .u64 0, .int .u64 0, .int .u64 0, .int .u64 0, .int .u64 0, .int .u64 0, .int .u64 0, .int .u64 0, .int .u64 0, .int .u64 0, .int .u64 0, .int .u64 0, .int .u64 0, .int .u64 0, .int .u64 0, .int .u64 0, .int .u64 0, .int .u64 0, .int .u64 0, .int .u64 0, .int .u64 0, .int .u64 0, .int .u64 0, .int .u64 0] 96 (0, 0))] := H32.as kr
      clear H32
      have HM23 : St w.heap.size w w32 [((gs1 0).b, Obj.cells (Value.cells (svn s)) 96 (0, 0)), ((gs1 1).b, Obj.cells #[.int .u64 0, .int .u64 0, .int .u64 0, .int .u64 0, .int .u64 0, .int .u64 0, .int .u64 0, .int .u64 0, .int .u64 0, .int .u64 0, .int .u64 0, .int .u64 0, .int .u64 0, .int .u64 0, .int .u64 0, .int .u64 0, .int .u64 0, .int .u64 0, .int .u64 0, .int .u64 0, .int .u64 0, .int .u64 0, .int .u64 0, .int .u64 0, .int .u64 0] 96 (0, 0)), ((gs2 1).b, Obj.cells (Value.cells (arrW 5 (cC s))) 141 (0, 0)), ((gs16 1).b, Obj.cells (Value.cells (arrW 25 (pI s))) 96 (0, 0)), ((gs31 1).b, Obj.cells #[.int .u64 0, .int .u64 0, .int .u64 0, .int .u64 0, .int .u64 0, .int .u64 0, .int .u64 0, .int .u64 0, .int .u64 0, .int .u64 0, .int .u64 0, .int .u64 0, .int .u64 0, .int .u64 0, .int .u64 0, .int .u64 0, .int .u64 0, .int .u64 0, .int .u64 0, .int .u64 0, .int .u64 0, .int .u64 0, .int .u64 0, .int .u64 0, .int .u64 0] 96 (0, 0))] := by have h := HL22; rw [bF_all s u (by omega)] at h; exact h
      have HM24 : St w.heap.size w w32 [((gs1 0).b, Obj.cells (Value.cells (svn s)) 96 (0, 0)), ((gs1 1).b, Obj.cells #[.int .u64 0, .int .u64 0, .int .u64 0, .int .u64 0, .int .u64 0, .int .u64 0, .int .u64 0, .int .u64 0, .int .u64 0, .int .u64 0, .int .u64 0, .int .u64 0, .int .u64 0, .int .u64 0, .int .u64 0, .int .u64 0, .int .u64 0, .int .u64 0, .int .u64 0, .int .u64 0, .int .u64 0, .int .u64 0, .int .u64 0, .int .u64 0, .int .u64 0] 96 (0, 0)), ((gs2 1).b, Obj.cells (Value.cells (arrW 5 (cC s))) 141 (0, 0)), ((gs16 1).b, Obj.cells (Value.cells (arrW 25 (pI s))) 96 (0, 0)), ((gs31 1).b, Obj.cells (Value.cells (arrW 25 (oF s 0 0))) 96 (0, 0))] := HM23
      have HD25 : St w.heap.size w w32 [((gs1 1).b, Obj.cells #[.int .u64 0, .int .u64 0, .int .u64 0, .int .u64 0, .int .u64 0, .int .u64 0, .int .u64 0, .int .u64 0, .int .u64 0, .int .u64 0, .int .u64 0, .int .u64 0, .int .u64 0, .int .u64 0, .int .u64 0, .int .u64 0, .int .u64 0, .int .u64 0, .int .u64 0, .int .u64 0, .int .u64 0, .int .u64 0, .int .u64 0, .int .u64 0, .int .u64 0] 96 (0, 0)), ((gs16 1).b, Obj.cells (Value.cells (arrW 25 (pI s))) 96 (0, 0)), ((gs31 1).b, Obj.cells (Value.cells (arrW 25 (oF s 0 0))) 96 (0, 0))] := HM24.sub (List.Sublist.cons _ (List.Sublist.cons_cons _ (List.Sublist.cons _ (List.Sublist.cons_cons _ (List.Sublist.cons_cons _ List.Sublist.slnil)))))
      refine g_loop kr (fun mz ρ ww => ∃ (m : Nat), 5 - m = mz ∧ (m ≤ 5) ∧ St w.heap.size w ww [((gs1 1).b, Obj.cells #[.int .u64 0, .int .u64 0, .int .u64 0, .int .u64 0, .int .u64 0, .int .u64 0, .int .u64 0, .int .u64 0, .int .u64 0, .int .u64 0, .int .u64 0, .int .u64 0, .int .u64 0, .int .u64 0, .int .u64 0, .int .u64 0, .int .u64 0, .int .u64 0, .int .u64 0, .int .u64 0, .int .u64 0, .int .u64 0, .int .u64 0, .int .u64 0, .int .u64 0] 96 (0, 0)), ((gs16 1).b, Obj.cells (Value.cells (arrW 25 (pI s))) 96 (0, 0)), ((gs31 1).b, Obj.cells (Value.cells (arrW 25 (oF s m 0))) 96 (0, 0))] ∧ Is [(0, svn s), (1, .int .i64 ((i : Nat) : Int)), (2, .pointer (some ⟨(gs1 0).b, 0, none⟩)), (4, .pointer (some ⟨(gs1 1).b, 0, none⟩)), (5, .pointer (some ⟨(gs2 1).b, 0, none⟩)), (6, .int .i64 ((x : Nat) : Int)), (8, .pointer (some ⟨(gs16 1).b, 0, none⟩)), (9, .int .i64 ((u : Nat) : Int)), (12, .pointer (some ⟨(gs31 1).b, 0, none⟩)), (13, .int .i64 ((m : Nat) : Int)), (18, .bool false), (38, .bool false)] ρ) (5 - 0) ⟨0, rfl, (by omega), HD25, (Is.of ⟨kr, kr, kr, kr, kr, kr, kr, kr, kr, kr, kr, kr, trivial⟩)⟩ ?_
      clear HD25
      rintro _ _ w33 ⟨m, rfl, hm, H33, _, rfl⟩
      refine g_seq kr ?_
      refine g_sreg [0, 1] kr kr ?_
      refine rp [.v] H33 kr fun gs34 w34 H34 => ?_
      show WPs _ _ _ _ [1] _ _
      clear H33
      by_cases hc26 : (m : Nat) < 5
      · skip
        refine rp [.e (v := .bool (decide (((m : Nat) : Int) < 5))) (v' := .bool true) (bool_eq (decide_eq_true (by omega)))] H34 kr fun gs35 w35 H35 => ?_
        show WPs _ _ _ _ [] _ _
        clear H34
        refine s_nil ?_
        refine g_cond_t kr kr ?_
        refine g_skip kr ?_
        show WP _ _ _ _ _ _
        refine g_seq kr ?_
        refine g_block 9 kr ?_
        refine rS [.v] H35 kr fun gs36 w36 H36 => ?_
        clear H35
        refine g_block 10 kr ?_
        have HL27 : St w.heap.size w w36 [((gs1 1).b, Obj.cells #[.int .u64 0, .int .u64 0, .int .u64 0, .int .u64 0, .int .u64 0, .int .u64 0, .int .u64 0, .int .u64 0, .int .u64 0, .int .u64 0, .int .u64 0, .int .u64 0, .int .u64 0, .int .u64 0, .int .u64 0, .int .u64 0, .int .u64 0, .int .u64 0, .int .u64 0, .int .u64 0, .int .u64 0, .int .u64 0, .int .u64 0, .int .u64 0, .int .u64 0] 96 (0, 0)), ((gs16 1).b, Obj.cells (Value.cells (arrW 25 (pI s))) 96 (0, 0)), ((gs31 1).b, Obj.cells (Value.cells (arrW 25 (oF s m 0))) 96 (0, 0))] := H36.as kr
        clear H36
        refine g_loop kr (fun mz ρ ww => ∃ (l : Nat), 5 - l = mz ∧ (l ≤ 5) ∧ St w.heap.size w ww [((gs1 1).b, Obj.cells #[.int .u64 0, .int .u64 0, .int .u64 0, .int .u64 0, .int .u64 0, .int .u64 0, .int .u64 0, .int .u64 0, .int .u64 0, .int .u64 0, .int .u64 0, .int .u64 0, .int .u64 0, .int .u64 0, .int .u64 0, .int .u64 0, .int .u64 0, .int .u64 0, .int .u64 0, .int .u64 0, .int .u64 0, .int .u64 0, .int .u64 0, .int .u64 0, .int .u64 0] 96 (0, 0)), ((gs16 1).b, Obj.cells (Value.cells (arrW 25 (pI s))) 96 (0, 0)), ((gs31 1).b, Obj.cells (Value.cells (arrW 25 (oF s m l))) 96 (0, 0))] ∧ Is [(0, svn s), (1, .int .i64 ((i : Nat) : Int)), (2, .pointer (some ⟨(gs1 0).b, 0, none⟩)), (4, .pointer (some ⟨(gs1 1).b, 0, none⟩)), (5, .pointer (some ⟨(gs2 1).b, 0, none⟩)), (6, .int .i64 ((x : Nat) : Int)), (8, .pointer (some ⟨(gs16 1).b, 0, none⟩)), (9, .int .i64 ((u : Nat) : Int)), (12, .pointer (some ⟨(gs31 1).b, 0, none⟩)), (13, .int .i64 ((m : Nat) : Int)), (14, .int .i64 ((l : Nat) : Int)), (18, .bool false), (38, .bool false), (78, .bool true)] ρ) (5 - 0) ⟨0, rfl, (by omega), HL27, (Is.of ⟨kr, kr, kr, kr, kr, kr, kr, kr, kr, kr, kr, kr, kr, kr, trivial⟩)⟩ ?_
        clear HL27
        rintro _ _ w37 ⟨l, rfl, hl, H37, _, rfl⟩
        refine g_seq kr ?_
        refine g_sreg [0, 1] kr kr ?_
        refine rp [.v] H37 kr fun gs38 w38 H38 => ?_
        show WPs _ _ _ _ [1] _ _
        clear H37
        by_cases hc28 : (l : Nat) < 5
        · skip
          refine rp [.e (v := .bool (decide (((l : Nat) : Int) < 5))) (v' := .bool true) (bool_eq (decide_eq_true (by omega)))] H38 kr fun gs39 w39 H39 => ?_
          show WPs _ _ _ _ [] _ _
          clear H38
          refine s_nil ?_
          refine g_cond_t kr kr ?_
          refine g_skip kr ?_
          show WP _ _ _ _ _ _
          refine g_seq kr ?_
          refine g_block 11 kr ?_
          refine rS [.v, .e (v := .int .i64 (IntKind.i64.wrap (((m : Nat) : Int) + 1))) (v' := .int .i64 ((m + 1 : Nat) : Int)) (int_eq (wrapAdd_i64 (a := m) (b := 1) (by omega))), .v, .c (at_fn (m + 1) l (by omega) (by omega)), .o (ins := [((.tmp 8), .pointer (some ⟨(gs16 1).b, 0, none⟩)), ((.tmp 88), .int .i64 (((m + 1) % 5 + 5 * (l % 5) : Nat) : Int))]) (v := .pointer (some ⟨(gs16 1).b, 0 + ((m + 1) % 5 + 5 * (l % 5)) * 1, none⟩)) (fun ρ o w ho hi => idxA_run (kd := .i64) (t := 96) (n := 25) (size := 1) kr (x := (.tmp 8)) (y := (.tmp 88)) (gs16 1).b 0 ((m + 1) % 5 + 5 * (l % 5)) ho hi.1 hi.2.1 (by omega) w), .ls (C := (Value.cells (arrW 25 (pI s)))) (off := 0 + ((m + 1) % 5 + 5 * (l % 5)) * 1) (v := .int .u64 ((BitVec.toNat (pI s ((m + 1) % 5 + 5 * (l % 5))) : Nat) : Int)) 1 (arrW_at (n := 25) (pI s) (k := ((m + 1) % 5 + 5 * (l % 5))) (by omega) (by omega)), .e (v := .int .u64 (IntKind.u64.wrap ((18446744073709551615) - (((BitVec.toNat (pI s ((m + 1) % 5 + 5 * (l % 5))) : Nat) : Int))))) (v' := .int .u64 ((BitVec.toNat (~~~(pI s ((m + 1) % 5 + 5 * (l % 5)))) : Nat) : Int)) ((bv_sub_u64 (18446744073709551615 : BitVec 64) (pI s ((m + 1) % 5 + 5 * (l % 5)))).trans (bv_congr (sub_not (pI s ((m + 1) % 5 + 5 * (l % 5)))))), .v] H39 kr fun gs40 w40 H40 => ?_
          clear H39
          refine dL [.v, .v, .c (at_fn m l (by omega) (by omega)), .v, .v, .c (at_fn m l (by omega) (by omega)), .o (ins := [((.tmp 8), .pointer (some ⟨(gs16 1).b, 0, none⟩)), ((.tmp 97), .int .i64 ((m % 5 + 5 * (l % 5) : Nat) : Int))]) (v := .pointer (some ⟨(gs16 1).b, 0 + (m % 5 + 5 * (l % 5)) * 1, none⟩)) (fun ρ o w ho hi => idxA_run (kd := .i64) (t := 96) (n := 25) (size := 1) kr (x := (.tmp 8)) (y := (.tmp 97)) (gs16 1).b 0 (m % 5 + 5 * (l % 5)) ho hi.1 hi.2.1 (by omega) w), .ls (C := (Value.cells (arrW 25 (pI s)))) (off := 0 + (m % 5 + 5 * (l % 5)) * 1) (v := .int .u64 ((BitVec.toNat (pI s (m + 5 * l)) : Nat) : Int)) 1 (arrW_at (n := 25) (pI s) (k := m + 5 * l) (by omega) (by omega)), .v, .v, .e (v := .int .i64 (IntKind.i64.wrap (((m : Nat) : Int) + 2))) (v' := .int .i64 ((m + 2 : Nat) : Int)) (int_eq (wrapAdd_i64 (a := m) (b := 2) (by omega))), .v, .c (at_fn (m + 2) l (by omega) (by omega)), .o (ins := [((.tmp 8), .pointer (some ⟨(gs16 1).b, 0, none⟩)), ((.tmp 104), .int .i64 (((m + 2) % 5 + 5 * (l % 5) : Nat) : Int))]) (v := .pointer (some ⟨(gs16 1).b, 0 + ((m + 2) % 5 + 5 * (l % 5)) * 1, none⟩)) (fun ρ o w ho hi => idxA_run (kd := .i64) (t := 96) (n := 25) (size := 1) kr (x := (.tmp 8)) (y := (.tmp 104)) (gs16 1).b 0 ((m + 2) % 5 + 5 * (l % 5)) ho hi.1 hi.2.1 (by omega) w), .ls (C := (Value.cells (arrW 25 (pI s)))) (off := 0 + ((m + 2) % 5 + 5 * (l % 5)) * 1) (v := .int .u64 ((BitVec.toNat (pI s ((m + 2) % 5 + 5 * (l % 5))) : Nat) : Int)) 1 (arrW_at (n := 25) (pI s) (k := ((m + 2) % 5 + 5 * (l % 5))) (by omega) (by omega)), .e (v := .int .u64 (Go.bits .and .u64 (((BitVec.toNat (~~~(pI s ((m + 1) % 5 + 5 * (l % 5)))) : Nat) : Int)) (((BitVec.toNat (pI s ((m + 2) % 5 + 5 * (l % 5))) : Nat) : Int)))) (v' := .int .u64 ((BitVec.toNat ((~~~(pI s ((m + 1) % 5 + 5 * (l % 5)))) &&& (pI s ((m + 2) % 5 + 5 * (l % 5)))) : Nat) : Int)) (bv_and_u64 (~~~(pI s ((m + 1) % 5 + 5 * (l % 5)))) (pI s ((m + 2) % 5 + 5 * (l % 5)))), .e (v := .int .u64 (Go.bits .xor .u64 (((BitVec.toNat (pI s (m + 5 * l)) : Nat) : Int)) (((BitVec.toNat ((~~~(pI s ((m + 1) % 5 + 5 * (l % 5)))) &&& (pI s ((m + 2) % 5 + 5 * (l % 5)))) : Nat) : Int)))) (v' := .int .u64 ((BitVec.toNat (xI (pI s) (m + 5 * l)) : Nat) : Int)) ((bv_xor_u64 (pI s (m + 5 * l)) ((~~~(pI s ((m + 1) % 5 + 5 * (l % 5)))) &&& (pI s ((m + 2) % 5 + 5 * (l % 5))))).trans (bv_congr (xI_at (pI s) (by omega) (by omega)))), .o (ins := [((.tmp 12), .pointer (some ⟨(gs31 1).b, 0, none⟩)), ((.tmp 94), .int .i64 ((m % 5 + 5 * (l % 5) : Nat) : Int))]) (v := .pointer (some ⟨(gs31 1).b, 0 + (m % 5 + 5 * (l % 5)) * 1, none⟩)) (fun ρ o w ho hi => idxA_run (kd := .i64) (t := 96) (n := 25) (size := 1) kr (x := (.tmp 12)) (y := (.tmp 94)) (gs31 1).b 0 (m % 5 + 5 * (l % 5)) ho hi.1 hi.2.1 (by omega) w), .se (C := (Value.cells (arrW 25 (oF s m l)))) (C' := (Value.cells (arrW 25 (oF s m (l + 1))))) (off := 0 + (m % 5 + 5 * (l % 5)) * 1) (v := .int .u64 ((BitVec.toNat (xI (pI s) (m + 5 * l)) : Nat) : Int)) 2 (by show _ + 1 ≤ 25; omega) (arrW_put (k := m + 5 * l) (x := xI (pI s) (m + 5 * l)) (by omega) (by omega) (fun j hj => oF_put s (by omega) (by omega) hj))] H40 kr fun w41 H41 => ?_
          clear H40
          show WP _ _ _ _ _ _
          refine g_keep [0, 1, 2, 4, 5, 6, 8, 9, 12, 13, 14, 15, 18, 38, 78, 82] fun ρ5 => ?_
          have HK29 := H41.keep
          clear H41
          refine rL [.v, .e (v := .int .i64 (IntKind.i64.wrap (((l : Nat) : Int) + 1))) (v' := .int .i64 ((l + 1 : Nat) : Int)) (int_eq (wrapAdd_i64 (a := l) (b := 1) (by omega))), .v] HK29 kr fun gs42 w42 H42 => ?_
          clear HK29
          have HL30 : St w.heap.size w w42 [((gs1 1).b, Obj.cells #[.int .u64 0, .int .u64 0, .int .u64 0, .int .u64 0, .int .u64 0, .int .u64 0, .int .u64 0, .int .u64 0, .int .u64 0, .int .u64 0, .int .u64 0, .int .u64 0, .int .u64 0, .int .u64 0, .int .u64 0, .int .u64 0, .int .u64 0, .int .u64 0, .int .u64 0, .int .u64 0, .int .u64 0, .int .u64 0, .int .u64 0, .int .u64 0, .int .u64 0] 96 (0, 0)), ((gs16 1).b, Obj.cells (Value.cells (arrW 25 (pI s))) 96 (0, 0)), ((gs31 1).b, Obj.cells (Value.cells (arrW 25 (oF s m (l + 1)))) 96 (0, 0))] := H42.as kr
          clear H42
          show ∃ m, _ ∧ _
          exact ⟨_, (by omega), (l + 1), rfl, (by omega), HL30, (Is.of ⟨kr, kr, kr, kr, kr, kr, kr, kr, kr, kr, kr, kr, kr, kr, trivial⟩)⟩
        · skip
          refine rp [.e (v := .bool (decide (((l : Nat) : Int) < 5))) (v' := .bool false) (bool_eq (decide_eq_false (by omega)))] H38 kr fun gs43 w43 H43 => ?_
          show WPs _ _ _ _ [] _ _
          clear H38
          refine s_nil ?_
          refine g_cond_f kr kr ?_
          refine g_exit 10 kr ?_
          show WP _ _ _ _ _ _
          refine rL [.v, .e (v := .int .i64 (IntKind.i64.wrap (((m : Nat) : Int) + 1))) (v' := .int .i64 ((m + 1 : Nat) : Int)) (int_eq (wrapAdd_i64 (a := m) (b := 1) (by omega))), .v] H43 kr fun gs44 w44 H44 => ?_
          clear H43
          have HL31 : St w.heap.size w w44 [((gs1 1).b, Obj.cells #[.int .u64 0, .int .u64 0, .int .u64 0, .int .u64 0, .int .u64 0, .int .u64 0, .int .u64 0, .int .u64 0, .int .u64 0, .int .u64 0, .int .u64 0, .int .u64 0, .int .u64 0, .int .u64 0, .int .u64 0, .int .u64 0, .int .u64 0, .int .u64 0, .int .u64 0, .int .u64 0, .int .u64 0, .int .u64 0, .int .u64 0, .int .u64 0, .int .u64 0] 96 (0, 0)), ((gs16 1).b, Obj.cells (Value.cells (arrW 25 (pI s))) 96 (0, 0)), ((gs31 1).b, Obj.cells (Value.cells (arrW 25 (oF s m l))) 96 (0, 0))] := H44.as kr
          clear H44
          have HM32 : St w.heap.size w w44 [((gs1 1).b, Obj.cells #[.int .u64 0, .int .u64 0, .int .u64 0, .int .u64 0, .int .u64 0, .int .u64 0, .int .u64 0, .int .u64 0, .int .u64 0, .int .u64 0, .int .u64 0, .int .u64 0, .int .u64 0, .int .u64 0, .int .u64 0, .int .u64 0, .int .u64 0, .int .u64 0, .int .u64 0, .int .u64 0, .int .u64 0, .int .u64 0, .int .u64 0, .int .u64 0, .int .u64 0] 96 (0, 0)), ((gs16 1).b, Obj.cells (Value.cells (arrW 25 (pI s))) 96 (0, 0)), ((gs31 1).b, Obj.cells (Value.cells (arrW 25 (oF s (m + 1) 0))) 96 (0, 0))] := by have h := HL31; rw [oF_row s m l (by omega)] at h; exact h
          show ∃ m, _ ∧ _
          exact ⟨_, (by omega), (m + 1), rfl, (by omega), HM32, (Is.of ⟨kr, kr, kr, kr, kr, kr, kr, kr, kr, kr, kr, kr, trivial⟩)⟩
      · skip
        refine rp [.e (v := .bool (decide (((m : Nat) : Int) < 5))) (v' := .bool false) (bool_eq (decide_eq_false (by omega)))] H34 kr fun gs45 w45 H45 => ?_
        show WPs _ _ _ _ [] _ _
        clear H34
        refine s_nil ?_
        refine g_cond_f kr kr ?_
        refine g_exit 8 kr ?_
        show WP _ _ _ _ _ _
        refine dS [.v, .l 2, .v, .c (last_fn i (by omega)), .e (v := .int .u64 (Go.bits .xor .u64 (((BitVec.toNat (oF s m 0 0) : Nat) : Int)) (((BitVec.toNat (lastB i 7) : Nat) : Int)))) (v' := .int .u64 ((BitVec.toNat ((oF s m 0 0) ^^^ (lastB i 7)) : Nat) : Int)) (bv_xor_u64 (oF s m 0 0) (lastB i 7)), .v, .se (C := (Value.cells (arrW 25 (oF s m 0)))) (C' := (Value.cells (svn (rm s (lastB i 7))))) (off := 0) (v := .int .u64 ((BitVec.toNat ((oF s m 0 0) ^^^ (lastB i 7)) : Nat) : Int)) 2 (of_decide_eq_true kr) (oF_rm s (lastB i 7) (by omega))] H45 kr fun w46 H46 => ?_
        clear H45
        refine rS [.l 2, .s 0] H46 kr fun gs47 w47 H47 => ?_
        clear H46
        refine g_ret kr ?_
        show ∃ vs, Res _ _ _ _ vs ∧ _
        refine ⟨[svn (rm s (lastB i 7))], (.agg (b := (gs1 1).b) (Value.cells (svn (rm s (lastB i 7)))) 96 (0, 0) kr (H47.get 0 kr) kr .nil), ?_, H47.below⟩
        rfl
end Go.Proofs.YtlhfgbjhngkicaaGreatDoor.Ke

namespace Go.Proofs.YtlhfgbjhngkicaaGreatDoor.Ke
open Go Go.RowKit Go.Proofs.Kec
set_option linter.unusedVariables false
theorem mixL_succ (s : List (BitVec 64)) (j : Nat) (h : j < 24) : mixK s (j + 1) = rm (mixK s j) (lastB j 7) := by rw [mixK_succ s j h, ← last_mark ⟨j, h⟩]
set_option maxRecDepth 100000 in
set_option maxHeartbeats 2000000 in
theorem mixR_fn (s : List (BitVec 64)) : Fn Tryz.prog 55 #[svn s] (svn (mix s)) := by
  refine Fn.intro (c := codeOf Tryz.f55) [.cell 2 96] 12 Tryz.func55 kr kr kr fun w => ?_
  have H0 := St.start w
  refine rS [.b, .a] H0 kr fun gs1 w1 H1 => ?_
  clear H0
  refine g_seq kr ?_
  refine rS [.v] H1 kr fun gs2 w2 H2 => ?_
  clear H1
  refine g_block 0 kr ?_
  have HL1 : St w.heap.size w w2 [((gs1 0).b, Obj.cells (Value.cells (svn s)) 96 (0, 0)), ((gs1 1).b, Obj.cells #[.int .u64 0, .int .u64 0, .int .u64 0, .int .u64 0, .int .u64 0, .int .u64 0, .int .u64 0, .int .u64 0, .int .u64 0, .int .u64 0, .int .u64 0, .int .u64 0, .int .u64 0, .int .u64 0, .int .u64 0, .int .u64 0, .int .u64 0, .int .u64 0, .int .u64 0, .int .u64 0, .int .u64 0, .int .u64 0, .int .u64 0, .int .u64 0, .int .u64 0] 96 (0, 0))] := H2.as kr
  clear H2
  have HM2 : St w.heap.size w w2 [((gs1 0).b, Obj.cells (Value.cells (svn (mixK s 0))) 96 (0, 0)), ((gs1 1).b, Obj.cells #[.int .u64 0, .int .u64 0, .int .u64 0, .int .u64 0, .int .u64 0, .int .u64 0, .int .u64 0, .int .u64 0, .int .u64 0, .int .u64 0, .int .u64 0, .int .u64 0, .int .u64 0, .int .u64 0, .int .u64 0, .int .u64 0, .int .u64 0, .int .u64 0, .int .u64 0, .int .u64 0, .int .u64 0, .int .u64 0, .int .u64 0, .int .u64 0, .int .u64 0] 96 (0, 0))] := HL1
  refine g_loop kr (fun mz ρ ww => ∃ (j : Nat), 24 - j = mz ∧ (j ≤ 24) ∧ St w.heap.size w ww [((gs1 0).b, Obj.cells (Value.cells (svn (mixK s j))) 96 (0, 0)), ((gs1 1).b, Obj.cells #[.int .u64 0, .int .u64 0, .int .u64 0, .int .u64 0, .int .u64 0, .int .u64 0, .int .u64 0, .int .u64 0, .int .u64 0, .int .u64 0, .int .u64 0, .int .u64 0, .int .u64 0, .int .u64 0, .int .u64 0, .int .u64 0, .int .u64 0, .int .u64 0, .int .u64 0, .int .u64 0, .int .u64 0, .int .u64 0, .int .u64 0, .int .u64 0, .int .u64 0] 96 (0, 0))] ∧ Is [(0, svn s), (1, .pointer (some ⟨(gs1 0).b, 0, none⟩)), (2, .pointer (some ⟨(gs1 1).b, 0, none⟩)), (3, .int .i64 ((j : Nat) : Int))] ρ) (24 - 0) ⟨0, rfl, (by omega), HM2, (Is.of ⟨kr, kr, kr, kr, trivial⟩)⟩ ?_
  clear HM2
  rintro _ _ w3 ⟨j, rfl, hj, H3, _, rfl⟩
  refine g_seq kr ?_
  refine g_sreg [0, 1] kr kr ?_
  refine rp [.v] H3 kr fun gs4 w4 H4 => ?_
  show WPs _ _ _ _ [1] _ _
  clear H3
  by_cases hc3 : (j : Nat) < 24
  · skip
    refine rp [.e (v := .bool (decide (((j : Nat) : Int) < 24))) (v' := .bool true) (bool_eq (decide_eq_true (by omega)))] H4 kr fun gs5 w5 H5 => ?_
    show WPs _ _ _ _ [] _ _
    clear H4
    refine s_nil ?_
    refine g_cond_t kr kr ?_
    refine g_skip kr ?_
    show WP _ _ _ _ _ _
    refine g_seq kr ?_
    refine g_block 1 kr ?_
    refine rL [.l 0, .v, .c (roundR_fn (mixK s j) j (by omega)), .s 0] H5 kr fun gs6 w6 H6 => ?_
    clear H5
    show WP _ _ _ _ _ _
    refine rL [.v, .e (v := .int .i64 (IntKind.i64.wrap (((j : Nat) : Int) + 1))) (v' := .int .i64 ((j + 1 : Nat) : Int)) (int_eq (wrapAdd_i64 (a := j) (b := 1) (by omega))), .v] H6 kr fun gs7 w7 H7 => ?_
    clear H6
    have HL4 : St w.heap.size w w7 [((gs1 0).b, Obj.cells (Value.cells (svn (rm (mixK s j) (lastB j 7)))) 96 (0, 0)), ((gs1 1).b, Obj.cells #[.int .u64 0, .int .u64 0, .int .u64 0, .int .u64 0, .int .u64 0, .int .u64 0, .int .u64 0, .int .u64 0, .int .u64 0, .int .u64 0, .int .u64 0, .int .u64 0, .int .u64 0, .int .u64 0, .int .u64 0, .int .u64 0, .int .u64 0, .int .u64 0, .int .u64 0, .int .u64 0, .int .u64 0, .int .u64 0, .int .u64 0, .int .u64 0, .int .u64 0] 96 (0, 0))] := H7.as kr
    clear H7
    have HM5 : St w.heap.size w w7 [((gs1 0).b, Obj.cells (Value.cells (svn (mixK s (j + 1)))) 96 (0, 0)), ((gs1 1).b, Obj.cells #[.int .u64 0, .int .u64 0, .int .u64 0, .int .u64 0, .int .u64 0, .int .u64 0, .int .u64 0, .int .u64 0, .int .u64 0, .int .u64 0, .int .u64 0, .int .u64 0, .int .u64 0, .int .u64 0, .int .u64 0, .int .u64 0, .int .u64 0, .int .u64 0, .int .u64 0, .int .u64 0, .int .u64 0, .int .u64 0, .int .u64 0, .int .u64 0, .int .u64 0] 96 (0, 0))] := by rw [mixL_succ s j (by omega)]; exact HL4
    show ∃ m, _ ∧ _
    exact ⟨_, (by omega), (j + 1), rfl, (by omega), HM5, (Is.of ⟨kr, kr, kr, kr, trivial⟩)⟩
  · skip
    refine rp [.e (v := .bool (decide (((j : Nat) : Int) < 24))) (v' := .bool false) (bool_eq (decide_eq_false (by omega)))] H4 kr fun gs8 w8 H8 => ?_
    show WPs _ _ _ _ [] _ _
    clear H4
    refine s_nil ?_
    refine g_cond_f kr kr ?_
    refine g_exit 0 kr ?_
    show WP _ _ _ _ _ _
    refine rS [.l 0, .s 1] H8 kr fun gs9 w9 H9 => ?_
    clear H8
    refine g_ret kr ?_
    show ∃ vs, Res _ _ _ _ vs ∧ _
    refine ⟨[svn (mixK s j)], (.agg (b := (gs1 1).b) (Value.cells (svn (mixK s j))) 96 (0, 0) kr (H9.get 1 kr) kr .nil), ?_, H9.below⟩
    obtain rfl : j = 24 := by omega
    exact congrArg svn (mixK_all s)
end Go.Proofs.YtlhfgbjhngkicaaGreatDoor.Ke

namespace Go.Proofs.YtlhfgbjhngkicaaGreatDoor.Ke
open Go Go.RowKit Go.Proofs.Kec
set_option linter.unusedVariables false
def bt (X : List UInt8) (k : Nat) : B64 := byteB (X.getD k 0)
def wpx (X : List UInt8) (q : Nat) : Nat → B64
  | 0 => 0
  | m + 1 => wpx X q m ^^^ bt X (8 * q + m) <<< (8 * m)
/-- The word of eight bytes, from the highest one on: k of them are taken. -/
def wrk (X : List UInt8) (o : Nat) : Nat → B64
  | 0 => 0
  | k + 1 => 256 * wrk X o k + bt X (o + (7 - k))
theorem byteB_lt (b : UInt8) : (byteB b).toNat < 256 := by
  unfold byteB; rw [BitVec.toNat_ofNat]; have := b.toNat_lt; omega
theorem byte_xor (x : B64) (b : B64) (hb : b.toNat < 256) : x <<< 8 ^^^ b = 256 * x + b := by
  have hbit : ∀ i, 8 ≤ i → b.getLsbD i = false := fun i hi => by
    unfold BitVec.getLsbD
    exact Nat.testBit_lt_two_pow (Nat.lt_of_lt_of_le hb (show 256 ≤ 2 ^ i from Nat.pow_le_pow_right (n := 2) (by omega) hi))
  have h0 : x <<< 8 &&& b = 0#64 := by
    apply BitVec.eq_of_getLsbD_eq
    intro i hi
    rw [BitVec.getLsbD_and, BitVec.getLsbD_shiftLeft, BitVec.getLsbD_zero]
    by_cases h : i < 8
    · simp [h]
    · rw [hbit i (by omega)]; simp
  have h1 : x <<< 8 ^^^ b = x <<< 8 ||| b := by
    apply BitVec.eq_of_getLsbD_eq
    intro i hi
    rw [BitVec.getLsbD_xor, BitVec.getLsbD_or, BitVec.getLsbD_shiftLeft]
    by_cases h : i < 8
    · simp [h]
    · rw [hbit i (by omega)]; simp
  rw [h1, ← BitVec.add_eq_or_of_and_eq_zero _ _ h0, BitVec.shiftLeft_eq_mul_twoPow, BitVec.mul_comm]; rfl
theorem wr_inv (X : List UInt8) (q : Nat) : ∀ m, m ≤ 8 → wrk X (8 * q) 8 = wpx X q m ^^^ wrk X (8 * q) (8 - m) <<< (8 * m)
  | 0, _ => by show wrk X (8 * q) 8 = (0#64 : B64) ^^^ (wrk X (8 * q) 8) <<< (0 : Nat); rw [BitVec.zero_xor, BitVec.shiftLeft_zero]
  | m + 1, h => by
    rw [wr_inv X q m (by omega), show 8 - m = 8 - (m + 1) + 1 by omega]
    show _ ^^^ (256 * wrk X (8 * q) (8 - (m + 1)) + bt X (8 * q + (7 - (8 - (m + 1))))) <<< (8 * m) = (wpx X q m ^^^ bt X (8 * q + m) <<< (8 * m)) ^^^ _
    rw [show 7 - (8 - (m + 1)) = m by omega, ← byte_xor _ (bt X (8 * q + m)) (byteB_lt _), BitVec.shiftLeft_xor_distrib, show 8 * (m + 1) = 8 + 8 * m by omega, BitVec.shiftLeft_add, BitVec.xor_assoc, BitVec.xor_comm (bt X (8 * q + m) <<< (8 * m))]
theorem wpx_word (X : List UInt8) (q : Nat) : wpx X q 8 = wrk X (8 * q) 8 := by
  rw [wr_inv X q 8 (by omega)]
  show _ = _ ^^^ (0#64 : B64) <<< _
  rw [BitVec.zero_shiftLeft, BitVec.xor_zero]
/-- A state with a block's words laid in, i of them. -/
def xw (a : List B64) (f : Nat → B64) (i : Nat) : List B64 := (List.range 25).map fun j => if j < i then nth a j ^^^ f j else nth a j
theorem xw_len (a : List B64) (f : Nat → B64) (i : Nat) : (xw a f i).length = 25 := by unfold xw; simp
theorem nth_map (g : Nat → B64) (j : Nat) (h : j < 25) : nth ((List.range 25).map g) j = g j := by
  unfold nth; rw [List.getD_eq_getElem?_getD, List.getElem?_map]; simp [h]
theorem nth_xw (a : List B64) (f : Nat → B64) (i j : Nat) (h : j < 25) : nth (xw a f i) j = if j < i then nth a j ^^^ f j else nth a j := nth_map _ j h
theorem ext25 {s t : List B64} (hs : s.length = 25) (ht : t.length = 25) (h : ∀ j, j < 25 → nth s j = nth t j) : s = t := by
  apply List.ext_getElem (by rw [hs, ht])
  intro i h1 h2
  have := h i (by omega)
  unfold nth at this
  rw [List.getD_eq_getElem?_getD, List.getD_eq_getElem?_getD, List.getElem?_eq_getElem h1, List.getElem?_eq_getElem h2] at this
  exact this
theorem xw_zero {a : List B64} (f : Nat → B64) (ha : a.length = 25) : a = xw a f 0 := ext25 ha (xw_len _ _ _) fun j hj => by rw [nth_xw _ _ _ _ hj, if_neg (by omega)]
theorem xw_at (a : List B64) (f : Nat → B64) (i : Nat) (h : i < 25) : nth (xw a f i) i = nth a i := by rw [nth_xw _ _ _ _ h, if_neg (by omega)]
theorem xw_set (a : List B64) (f : Nat → B64) (i : Nat) (h : i < 25) : (xw a f i).set i (nth a i ^^^ f i) = xw a f (i + 1) := by
  refine ext25 (by rw [List.length_set, xw_len]) (xw_len _ _ _) fun j hj => ?_
  rw [nth_set _ _ _ _ (by rw [xw_len]; exact h)]
  by_cases e : j = i
  · subst e; rw [if_pos rfl, nth_xw _ _ _ _ hj, if_pos (by omega)]
  · rw [if_neg e, nth_xw _ _ _ _ hj, nth_xw _ _ _ _ hj]
    by_cases e2 : j < i
    · rw [if_pos e2, if_pos (by omega)]
    · rw [if_neg e2, if_neg (by omega)]
theorem lay_nth (s : List B64) (n : Nat) (b : B64) (j : Nat) (hs : s.length = 25) (hn : n < 200) : nth (lay s n b) j = if j = n / 8 then nth s (n / 8) ^^^ liftB b n else nth s j := by
  unfold lay; rw [nth_set _ _ _ _ (by omega)]
theorem bytes_in (a : List B64) (ha : a.length = 25) (X : List UInt8) : ∀ j, j ≤ 135 → j ≤ X.length → ∃ B, takeB (a, 0) (X.take j) = (B, j) ∧ B.length = 25 ∧ ∀ q, q < 25 → nth B q = nth a q ^^^ wpx X q (min 8 (j - 8 * q))
  | 0, _, _ => ⟨a, rfl, ha, fun q _ => by rw [show min 8 (0 - 8 * q) = 0 by omega]; show _ = _ ^^^ (0#64 : B64); rw [BitVec.xor_zero]⟩
  | j + 1, h, hX => by
    obtain ⟨B, hB, hl, hp⟩ := bytes_in a ha X j (by omega) (by omega)
    have hx : X.take (j + 1) = X.take j ++ [X.getD j 0] := by
      rw [List.take_add_one, List.getElem?_eq_getElem (show j < X.length by omega), Option.toList_some, List.getD_eq_getElem?_getD, List.getElem?_eq_getElem (show j < X.length by omega)]; rfl
    refine ⟨lay B j (bt X j), ?_, lay_len _ _ hl, fun q hq => ?_⟩
    · rw [hx, takeB_snoc, hB]
      unfold step1
      exact if_neg (by show ¬ j + 1 = 136; omega)
    · rw [lay_nth _ _ _ _ hl (by omega)]
      by_cases e : q = j / 8
      · rw [if_pos e, ← e, hp q hq, show min 8 (j + 1 - 8 * q) = min 8 (j - 8 * q) + 1 by omega]
        show _ = nth a q ^^^ (wpx X q (min 8 (j - 8 * q)) ^^^ bt X (8 * q + min 8 (j - 8 * q)) <<< (8 * min 8 (j - 8 * q)))
        rw [show 8 * q + min 8 (j - 8 * q) = j by omega]
        unfold liftB
        rw [show j % 8 * 8 = 8 * min 8 (j - 8 * q) by omega, BitVec.xor_assoc]
      · rw [if_neg e, hp q hq, show min 8 (j + 1 - 8 * q) = min 8 (j - 8 * q) by omega]
/-- A whole block. -/
theorem block_in (a : List B64) (ha : a.length = 25) (X : List UInt8) (hX : X.length = 136) : takeB (a, 0) X = (mix (xw a (fun q => wrk X (8 * q) 8) 17), 0) := by
  obtain ⟨B, hB, hl, hp⟩ := bytes_in a ha X 135 (by omega) (by omega)
  have hx : X = X.take 135 ++ [X.getD 135 0] := by
    conv => lhs; rw [← List.take_of_length_le (show X.length ≤ 135 + 1 by omega)]
    rw [List.take_add_one, List.getElem?_eq_getElem (show 135 < X.length by omega), Option.toList_some, List.getD_eq_getElem?_getD, List.getElem?_eq_getElem (show 135 < X.length by omega)]; rfl
  have h1 : takeB (a, 0) X = (mix (lay B 135 (bt X 135)), 0) := by
    rw [hx, takeB_snoc, hB]
    unfold step1
    rw [if_pos (by show 135 + 1 = 136; rfl)]
    congr 3
    unfold bt; rw [← hx]
  rw [h1]
  congr 2
  refine ext25 (lay_len _ _ hl) (xw_len _ _ _) fun q hq => ?_
  rw [lay_nth _ _ _ _ hl (by omega), nth_xw _ _ _ _ hq]
  by_cases e : q = 135 / 8
  · rw [if_pos e, if_pos (by omega), ← e, hp q hq, ← wpx_word, show min 8 (135 - 8 * q) = 7 by omega]
    show _ = nth a q ^^^ (wpx X q 7 ^^^ bt X (8 * q + 7) <<< (8 * 7))
    rw [show 8 * q + 7 = 135 by omega, BitVec.xor_assoc]; rfl
  · rw [if_neg e, hp q hq]
    by_cases e2 : q < 17
    · rw [if_pos e2, ← wpx_word, show min 8 (135 - 8 * q) = 8 by omega]
    · rw [if_neg e2, show min 8 (135 - 8 * q) = 0 by omega]
      show _ ^^^ (0#64 : B64) = _; rw [BitVec.xor_zero]
theorem lay_zero {s : List B64} (n : Nat) (hs : s.length = 25) (hn : n < 200) : lay s n 0 = s := ext25 (lay_len _ _ hs) hs fun j hj => by
  rw [lay_nth _ _ _ _ hs hn]
  by_cases e : j = n / 8
  · rw [if_pos e, ← e]; unfold liftB; show _ ^^^ (0#64 : B64) <<< _ = _; rw [BitVec.zero_shiftLeft, BitVec.xor_zero]
  · rw [if_neg e]
theorem zeros_in : ∀ (z n : Nat) {s : List B64}, s.length = 25 → n + z ≤ 135 → takeB (s, n) (List.replicate z 0) = (s, n + z)
  | 0, n, s, _, _ => rfl
  | z + 1, n, s, hs, h => by
    rw [List.replicate_succ]
    show takeB (step1 (s, n) 0) _ = _
    have e : step1 (s, n) 0 = (s, n + 1) := by
      unfold step1
      rw [if_neg (by show ¬ n + 1 = 136; omega)]
      show (lay s n (byteB 0), n + 1) = _
      rw [show byteB 0 = (0 : B64) from rfl, lay_zero n hs (by omega)]
    rw [e, zeros_in z (n + 1) hs (by omega)]
    congr 1; omega
theorem lay_two {s : List B64} (b c : B64) (hs : s.length = 25) : lay (lay s 135 b) 135 c = lay s 135 (b ^^^ c) := ext25 (lay_len _ _ (lay_len _ _ hs)) (lay_len _ _ hs) fun j hj => by
  rw [lay_nth _ _ _ _ (lay_len _ _ hs) (by omega), lay_nth _ _ _ _ hs (by omega), lay_nth _ _ _ _ hs (by omega), lay_nth _ _ _ _ hs (by omega)]
  by_cases e : j = 135 / 8
  · rw [if_pos e, if_pos rfl, if_pos e]; unfold liftB; rw [BitVec.shiftLeft_xor_distrib, BitVec.xor_assoc]
  · rw [if_neg e, if_neg e]; rw [if_neg e]
/-- A text with what the reference puts behind it; the last byte not yet raised. -/
def padK (s : ByteArray) (z : Nat) : List UInt8 := tl s ++ (1 :: List.replicate z 0)
theorem padK_succ (s : ByteArray) (z : Nat) : padK s z ++ [UInt8.ofBitVec (0 : BitVec 8)] = padK s (z + 1) := by
  unfold padK; rw [List.replicate_succ']; simp
theorem padK_len (s : ByteArray) (z : Nat) : (padK s z).length = ByteArray.size s + 1 + z := by unfold padK; simp [tl_len]; omega
def PK (s : ByteArray) (z : Nat) : List UInt8 := (padK s z).set ((padK s z).length - 1) (UInt8.ofBitVec (UInt8.toBitVec ((padK s z).getD ((padK s z).length - 1) 0) + (128 : BitVec 8)))
theorem PK_len (s : ByteArray) (z : Nat) : (PK s z).length = ByteArray.size s + 1 + z := by unfold PK; rw [List.length_set, padK_len]
theorem PK_zero (s : ByteArray) : PK s 0 = tl s ++ [129] := by
  unfold PK
  rw [padK_len, show ByteArray.size s + 1 + 0 - 1 = (tl s).length from by rw [tl_len]; omega]
  unfold padK
  rw [List.set_append_right _ _ (Nat.le_refl _), List.getD_eq_getElem?_getD, List.getElem?_append_right (Nat.le_refl _), Nat.sub_self]; rfl
theorem PK_succ (s : ByteArray) (z : Nat) : PK s (z + 1) = tl s ++ (1 :: (List.replicate z 0 ++ [128])) := by
  unfold PK
  rw [padK_len, show ByteArray.size s + 1 + (z + 1) - 1 = (tl s).length + (z + 1) from by rw [tl_len]; omega]
  unfold padK
  rw [List.set_append_right _ _ (by omega), List.getD_eq_getElem?_getD, List.getElem?_append_right (by omega), show (tl s).length + (z + 1) - (tl s).length = z + 1 by omega]
  congr 1
  rw [List.replicate_succ']
  have e : (1 :: (List.replicate z (0 : UInt8) ++ [0]))[z + 1]?.getD 0 = 0 := by simp
  rw [e, List.set_cons_succ, List.set_append_right _ _ (by simp), List.length_replicate, Nat.sub_self]; rfl
theorem takeB_lt (l : List UInt8) : ∀ {st : List B64 × Nat}, st.2 < 136 → (takeB st l).2 = (st.2 + l.length) % 136 := by
  induction l with
  | nil => intro st h; show st.2 = _; rw [List.length_nil, Nat.add_zero, Nat.mod_eq_of_lt h]
  | cons b l ih =>
    intro st h
    show (takeB (step1 st b) l).2 = _
    have e : (step1 st b).2 = (st.2 + 1) % 136 := by
      unfold step1
      split
      · rename_i q; show 0 = _; rw [q]
      · rename_i q; show st.2 + 1 = _; rw [Nat.mod_eq_of_lt (by omega)]
    rw [ih (by rw [e]; exact Nat.mod_lt _ (by omega)), e, List.length_cons, Nat.mod_add_mod]
    congr 1; omega
/-- All blocks of it leave the state whose first bytes are the sum. -/
theorem PK_all (s : ByteArray) (z : Nat) (hz : z = 135 - ByteArray.size s % 136) : takeB (zeroS, 0) (PK s z) = (mix (endB (takeB (zeroS, 0) (tl s))), 0) := by
  have hok := takeB_ok (tl s) zero_ok
  have hn := takeB_lt (tl s) (st := (zeroS, 0)) (by decide)
  rw [show (zeroS, 0).2 + (tl s).length = ByteArray.size s by rw [tl_len]; simp] at hn
  generalize hst : takeB (zeroS, 0) (tl s) = st at hok hn
  obtain ⟨S, n⟩ := st
  have hl : S.length = 25 := hok.len
  simp only at hn
  unfold endB
  cases z with
  | zero =>
    rw [PK_zero, takeB_snoc, hst]
    obtain rfl : n = 135 := by omega
    unfold step1
    rw [if_pos (by rfl), lay_two _ _ hl]
    rfl
  | succ z =>
    rw [PK_succ, takeB_append, hst]
    show takeB (step1 (S, n) 1) (List.replicate z 0 ++ [128]) = _
    have e : step1 (S, n) 1 = (lay S n 1, n + 1) := by
      unfold step1
      rw [if_neg (by show ¬ n + 1 = 136; omega)]; rfl
    rw [e, takeB_append, zeros_in z (n + 1) (lay_len _ _ hl) (by omega), show n + 1 + z = 135 by omega]
    show step1 (lay S n 1, 135) 128 = _
    unfold step1
    rw [if_pos (by rfl)]; rfl
def wd (s : ByteArray) (z m : Nat) (j : Nat) : B64 := wrk (List.take 8 (List.drop (136 * m + 8 * j) (PK s z))) 0 8
theorem wrk_congr (X Y : List UInt8) (o p : Nat) (h : ∀ k, k < 8 → X.getD (o + k) 0 = Y.getD (p + k) 0) : ∀ k, k ≤ 8 → wrk X o k = wrk Y p k
  | 0, _ => rfl
  | k + 1, hk => by
    show 256 * wrk X o k + bt X (o + (7 - k)) = 256 * wrk Y p k + bt Y (p + (7 - k))
    rw [wrk_congr X Y o p h k (by omega)]
    unfold bt; rw [h (7 - k) (by omega)]
theorem wd_is (s : ByteArray) (z m j : Nat) (hj : j < 17) (hm : 136 * m + 136 ≤ (PK s z).length) : wrk (List.take 136 (List.drop (136 * m) (PK s z))) (8 * j) 8 = wd s z m j :=
  wrk_congr _ _ _ _ (fun k hk => by
    rw [List.getD_eq_getElem?_getD, List.getD_eq_getElem?_getD, List.getElem?_take, if_pos (by omega), List.getElem?_drop, List.getElem?_take, if_pos (by omega), List.getElem?_drop]
    congr 2; omega) 8 (Nat.le_refl _)
theorem xw_congr (a : List B64) (f g : Nat → B64) (i : Nat) (h : ∀ j, j < i → f j = g j) : xw a f i = xw a g i := by
  unfold xw
  refine List.map_congr_left fun j _ => ?_
  split
  · rename_i hj; rw [h j hj]
  · rfl
theorem block_go (s : ByteArray) (z m : Nat) (a : List B64) (ha : a.length = 25) (h : takeB (zeroS, 0) ((PK s z).take (136 * m)) = (a, 0)) (hm : 136 * m + 136 ≤ (PK s z).length) :
    takeB (zeroS, 0) ((PK s z).take (136 * (m + 1))) = (mix (xw a (wd s z m) 17), 0) := by
  rw [show 136 * (m + 1) = 136 * m + 136 by omega, List.take_add, takeB_append, h, block_in a ha _ (by rw [List.length_take, List.length_drop]; omega)]
  rw [xw_congr a _ (wd s z m) 17 (fun j hj => wd_is s z m j hj hm)]
theorem sum_done (s : ByteArray) (z m : Nat) (a : List B64) (hz : z = 135 - ByteArray.size s % 136) (h : takeB (zeroS, 0) ((PK s z).take (136 * m)) = (a, 0)) (hm : ¬ 136 * m < (PK s z).length) : firstB a = sumB (tl s) := by
  rw [List.take_of_length_le (by omega), PK_all s z hz] at h
  have e : mix (endB (takeB (zeroS, 0) (tl s))) = a := congrArg Prod.fst h
  unfold sumB
  rw [e]
def outK (a : List B64) (i : Nat) : List UInt8 := (List.range i).map fun i => UInt8.ofNat ((nth a (i / 8)).toNat / 2 ^ (i % 8 * 8))
theorem outK_succ (a : List B64) (i : Nat) : outK a (i + 1) = outK a i ++ [UInt8.ofNat ((nth a (i / 8)).toNat / 2 ^ (i % 8 * 8))] := by unfold outK; rw [List.range_succ, List.map_append]; rfl
theorem outK_len (a : List B64) (i : Nat) : (outK a i).length = i := by unfold outK; simp
theorem byteK (x : B64) (i : Nat) : UInt8.ofBitVec (BitVec.setWidth 8 ((x >>> (8 * (i % 8))) % (256 : BitVec 64))) = UInt8.ofNat (x.toNat / 2 ^ (i % 8 * 8)) := by
  apply UInt8.toNat_inj.1
  show BitVec.toNat (BitVec.setWidth 8 ((x >>> (8 * (i % 8))) % (256 : BitVec 64))) = (UInt8.ofNat (x.toNat / 2 ^ (i % 8 * 8))).toNat
  rw [BitVec.toNat_setWidth, BitVec.toNat_umod, BitVec.toNat_ushiftRight, UInt8.toNat_ofNat', Nat.shiftRight_eq_div_pow, Nat.mul_comm (i % 8) 8]
  generalize x.toNat / 2 ^ (8 * (i % 8)) = X
  show X % 256 % 2 ^ 8 = X % 2 ^ 8
  omega
end Go.Proofs.YtlhfgbjhngkicaaGreatDoor.Ke

namespace Go.Proofs.YtlhfgbjhngkicaaGreatDoor.Ke
open Go Go.RowKit Go.Proofs.Kec
set_option linter.unusedVariables false
set_option maxRecDepth 100000 in
set_option maxHeartbeats 2000000 in
theorem word_fn (s : ByteArray) (hs : ByteArray.size s = 8) : Fn Tryz.prog 54 #[.string s] (.int .u64 ((BitVec.toNat (wrk (tl s) 0 8) : Nat) : Int)) := by
  refine Fn.intro (c := codeOf Tryz.f54) [.tmp 2] 17 Tryz.func54 kr kr kr fun w => ?_
  have H0 := St.start w
  refine rS [.v] H0 kr fun gs1 w1 H1 => ?_
  clear H0
  refine rS [.v] H1 kr fun gs2 w2 H2 => ?_
  clear H1
  refine g_seq kr ?_
  refine rS [.v] H2 kr fun gs3 w3 H3 => ?_
  clear H2
  refine g_block 0 kr ?_
  have HL1 : St w.heap.size w w3 [] := H3.as kr
  clear H3
  refine g_loop kr (fun mz ρ ww => ∃ (j : Nat), j = mz ∧ (j ≤ 8) ∧ St w.heap.size w ww [] ∧ Is [(0, .string s), (2, .int .u64 0), (3, .int .u64 ((BitVec.toNat (wrk (tl s) 0 (8 - j)) : Nat) : Int)), (4, .int .i64 (((j : Nat) : Int) - 1))] ρ) 8 ⟨8, rfl, (by omega), HL1, (Is.of ⟨kr, kr, kr, kr, trivial⟩)⟩ ?_
  clear HL1
  rintro _ _ w4 ⟨j, rfl, hj, H4, _, rfl⟩
  refine g_seq kr ?_
  refine g_sreg [0, 1] kr kr ?_
  refine rp [.v] H4 kr fun gs5 w5 H5 => ?_
  show WPs _ _ _ _ [1] _ _
  clear H4
  by_cases hc2 : (((j : Nat) : Int) - 1 : Int) ≥ 0
  · skip
    refine rp [.e (v := .bool (decide (0 ≤ ((j : Nat) : Int) - 1))) (v' := .bool true) (bool_eq (decide_eq_true (by omega)))] H5 kr fun gs6 w6 H6 => ?_
    show WPs _ _ _ _ [] _ _
    clear H5
    refine s_nil ?_
    refine g_cond_t kr kr ?_
    refine g_skip kr ?_
    show WP _ _ _ _ _ _
    refine g_seq kr ?_
    refine g_block 1 kr ?_
    refine g_now 4 (v := .int .i64 (((j : Nat) : Int) - 1)) (v' := .int .i64 ((j - 1 : Nat) : Int)) (int_eq (show (((j : Nat) : Int) - 1) = ((j - 1 : Nat) : Int) from by omega)) kr ?_
    refine g_now 5 (v := .int .i64 (((j : Nat) : Int) - 1)) (v' := .int .i64 ((j - 1 : Nat) : Int)) (int_eq (show (((j : Nat) : Int) - 1) = ((j - 1 : Nat) : Int) from by omega)) kr ?_
    have hbl := by_lt s (j - 1)
    refine rL [.v, .e (v := .int .u64 (IntKind.u64.wrap ((256) * (((BitVec.toNat (wrk (tl s) 0 (8 - j)) : Nat) : Int))))) (v' := .int .u64 ((BitVec.toNat ((256 : BitVec 64) * (wrk (tl s) 0 (8 - j))) : Nat) : Int)) (bv_mul_u64 (256 : BitVec 64) (wrk (tl s) 0 (8 - j))), .v, .v, .o (ins := [((.tmp 11), .string s), ((.tmp 12), .int .i64 ((j - 1 : Nat) : Int))]) (v := .int .u8 ((by_ s (j - 1) : Nat) : Int)) (fun ρ o w ho hi => sindex_run (t := 9) (kd := .i64) kr (x := (.tmp 11)) (y := (.tmp 12)) s (j - 1) ho hi.1 hi.2.1 (by omega) w), .e (v := .int .u64 (IntKind.u64.wrap (((by_ s (j - 1) : Nat) : Int)))) (v' := .int .u64 ((BitVec.toNat (BitVec.ofNat 64 (by_ s (j - 1))) : Nat) : Int)) (bv_ofNat_u64 (by_ s (j - 1))), .e (v := .int .u64 (IntKind.u64.wrap ((((BitVec.toNat ((256 : BitVec 64) * (wrk (tl s) 0 (8 - j))) : Nat) : Int)) + (((BitVec.toNat (BitVec.ofNat 64 (by_ s (j - 1))) : Nat) : Int))))) (v' := .int .u64 ((BitVec.toNat (((256 : BitVec 64) * (wrk (tl s) 0 (8 - j))) + (BitVec.ofNat 64 (by_ s (j - 1)))) : Nat) : Int)) (bv_add_u64 ((256 : BitVec 64) * (wrk (tl s) 0 (8 - j))) (BitVec.ofNat 64 (by_ s (j - 1)))), .v] H6 kr fun gs7 w7 H7 => ?_
    clear H6
    show WP _ _ _ _ _ _
    refine rL [.v, .e (v := .int .i64 (IntKind.i64.wrap (((j - 1 : Nat) : Int) - 1))) (v' := .int .i64 (((j - 1 : Nat) : Int) - 1)) (int_eq (wrap_i64 (by omega) (by omega))), .v] H7 kr fun gs8 w8 H8 => ?_
    clear H7
    have HL3 : St w.heap.size w w8 [] := H8.as kr
    clear H8
    have hw : wrk (tl s) 0 (8 - (j - 1)) = ((256 : BitVec 64) * (wrk (tl s) 0 (8 - j))) + (BitVec.ofNat 64 (by_ s (j - 1))) := by rw [show 8 - (j - 1) = 8 - j + 1 by omega]; show 256 * wrk (tl s) 0 (8 - j) + bt (tl s) (0 + (7 - (8 - j))) = _; rw [show 0 + (7 - (8 - j)) = j - 1 by omega]; rfl
    show ∃ m, _ ∧ _
    exact ⟨_, (by omega), (j - 1), rfl, (by omega), HL3, (Is.of ⟨kr, kr, (Eq.trans (b := .int .u64 ((BitVec.toNat (((256 : BitVec 64) * (wrk (tl s) 0 (8 - j))) + (BitVec.ofNat 64 (by_ s (j - 1)))) : Nat) : Int)) kr (by rw [hw])), kr, trivial⟩)⟩
  · skip
    refine rp [.e (v := .bool (decide (0 ≤ ((j : Nat) : Int) - 1))) (v' := .bool false) (bool_eq (decide_eq_false (by omega)))] H5 kr fun gs9 w9 H9 => ?_
    show WPs _ _ _ _ [] _ _
    clear H5
    refine s_nil ?_
    refine g_cond_f kr kr ?_
    refine g_exit 0 kr ?_
    show WP _ _ _ _ _ _
    refine rS [.v, .v] H9 kr fun gs10 w10 H10 => ?_
    clear H9
    refine g_ret kr ?_
    show ∃ vs, Res _ _ _ _ vs ∧ _
    refine ⟨[.int .u64 ((BitVec.toNat (wrk (tl s) 0 (8 - j)) : Nat) : Int)], (.tmp (.int .u64 ((BitVec.toNat (wrk (tl s) 0 (8 - j)) : Nat) : Int)) kr .nil), ?_, H10.below⟩
    obtain rfl : j = 0 := by omega
    rfl
set_option maxRecDepth 100000 in
set_option maxHeartbeats 2000000 in
theorem sumR_fn (s : ByteArray) (hsz : ByteArray.size s ≤ 100000000000000) : Fn Tryz.prog 30 #[.string s] (.string (strB (sumB (tl s)))) := by
  refine Fn.intro (c := codeOf Tryz.f30) [.tmp 2] 86 Tryz.func30 kr kr kr fun w => ?_
  have H0 := St.start w
  refine rS [.v] H0 kr fun gs1 w1 H1 => ?_
  clear H0
  refine g_sreg [0, 1, 2] kr kr ?_
  refine rp [.v] H1 kr fun gs2 w2 H2 => ?_
  show WPs _ _ _ _ [1, 2] _ _
  clear H1
  refine s_strBytes H2 (some 10) 9 88 5 (.tmp 9) s kr kr kr kr kr kr (by unfold maxLen; omega) ?_
  intro b_1 cap_2 cur_3 fz_4 w3 H3 hf_5 hr_6; clear H2
  refine rp [.v] H3 kr fun gs4 w4 H4 => ?_
  show WPs _ _ _ _ [] _ _
  clear H3
  refine s_nil ?_
  refine g_sreg [0, 1, 2, 3] kr kr ?_
  refine rp [.v, .nw (fun b => .slice (some ⟨b, 0, none⟩) 1 1) #[.int .u8 1] 5] H4 kr fun gs5 w5 H5 => ?_
  show WPs _ _ _ _ [2, 3] _ _
  clear H4
  refine s_appendM H5 (some 13) 88 5 1 1 (.tmp 11) (.tmp 12) 0 1 b_1 ((gs5 1).b) (ByteArray.size s) 1 cap_2 1 cur_3 #[.int .u8 1] fz_4 5 (0, 0) (cellsB (tl s)) ([.int .u8 1]) (fun b_7 cur_9 fz_10 => [(b_7, Obj.cells cur_9 5 fz_10), ((gs5 1).b, Obj.cells #[.int .u8 1] 5 (0, 0))]) kr kr kr kr kr hf_5 hr_6 kr kr (by rfl) (by rfl) (by intro u hu; simp at hu; first | exact hu.elim | (rcases hu with rfl | rfl | rfl | rfl <;> rfl) | (rcases hu with rfl | rfl <;> rfl) | (subst hu; rfl)) (by omega) (by unfold maxLen; omega) (fun _ _ _ => by kernel_rfl) ?_
  intro b_7 cap_8 cur_9 fz_10 w6 H6 hf_11 hr_12; clear H5
  have hr_12t : Rw 1 cur_9 cap_8 ((ByteArray.size s) + 1) (cellsB (tl s ++ [UInt8.ofBitVec (1 : BitVec 8)])) := by rw [cellsB_append]; exact hr_12
  have hr_12n : (ByteArray.size s) + 1 = List.length (tl s ++ [UInt8.ofBitVec (1 : BitVec 8)]) := by have h0 : ByteArray.size s = List.length (tl s) := rfl; rw [List.length_append, ← h0]; rfl
  refine rp [.v] H6 kr fun gs7 w7 H7 => ?_
  show WPs _ _ _ _ [] _ _
  clear H6
  refine s_nil ?_
  refine g_seq kr ?_
  refine g_block 0 kr ?_
  have HL1 : St w.heap.size w w7 [(b_7, Obj.cells cur_9 5 fz_10), ((gs5 1).b, Obj.cells #[.int .u8 1] 5 (0, 0))] := H7.as kr
  clear H7
  have HD2 : St w.heap.size w w7 [(b_7, Obj.cells cur_9 5 fz_10)] := HL1.sub (List.Sublist.cons_cons _ (List.Sublist.cons _ List.Sublist.slnil))
  refine g_loop kr (fun mz ρ ww => ∃ (b : Nat) (cap : Nat) (n : Nat) (cur : Array Value) (fz : Nat × Nat) (z : Nat), 135 - z = mz ∧ (n = List.length (padK s z)) ∧ (Rw 1 cur cap n (cellsB (padK s z))) ∧ (Clr fz cur) ∧ (z ≤ 135 - ByteArray.size s % 136) ∧ St w.heap.size w ww [(b, Obj.cells cur 5 fz)] ∧ Is [(0, .string s), (2, .string (⟨#[]⟩)), (3, .slice (some ⟨b, 0, none⟩) n cap)] ρ) (135 - 0) ⟨b_7, cap_8, (ByteArray.size s) + 1, cur_9, fz_10, 0, rfl, hr_12n, hr_12t, hf_11, (by omega), HD2, (Is.of ⟨kr, kr, kr, trivial⟩)⟩ ?_
  clear HD2
  rintro _ _ w8 ⟨b, cap, n, cur, fz, z, rfl, hn, hr, hf, hz, H8, _, rfl⟩
  have hlz := padK_len s z; rw [← hn] at hlz
  refine g_seq kr ?_
  refine g_sreg [0, 1, 2, 3] kr kr ?_
  refine rp [.v, .v, .e (v := .int .i64 (Int.tmod ((n : Nat) : Int) 136)) (v' := .int .i64 ((n % 136 : Nat) : Int)) (int_eq (remN n 136))] H8 kr fun gs9 w9 H9 => ?_
  show WPs _ _ _ _ [3] _ _
  clear H8
  by_cases hc3 : (n % 136 : Nat) > 0
  · skip
    refine rp [.e (v := .bool (decide (0 < ((n % 136 : Nat) : Int)))) (v' := .bool true) (bool_eq (decide_eq_true (by omega)))] H9 kr fun gs10 w10 H10 => ?_
    show WPs _ _ _ _ [] _ _
    clear H9
    refine s_nil ?_
    refine g_cond_t kr kr ?_
    refine g_skip kr ?_
    show WP _ _ _ _ _ _
    refine g_block 1 kr ?_
    refine g_reg0 [0, 1, 2, 3] kr ?_
    refine rp [.v, .nw (fun b => .slice (some ⟨b, 0, none⟩) 1 1) #[.int .u8 0] 5] H10 kr fun gs11 w11 H11 => ?_
    show WPs _ _ _ _ [2, 3] _ _
    clear H10
    refine s_appendM H11 (some 20) 88 5 1 1 (.tmp 18) (.tmp 19) 0 1 b ((gs11 1).b) n 1 cap 1 cur #[.int .u8 0] fz 5 (0, 0) (cellsB (padK s z)) ([.int .u8 0]) (fun b_13 cur_15 fz_16 => [(b_13, Obj.cells cur_15 5 fz_16), ((gs11 1).b, Obj.cells #[.int .u8 0] 5 (0, 0))]) kr kr kr kr kr hf hr kr kr (by rfl) (by rfl) (by intro u hu; simp at hu; first | exact hu.elim | (rcases hu with rfl | rfl | rfl | rfl <;> rfl) | (rcases hu with rfl | rfl <;> rfl) | (subst hu; rfl)) (by omega) (by unfold maxLen; omega) (fun _ _ _ => by kernel_rfl) ?_
    intro b_13 cap_14 cur_15 fz_16 w12 H12 hf_17 hr_18; clear H11
    have hr_18t : Rw 1 cur_15 cap_14 (n + 1) (cellsB (padK s z ++ [UInt8.ofBitVec (0 : BitVec 8)])) := by rw [cellsB_append]; exact hr_18
    have hr_18n : n + 1 = List.length (padK s z ++ [UInt8.ofBitVec (0 : BitVec 8)]) := by have h0 : n = List.length (padK s z) := hn; rw [List.length_append, ← h0]; rfl
    refine rp [.v] H12 kr fun gs13 w13 H13 => ?_
    show WPs _ _ _ _ [] _ _
    clear H12
    refine s_nil ?_
    have HL4 : St w.heap.size w w13 [(b_13, Obj.cells cur_15 5 fz_16), ((gs11 1).b, Obj.cells #[.int .u8 0] 5 (0, 0))] := H13.as kr
    clear H13
    have hrw := hr_18t; rw [padK_succ] at hrw
    have HD5 : St w.heap.size w w13 [(b_13, Obj.cells cur_15 5 fz_16)] := HL4.sub (List.Sublist.cons_cons _ (List.Sublist.cons _ List.Sublist.slnil))
    show ∃ m, _ ∧ _
    exact ⟨_, (by omega), b_13, cap_14, n + 1, cur_15, fz_16, (z + 1), rfl, (by rw [padK_len]; omega), hrw, hf_17, (by omega), HD5, (Is.of ⟨kr, kr, kr, trivial⟩)⟩
  · skip
    refine rp [.e (v := .bool (decide (0 < ((n % 136 : Nat) : Int)))) (v' := .bool false) (bool_eq (decide_eq_false (by omega)))] H9 kr fun gs14 w14 H14 => ?_
    show WPs _ _ _ _ [] _ _
    clear H9
    refine s_nil ?_
    refine g_cond_f kr kr ?_
    refine g_exit 0 kr ?_
    show WP _ _ _ _ _ _
    have hnp : 1 ≤ n := by omega
    refine g_sreg [0, 1, 2, 3, 4, 5, 6, 7, 8, 9, 10, 11, 12] kr kr ?_
    refine rp [.v, .v, .v, .e (v := .int .i64 (IntKind.i64.wrap (((n : Nat) : Int) - 1))) (v' := .int .i64 ((n - 1 : Nat) : Int)) (int_eq (wrapSub_i64 (a := n) (b := 1) (by omega))), .v, .v, .v, .e (v := .int .i64 (IntKind.i64.wrap (((n : Nat) : Int) - 1))) (v' := .int .i64 ((n - 1 : Nat) : Int)) (int_eq (wrapSub_i64 (a := n) (b := 1) (by omega))), .o (ins := [((.tmp 25), .slice (some ⟨b, 0, none⟩) n cap), ((.tmp 28), .int .i64 ((n - 1 : Nat) : Int))]) (v := .pointer (some ⟨b, 0 + (n - 1) * 1, none⟩)) (fun ρ o w ho hi => idxS_run (kd := .i64) (t := 88) (e := 5) (size := 1) (bytes := 1) kr (x := (.tmp 25)) (y := (.tmp 28)) b 0 n cap (n - 1) ho hi.1 hi.2.1 (by omega) w), .ls (C := cur) (off := 0 + (n - 1) * 1) (v := .int .u8 ((BitVec.toNat (UInt8.toBitVec (List.getD (padK s z) (n - 1) 0)) : Nat) : Int)) 0 (hr.atB (by omega) hn), .e (v := .int .u8 (IntKind.u8.wrap ((((BitVec.toNat (UInt8.toBitVec (List.getD (padK s z) (n - 1) 0)) : Nat) : Int)) + (128)))) (v' := .int .u8 ((BitVec.toNat ((UInt8.toBitVec (List.getD (padK s z) (n - 1) 0)) + (128 : BitVec 8)) : Nat) : Int)) (bv_add_u8 (UInt8.toBitVec (List.getD (padK s z) (n - 1) 0)) (128 : BitVec 8)), .o (ins := [((.tmp 21), .slice (some ⟨b, 0, none⟩) n cap), ((.tmp 24), .int .i64 ((n - 1 : Nat) : Int))]) (v := .pointer (some ⟨b, 0 + (n - 1) * 1, none⟩)) (fun ρ o w ho hi => idxS_run (kd := .i64) (t := 88) (e := 5) (size := 1) (bytes := 1) kr (x := (.tmp 21)) (y := (.tmp 24)) b 0 n cap (n - 1) ho hi.1 hi.2.1 (by omega) w)] H14 kr fun gs15 w15 H15 => ?_
    show WPs _ _ _ _ [12] _ _
    clear H14
    obtain ⟨cur_20, hc_21, hs_22, hr_23⟩ := hr.putB (n - 1) (UInt8.ofBitVec ((UInt8.toBitVec (List.getD (padK s z) (n - 1) 0)) + (128 : BitVec 8))) (by omega)
    refine s_storeM H15 0 [(b, Obj.cells cur_20 5 fz)] 5 (.tmp 32) (.tmp 31) b (0 + (n - 1) * 1) cur cur_20 5 fz (.int .u8 ((BitVec.toNat ((UInt8.toBitVec (List.getD (padK s z) (n - 1) 0)) + (128 : BitVec 8)) : Nat) : Int)) kr kr kr kr hf kr kr hs_22 hc_21 kr ?_
    intro w16 H16 hf_19; clear H15
    refine s_nil ?_
    refine g_keep [0, 2, 3, 17] fun ρ1 => ?_
    refine rS [.v, .a, .s 1] H16 kr fun gs17 w17 H17 => ?_
    clear H16
    refine g_seq kr ?_
    refine rS [.v] H17 kr fun gs18 w18 H18 => ?_
    clear H17
    refine g_block 2 kr ?_
    have HL6 : St w.heap.size w w18 [(b, Obj.cells cur_20 5 fz), ((gs17 1).b, Obj.cells #[.int .u64 0, .int .u64 0, .int .u64 0, .int .u64 0, .int .u64 0, .int .u64 0, .int .u64 0, .int .u64 0, .int .u64 0, .int .u64 0, .int .u64 0, .int .u64 0, .int .u64 0, .int .u64 0, .int .u64 0, .int .u64 0, .int .u64 0, .int .u64 0, .int .u64 0, .int .u64 0, .int .u64 0, .int .u64 0, .int .u64 0, .int .u64 0, .int .u64 0] 96 (0, 0))] := H18.as kr
    clear H18
    have hz2 : z = 135 - ByteArray.size s % 136 := by omega
    have hLr : Rw 1 cur_20 cap n (cellsB (PK s z)) := by have h0 := hr_23; rw [show n - 1 = (padK s z).length - 1 by rw [← hn]] at h0; exact h0
    have hLn : n = List.length (PK s z) := by rw [PK_len]; omega
    have hn136 : n % 136 = 0 := by omega
    have HS7 : St w.heap.size w w18 [(b, Obj.cells cur_20 5 fz), ((gs17 1).b, Obj.cells (Value.cells (svn zeroS)) 96 (0, 0))] := by rw [show (Value.cells (svn zeroS)) = #[.int .u64 0, .int .u64 0, .int .u64 0, .int .u64 0, .int .u64 0, .int .u64 0, .int .u64 0, .int .u64 0, .int .u64 0, .int .u64 0, .int .u64 0, .int .u64 0, .int .u64 0, .int .u64 0, .int .u64 0, .int .u64 0, .int .u64 0, .int .u64 0, .int .u64 0, .int .u64 0, .int .u64 0, .int .u64 0, .int .u64 0, .int .u64 0, .int .u64 0] from by kernel_rfl]; exact HL6
    have HF8 : St w.heap.size w w18 [(b, Obj.cells cur_20 5 fz), ((gs17 1).b, Obj.cells (Value.cells (svn zeroS)) 96 (0, 0))] := HS7.front 0 kr kr
    have HF9 : St w.heap.size w w18 [((gs17 1).b, Obj.cells (Value.cells (svn zeroS)) 96 (0, 0)), (b, Obj.cells cur_20 5 fz)] := HF8.front 1 kr kr
    refine g_loop kr (fun mz ρ ww => ∃ (a : List (BitVec 64)) (m : Nat), n - 136 * m = mz ∧ (136 * m ≤ n) ∧ (a.length = 25) ∧ (takeB (zeroS, 0) ((PK s z).take (136 * m)) = (a, 0)) ∧ St w.heap.size w ww [((gs17 1).b, Obj.cells (Value.cells (svn a)) 96 (0, 0)), (b, Obj.cells cur_20 5 fz)] ∧ Is [(0, .string s), (2, .string (⟨#[]⟩)), (3, .slice (some ⟨b, 0, none⟩) n cap), (4, .pointer (some ⟨(gs17 1).b, 0, none⟩)), (5, .int .i64 ((136 * m : Nat) : Int)), (17, .bool false)] ρ) (n - 0) ⟨zeroS, 0, rfl, (by omega), (by decide), rfl, HF9, (Is.of ⟨kr, kr, kr, kr, kr, kr, trivial⟩)⟩ ?_
    clear HF9
    rintro _ _ w19 ⟨a, m, rfl, hm, ha, ht, H19, _, rfl⟩
    refine g_seq kr ?_
    refine g_sreg [0, 1, 2, 3] kr kr ?_
    refine rp [.v, .v, .v] H19 kr fun gs20 w20 H20 => ?_
    show WPs _ _ _ _ [3] _ _
    clear H19
    by_cases hc10 : (136 * m : Nat) < n
    · skip
      refine rp [.e (v := .bool (decide (((136 * m : Nat) : Int) < ((n : Nat) : Int)))) (v' := .bool true) (bool_eq (decide_eq_true (by omega)))] H20 kr fun gs21 w21 H21 => ?_
      show WPs _ _ _ _ [] _ _
      clear H20
      refine s_nil ?_
      refine g_cond_t kr kr ?_
      refine g_skip kr ?_
      show WP _ _ _ _ _ _
      refine g_seq kr ?_
      refine g_block 3 kr ?_
      refine g_seq kr ?_
      refine rS [.v] H21 kr fun gs22 w22 H22 => ?_
      clear H21
      refine g_block 4 kr ?_
      have HL11 : St w.heap.size w w22 [((gs17 1).b, Obj.cells (Value.cells (svn a)) 96 (0, 0)), (b, Obj.cells cur_20 5 fz)] := H22.as kr
      clear H22
      have HX : St w.heap.size w w22 [((gs17 1).b, Obj.cells (Value.cells (svn (xw a (wd s z m) 0))) 96 (0, 0)), (b, Obj.cells cur_20 5 fz)] := by rw [← xw_zero (wd s z m) ha]; exact HL11
      refine g_loop kr (fun mz ρ ww => ∃ (i : Nat), 17 - i = mz ∧ (i ≤ 17) ∧ St w.heap.size w ww [((gs17 1).b, Obj.cells (Value.cells (svn (xw a (wd s z m) i))) 96 (0, 0)), (b, Obj.cells cur_20 5 fz)] ∧ Is [(0, .string s), (2, .string (⟨#[]⟩)), (3, .slice (some ⟨b, 0, none⟩) n cap), (4, .pointer (some ⟨(gs17 1).b, 0, none⟩)), (5, .int .i64 ((136 * m : Nat) : Int)), (6, .int .i64 ((i : Nat) : Int)), (17, .bool false), (37, .bool true)] ρ) (17 - 0) ⟨0, rfl, (by omega), HX, (Is.of ⟨kr, kr, kr, kr, kr, kr, kr, kr, trivial⟩)⟩ ?_
      clear HX
      rintro _ _ w23 ⟨i, rfl, hi, H23, _, rfl⟩
      refine g_seq kr ?_
      refine g_sreg [0, 1] kr kr ?_
      refine rp [.v] H23 kr fun gs24 w24 H24 => ?_
      show WPs _ _ _ _ [1] _ _
      clear H23
      by_cases hc12 : (i : Nat) < 17
      · skip
        refine rp [.e (v := .bool (decide (((i : Nat) : Int) < 17))) (v' := .bool true) (bool_eq (decide_eq_true (by omega)))] H24 kr fun gs25 w25 H25 => ?_
        show WPs _ _ _ _ [] _ _
        clear H24
        refine s_nil ?_
        refine g_cond_t kr kr ?_
        refine g_skip kr ?_
        show WP _ _ _ _ _ _
        refine g_seq kr ?_
        refine g_block 5 kr ?_
        have HL13 : St w.heap.size w w25 [((gs17 1).b, Obj.cells (Value.cells (svn (xw a (wd s z m) i))) 96 (0, 0)), (b, Obj.cells cur_20 5 fz)] := H25.as kr
        clear H25
        refine D2.g_draw0 [0, 1, 2, 3, 4, 5, 6, 7, 8, 9, 10, 11, 12, 13, 14, 15, 16, 17, 18, 19] [((some 44), fun _ => .int .i64 ((i : Nat) : Int)), ((some 45), fun _ => .int .i64 ((i : Nat) : Int)), ((some 46), fun _ => .pointer (some ⟨(gs17 1).b, 0 + i * 1, none⟩)), ((some 47), fun _ => .int .u64 ((BitVec.toNat (nth a i) : Nat) : Int)), ((some 48), fun _ => .slice (some ⟨b, 0, none⟩) n cap), ((some 49), fun _ => .int .i64 ((136 * m : Nat) : Int)), ((some 50), fun _ => .int .i64 ((i : Nat) : Int)), ((some 51), fun _ => .int .i64 ((8 * i : Nat) : Int)), ((some 52), fun _ => .int .i64 (((136 * m) + (8 * i) : Nat) : Int)), ((some 53), fun _ => .int .i64 ((136 * m : Nat) : Int)), ((some 54), fun _ => .int .i64 ((i : Nat) : Int)), ((some 55), fun _ => .int .i64 ((8 * i : Nat) : Int)), ((some 56), fun _ => .int .i64 (((136 * m) + (8 * i) : Nat) : Int)), ((some 57), fun _ => .int .i64 ((((136 * m) + (8 * i)) + 8 : Nat) : Int)), ((some 58), fun _ => .slice (some ⟨b, 136 * m + 8 * i, none⟩) 8 (cap - ((136 * m) + (8 * i)))), ((some 59), fun _ => .string (strB (List.take 8 (List.drop (136 * m + 8 * i) (PK s z))))), ((some 60), fun _ => .int .u64 ((BitVec.toNat (wrk (List.take 8 (List.drop (136 * m + 8 * i) (PK s z))) 0 8) : Nat) : Int)), ((some 61), fun _ => .int .u64 ((BitVec.toNat ((nth a i) ^^^ (wrk (List.take 8 (List.drop (136 * m + 8 * i) (PK s z))) 0 8)) : Nat) : Int)), ((some 62), fun _ => .pointer (some ⟨(gs17 1).b, 0 + i * 1, none⟩)), (none, fun _ => undef)] (D2.Pre w.heap.size w (fun L g => [(true, (bif L 19 then ((gs17 1).b, Obj.cells (Value.cells (svn (xw a (wd s z m) (i + 1)))) 96 (0, 0)) else ((gs17 1).b, Obj.cells (Value.cells (svn (xw a (wd s z m) i))) 96 (0, 0)))), (true, (b, Obj.cells cur_20 5 fz))]) (fun L g => True)) kr kr kr ⟨D2.StE.of HL13.drew _ kr, trivial⟩ ⟨?_, ?_, ?_, ?_, ?_, ?_, ?_, ?_, ?_, ?_, ?_, ?_, ?_, ?_, ?_, ?_, ?_, ?_, ?_, ?_, trivial⟩ ?_
        · exact D2.gv_val (fun _ _ _ h => h) (fun g w => by kernel_rfl)
        · exact D2.gv_val (fun _ _ _ h => h) (fun g w => by kernel_rfl)
        · exact D2.gv_op (fun _ _ _ h => h) _ (fun g => by kernel_rfl) (fun g => (fun o w ho => idxA_run (kd := .i64) (t := 96) (n := 25) (size := 1) kr (x := (.tmp 4)) (y := (.tmp 45)) (gs17 1).b 0 i ho kr kr (by omega) w))
        · exact D2.gv_load1 85 (.tmp 46) 0 (fun g => (gs17 1).b) (fun g => 0 + i * 1) (fun g => (Value.cells (svn (xw a (wd s z m) i)))) 96 (0, 0) (fun _ _ _ h => h) (fun g => by kernel_rfl) (fun g => by kernel_rfl) (fun L g hN => (by have hL19 : L 19 = false := (hN.post 19 kr); exact D2.ent_get' (p := true) (e := (bif L 19 then ((gs17 1).b, Obj.cells (Value.cells (svn (xw a (wd s z m) (i + 1)))) 96 (0, 0)) else ((gs17 1).b, Obj.cells (Value.cells (svn (xw a (wd s z m) i))) 96 (0, 0)))) kr (by rfl) (by simp only [hL19, cond_true, cond_false] <;> rfl))) kr (fun L g hN hF => by exact ((show nth (xw a (wd s z m) i) i = nth a i from xw_at _ _ _ (by omega)) ▸ svn_at (xw a (wd s z m) i) i _ (by omega) (by omega)))
        · exact D2.gv_val (fun _ _ _ h => h) (fun g w => by kernel_rfl)
        · exact D2.gv_val (fun _ _ _ h => h) (fun g w => by kernel_rfl)
        · exact D2.gv_val (fun _ _ _ h => h) (fun g w => by kernel_rfl)
        · exact D2.gv_valE (fun _ _ _ h => h) (V' := .int .i64 (IntKind.i64.wrap (8 * ((i : Nat) : Int)))) (fun g w => by kernel_rfl) (int_eq (wrapMul_i64 (a := 8) (b := i) (by omega)))
        · exact D2.gv_valE (fun _ _ _ h => h) (V' := .int .i64 (IntKind.i64.wrap (((136 * m : Nat) : Int) + ((8 * i : Nat) : Int)))) (fun g w => by kernel_rfl) (int_eq (wrapAdd_i64 (a := 136 * m) (b := 8 * i) (by omega)))
        · exact D2.gv_val (fun _ _ _ h => h) (fun g w => by kernel_rfl)
        · exact D2.gv_val (fun _ _ _ h => h) (fun g w => by kernel_rfl)
        · exact D2.gv_valE (fun _ _ _ h => h) (V' := .int .i64 (IntKind.i64.wrap (8 * ((i : Nat) : Int)))) (fun g w => by kernel_rfl) (int_eq (wrapMul_i64 (a := 8) (b := i) (by omega)))
        · exact D2.gv_valE (fun _ _ _ h => h) (V' := .int .i64 (IntKind.i64.wrap (((136 * m : Nat) : Int) + ((8 * i : Nat) : Int)))) (fun g w => by kernel_rfl) (int_eq (wrapAdd_i64 (a := 136 * m) (b := 8 * i) (by omega)))
        · exact D2.gv_valE (fun _ _ _ h => h) (V' := .int .i64 (IntKind.i64.wrap ((((136 * m) + (8 * i) : Nat) : Int) + 8))) (fun g w => by kernel_rfl) (int_eq (wrapAdd_i64 (a := (136 * m) + (8 * i)) (b := 8) (by omega)))
        · exact D2.gv_op (fun _ _ _ h => h) _ (fun g => by kernel_rfl) (fun g => (fun o w ho => cut2_run (kd := .i64) (kz := .i64) (t := 88) (e := 5) (size := 1) (bytes := 1) kr (x := (.tmp 48)) (y := (.tmp 57)) (z := (.tmp 52)) b n cap ((136 * m) + (8 * i)) (((136 * m) + (8 * i)) + 8) ho kr kr kr (by have := hLr.le; omega) (by omega) (by have := hLr.le; omega) (136 * m + 8 * i) (8) (by omega) (by omega) w))
        · exact D2.gv_bytesCut 1 88 9 5 (.tmp 58) (fun g => b) (136 * m + 8 * i) 8 (cap - ((136 * m) + (8 * i))) cap n cur_20 5 fz (PK s z) (fun _ _ _ h => h) (fun g => by kernel_rfl) kr kr kr (fun g => by kernel_rfl) (fun L g hN => kr) hLr (by omega)
        · exact D2.gv_call 54 #[.string (strB (List.take 8 (List.drop (136 * m + 8 * i) (PK s z))))] (fun _ _ _ h => h) (word_fn (strB (List.take 8 (List.drop (136 * m + 8 * i) (PK s z)))) (show ByteArray.size (strB (List.take 8 (List.drop (136 * m + 8 * i) (PK s z)))) = 8 by rw [strB_size, List.length_take, List.length_drop]; omega)) (fun g w => by kernel_rfl)
        · exact D2.gv_valE (fun _ _ _ h => h) (V' := .int .u64 (Go.bits .xor .u64 (((BitVec.toNat (nth a i) : Nat) : Int)) (((BitVec.toNat (wrk (List.take 8 (List.drop (136 * m + 8 * i) (PK s z))) 0 8) : Nat) : Int)))) (fun g w => by kernel_rfl) (bv_xor_u64 (nth a i) (wrk (List.take 8 (List.drop (136 * m + 8 * i) (PK s z))) 0 8))
        · exact D2.gv_op (fun _ _ _ h => h) _ (fun g => by kernel_rfl) (fun g => (fun o w ho => idxA_run (kd := .i64) (t := 96) (n := 25) (size := 1) kr (x := (.tmp 4)) (y := (.tmp 44)) (gs17 1).b 0 i ho kr kr (by omega) w))
        · exact D2.gv_store 0 85 (.tmp 62) (.tmp 61) (fun g => (gs17 1).b) (fun g => 0 + i * 1) (Value.cells (svn (xw a (wd s z m) i))) (Value.cells (svn (xw a (wd s z m) (i + 1)))) 96 (.int .u64 ((BitVec.toNat ((nth a i) ^^^ (wrk (List.take 8 (List.drop (136 * m + 8 * i) (PK s z))) 0 8)) : Nat) : Int)) (fun g => by kernel_rfl) (fun g => by kernel_rfl) (fun g => by kernel_rfl) kr kr (fun g => (by show _ + 1 ≤ 25; omega)) (fun g => ((xw_set a (wd s z m) i (by omega)) ▸ svn_put (xw a (wd s z m) i) i _ ((nth a i) ^^^ (wrk (List.take 8 (List.drop (136 * m + 8 * i) (PK s z))) 0 8)) (xw_len _ _ _) (by omega) (by omega))) (fun L g hN => ⟨(by have hL19 : L 19 = false := hN.1; exact D2.ent_get' (p := true) (e := (bif L 19 then ((gs17 1).b, Obj.cells (Value.cells (svn (xw a (wd s z m) (i + 1)))) 96 (0, 0)) else ((gs17 1).b, Obj.cells (Value.cells (svn (xw a (wd s z m) i))) 96 (0, 0)))) kr (by rfl) (by simp only [hL19, cond_true, cond_false] <;> rfl)), kr⟩) (fun L g hN hF => hF)
        intro L0 G26 w26 hall HL; clear HL13
        have H26 : St w.heap.size w w26 [((gs17 1).b, Obj.cells (Value.cells (svn (xw a (wd s z m) (i + 1)))) 96 (0, 0)), (b, Obj.cells cur_20 5 fz)] := by have e19 := hall 19 (Nat.le_of_ble_eq_true kr); have hS := D2.StE.st HL.1; simp only [e19, cond_true, D2.pres] at hS; exact hS
        clear HL hall
        show WP _ _ _ _ _ _
        refine g_keep [0, 2, 3, 4, 5, 6, 17, 37, 41] fun ρ2 => ?_
        refine rL [.v, .e (v := .int .i64 (IntKind.i64.wrap (((i : Nat) : Int) + 1))) (v' := .int .i64 ((i + 1 : Nat) : Int)) (int_eq (wrapAdd_i64 (a := i) (b := 1) (by omega))), .v] H26 kr fun gs27 w27 H27 => ?_
        clear H26
        have HL14 : St w.heap.size w w27 [((gs17 1).b, Obj.cells (Value.cells (svn (xw a (wd s z m) (i + 1)))) 96 (0, 0)), (b, Obj.cells cur_20 5 fz)] := H27.as kr
        clear H27
        show ∃ m, _ ∧ _
        exact ⟨_, (by omega), (i + 1), rfl, (by omega), HL14, (Is.of ⟨kr, kr, kr, kr, kr, kr, kr, kr, trivial⟩)⟩
      · skip
        refine rp [.e (v := .bool (decide (((i : Nat) : Int) < 17))) (v' := .bool false) (bool_eq (decide_eq_false (by omega)))] H24 kr fun gs28 w28 H28 => ?_
        show WPs _ _ _ _ [] _ _
        clear H24
        refine s_nil ?_
        refine g_cond_f kr kr ?_
        refine g_exit 4 kr ?_
        show WP _ _ _ _ _ _
        refine rL [.l 0, .c (mixR_fn (xw a (wd s z m) i)), .s 0] H28 kr fun gs29 w29 H29 => ?_
        clear H28
        show WP _ _ _ _ _ _
        refine rL [.v, .e (v := .int .i64 (IntKind.i64.wrap (((136 * m : Nat) : Int) + 136))) (v' := .int .i64 (((136 * m) + 136 : Nat) : Int)) (int_eq (wrapAdd_i64 (a := 136 * m) (b := 136) (by omega))), .v] H29 kr fun gs30 w30 H30 => ?_
        clear H29
        have HL15 : St w.heap.size w w30 [((gs17 1).b, Obj.cells (Value.cells (svn (mix (xw a (wd s z m) i)))) 96 (0, 0)), (b, Obj.cells cur_20 5 fz)] := H30.as kr
        clear H30
        have hw5 : (.int .i64 (((136 * m) + 136 : Nat) : Int) : Value) = .int .i64 ((136 * (m + 1) : Nat) : Int) := (int_eq (by omega))
        obtain rfl : i = 17 := by omega
        show ∃ m, _ ∧ _
        exact ⟨_, (by omega), (mix (xw a (wd s z m) 17)), (m + 1), rfl, (by omega), (mix_len (xw_len _ _ _)), (block_go s z m a ha ht (by omega)), HL15, (Is.of ⟨kr, kr, kr, kr, (Eq.trans (b := .int .i64 (((136 * m) + 136 : Nat) : Int)) kr hw5), kr, trivial⟩)⟩
    · skip
      refine rp [.e (v := .bool (decide (((136 * m : Nat) : Int) < ((n : Nat) : Int)))) (v' := .bool false) (bool_eq (decide_eq_false (by omega)))] H20 kr fun gs31 w31 H31 => ?_
      show WPs _ _ _ _ [] _ _
      clear H20
      refine s_nil ?_
      refine g_cond_f kr kr ?_
      refine g_exit 2 kr ?_
      show WP _ _ _ _ _ _
      refine rS [.nw (fun b => .slice (some ⟨b, 0, none⟩) 0 0) #[] 5, .v] H31 kr fun gs32 w32 H32 => ?_
      clear H31
      refine g_seq kr ?_
      refine rS [.v] H32 kr fun gs33 w33 H33 => ?_
      clear H32
      refine g_block 6 kr ?_
      have HL16 : St w.heap.size w w33 [((gs17 1).b, Obj.cells (Value.cells (svn a)) 96 (0, 0)), (b, Obj.cells cur_20 5 fz), ((gs32 0).b, Obj.cells #[] 5 (0, 0))] := H33.as kr
      clear H33
      have HD17 : St w.heap.size w w33 [((gs17 1).b, Obj.cells (Value.cells (svn a)) 96 (0, 0)), ((gs32 0).b, Obj.cells #[] 5 (0, 0))] := HL16.sub (List.Sublist.cons_cons _ (List.Sublist.cons _ (List.Sublist.cons_cons _ List.Sublist.slnil)))
      have HF18 : St w.heap.size w w33 [((gs17 1).b, Obj.cells (Value.cells (svn a)) 96 (0, 0)), ((gs32 0).b, Obj.cells #[] 5 (0, 0))] := HD17.front 0 kr kr
      have HF19 : St w.heap.size w w33 [((gs32 0).b, Obj.cells #[] 5 (0, 0)), ((gs17 1).b, Obj.cells (Value.cells (svn a)) 96 (0, 0))] := HF18.front 1 kr kr
      refine g_loop kr (fun mz ρ ww => ∃ (bo : Nat) (capo : Nat) (no : Nat) (curo : Array Value) (i : Nat), 32 - i = mz ∧ (no = i) ∧ (Rw 1 curo capo no (cellsB (outK a i))) ∧ (i ≤ 32) ∧ St w.heap.size w ww [(bo, Obj.cells curo 5 (0, 0)), ((gs17 1).b, Obj.cells (Value.cells (svn a)) 96 (0, 0))] ∧ Is [(0, .string s), (2, .string (⟨#[]⟩)), (3, .slice (some ⟨b, 0, none⟩) n cap), (4, .pointer (some ⟨(gs17 1).b, 0, none⟩)), (5, .int .i64 ((136 * m : Nat) : Int)), (7, .slice (some ⟨bo, 0, none⟩) no capo), (8, .int .i64 ((i : Nat) : Int)), (17, .bool false), (37, .bool false)] ρ) (32 - 0) ⟨(gs32 0).b, 0, 0, #[], 0, rfl, rfl, (Rw.lit #[] 0 rfl (by unfold maxLen; omega)), (by omega), HF19, (Is.of ⟨kr, kr, kr, kr, kr, kr, kr, kr, kr, trivial⟩)⟩ ?_
      clear HF19
      rintro _ _ w34 ⟨bo, capo, no, curo, i, rfl, hno, hro, hi, H34, _, rfl⟩
      refine g_seq kr ?_
      refine g_sreg [0, 1] kr kr ?_
      refine rp [.v] H34 kr fun gs35 w35 H35 => ?_
      show WPs _ _ _ _ [1] _ _
      clear H34
      by_cases hc20 : (i : Nat) < 32
      · skip
        refine rp [.e (v := .bool (decide (((i : Nat) : Int) < 32))) (v' := .bool true) (bool_eq (decide_eq_true (by omega)))] H35 kr fun gs36 w36 H36 => ?_
        show WPs _ _ _ _ [] _ _
        clear H35
        refine s_nil ?_
        refine g_cond_t kr kr ?_
        refine g_skip kr ?_
        show WP _ _ _ _ _ _
        refine g_seq kr ?_
        refine g_block 7 kr ?_
        refine g_reg0 [0, 1, 2, 3, 4, 5, 6, 7, 8, 9, 10, 11, 12, 13, 14] kr ?_
        refine rp [.v, .v, .e (v := .int .i64 (IntKind.i64.wrap (((i : Nat) : Int).tdiv 8))) (v' := .int .i64 ((i / 8 : Nat) : Int)) (int_eq (quoN_i64 (a := i) (b := 8) (by omega))), .o (ins := [((.tmp 4), .pointer (some ⟨(gs17 1).b, 0, none⟩)), ((.tmp 72), .int .i64 ((i / 8 : Nat) : Int))]) (v := .pointer (some ⟨(gs17 1).b, 0 + (i / 8) * 1, none⟩)) (fun ρ o w ho hi => idxA_run (kd := .i64) (t := 96) (n := 25) (size := 1) kr (x := (.tmp 4)) (y := (.tmp 72)) (gs17 1).b 0 (i / 8) ho hi.1 hi.2.1 (by omega) w), .ls (C := (Value.cells (svn a))) (off := 0 + (i / 8) * 1) (v := .int .u64 ((BitVec.toNat (nth a (i / 8)) : Nat) : Int)) 1 (svn_at a (i / 8) _ (by omega) (by omega)), .v, .e (v := .int .i64 (Int.tmod ((i : Nat) : Int) 8)) (v' := .int .i64 ((i % 8 : Nat) : Int)) (int_eq (remN i 8)), .e (v := .int .i64 (IntKind.i64.wrap (8 * ((i % 8 : Nat) : Int)))) (v' := .int .i64 ((8 * (i % 8) : Nat) : Int)) (int_eq (wrapMul_i64 (a := 8) (b := i % 8) (by omega))), .e (v := .int .u64 (IntKind.u64.wrap (((8 * (i % 8) : Nat) : Int)))) (v' := .int .u64 ((8 * (i % 8) : Nat) : Int)) (int_eq (wrapN_u64 (a := 8 * (i % 8)) (by omega))), .e (v := .int .u64 (Int.fdiv (((BitVec.toNat (nth a (i / 8)) : Nat) : Int)) (2 ^ (min (8 * (i % 8)) 64)))) (v' := .int .u64 ((BitVec.toNat ((nth a (i / 8)) >>> (8 * (i % 8))) : Nat) : Int)) (bv_shr_u64 (nth a (i / 8)) (8 * (i % 8))), .e (v := .int .u64 (Int.tmod (((BitVec.toNat ((nth a (i / 8)) >>> (8 * (i % 8))) : Nat) : Int)) (256))) (v' := .int .u64 ((BitVec.toNat (((nth a (i / 8)) >>> (8 * (i % 8))) % (256 : BitVec 64)) : Nat) : Int)) (bv_rem_u64 ((nth a (i / 8)) >>> (8 * (i % 8))) (256 : BitVec 64)), .e (v := .int .u8 (IntKind.u8.wrap (((BitVec.toNat (((nth a (i / 8)) >>> (8 * (i % 8))) % (256 : BitVec 64)) : Nat) : Int)))) (v' := .int .u8 ((BitVec.toNat (BitVec.setWidth 8 (((nth a (i / 8)) >>> (8 * (i % 8))) % (256 : BitVec 64))) : Nat) : Int)) (bv_conv_u8 (((nth a (i / 8)) >>> (8 * (i % 8))) % (256 : BitVec 64))), .nw (fun b => .slice (some ⟨b, 0, none⟩) 1 1) #[.int .u8 ((BitVec.toNat (BitVec.setWidth 8 (((nth a (i / 8)) >>> (8 * (i % 8))) % (256 : BitVec 64))) : Nat) : Int)] 5] H36 kr fun gs37 w37 H37 => ?_
        show WPs _ _ _ _ [13, 14] _ _
        clear H36
        refine s_append H37 (some 83) 88 5 1 1 (.tmp 70) (.tmp 82) 0 2 bo ((gs37 12).b) no 1 capo 1 curo #[.int .u8 ((BitVec.toNat (BitVec.setWidth 8 (((nth a (i / 8)) >>> (8 * (i % 8))) % (256 : BitVec 64))) : Nat) : Int)] 5 (0, 0) (cellsB (outK a i)) ([.int .u8 ((BitVec.toNat (BitVec.setWidth 8 (((nth a (i / 8)) >>> (8 * (i % 8))) % (256 : BitVec 64))) : Nat) : Int)]) (fun b_24 cur_26 => [(b_24, Obj.cells cur_26 5 (0, 0)), ((gs17 1).b, Obj.cells (Value.cells (svn a)) 96 (0, 0)), ((gs37 12).b, Obj.cells #[.int .u8 ((BitVec.toNat (BitVec.setWidth 8 (((nth a (i / 8)) >>> (8 * (i % 8))) % (256 : BitVec 64))) : Nat) : Int)] 5 (0, 0))]) kr kr kr kr kr hro kr kr (by rfl) (by rfl) (by intro u hu; simp at hu; first | exact hu.elim | (rcases hu with rfl | rfl | rfl | rfl <;> rfl) | (rcases hu with rfl | rfl <;> rfl) | (subst hu; rfl)) (by omega) (by unfold maxLen; omega) (fun _ _ => by kernel_rfl) ?_
        intro b_24 cap_25 cur_26 w38 H38 hr_27; clear H37
        have hr_27t : Rw 1 cur_26 cap_25 (no + 1) (cellsB (outK a i ++ [UInt8.ofBitVec (BitVec.setWidth 8 (((nth a (i / 8)) >>> (8 * (i % 8))) % (256 : BitVec 64)))])) := by rw [cellsB_append]; exact hr_27
        have hr_27n : no + 1 = List.length (outK a i ++ [UInt8.ofBitVec (BitVec.setWidth 8 (((nth a (i / 8)) >>> (8 * (i % 8))) % (256 : BitVec 64)))]) := by have h0 : no = List.length (outK a i) := (by rw [outK_len]; exact hno); rw [List.length_append, ← h0]; rfl
        refine rp [.v] H38 kr fun gs39 w39 H39 => ?_
        show WPs _ _ _ _ [] _ _
        clear H38
        refine s_nil ?_
        show WP _ _ _ _ _ _
        refine g_keep [0, 2, 3, 4, 5, 7, 8, 17, 37, 67] fun ρ3 => ?_
        have HK21 := H39.keep
        clear H39
        refine rL [.v, .e (v := .int .i64 (IntKind.i64.wrap (((i : Nat) : Int) + 1))) (v' := .int .i64 ((i + 1 : Nat) : Int)) (int_eq (wrapAdd_i64 (a := i) (b := 1) (by omega))), .v] HK21 kr fun gs40 w40 H40 => ?_
        clear HK21
        have HL22 : St w.heap.size w w40 [(b_24, Obj.cells cur_26 5 (0, 0)), ((gs17 1).b, Obj.cells (Value.cells (svn a)) 96 (0, 0)), ((gs37 12).b, Obj.cells #[.int .u8 ((BitVec.toNat (BitVec.setWidth 8 (((nth a (i / 8)) >>> (8 * (i % 8))) % (256 : BitVec 64))) : Nat) : Int)] 5 (0, 0))] := H40.as kr
        clear H40
        have hrw : Rw 1 cur_26 cap_25 (no + 1) (cellsB (outK a (i + 1))) := by rw [outK_succ]; have h0 := hr_27t; rw [byteK] at h0; exact h0
        have HD23 : St w.heap.size w w40 [(b_24, Obj.cells cur_26 5 (0, 0)), ((gs17 1).b, Obj.cells (Value.cells (svn a)) 96 (0, 0))] := HL22.sub (List.Sublist.cons_cons _ (List.Sublist.cons_cons _ (List.Sublist.cons _ List.Sublist.slnil)))
        show ∃ m, _ ∧ _
        exact ⟨_, (by omega), b_24, cap_25, no + 1, cur_26, (i + 1), rfl, (by omega), hrw, (by omega), HD23, (Is.of ⟨kr, kr, kr, kr, kr, kr, kr, kr, kr, trivial⟩)⟩
      · skip
        refine rp [.e (v := .bool (decide (((i : Nat) : Int) < 32))) (v' := .bool false) (bool_eq (decide_eq_false (by omega)))] H35 kr fun gs41 w41 H41 => ?_
        show WPs _ _ _ _ [] _ _
        clear H35
        refine s_nil ?_
        refine g_cond_f kr kr ?_
        refine g_exit 6 kr ?_
        show WP _ _ _ _ _ _
        refine g_sreg [0, 1, 2] kr kr ?_
        refine rp [.v] H41 kr fun gs42 w42 H42 => ?_
        show WPs _ _ _ _ [1, 2] _ _
        clear H41
        refine s_bytesStrB H42 (some 85) 88 9 5 (.tmp 84) 0 bo no capo curo 5 (0, 0) (outK a i) kr kr kr kr kr kr kr hro ?_
        refine rp [.v] H42 kr fun gs43 w43 H43 => ?_
        show WPs _ _ _ _ [] _ _
        clear H42
        refine s_nil ?_
        refine g_ret kr ?_
        show ∃ vs, Res _ _ _ _ vs ∧ _
        refine ⟨[.string (strB (outK a i))], (.tmp (.string (strB (outK a i))) kr .nil), ?_, H43.below⟩
        obtain rfl : i = 32 := by omega
        exact congrArg (fun x => Value.string (strB x)) (sum_done s z m a hz2 ht (by omega))
end Go.Proofs.YtlhfgbjhngkicaaGreatDoor.Ke

namespace Go.Proofs.YtlhfgbjhngkicaaGreatDoor
open Go Go.RowKit
open D2 (Gh)
set_option linter.unusedVariables false
theorem ld1_run {P : Program} {ρ : Env} {x : Operand} {o : Oper} {w : World} {b off : Nat} {C : Array Value} {T : TypeId} {fz : Nat × Nat} {v : Value} {t : TypeId} (ht : oneCell P t = true) (hh : w.heap[b]? = some (.cells C T fz)) (hv : C[off]? = some v) (ho : o.op = .load t x) (hx : ev ρ x = .pointer (some ⟨b, off, none⟩)) :
    (execOp (ev ρ) o).run P w = .ok (.value v) w := by
  have := load_one (P := P) (w := w) ht hh hv
  simp [execOp, ho, Instr.loadAt, Instr.sureAddr, hx, this]
theorem D2.stg_no : ∀ (ks : List Nat) (L : Nat → Bool) (i k : Nat), ks[i]? = some k → L k = false → D2.stg ks L ≤ i
  | [], _, _, _, h, _ => by simp at h
  | k :: r, L, 0, k', h, hk => by
    obtain rfl : k = k' := by simpa using h
    unfold D2.stg; rw [hk]; exact Nat.le_refl _
  | k :: r, L, i + 1, k', h, hk => by
    have ih := D2.stg_no r L i k' (by simpa using h) hk
    unfold D2.stg
    cases L k with
    | true => exact Nat.succ_le_succ ih
    | false => exact Nat.zero_le _
theorem D2.chn.getN {ks : List Nat} {Q : Nat → (Nat → Gh) → World → Prop} {L : Nat → Bool} {g : Nat → Gh} {w : World} {Φ : Prop} (h : D2.chn ks Q L g w) (i k : Nat) (hi : ks[i]? = some k) (hk : L k = false) (hQ : ∀ j, j ≤ i → Q j g w → Φ) : Φ := hQ _ (D2.stg_no ks L i k hi hk) h
/-- A whole row of one's own is put behind a row, whether there is one or not. -/
theorem grow_any {α : Type} {S : Fl α} {P : Program} {ρ : Env} {w w0 : World} {B : Nat} {bx n c m mc e : Nat} {p : Option Addr} {row Z : List (Nat × Obj)} {M0 M : List α} (HS : St B w0 w ((bx, .cells (cellsF S M).toArray e (0, 0)) :: (row ++ Z))) (hrow : RowF S e p n c row M0)
    {t bytes : Nat} {s x : Operand} {o : Oper} (ht : sliceOf P t = some (e, S.K, bytes)) (ho : o.op = appendOp t s x) (hs : ev ρ s = .slice p n c) (hx : ev ρ x = .slice (some ⟨bx, 0, none⟩) m mc) (hM : m = M.length) (h0 : 0 < m) (hb : (n + m) * bytes ≤ 140737488355328) (hm : n + m ≤ maxLen) :
    ∃ b' cap' cur' w', (execOp (ev ρ) o).run P w = .ok (.value (.slice (some ⟨b', 0, none⟩) (n + m) cap')) w' ∧ St B w0 w' ((b', .cells cur' e (0, 0)) :: Z) ∧ Rw S.K cur' cap' (n + m) (cellsF S (M0 ++ M)) := by
  have hx0 := HS.get 0 rfl
  have hrw : Rw S.K (cellsF S M).toArray M.length M.length (cellsF S M) := ⟨cellsF_len M, Nat.le_refl _, by omega, by rw [List.toList_toArray, List.take_of_length_le (by rw [cellsF_len]; exact Nat.le_refl _)], by rw [List.size_toArray, cellsF_len]⟩
  rw [cellsF_append]
  rcases hrow with ⟨rfl, rfl, rfl, rfl, rfl⟩ | ⟨b, cur, rfl, rfl, hr⟩
  · obtain ⟨it, z, hu, hi, hz, hsz, hby, hzs, hz0⟩ := sliceOf_spec ht
    have hnews : ∀ q u, (cellsF S M)[q]? = some u → w.cell? ((⟨bx, 0, none⟩ : Addr).add q) = some u := fun q u hq => by
      rw [addr_add, Nat.zero_add]
      simp [World.cell?, hx0, hq]
    obtain ⟨v', w', hrun, hown, hgr, hnil, hblk⟩ := run_append_own_at (P := P) w B t o.type e it z S.K bytes hu hi hz hsz hby hzs hz0 (.slice none 0 0) 0 [] (World.ownsRow_nil w B e S.K) ⟨bx, 0, none⟩ m mc (cellsF S M) (by rw [cellsF_len, hM]) hnews (cellsF_one M) hm hb HS.le
    have hown' := hown
    rcases hown'.2 with ⟨hv, _⟩ | ⟨g, cap', cur', rfl, hbg, hg, hnc, hcm, hcs, htk⟩
    · exact absurd (hnil.1 hv).2 (by omega)
    · have hgb : g = w.heap.size := by
        rcases hblk with hq | hq
        · simp [Value.ownBlock] at hq
        · injection hq
      have hbel : Below w.heap.size w w' := (Below.refl _ w).grown hgr (Nat.le_refl _) (fun k hk => by simp [Value.ownBlock] at hk)
      have HS' := HS.add hbel (by omega) hg
      refine ⟨g, cap', cur', w', ?_, HS'.sub (List.Sublist.cons_cons _ (List.sublist_cons_self ..)), ⟨?_, hnc, hcm, htk, hcs⟩⟩
      · unfold execOp
        simp only [ho, appendOp, resolve, invoke, builtin, Sem.run_bind, Sem.run_pure, Result.andThen_ok, List.map_toArray, List.map_cons, List.map_nil, hs, hx, hrun]
      · rw [Nat.zero_add, List.length_append, cellsF_len, cellsF_len, hM]; simp
  · obtain ⟨b', cap', cur', w', hrun, HS', hr'⟩ := grow_all (S := S) (M := M) (j := 1) HS ht ho hs rfl hr hx hM (.inr ⟨bx, 0, _, _, _, rfl, hx0, hrw.rowAt⟩) hb hm
    exact ⟨b', cap', cur', w', hrun, HS'.sub (List.sublist_cons_self ..), hr'⟩
/-- An item, by where its kids lie. -/
abbrev Xg (M : I3) (y : Gh) : X3 := ⟨M.l, M.s, pG y, M.k.len, y.cap, M.k⟩
def okX (M : I3) (v : Value) (T : List (Nat × Obj)) : Prop := ∃ y : Gh, v = itV (Xg M y) ∧ SlIn T (pG y) M.k.len M.k
theorem okX_row {M : I3} {L : List X3} (hM : M = lI (L.map X3.i)) {b c : Nat} {cur : Array Value} {T : List (Nat × Obj)} (hr : Rw 3 cur c L.length (cellsF iS L)) (hm : (b, Obj.cells cur 68 (0, 0)) ∈ T) (hA : AllIn T L) (hl : L.length ≤ 1000) :
    okX M (.agg #[.bool true, .string emB, .slice (some ⟨b, 0, none⟩) L.length c]) T := by
  have hk : M.k = toFo L := by rw [hM, toFo_foI]; rfl
  have hn : M.k.len = L.length := by rw [hk, toFo_len]
  refine ⟨{ b := b, cap := c, l := [1] }, ?_, ?_⟩
  · show _ = Value.agg #[.bool M.l, .string M.s, .slice (some ⟨b, 0, none⟩) M.k.len c]
    rw [hn, hM]; rfl
  · show SlIn T (some ⟨b, 0, none⟩) M.k.len M.k
    rw [hn, hk]
    rw [cells_iS] at hr
    exact hr.slIn hm hA (by omega)
theorem okX_b (s : ByteArray) : okX (bI s) (itV (b3 s)) [] := ⟨{ cap := 0 }, rfl, rfl, Nat.zero_le _, .inl rfl⟩
theorem okm_wt {x : I3} (h : Okm x) : ByteArray.size x.s + wtF x.k ≤ 4611686018427387904 := by
  have h1 := pure_len h.ok.2
  have h3 := h.sz
  have h4 := cnt_szF h.ok.2
  have h5 : szF x.k + x.s.size ≤ (encI x).length := by
    unfold encI wr1
    rw [List.length_append, List.length_append, tl_len, h1]; omega
  have h6 := pure_wt h.ok.2
  omega
theorem okm_ref {x : I3} (h : Okm x) (y : Gh) : FnP Tryz.prog 31 #[itV (Xg x y)] (fun w => SlAt w.heap.size w (pG y) x.k.len x.k) (.string (strB (encI x))) :=
  rwrite_fn x.l x.s (pG y) x.k.len y.cap x.k (by
    have h1 := h.sz
    have h2 := okm_wt h
    have h5 : x.s.size ≤ (encI x).length := by
      unfold encI wr1
      rw [List.length_append, List.length_append, tl_len]; omega
    omega) h.ok.1 h.ok.2 (okm_wt h)
def ItC (f : Nat) : Prop := ∀ l : List Ent, l ≠ [] → Okl f l → okS l → l.length ≤ 1000000 → ∀ p n c, FnT Tryz.prog 32 #[.slice p n c] (fun w => PrAt w p n (l.map pE)) (okX (itemM f l))
def ToC (f : Nat) : Prop := ∀ l : List Ent, Okl f l → okS l → l.length ≤ 1000000 → ∀ p n c, FnT Tryz.prog 58 #[.slice p n c] (fun w => PrAt w p n (l.map pE)) (okX (toldM f l))
set_option maxRecDepth 100000 in
set_option maxHeartbeats 4000000 in
theorem told_item (f : Nat) (hI : ItC f) : ToC f := fun l ho hs hl p n c => by
  refine FnT.intro (c := codeOf Tryz.f58) [.cell 2 68] 20 Tryz.func58 kr kr kr fun w hP => ?_
  have hn := hP.1
  rw [List.length_map] at hn
  have H0 := St.start w
  refine rS [.a] H0 kr fun gs1 w1 H1 => ?_
  refine g_seq kr ?_
  by_cases hl0 : l = []
  · subst hl0
    obtain rfl : n = 0 := hn
    refine rS [.v, .v, .v] H1 kr fun gs2 w2 H2 => ?_
    refine g_cond_t kr kr ?_
    refine rS [.v, .s 0] H2 kr fun gs3 w3 H3 => ?_
    have H4 : St w.heap.size w w3 [((gs1 0).b, itO (b3 emB))] := H3.as kr
    refine rRr [.cell 2 68] [0] (itV (b3 emB)) (outT w.heap.size w (okX (toldM f []))) H4 kr ?_
    exact ⟨[], okX_b emB, H4.sub (List.nil_sublist _)⟩
  · have hn0 : n ≠ 0 := by rw [hn]; exact fun h => hl0 (List.length_eq_zero_iff.1 h)
    refine rS [.v, .v, .e (v := .bool (((n : Nat) : Int) == 0)) (v' := .bool false) (bool_eq (beq_eq_false_iff_ne.2 (by omega)))] H1 kr fun gs2 w2 H2 => ?_
    refine g_cond_f kr kr ?_
    refine g_skip kr ?_
    show WP _ _ _ _ _ _
    have hok : Okm (itemM f l) := (item_ok f l hl0 ho hs).1
    have hM : toldM f l = toldI (itemM f l) := by unfold toldM; rw [if_neg hl0]
    have hit := hI l hl0 ho hs hl p n c
    rw [hM]
    generalize itemM f l = M at *
    refine g_sreg [0, 1, 2, 3] kr kr ?_
    refine rp [.v] H2 kr fun gs3 w3 H3 => ?_
    show WPs _ _ _ _ [1, 2, 3] _ _
    have H4 : St w.heap.size w w3 [((gs1 0).b, itO (b3 emB))] := H3.as kr
    refine s_callFT H4 (some 10) 32 #[.slice p n c] hit (hP.call H4.below) kr kr ?_
    rintro _ T w4 ⟨y, rfl, hsl⟩ H5
    have H6 : St w.heap.size w w4 (((gs1 0).b, itO (b3 emB)) :: T) := H5.perm (List.perm_append_comm (l₁ := [((gs1 0).b, itO (b3 emB))]) (l₂ := T))
    refine s_alloc H6 (some 3) 68 (itV (b3 emB)) kr kr kr ?_
    intro b3n w5 H7
    refine rp [.s 0] H7 kr fun gs4 w6 H8 => ?_
    show WPs _ _ _ _ [] _ _
    refine s_nil ?_
    show WP _ _ _ _ _ _
    have H9 : St w.heap.size w w6 ((b3n, itO (Xg M y)) :: ((gs1 0).b, itO (b3 emB)) :: T) := H8.as kr
    refine g_sreg [0, 1, 2] kr kr ?_
    refine rp [.l 0] H9 kr fun gs5 w7 H10 => ?_
    show WPs _ _ _ _ [1, 2] _ _
    have H11 : St w.heap.size w w7 ((b3n, itO (Xg M y)) :: ((gs1 0).b, itO (b3 emB)) :: T) := H10.as kr
    refine s_callP H11 (some 12) 31 #[itV (Xg M y)] _ _ (okm_ref hok y) (hsl.at H11 fun e he => by simp [he]) (fun w => by kernel_rfl) kr ?_
    intro w8 H12
    refine rp [.v] H12 kr fun gs6 w9 H13 => ?_
    show WPs _ _ _ _ [] _ _
    refine s_nil ?_
    show WP _ _ _ _ _ _
    refine g_seq kr ?_
    by_cases hl : (encI M).length < 32
    · refine rS [.v, .v, .e (v := .bool (decide ((((strB (encI M)).size : Nat) : Int) < 32))) (v' := .bool true) (bool_eq (decide_eq_true (by rw [strB_size]; omega)))] H13 kr fun gs7 w10 H14 => ?_
      refine g_cond_t kr kr ?_
      refine rS [.l 0, .s 1] H14 kr fun gs8 w11 H15 => ?_
      have H16 : St w.heap.size w w11 ((b3n, itO (Xg M y)) :: ((gs1 0).b, itO (Xg M y)) :: T) := H15.as kr
      refine rRr [.cell 2 68] [1] (itV (Xg M y)) (outT w.heap.size w (okX (toldI M))) H16 kr ?_
      refine ⟨T, ⟨y, ?_, ?_⟩, H16.sub ((List.sublist_cons_self ..).trans (List.sublist_cons_self ..))⟩
      · unfold toldI; rw [if_pos hl]
      · unfold toldI; rw [if_pos hl]; exact hsl
    · refine rS [.v, .v, .e (v := .bool (decide ((((strB (encI M)).size : Nat) : Int) < 32))) (v' := .bool false) (bool_eq (decide_eq_false (by rw [strB_size]; omega)))] H13 kr fun gs7 w10 H14 => ?_
      refine g_cond_f kr kr ?_
      refine g_skip kr ?_
      show WP _ _ _ _ _ _
      have hsz := hok.sz
      have hsum := Ke.sumR_fn (strB (encI M)) (by rw [strB_size]; omega)
      rw [tl_strB] at hsum
      refine rS [.v, .c hsum, .v, .s 1] H14 kr fun gs8 w11 H15 => ?_
      have H16 : St w.heap.size w w11 ((b3n, itO (Xg M y)) :: ((gs1 0).b, itO (b3 (strB (Kec.sumB (encI M))))) :: T) := H15.as kr
      refine rRr [.cell 2 68] [1] (itV (b3 (strB (Kec.sumB (encI M))))) (outT w.heap.size w (okX (toldI M))) H16 kr ?_
      refine ⟨[], ?_, H16.sub (List.nil_sublist _)⟩
      have e : toldI M = bI (strB (Kec.sumB (encI M))) := by unfold toldI; rw [if_neg hl]
      rw [e]; exact okX_b _
end Go.Proofs.YtlhfgbjhngkicaaGreatDoor

namespace Go.Proofs.YtlhfgbjhngkicaaGreatDoor
open Go Go.RowKit
open D2 (Gh)
set_option linter.unusedVariables false
abbrev xlO (q : Option Addr) (n c : Nat) : Obj := .cells #[.bool true, .string emB, .slice q n c] 68 (0, 0)
theorem okS_drop {l : List Ent} (h : okS l) (m : Nat) : okS (dropE m l) := fun x hx => by
  obtain ⟨y, hy, rfl⟩ := List.mem_map.1 hx
  have := h y hy
  exact ⟨by simp only [List.length_drop]; omega, this.2⟩
theorem okS_cut {l : List Ent} (h : okS l) (c : Nat) : okS (cutE c l) := fun x hx => by
  obtain ⟨b, hb, _⟩ := cutE_mem hx
  have := h _ hb
  simp only [List.length_cons] at this
  exact ⟨by omega, this.2⟩
theorem okS_len {l : List Ent} (h : okS l) : ∀ e ∈ l, e.1.length ≤ 1000000 := fun e he => by have := (h e he).1; omega
theorem below_get {w w' : World} {b : Nat} {C : Array Value} {T : TypeId} {fz : Nat × Nat} (hh : w.heap[b]? = some (.cells C T fz)) (hb : Below w.heap.size w w') : w'.heap[b]? = some (.cells C T fz) := by rw [hb.block b (lt_of_heap hh)]; exact hh
theorem run_stoX {P : Program} {ops : Array Oper} {k : Nat} {ρ : Env} {w : World} {S : Value → World → Prop} {t : TypeId} {x y : Operand} {b : Nat} {q : Option Addr} {n c : Nat} {q' : Option Addr} {n' c' : Nat} {T : TypeId} (h : opk ops k ρ = some (none, true, .store t x y)) (hx : ev ρ x = .pointer (some ⟨b, 2, none⟩)) (hy : ev ρ y = .slice q' n' c') (hi : (P.info? t).map (·.size) = some 1)
    (hh : w.heap[b]? = some (.cells #[.bool true, .string emB, .slice q n c] T (0, 0))) (hS : S undef (w.setRow b #[.bool true, .string emB, .slice q' n' c'])) : ∃ o, ops[k]? = some o ∧ o.dst = none ∧ Region.wanted o (nyield ops ρ) = true ∧ Runs P S ((execOp (ev ρ) o).run P w) :=
  D2.run_sto (v := .slice q' n' c') (C' := #[.bool true, .string emB, .slice q' n' c']) h hx hy hi kr hh (Nat.le_of_ble_eq_true kr) kr hS
/-- What stands in a region that draws, besides the two items' blocks. -/
abbrev bs2 (b2 b4 : Nat) (q : Option Addr) (n c : Nat) : List (Nat × Obj) := [(b2, itO (b3 emB)), (b4, xlO q n c)]
set_option maxRecDepth 100000 in
set_option maxHeartbeats 8000000 in
theorem item_one (f : Nat) (x0 : List UInt8) (v0 : ByteArray) (ho : Okl (f + 1) [(x0, v0)]) (hs : okS [(x0, v0)]) (p : Option Addr) (n c : Nat) : FnT Tryz.prog 32 #[.slice p n c] (fun w => PrAt w p n ([(x0, v0)].map pE)) (okX (itemM (f + 1) [(x0, v0)])) := by
  refine FnT.intro (c := codeOf Tryz.f32) [.cell 2 68] 77 Tryz.func32 kr kr kr fun w hP => ?_
  have hn := hP.1
  obtain rfl : n = 1 := hn
  have hn0 : 0 < 1 := by decide
  have hs0 := hs _ (List.mem_cons_self ..)
  have hlow := (ho _ (List.mem_cons_self ..)).2
  have hcomm := commonR_fn p 1 c (x0, v0) [] (by simp) (okS_len hs)
  obtain ⟨br, off, C, T, fz, hp0, hh, hR⟩ := hP.row (by decide)
  have c0 : C[off + 0 * 2 + 0]? = some (.string (strB x0)) := hR.cell (i := 0) (x := (strB x0, v0)) rfl 0 (by decide)
  have c1 : C[off + 0 * 2 + 1]? = some (.string v0) := hR.cell (i := 0) (x := (strB x0, v0)) rfl 1 (by decide)
  have hpack := packR_fn (strB x0) (by rw [strB_size]; have : x0.length ≤ 64 := hs0.1; omega) true (by rw [tl_strB]; exact isP_low hlow)
  rw [tl_strB] at hpack
  have H0 := St.start w
  refine rS [.a] H0 kr fun gs1 w1 H1 => ?_
  refine rS [.v, .cp (pre := fun w => PrAt w p 1 ([(x0, v0)].map pE)) hcomm [] (fun w hb hd => hP.call hb), .v] H1 kr fun gs2 w2 H2 => ?_
  refine rS [.v, .a, .s 1] H2 kr fun gs3 w3 H3 => ?_
  refine g_seq kr ?_
  refine rS [.v, .v, .v] H3 kr fun gs4 w4 H4 => ?_
  refine g_cond_t kr kr ?_
  generalize hb2 : (gs1 0).b = b2 at *
  generalize hb4 : (gs3 1).b = b4 at *
  have H5 : St w.heap.size w w4 (bs2 b2 b4 none 0 0) := H4.as (by rw [← hb2, ← hb4]; kernel_rfl)
  subst hb2 hb4
  refine g_seq kr ?_
  refine D2.g_draw0 [0, 1, 2, 3, 4, 5, 6, 7, 8, 9, 10, 11, 12, 13, 14, 15, 16] [(some 14, fun _ => .pointer (some ⟨(gs3 1).b, 2, none⟩)), (some 15, fun _ => .slice none 0 0), (some 16, fun _ => .slice p 1 c), (some 17, fun _ => .pointer (some ⟨br, off + 0 * 2, none⟩)), (some 18, fun _ => .pointer (some ⟨br, off + 0 * 2 + 0, none⟩)), (some 19, fun _ => .string (strB x0)), (some 20, fun _ => .string (strB (pk x0 true))), (some 21, fun _ => itV (b3 (strB (pk x0 true)))),
    (some 22, fun _ => .slice p 1 c), (some 23, fun _ => .pointer (some ⟨br, off + 0 * 2, none⟩)), (some 24, fun _ => .pointer (some ⟨br, off + 0 * 2 + 1, none⟩)), (some 25, fun _ => .string v0), (some 26, fun _ => itV (b3 v0)), (some 27, fun y => .slice (some ⟨y.b, 0, none⟩) 2 2), (some 28, fun y => .slice (some ⟨y.b, 0, none⟩) (0 + 2) y.cap), (some 29, fun _ => .pointer (some ⟨(gs3 1).b, 2, none⟩)), (none, fun _ => undef)]
    (D2.chn [13, 14, 16] fun j g ww => match j with
      | 0 => St w.heap.size w ww (bs2 (gs1 0).b (gs3 1).b none 0 0)
      | 1 => St w.heap.size w ww ((bs2 (gs1 0).b (gs3 1).b none 0 0) ++ [((g 13).b, rowO [b3 (strB (pk x0 true)), b3 v0])])
      | 2 => St w.heap.size w ww ((bs2 (gs1 0).b (gs3 1).b none 0 0) ++ [((g 14).b, .cells (g 14).cur 68 (0, 0))]) ∧ Rw 3 (g 14).cur (g 14).cap 2 (cellsF iS [b3 (strB (pk x0 true)), b3 v0])
      | _ => St w.heap.size w ww ((bs2 (gs1 0).b (gs3 1).b (some ⟨(g 14).b, 0, none⟩) 2 (g 14).cap) ++ [((g 14).b, .cells (g 14).cur 68 (0, 0))]) ∧ Rw 3 (g 14).cur (g 14).cap 2 (cellsF iS [b3 (strB (pk x0 true)), b3 v0]))
    kr kr kr H5.drew ⟨?_, ?_, ?_, ?_, ?_, ?_, ?_, ?_, ?_, ?_, ?_, ?_, ?_, ?_, ?_, ?_, ?_, trivial⟩ ?_
  · exact D2.gv_val (fun _ _ _ h => h) (fun g w => by kernel_rfl)
  · exact D2.gv_ld (fun _ _ _ h => h) 66 (.tmp 14) (fun _ => (gs3 1).b) 2 #[.bool true, .string emB, .slice none 0 0] 68 (0, 0) (fun g => by kernel_rfl) (fun g => by kernel_rfl) (fun L g w hN hp => hp.getN 1 14 rfl (hN.post 14 kr) fun j hj h => by
        match j, hj, h with
        | 0, _, h => exact St.get h 1 kr
        | 1, _, h => exact St.get h 1 kr
        | j + 2, hj, _ => exact absurd hj (by omega)) kr kr
  · exact D2.gv_val (fun _ _ _ h => h) (fun g w => by kernel_rfl)
  · exact D2.gv_op (fun _ _ _ h => h) (.indexAddr 23 (.tmp 16) (.const (.int .i64 0))) (fun g => by kernel_rfl) (fun g o w ho => idxP_run (kd := .i64) (t := 23) (e := 48) (K := 2) (bytes := 32) kr (x := (.tmp 16)) (y := .const (.int .i64 0)) br off 1 c 0 hp0 ho kr rfl hn0 w)
  · exact D2.gv_val (fun _ _ _ h => h) (fun g w => by kernel_rfl)
  · exact D2.gv_opW (fun _ _ _ h => h) (.load 9 (.tmp 18)) (fun g => by kernel_rfl) (fun L g o ww hN hp ho => ld1_run kr (below_get hh ((fun hp => hp.get fun j hj h => by
        match j, h with
        | 0, h => exact h.below
        | 1, h => exact h.below
        | 2, h => exact h.1.below
        | _ + 3, h => exact h.1.below) hp)) c0 ho kr)
  · exact D2.gv_cW (fun _ _ _ h => h) 57 #[.string (strB x0), .bool true] hpack (fun L g w w' hN hp hb => by
        revert hp; unfold D2.chn
        generalize D2.stg [13, 14, 16] L = j
        intro hp
        match j, hp with
        | 0, h => exact h.call hb
        | 1, h => exact h.call hb
        | 2, h => exact ⟨h.1.call hb, h.2⟩
        | _ + 3, h => exact ⟨h.1.call hb, h.2⟩) (fun g w => by kernel_rfl)
  · exact D2.gv_val (fun _ _ _ h => h) (fun g w => by kernel_rfl)
  · exact D2.gv_val (fun _ _ _ h => h) (fun g w => by kernel_rfl)
  · exact D2.gv_op (fun _ _ _ h => h) (.indexAddr 23 (.tmp 22) (.const (.int .i64 0))) (fun g => by kernel_rfl) (fun g o w ho => idxP_run (kd := .i64) (t := 23) (e := 48) (K := 2) (bytes := 32) kr (x := (.tmp 22)) (y := .const (.int .i64 0)) br off 1 c 0 hp0 ho kr rfl hn0 w)
  · exact D2.gv_val (fun _ _ _ h => h) (fun g w => by kernel_rfl)
  · exact D2.gv_opW (fun _ _ _ h => h) (.load 9 (.tmp 24)) (fun g => by kernel_rfl) (fun L g o ww hN hp ho => ld1_run kr (below_get hh ((fun hp => hp.get fun j hj h => by
        match j, h with
        | 0, h => exact h.below
        | 1, h => exact h.below
        | 2, h => exact h.1.below
        | _ + 3, h => exact h.1.below) hp)) c1 ho kr)
  · exact D2.gv_val (fun _ _ _ h => h) (fun g w => by kernel_rfl)
  · refine D2.gv_chn 13 0 (fun L hN => by
      have e13 := hN.1
      have e14 := hN.post 14 kr
      have e16 := hN.fwd e14 (show D2.edge _ 14 16 = true by kernel_rfl)
      exact ⟨by (simp [D2.stg, e13, e14, e16]) <;> rfl, by (simp [D2.stg, D2.put1, e13, e14, e16]) <;> rfl⟩) fun g ww hq => ?_
    exact D2.run_new (F := fun b => .slice (some ⟨b, 0, none⟩) 2 2) (ob := rowO [b3 (strB (pk x0 true)), b3 v0]) kr ⟨{ b := ww.heap.size }, rfl, (St.alloc hq (rowO [b3 (strB (pk x0 true)), b3 v0])).perm (List.perm_append_comm (l₁ := bs2 (gs1 0).b (gs3 1).b none 0 0) (l₂ := [(ww.heap.size, rowO [b3 (strB (pk x0 true)), b3 v0])]))⟩
  · refine D2.gv_chn 14 1 (fun L hN => by
      have e14 := hN.1
      have e13 := hN.bef 13 kr
      have e16 := hN.post 16 kr
      exact ⟨by (simp [D2.stg, e13, e14, e16]) <;> rfl, by (simp [D2.stg, D2.put1, e13, e14, e16]) <;> rfl⟩) fun g ww hq => ?_
    refine D2.run_of (op := appendOp 66 (.tmp 15) (.tmp 27)) kr fun o ho => ?_
    obtain ⟨b', cap', cur', w', hrun, HS', hr'⟩ := grow_any (S := iS) (bx := (g 13).b) (M0 := []) (M := [b3 (strB (pk x0 true)), b3 v0]) (row := []) (Z := bs2 (gs1 0).b (gs3 1).b none 0 0) (n := 0) (c := 0) (p := none) (m := 2) (mc := 2) (hq.perm (List.perm_append_comm (l₁ := [((g 13).b, rowO [b3 (strB (pk x0 true)), b3 v0])]) (l₂ := bs2 (gs1 0).b (gs3 1).b none 0 0))) (.inl ⟨rfl, rfl, rfl, rfl, rfl⟩) (t := 66) (bytes := 48) kr ho kr kr rfl (by decide) (by decide) (by unfold maxLen; omega)
    exact ⟨_, w', hrun, { b := b', cap := cap', cur := cur' }, rfl, HS'.perm (List.perm_append_comm (l₁ := bs2 (gs1 0).b (gs3 1).b none 0 0) (l₂ := [(b', .cells cur' 68 (0, 0))])), hr'⟩
  · exact D2.gv_val (fun _ _ _ h => h) (fun g w => by kernel_rfl)
  · refine D2.gv_chn 16 2 (fun L hN => by
      have e16 := hN.1
      have e14 := hN.bef 14 kr
      have e13 := hN.back e14 (show D2.edge _ 13 14 = true by kernel_rfl)
      exact ⟨by (simp [D2.stg, e13, e14, e16]) <;> rfl, by (simp [D2.stg, D2.put1, e13, e14, e16]) <;> rfl⟩) fun g ww hq => ?_
    exact run_stoX (t := 66) (x := .tmp 29) (y := .tmp 28) (T := 68) (b := (gs3 1).b) (q := none) (n := 0) (c := 0) (q' := some ⟨(g 14).b, 0, none⟩) (n' := 2) (c' := (g 14).cap) kr kr kr kr (St.get hq.1 1 kr) ⟨g 16, rfl, St.store (C := #[.bool true, .string emB, .slice none 0 0]) (T := 68) hq.1 1 kr, hq.2⟩
  · intro L1 g w9 hall hp
    have hq := hp.fin (fun k hk => hall k (by simp at hk; rcases hk with rfl | rfl | rfl <;> exact Nat.le_of_ble_eq_true kr))
    show WP _ _ _ _ _ _
    refine rS [.l 1, .s 0] hq.1 kr fun gs6 w10 H6 => ?_
    have H7 : St w.heap.size w w10 ([((gs1 0).b, xlO (some ⟨(g 14).b, 0, none⟩) 2 (g 14).cap), ((gs3 1).b, xlO (some ⟨(g 14).b, 0, none⟩) 2 (g 14).cap)] ++ [((g 14).b, .cells (g 14).cur 68 (0, 0))]) := H6.as kr
    refine rRr [.cell 2 68] [0] (.agg #[.bool true, .string emB, .slice (some ⟨(g 14).b, 0, none⟩) 2 (g 14).cap]) (outT w.heap.size w (okX (itemM (f + 1) [(x0, v0)]))) H7 kr ?_
    refine ⟨[((g 14).b, .cells (g 14).cur 68 (0, 0))], okX_row (L := [b3 (strB (pk x0 true)), b3 v0]) rfl hq.2 (List.mem_cons_self ..) (fun y hy => ?_) (by simp), H7.sub (List.sublist_append_right ..)⟩
    have h64 : x0.length ≤ 64 := hs0.1
    have h500 : v0.size ≤ 500 := hs0.2
    rcases List.mem_cons.1 hy with rfl | hy
    · exact ⟨slIn_b3 _ _, by have := pk_size x0 true; show (strB (pk x0 true)).size ≤ _; omega⟩
    · rw [List.mem_singleton.1 hy]; exact ⟨slIn_b3 _ _, by show v0.size ≤ _; omega⟩
end Go.Proofs.YtlhfgbjhngkicaaGreatDoor

namespace Go.Proofs.YtlhfgbjhngkicaaGreatDoor
open Go Go.RowKit
open D2 (Gh)
set_option linter.unusedVariables false
set_option maxRecDepth 100000 in
set_option maxHeartbeats 8000000 in
theorem item_many (f : Nat) (hT : ToC f) (x0 : List UInt8) (v0 : ByteArray) (e' : Ent) (r : List Ent) (ho : Okl (f + 1) ((x0, v0) :: e' :: r)) (hs : okS ((x0, v0) :: e' :: r)) (hl : ((x0, v0) :: e' :: r).length ≤ 1000000) (hc : 0 < commonM ((x0, v0) :: e' :: r)) (p : Option Addr) (n c : Nat) : FnT Tryz.prog 32 #[.slice p n c] (fun w => PrAt w p n (((x0, v0) :: e' :: r).map pE)) (okX (itemM (f + 1) ((x0, v0) :: e' :: r))) := by
  refine FnT.intro (c := codeOf Tryz.f32) [.cell 2 68] 77 Tryz.func32 kr kr kr fun w hP => ?_
  have hn := hP.1
  rw [List.length_map] at hn
  have hn2 : 2 ≤ n := by rw [hn]; simp
  have hn0 : 0 < n := by omega
  have hs0 := hs _ (List.mem_cons_self ..)
  have h64 : x0.length ≤ 64 := hs0.1
  have hlow := (ho _ (List.mem_cons_self ..)).2
  have hcomm := commonR_fn p n c (x0, v0) (e' :: r) hl (okS_len hs)
  have hkl : commonM ((x0, v0) :: e' :: r) ≤ x0.length := Nat.le_trans (commonM_le rfl _ (List.mem_cons_self ..)) (shr_le_left _ _)
  have hkall : ∀ e ∈ ((x0, v0) :: e' :: r), commonM ((x0, v0) :: e' :: r) ≤ e.1.length := fun e he => Nat.le_trans (commonM_le (e := (x0, v0)) rfl e he) (shr_le_left _ _)
  have hdl : (dropE (commonM ((x0, v0) :: e' :: r)) ((x0, v0) :: e' :: r)).length = ((x0, v0) :: e' :: r).length := dropE_len _ _
  have hdok : Okl f (dropE (commonM ((x0, v0) :: e' :: r)) ((x0, v0) :: e' :: r)) := dropE_ok (e := (x0, v0)) rfl hc ho
  have hdn : dropE (commonM ((x0, v0) :: e' :: r)) ((x0, v0) :: e' :: r) ≠ [] := by simp [dropE]
  have hcut := cut_fn p n c 16 (commonM ((x0, v0) :: e' :: r)) ((x0, v0) :: e' :: r) hl (okS_len hs) (fun e he _ => hkall e he) (by omega)
  rw [cutG_all] at hcut
  have hto := hT _ hdok (okS_drop hs _) (by omega)
  have hMk := (item_ok f _ hdn hdok (okS_drop hs _)).1
  rw [item_joint hc]
  have hM1 : toldM f (dropE (commonM ((x0, v0) :: e' :: r)) ((x0, v0) :: e' :: r)) = toldI (itemM f (dropE (commonM ((x0, v0) :: e' :: r)) ((x0, v0) :: e' :: r))) := by unfold toldM; rw [if_neg hdn]
  rw [← hM1]
  have hMs := hMk.told
  rw [← hM1] at hMs
  generalize toldM f (dropE (commonM ((x0, v0) :: e' :: r)) ((x0, v0) :: e' :: r)) = M at *
  clear hM1 hMk
  obtain ⟨br, off, C, T, fz, hp0, hh, hR⟩ := hP.row hn0
  have c0 : C[off + 0 * 2 + 0]? = some (.string (strB x0)) := hR.cell (i := 0) (x := (strB x0, v0)) rfl 0 (by decide)
  generalize hL0 : ((x0, v0) :: e' :: r : List Ent) = L0 at *
  generalize hkk : commonM L0 = k at *
  have hext := ext_take x0 k
  have hpack := packR_fn (strB (x0.take k)) (by rw [strB_size, List.length_take]; omega) false (by rw [tl_strB]; exact isP_low fun b hb => hlow b (List.mem_of_mem_take hb))
  rw [tl_strB] at hpack
  have H0 := St.start w
  refine rS [.a] H0 kr fun gs1 w1 H1 => ?_
  refine rS [.v, .cp (pre := fun w => PrAt w p n (L0.map pE)) hcomm [] (fun w hb hd => hP.call hb), .v] H1 kr fun gs2 w2 H2 => ?_
  refine rS [.v, .a, .s 1] H2 kr fun gs3 w3 H3 => ?_
  refine g_seq kr ?_
  refine rS [.v, .v, .e (v := .bool (((n : Nat) : Int) == 1)) (v' := .bool false) (bool_eq (beq_eq_false_iff_ne.2 (by omega)))] H3 kr fun gs4 w4 H4 => ?_
  refine g_cond_f kr kr ?_
  refine g_skip kr ?_
  show WP _ _ _ _ _ _
  refine g_seq kr ?_
  refine rS [.v, .e (v := .bool (decide ((0 : Int) < ((k : Nat) : Int)))) (v' := .bool true) (bool_eq (decide_eq_true (by omega)))] H4 kr fun gs5 w5 H5a => ?_
  refine g_cond_t kr kr ?_
  have H5 : St w.heap.size w w5 (bs2 (gs1 0).b (gs3 1).b none 0 0) := H5a.as kr
  refine g_seq kr ?_
  refine D2.g_draw0 [0, 1, 2, 3, 4, 5, 6, 7, 8, 9, 10, 11, 12, 13, 14, 15, 16, 17] [(some 33, fun _ => .pointer (some ⟨(gs3 1).b, 2, none⟩)), (some 34, fun _ => .slice none 0 0), (some 35, fun _ => .slice p n c), (some 36, fun _ => .pointer (some ⟨br, off + 0 * 2, none⟩)), (some 37, fun _ => .pointer (some ⟨br, off + 0 * 2 + 0, none⟩)), (some 38, fun _ => .string (strB x0)), (some 39, fun _ => iN k), (some 40, fun _ => .string (strB (x0.take k))), (some 41, fun _ => .string (strB (pk (x0.take k) false))), (some 42, fun _ => itV (b3 (strB (pk (x0.take k) false)))),
    (some 43, fun _ => .slice p n c), (some 44, fun _ => iN k), (some 45, fun y => .slice (pG y) y.n y.cap), (some 46, fun y => itV (Xg M y)), (some 47, fun y => .slice (some ⟨y.b, 0, none⟩) 2 2), (some 48, fun y => .slice (some ⟨y.b, 0, none⟩) (0 + 2) y.cap), (some 49, fun _ => .pointer (some ⟨(gs3 1).b, 2, none⟩)), (none, fun _ => undef)]
    (D2.chn [12, 13, 14, 15, 17] fun j g ww => match j with
      | 0 => St w.heap.size w ww (bs2 (gs1 0).b (gs3 1).b none 0 0)
      | 1 => ∃ T1, RowF pS 48 (pG (g 12)) (g 12).n (g 12).cap T1 ((dropE k L0).map pE) ∧ St w.heap.size w ww ((bs2 (gs1 0).b (gs3 1).b none 0 0) ++ T1)
      | 2 => ∃ T2, SlIn T2 (pG (g 13)) M.k.len M.k ∧ St w.heap.size w ww ((bs2 (gs1 0).b (gs3 1).b none 0 0) ++ T2)
      | 3 => ∃ T2, SlIn T2 (pG (g 13)) M.k.len M.k ∧ St w.heap.size w ww ((bs2 (gs1 0).b (gs3 1).b none 0 0) ++ (((g 14).b, rowO [b3 (strB (pk (x0.take k) false)), Xg M (g 13)]) :: T2))
      | 4 => ∃ T2, SlIn T2 (pG (g 13)) M.k.len M.k ∧ St w.heap.size w ww ((bs2 (gs1 0).b (gs3 1).b none 0 0) ++ (((g 15).b, .cells (g 15).cur 68 (0, 0)) :: T2)) ∧ Rw 3 (g 15).cur (g 15).cap 2 (cellsF iS [b3 (strB (pk (x0.take k) false)), Xg M (g 13)])
      | _ => ∃ T2, SlIn T2 (pG (g 13)) M.k.len M.k ∧ St w.heap.size w ww ((bs2 (gs1 0).b (gs3 1).b (some ⟨(g 15).b, 0, none⟩) 2 (g 15).cap) ++ (((g 15).b, .cells (g 15).cur 68 (0, 0)) :: T2)) ∧ Rw 3 (g 15).cur (g 15).cap 2 (cellsF iS [b3 (strB (pk (x0.take k) false)), Xg M (g 13)]))
    kr kr kr H5.drew ⟨?_, ?_, ?_, ?_, ?_, ?_, ?_, ?_, ?_, ?_, ?_, ?_, ?_, ?_, ?_, ?_, ?_, ?_, trivial⟩ ?_
  · exact D2.gv_val (fun _ _ _ h => h) (fun g w => by kernel_rfl)
  · exact D2.gv_ld (fun _ _ _ h => h) 66 (.tmp 33) (fun _ => (gs3 1).b) 2 #[.bool true, .string emB, .slice none 0 0] 68 (0, 0) (fun g => by kernel_rfl) (fun g => by kernel_rfl) (fun L g w hN hp => hp.getN 3 15 rfl (hN.post 15 kr) fun j hj h => by
        match j, hj, h with
        | 0, _, h => exact St.get h 1 kr
        | 1, _, h => exact h.elim fun T h => St.get h.2 1 kr
        | 2, _, h => exact h.elim fun T h => St.get h.2 1 kr
        | 3, _, h => exact h.elim fun T h => St.get h.2 1 kr
        | j + 4, hj, _ => exact absurd hj (by omega)) kr kr
  · exact D2.gv_val (fun _ _ _ h => h) (fun g w => by kernel_rfl)
  · exact D2.gv_op (fun _ _ _ h => h) (.indexAddr 23 (.tmp 35) (.const (.int .i64 0))) (fun g => by kernel_rfl) (fun g o w ho => idxP_run (kd := .i64) (t := 23) (e := 48) (K := 2) (bytes := 32) kr (x := (.tmp 35)) (y := .const (.int .i64 0)) br off n c 0 hp0 ho kr rfl hn0 w)
  · exact D2.gv_val (fun _ _ _ h => h) (fun g w => by kernel_rfl)
  · exact D2.gv_opW (fun _ _ _ h => h) (.load 9 (.tmp 37)) (fun g => by kernel_rfl) (fun L g o ww hN hp ho => ld1_run kr (below_get hh ((fun hp => hp.get fun j hj h => by
        match j, h with
        | 0, h => exact h.below
        | 1, h => exact h.elim fun T h => h.2.below
        | 2, h => exact h.elim fun T h => h.2.below
        | 3, h => exact h.elim fun T h => h.2.below
        | 4, h => exact h.elim fun T h => h.2.1.below
        | _ + 5, h => exact h.elim fun T h => h.2.1.below) hp)) c0 ho kr)
  · exact D2.gv_val (fun _ _ _ h => h) (fun g w => by kernel_rfl)
  · exact D2.gv_opE (V' := .string ((strB x0).extract 0 k)) (fun _ _ _ h => h) (.slice 9 (.tmp 38) none (some (.tmp 39)) none) (fun g => by kernel_rfl) (fun g o w ho => scut_run (t := 9) (kd := .i64) kr (x := (.tmp 38)) (y := (.tmp 39)) (strB x0) k ho kr kr (by rw [strB_size]; exact hkl) w) (by rw [hext])
  · exact D2.gv_cW (fun _ _ _ h => h) 57 #[.string (strB (x0.take k)), .bool false] hpack (fun L g w w' hN hp hb => by
        revert hp; unfold D2.chn
        generalize D2.stg [12, 13, 14, 15, 17] L = j
        intro hp
        match j, hp with
        | 0, h => exact h.call hb
        | 1, h => exact h.elim fun T h => ⟨T, h.1, h.2.call hb⟩
        | 2, h => exact h.elim fun T h => ⟨T, h.1, h.2.call hb⟩
        | 3, h => exact h.elim fun T h => ⟨T, h.1, h.2.call hb⟩
        | 4, h => exact h.elim fun T h => ⟨T, h.1, h.2.1.call hb, h.2.2⟩
        | _ + 5, h => exact h.elim fun T h => ⟨T, h.1, h.2.1.call hb, h.2.2⟩) (fun g w => by kernel_rfl)
  · exact D2.gv_val (fun _ _ _ h => h) (fun g w => by kernel_rfl)
  · exact D2.gv_val (fun _ _ _ h => h) (fun g w => by kernel_rfl)
  · exact D2.gv_val (fun _ _ _ h => h) (fun g w => by kernel_rfl)
  · refine D2.gv_chn 12 0 (fun L hN => by
      have e12 := hN.1
      have e13 := hN.post 13 kr
      have e14 := hN.fwd e13 (show D2.edge _ 13 14 = true by kernel_rfl)
      have e15 := hN.fwd e14 (show D2.edge _ 14 15 = true by kernel_rfl)
      have e17 := hN.fwd e15 (show D2.edge _ 15 17 = true by kernel_rfl)
      exact ⟨by (simp [D2.stg, e12, e13, e14, e15, e17]) <;> rfl, by (simp [D2.stg, D2.put1, e12, e13, e14, e15, e17]) <;> rfl⟩) fun g ww hq => ?_
    exact D2.run_ft hcut (hP.call hq.below) kr fun v T1 w' hok hT1 => by
      obtain ⟨p1, n1, c1, rfl, hrow⟩ := hok
      obtain ⟨x, hx, hrow'⟩ := gh_of hrow
      exact ⟨x, hx, T1, hrow', (St.addAll hq hT1).perm (List.perm_append_comm (l₁ := (bs2 (gs1 0).b (gs3 1).b none 0 0)) (l₂ := T1))⟩
  · refine D2.gv_chn 13 1 (fun L hN => by
      have e13 := hN.1
      have e12 := hN.bef 12 kr
      have e14 := hN.post 14 kr
      have e15 := hN.fwd e14 (show D2.edge _ 14 15 = true by kernel_rfl)
      have e17 := hN.fwd e15 (show D2.edge _ 15 17 = true by kernel_rfl)
      exact ⟨by (simp [D2.stg, e12, e13, e14, e15, e17]) <;> rfl, by (simp [D2.stg, D2.put1, e12, e13, e14, e15, e17]) <;> rfl⟩) fun g ww hq => ?_
    obtain ⟨T1, hrow, hS⟩ := hq
    exact D2.run_ft (hto (pG (g 12)) (g 12).n (g 12).cap) (hrow.prAt hS fun e he => List.mem_append_right _ he) kr fun v T2 w' hok hT2 => by
      obtain ⟨y, rfl, hsl⟩ := hok
      exact ⟨y, rfl, T2, hsl, ((St.addAll hS hT2).sub (List.Sublist.append_left (List.sublist_append_left ..) T2)).perm (List.perm_append_comm (l₁ := (bs2 (gs1 0).b (gs3 1).b none 0 0)) (l₂ := T2))⟩
  · refine D2.gv_chn 14 2 (fun L hN => by
      have e14 := hN.1
      have e13 := hN.bef 13 kr
      have e12 := hN.back e13 (show D2.edge _ 12 13 = true by kernel_rfl)
      have e15 := hN.post 15 kr
      have e17 := hN.fwd e15 (show D2.edge _ 15 17 = true by kernel_rfl)
      exact ⟨by (simp [D2.stg, e12, e13, e14, e15, e17]) <;> rfl, by (simp [D2.stg, D2.put1, e12, e13, e14, e15, e17]) <;> rfl⟩) fun g ww hq => ?_
    obtain ⟨T2, hsl, hS⟩ := hq
    exact D2.run_new (F := fun b => .slice (some ⟨b, 0, none⟩) 2 2) (ob := rowO [b3 (strB (pk (x0.take k) false)), Xg M (g 13)]) kr ⟨{ b := ww.heap.size }, rfl, T2, hsl, (St.alloc hS (rowO [b3 (strB (pk (x0.take k) false)), Xg M (g 13)])).perm (List.perm_middle (l₁ := (bs2 (gs1 0).b (gs3 1).b none 0 0)))⟩
  · refine D2.gv_chn 15 3 (fun L hN => by
      have e15 := hN.1
      have e14 := hN.bef 14 kr
      have e13 := hN.back e14 (show D2.edge _ 13 14 = true by kernel_rfl)
      have e12 := hN.back e13 (show D2.edge _ 12 13 = true by kernel_rfl)
      have e17 := hN.post 17 kr
      exact ⟨by (simp [D2.stg, e12, e13, e14, e15, e17]) <;> rfl, by (simp [D2.stg, D2.put1, e12, e13, e14, e15, e17]) <;> rfl⟩) fun g ww hq => ?_
    obtain ⟨T2, hsl, hS⟩ := hq
    refine D2.run_of (op := appendOp 66 (.tmp 34) (.tmp 47)) kr fun o ho => ?_
    obtain ⟨b', cap', cur', w', hrun, HS', hr'⟩ := grow_any (S := iS) (bx := (g 14).b) (M0 := []) (M := [b3 (strB (pk (x0.take k) false)), Xg M (g 13)]) (row := []) (Z := (bs2 (gs1 0).b (gs3 1).b none 0 0) ++ T2) (n := 0) (c := 0) (p := none) (m := 2) (mc := 2) (hS.perm (List.perm_middle (l₁ := (bs2 (gs1 0).b (gs3 1).b none 0 0))).symm) (.inl ⟨rfl, rfl, rfl, rfl, rfl⟩) (t := 66) (bytes := 48) kr ho kr kr rfl (by decide) (by decide) (by unfold maxLen; omega)
    exact ⟨_, w', hrun, { b := b', cap := cap', cur := cur' }, rfl, T2, hsl, HS'.perm (List.perm_middle (l₁ := (bs2 (gs1 0).b (gs3 1).b none 0 0))), hr'⟩
  · exact D2.gv_val (fun _ _ _ h => h) (fun g w => by kernel_rfl)
  · refine D2.gv_chn 17 4 (fun L hN => by
      have e17 := hN.1
      have e15 := hN.bef 15 kr
      have e14 := hN.back e15 (show D2.edge _ 14 15 = true by kernel_rfl)
      have e13 := hN.back e14 (show D2.edge _ 13 14 = true by kernel_rfl)
      have e12 := hN.back e13 (show D2.edge _ 12 13 = true by kernel_rfl)
      exact ⟨by (simp [D2.stg, e12, e13, e14, e15, e17]) <;> rfl, by (simp [D2.stg, D2.put1, e12, e13, e14, e15, e17]) <;> rfl⟩) fun g ww hq => ?_
    obtain ⟨T2, hsl, hS, hr⟩ := hq
    exact run_stoX (t := 66) (x := .tmp 49) (y := .tmp 48) (T := 68) (b := (gs3 1).b) (q := none) (n := 0) (c := 0) (q' := some ⟨(g 15).b, 0, none⟩) (n' := 2) (c' := (g 15).cap) kr kr kr kr (St.get hS 1 kr) ⟨g 17, rfl, T2, hsl, St.store (C := #[.bool true, .string emB, .slice none 0 0]) (T := 68) hS 1 kr, hr⟩
  · intro L1 g w9 hall hp
    have hq := hp.fin (fun k hk => hall k (by simp at hk; rcases hk with rfl | rfl | rfl | rfl | rfl <;> exact Nat.le_of_ble_eq_true kr))
    obtain ⟨T2, hsl, hS, hr⟩ := hq
    show WP _ _ _ _ _ _
    refine rS [.l 1, .s 0] hS kr fun gs6 w10 H6 => ?_
    have H7 : St w.heap.size w w10 ([((gs1 0).b, xlO (some ⟨(g 15).b, 0, none⟩) 2 (g 15).cap), ((gs3 1).b, xlO (some ⟨(g 15).b, 0, none⟩) 2 (g 15).cap)] ++ (((g 15).b, .cells (g 15).cur 68 (0, 0)) :: T2)) := H6.as kr
    refine rRr [.cell 2 68] [0] (.agg #[.bool true, .string emB, .slice (some ⟨(g 15).b, 0, none⟩) 2 (g 15).cap]) (outT w.heap.size w (okX (lI [bI (strB (pk (x0.take k) false)), M]))) H7 kr ?_
    refine ⟨((g 15).b, .cells (g 15).cur 68 (0, 0)) :: T2, okX_row (L := [b3 (strB (pk (x0.take k) false)), Xg M (g 13)]) rfl hr (List.mem_cons_self ..) (fun y hy => ?_) (by simp), H7.sub (List.sublist_append_right ..)⟩
    rcases List.mem_cons.1 hy with rfl | hy
    · exact ⟨slIn_b3 _ _, by have := pk_size (x0.take k) false; rw [List.length_take] at this; show (strB (pk (x0.take k) false)).size ≤ _; omega⟩
    · rw [List.mem_singleton.1 hy]
      refine ⟨hsl.mono fun e he => List.mem_cons_of_mem _ he, ?_⟩
      have h5 : M.s.size ≤ (encI M).length := by
        unfold encI wr1
        rw [List.length_append, List.length_append, tl_len]; omega
      have := hMs.2.2
      show M.s.size ≤ _
      omega
end Go.Proofs.YtlhfgbjhngkicaaGreatDoor

namespace Go.Proofs.YtlhfgbjhngkicaaGreatDoor
open Go Go.RowKit
open D2 (Gh)
set_option linter.unusedVariables false
theorem perm_end4 {α : Type} (a b c d : List α) : (a ++ (b ++ (c ++ d))).Perm (d ++ (a ++ (b ++ c))) := by
  rw [← List.append_assoc b c d, ← List.append_assoc a (b ++ c) d]; exact List.perm_append_comm
theorem perm_sw {α : Type} (a b z : List α) : (a ++ (b ++ z)).Perm (b ++ (a ++ z)) := by
  rw [← List.append_assoc, ← List.append_assoc]; exact List.perm_append_comm.append_right z
theorem perm_st {α : Type} (x : α) (tb bs z : List α) : (x :: (tb ++ (bs ++ z))).Perm (bs ++ x :: (tb ++ z)) := (List.Perm.cons x (perm_sw tb bs z)).trans List.perm_middle.symm
set_option maxRecDepth 100000 in
set_option maxHeartbeats 8000000 in
theorem item_part (f : Nat) (hT : ToC f) (x0 : List UInt8) (v0 : ByteArray) (e' : Ent) (r : List Ent) (ho : Okl (f + 1) ((x0, v0) :: e' :: r)) (hs : okS ((x0, v0) :: e' :: r)) (hl : ((x0, v0) :: e' :: r).length ≤ 1000000) (hc : ¬ 0 < commonM ((x0, v0) :: e' :: r)) (p : Option Addr) (n c : Nat) : FnT Tryz.prog 32 #[.slice p n c] (fun w => PrAt w p n (((x0, v0) :: e' :: r).map pE)) (okX (itemM (f + 1) ((x0, v0) :: e' :: r))) := by
  refine FnT.intro (c := codeOf Tryz.f32) [.cell 2 68] 77 Tryz.func32 kr kr kr fun w hP => ?_
  have hn := hP.1
  rw [List.length_map] at hn
  have hn2 : 2 ≤ n := by rw [hn]; simp
  have hn0 : 0 < n := by omega
  have hs0 := hs _ (List.mem_cons_self ..)
  have h64 : x0.length ≤ 64 := hs0.1
  have hlow := (ho _ (List.mem_cons_self ..)).2
  have hcomm := commonR_fn p n c (x0, v0) (e' :: r) hl (okS_len hs)
  rw [item_branch hc]
  have hget := getE_fn p n c ((x0, v0) :: e' :: r) hl
  have hlen := okS_len hs
  have hval := valE_size (l := (x0, v0) :: e' :: r) fun x hx => (hs x hx).2
  have hMok : ∀ i, (encI (toldM f (cutE i ((x0, v0) :: e' :: r)))).length ≤ 41 := fun i => by
    unfold toldM
    split
    · decide
    · rename_i hq
      exact ((item_ok f _ hq (cutE_ok i ho) (okS_cut hs i)).1.told).2.2
  have hto : ∀ i p n c, FnT Tryz.prog 58 #[.slice p n c] (fun w => PrAt w p n ((cutE i ((x0, v0) :: e' :: r)).map pE)) (okX (toldM f (cutE i ((x0, v0) :: e' :: r)))) := fun i p n c => hT _ (cutE_ok i ho) (okS_cut hs i) (Nat.le_trans (List.length_filterMap_le ..) hl) p n c
  generalize hL0 : ((x0, v0) :: e' :: r : List Ent) = L0 at *
  generalize hMf : (fun c => toldM f (cutE c L0)) = Mf
  have hMf2 : ∀ i, toldM f (cutE i L0) = Mf i := fun i => by rw [← hMf]
  have hMok2 : ∀ i, (encI (Mf i)).length ≤ 41 := fun i => by rw [← hMf2]; exact hMok i
  have H0 := St.start w
  refine rS [.a] H0 kr fun gs1 w1 H1 => ?_
  refine rS [.v, .cp (pre := fun w => PrAt w p n (L0.map pE)) hcomm [] (fun w hb hd => hP.call hb), .v] H1 kr fun gs2 w2 H2 => ?_
  refine rS [.v, .a, .s 1] H2 kr fun gs3 w3 H3 => ?_
  refine g_seq kr ?_
  refine rS [.v, .v, .e (v := .bool (((n : Nat) : Int) == 1)) (v' := .bool false) (bool_eq (beq_eq_false_iff_ne.2 (by omega)))] H3 kr fun gs4 w4 H4 => ?_
  refine g_cond_f kr kr ?_
  refine g_skip kr ?_
  show WP _ _ _ _ _ _
  refine g_seq kr ?_
  refine rS [.v, .e (v := .bool (decide ((0 : Int) < ((commonM L0 : Nat) : Int)))) (v' := .bool false) (bool_eq (decide_eq_false (by omega)))] H4 kr fun gs5 w5 H5a => ?_
  refine g_cond_f kr kr ?_
  refine g_skip kr ?_
  show WP _ _ _ _ _ _
  refine g_seq kr ?_
  refine rS [.v] H5a kr fun gs6 w6 H5b => ?_
  refine g_block 0 kr ?_
  have H5 : St w.heap.size w w6 ((bs2 (gs1 0).b (gs3 1).b none 0 0) ++ ([] ++ [])) := H5b.as kr
  clear H0 H1 H2 H3 H4 H5a H5b
  refine g_loop kr (fun mz ρ ww => ∃ (i : Nat) (q : Option Addr) (cb : Nat) (Ks : List X3) (Tb Tk : List (Nat × Obj)), 16 - i = mz ∧ i ≤ 16 ∧ RowF iS 68 q i cb Tb Ks ∧ Ks.map X3.i = (List.range i).map Mf ∧ AllIn Tk Ks ∧ St w.heap.size w ww ((bs2 (gs1 0).b (gs3 1).b q i cb) ++ (Tb ++ Tk)) ∧ Is [(0, .slice p n c), (2, .pointer (some ⟨(gs1 0).b, 0, none⟩)), (4, .pointer (some ⟨(gs3 1).b, 0, none⟩)), (5, iN i)] ρ) (16 - 0)
    ⟨0, none, 0, [], [], [], rfl, Nat.zero_le _, .inl ⟨rfl, rfl, rfl, rfl, rfl⟩, rfl, (fun _ h => nomatch h), H5, (Is.of ⟨kr, kr, kr, kr, trivial⟩)⟩ ?_
  clear H5
  rintro _ _ w7 ⟨i, q, cb, Ks, Tb, Tk, rfl, hi16, hrow, hKs, hAll, H6, _, rfl⟩
  refine g_seq kr ?_
  by_cases hi : i < 16
  · refine rS [.v, .e (v := .bool (decide (((i : Nat) : Int) < 16))) (v' := .bool true) (bool_eq (decide_eq_true (by omega)))] H6 kr fun gs7 w8 H7a => ?_
    refine g_cond_t kr kr ?_
    refine g_skip kr ?_
    show WP _ _ _ _ _ _
    refine g_seq kr ?_
    refine g_block 1 kr ?_
    have H7 : St w.heap.size w w8 ((bs2 (gs1 0).b (gs3 1).b q i cb) ++ (Tb ++ Tk)) := H7a.as kr
    have hcut := cut_fn p n c i 1 L0 hl hlen (fun e he hk1 => by
      unfold keepE at hk1
      split at hk1
      · simp at hk1; omega
      · rename_i b t heq; rw [heq, List.length_cons]; omega) (by omega)
    rw [cutG_one i hi] at hcut
    have hto2 := hto i
    rw [hMf2] at hto2
    refine D2.g_draw0 [0, 1, 2, 3, 4, 5, 6, 7, 8, 9] [(some 55, fun _ => .pointer (some ⟨(gs3 1).b, 2, none⟩)), (some 56, fun _ => .slice q i cb), (some 57, fun _ => .slice p n c), (some 58, fun _ => iN i), (some 59, fun y => .slice (pG y) y.n y.cap), (some 60, fun y => itV (Xg (Mf i) y)), (some 61, fun y => .slice (some ⟨y.b, 0, none⟩) 1 1), (some 62, fun y => .slice (some ⟨y.b, 0, none⟩) (i + 1) y.cap), (some 63, fun _ => .pointer (some ⟨(gs3 1).b, 2, none⟩)), (none, fun _ => undef)]
      (D2.chn [4, 5, 6, 7, 9] fun j g ww => match j with
        | 0 => St w.heap.size w ww ((bs2 (gs1 0).b (gs3 1).b q i cb) ++ (Tb ++ Tk))
        | 1 => ∃ T1, RowF pS 48 (pG (g 4)) (g 4).n (g 4).cap T1 ((cutE i L0).map pE) ∧ St w.heap.size w ww ((bs2 (gs1 0).b (gs3 1).b q i cb) ++ (Tb ++ (Tk ++ T1)))
        | 2 => ∃ T2, SlIn T2 (pG (g 5)) (Mf i).k.len (Mf i).k ∧ St w.heap.size w ww ((bs2 (gs1 0).b (gs3 1).b q i cb) ++ (Tb ++ (Tk ++ T2)))
        | 3 => ∃ T2, SlIn T2 (pG (g 5)) (Mf i).k.len (Mf i).k ∧ St w.heap.size w ww ((bs2 (gs1 0).b (gs3 1).b q i cb) ++ (((g 6).b, rowO [Xg (Mf i) (g 5)]) :: (Tb ++ (Tk ++ T2))))
        | 4 => ∃ T2, SlIn T2 (pG (g 5)) (Mf i).k.len (Mf i).k ∧ St w.heap.size w ww ((bs2 (gs1 0).b (gs3 1).b q i cb) ++ (((g 7).b, .cells (g 7).cur 68 (0, 0)) :: (Tk ++ T2))) ∧ Rw 3 (g 7).cur (g 7).cap (i + 1) (cellsF iS (Ks ++ [Xg (Mf i) (g 5)]))
        | _ => ∃ T2, SlIn T2 (pG (g 5)) (Mf i).k.len (Mf i).k ∧ St w.heap.size w ww ((bs2 (gs1 0).b (gs3 1).b (some ⟨(g 7).b, 0, none⟩) (i + 1) (g 7).cap) ++ (((g 7).b, .cells (g 7).cur 68 (0, 0)) :: (Tk ++ T2))) ∧ Rw 3 (g 7).cur (g 7).cap (i + 1) (cellsF iS (Ks ++ [Xg (Mf i) (g 5)])))
      kr kr kr H7.drew ⟨?_, ?_, ?_, ?_, ?_, ?_, ?_, ?_, ?_, ?_, trivial⟩ ?_
    · exact D2.gv_val (fun _ _ _ h => h) (fun g w => by kernel_rfl)
    · exact D2.gv_ld (fun _ _ _ h => h) 66 (.tmp 55) (fun _ => (gs3 1).b) 2 #[.bool true, .string emB, .slice q i cb] 68 (0, 0) (fun g => by kernel_rfl) (fun g => by kernel_rfl) (fun L g w hN hp => hp.getN 3 7 rfl (hN.post 7 kr) fun j hj h => by
        match j, hj, h with
        | 0, _, h => exact St.get h 1 kr
        | 1, _, h => exact h.elim fun T h => St.get h.2 1 kr
        | 2, _, h => exact h.elim fun T h => St.get h.2 1 kr
        | 3, _, h => exact h.elim fun T h => St.get h.2 1 kr
        | j + 4, hj, _ => exact absurd hj (by omega)) kr kr
    · exact D2.gv_val (fun _ _ _ h => h) (fun g w => by kernel_rfl)
    · exact D2.gv_val (fun _ _ _ h => h) (fun g w => by kernel_rfl)
    · refine D2.gv_chn 4 0 (fun L hN => by
      have e4 := hN.1
      have e5 := hN.post 5 kr
      have e6 := hN.fwd e5 (show D2.edge _ 5 6 = true by kernel_rfl)
      have e7 := hN.fwd e6 (show D2.edge _ 6 7 = true by kernel_rfl)
      have e9 := hN.fwd e7 (show D2.edge _ 7 9 = true by kernel_rfl)
      exact ⟨by (simp [D2.stg, e4, e5, e6, e7, e9]) <;> rfl, by (simp [D2.stg, D2.put1, e4, e5, e6, e7, e9]) <;> rfl⟩) fun g ww hq => ?_
      exact D2.run_ft hcut (hP.call hq.below) kr fun v T1 w' hok hT1 => by
        obtain ⟨p1, n1, c1, rfl, hrow⟩ := hok
        obtain ⟨x, hx, hrow'⟩ := gh_of hrow
        exact ⟨x, hx, T1, hrow', (St.addAll hq hT1).perm (perm_end4 (bs2 (gs1 0).b (gs3 1).b q i cb) Tb Tk T1)⟩
    · refine D2.gv_chn 5 1 (fun L hN => by
      have e5 := hN.1
      have e4 := hN.bef 4 kr
      have e6 := hN.post 6 kr
      have e7 := hN.fwd e6 (show D2.edge _ 6 7 = true by kernel_rfl)
      have e9 := hN.fwd e7 (show D2.edge _ 7 9 = true by kernel_rfl)
      exact ⟨by (simp [D2.stg, e4, e5, e6, e7, e9]) <;> rfl, by (simp [D2.stg, D2.put1, e4, e5, e6, e7, e9]) <;> rfl⟩) fun g ww hq => ?_
      obtain ⟨T1, hrow1, hS⟩ := hq
      exact D2.run_ft (hto2 (pG (g 4)) (g 4).n (g 4).cap) (hrow1.prAt hS fun e he => List.mem_append_right _ (List.mem_append_right _ (List.mem_append_right _ he))) kr fun v T2 w' hok hT2 => by
        obtain ⟨y, rfl, hsl⟩ := hok
        exact ⟨y, rfl, T2, hsl, ((St.addAll hS hT2).sub (List.Sublist.append_left (List.Sublist.append_left (List.Sublist.append_left (List.sublist_append_left Tk T1) Tb) (bs2 (gs1 0).b (gs3 1).b q i cb)) T2)).perm (perm_end4 (bs2 (gs1 0).b (gs3 1).b q i cb) Tb Tk T2)⟩
    · refine D2.gv_chn 6 2 (fun L hN => by
      have e6 := hN.1
      have e5 := hN.bef 5 kr
      have e4 := hN.back e5 (show D2.edge _ 4 5 = true by kernel_rfl)
      have e7 := hN.post 7 kr
      have e9 := hN.fwd e7 (show D2.edge _ 7 9 = true by kernel_rfl)
      exact ⟨by (simp [D2.stg, e4, e5, e6, e7, e9]) <;> rfl, by (simp [D2.stg, D2.put1, e4, e5, e6, e7, e9]) <;> rfl⟩) fun g ww hq => ?_
      obtain ⟨T2, hsl, hS⟩ := hq
      exact D2.run_new (F := fun b => .slice (some ⟨b, 0, none⟩) 1 1) (ob := rowO [Xg (Mf i) (g 5)]) kr ⟨{ b := ww.heap.size }, rfl, T2, hsl, (St.alloc hS (rowO [Xg (Mf i) (g 5)])).perm (List.perm_middle (l₁ := (bs2 (gs1 0).b (gs3 1).b q i cb)))⟩
    · refine D2.gv_chn 7 3 (fun L hN => by
      have e7 := hN.1
      have e6 := hN.bef 6 kr
      have e5 := hN.back e6 (show D2.edge _ 5 6 = true by kernel_rfl)
      have e4 := hN.back e5 (show D2.edge _ 4 5 = true by kernel_rfl)
      have e9 := hN.post 9 kr
      exact ⟨by (simp [D2.stg, e4, e5, e6, e7, e9]) <;> rfl, by (simp [D2.stg, D2.put1, e4, e5, e6, e7, e9]) <;> rfl⟩) fun g ww hq => ?_
      obtain ⟨T2, hsl, hS⟩ := hq
      refine D2.run_of (op := appendOp 66 (.tmp 56) (.tmp 61)) kr fun o ho => ?_
      obtain ⟨b', cap', cur', w', hrun, HS', hr'⟩ := grow_any (S := iS) (bx := (g 6).b) (M0 := Ks) (M := [Xg (Mf i) (g 5)]) (row := Tb) (Z := (bs2 (gs1 0).b (gs3 1).b q i cb) ++ (Tk ++ T2)) (n := i) (c := cb) (p := q) (m := 1) (mc := 1) (hS.perm (perm_st ((g 6).b, rowO [Xg (Mf i) (g 5)]) Tb (bs2 (gs1 0).b (gs3 1).b q i cb) (Tk ++ T2))) hrow (t := 66) (bytes := 48) kr ho kr kr rfl (by decide) (by omega) (by unfold maxLen; omega)
      exact ⟨_, w', hrun, { b := b', cap := cap', cur := cur' }, rfl, T2, hsl, HS'.perm (List.perm_middle (l₁ := (bs2 (gs1 0).b (gs3 1).b q i cb))), hr'⟩
    · exact D2.gv_val (fun _ _ _ h => h) (fun g w => by kernel_rfl)
    · refine D2.gv_chn 9 4 (fun L hN => by
      have e9 := hN.1
      have e7 := hN.bef 7 kr
      have e6 := hN.back e7 (show D2.edge _ 6 7 = true by kernel_rfl)
      have e5 := hN.back e6 (show D2.edge _ 5 6 = true by kernel_rfl)
      have e4 := hN.back e5 (show D2.edge _ 4 5 = true by kernel_rfl)
      exact ⟨by (simp [D2.stg, e4, e5, e6, e7, e9]) <;> rfl, by (simp [D2.stg, D2.put1, e4, e5, e6, e7, e9]) <;> rfl⟩) fun g ww hq => ?_
      obtain ⟨T2, hsl, hS, hr⟩ := hq
      exact run_stoX (t := 66) (x := .tmp 63) (y := .tmp 62) (T := 68) (b := (gs3 1).b) (q := q) (n := i) (c := cb) (q' := some ⟨(g 7).b, 0, none⟩) (n' := i + 1) (c' := (g 7).cap) kr kr kr kr (St.get hS 1 kr) ⟨g 9, rfl, T2, hsl, St.store (C := #[.bool true, .string emB, .slice q i cb]) (T := 68) hS 1 kr, hr⟩
    · intro L1 g w9 hall hp
      have hq := hp.fin (fun k hk => hall k (by simp at hk; rcases hk with rfl | rfl | rfl | rfl | rfl <;> exact Nat.le_of_ble_eq_true kr))
      obtain ⟨T2, hsl, hS, hr⟩ := hq
      show WP _ _ _ _ _ _
      refine rL [.v, .e (v := .int .i64 (IntKind.i64.wrap (((i : Nat) : Int) + 1))) (v' := iN (i + 1)) (int_eq (wrapAdd_i64 (a := i) (b := 1) (by omega))), .v] hS kr fun gs8 w10 H8 => ?_
      show ∃ m, _ ∧ _
      have H9 : St w.heap.size w w10 ((bs2 (gs1 0).b (gs3 1).b (some ⟨(g 7).b, 0, none⟩) (i + 1) (g 7).cap) ++ ([((g 7).b, .cells (g 7).cur 68 (0, 0))] ++ (Tk ++ T2))) := H8.as kr
      refine ⟨_, (by omega), i + 1, some ⟨(g 7).b, 0, none⟩, (g 7).cap, (Ks ++ [Xg (Mf i) (g 5)]), [((g 7).b, .cells (g 7).cur 68 (0, 0))], Tk ++ T2, rfl, hi, .inr ⟨_, _, rfl, rfl, hr⟩, ?_, ?_, H9, (Is.of ⟨kr, kr, kr, kr, trivial⟩)⟩
      · rw [List.map_append, hKs, List.range_succ, List.map_append]; rfl
      · refine allIn_snoc (allIn_mono hAll fun e he => List.mem_append_left _ he) (hsl.mono fun e he => List.mem_append_right _ he) ?_
        have h5 : (Mf i).s.size ≤ (encI (Mf i)).length := by
          unfold encI wr1
          rw [List.length_append, List.length_append, tl_len]; omega
        have := hMok2 i
        show (Mf i).s.size ≤ _
        omega
  · obtain rfl : i = 16 := by omega
    refine rS [.v, .e (v := .bool (decide (((16 : Nat) : Int) < 16))) (v' := .bool false) (bool_eq (decide_eq_false (by omega)))] H6 kr fun gs7 w8 H7a => ?_
    refine g_cond_f kr kr ?_
    refine g_exit 0 kr ?_
    show WP _ _ _ _ _ _
    refine rS [.v, .cp (pre := fun w => PrAt w p n (L0.map pE)) hget [] (fun w hb hd => hP.call hb), .v, .v, .v, .v, .v] H7a kr fun gs8 w9 H8 => ?_
    have H9 : St w.heap.size w w9 ((bs2 (gs1 0).b (gs3 1).b q 16 cb) ++ (Tb ++ Tk)) := H8.as kr
    refine g_sreg [0, 1, 2, 3, 4, 5, 6, 7] kr kr ?_
    refine rp [.v, .l 1, .v, .v] H9 kr fun gs9 w10 H10a => ?_
    show WPs _ _ _ _ [4, 5, 6, 7] _ _
    have H10 : St w.heap.size w w10 ((bs2 (gs1 0).b (gs3 1).b q 16 cb) ++ (Tb ++ Tk)) := H10a.as kr
    refine s_new9 H10 (some 73) (fun b => .slice (some ⟨b, 0, none⟩) 1 1) (iS.cs (b3 (valE L0))).toArray 68 kr kr ?_
    intro nb w11 H11
    refine s_growR (S := iS) (some 74) 66 68 48 (.tmp 70) (.tmp 73) (H11.perm (List.Perm.cons _ (perm_sw Tb (bs2 (gs1 0).b (gs3 1).b q 16 cb) Tk))) hrow kr kr kr kr kr (by omega) (by unfold maxLen; omega) ?_
    intro bn capn curn w12 H12 hrn
    have H13 : St w.heap.size w w12 ((bn, .cells curn 68 (0, 0)) :: ((gs1 0).b, itO (b3 emB)) :: ((gs3 1).b, xlO q 16 cb) :: Tk) := H12
    refine rp [.v, .s 2] H13 kr fun gs10 w13 H14 => ?_
    show WPs _ _ _ _ [] _ _
    refine s_nil ?_
    show WP _ _ _ _ _ _
    refine rS [.l 2, .s 1] H14 kr fun gs11 w14 H15 => ?_
    have H16 : St w.heap.size w w14 ((bn, .cells curn 68 (0, 0)) :: ((gs1 0).b, xlO (some ⟨bn, 0, none⟩) 17 capn) :: ((gs3 1).b, xlO (some ⟨bn, 0, none⟩) 17 capn) :: Tk) := H15.as kr
    have hK16 : Ks.length = 16 := hrow.len
    have hL17 : (Ks ++ [b3 (valE L0)]).length = 17 := by rw [List.length_append, hK16]; rfl
    refine rRr [.cell 2 68] [1] (.agg #[.bool true, .string emB, .slice (some ⟨bn, 0, none⟩) 17 capn]) (outT w.heap.size w (okX (lI ((List.range 16).map (fun c => toldM f (cutE c L0)) ++ [bI (valE L0)])))) H16 kr ?_
    have hfin := okX_row (M := lI ((List.range 16).map (fun c => toldM f (cutE c L0)) ++ [bI (valE L0)])) (L := Ks ++ [b3 (valE L0)]) (b := bn) (c := capn) (cur := curn) (T := (bn, .cells curn 68 (0, 0)) :: Tk) (by rw [hMf, List.map_append, hKs]; rfl) (by rw [hL17]; exact hrn) (List.mem_cons_self ..) (allIn_snoc (allIn_mono hAll fun e he => List.mem_cons_of_mem _ he) (slIn_b3 _ _) (by show (valE L0).size ≤ _; omega)) (by omega)
    rw [hL17] at hfin
    rw [hMf] at hfin ⊢
    exact ⟨_, hfin, H16.sub (List.Sublist.cons_cons _ ((List.sublist_cons_self ..).trans (List.sublist_cons_self ..)))⟩
/-- Any pairs' item. -/
theorem item_all : ∀ f, ItC f
  | 0 => fun l hl0 ho _ _ p n c => by
    cases l with
    | nil => exact absurd rfl hl0
    | cons e r => exact absurd (ho e (List.mem_cons_self ..)).1 (Nat.not_lt_zero _)
  | f + 1 => fun l hl0 ho hs hl p n c => by
    have hT := told_item f (item_all f)
    match l, hl0, ho, hs, hl with
    | [], h, _, _, _ => exact absurd rfl h
    | [(x0, v0)], _, ho, hs, _ => exact item_one f x0 v0 ho hs p n c
    | (x0, v0) :: e' :: r, _, ho, hs, hl =>
      by_cases hc : 0 < commonM ((x0, v0) :: e' :: r)
      · exact item_many f hT x0 v0 e' r ho hs hl hc p n c
      · exact item_part f hT x0 v0 e' r ho hs hl hc p n c
end Go.Proofs.YtlhfgbjhngkicaaGreatDoor

namespace Go.Proofs.YtlhfgbjhngkicaaGreatDoor
open Go Go.RowKit
set_option linter.unusedVariables false
theorem okm_none : Okm (bI ⟨#[]⟩) := ⟨ok_bI _, by decide, fun _ => by decide, fun _ => by decide, by decide⟩
/-- What all the pairs are told by. -/
def rootI (L : List Pr) : I3 := if L = [] then bI ⟨#[]⟩ else itemM 65 (entsOf L)
theorem ents_ne {L : List Pr} (h : L ≠ []) : entsOf L ≠ [] := by cases L with | nil => exact absurd rfl h | cons a l => simp [entsOf]
theorem okm_root {L : List Pr} (h : OkP L) : Okm (rootI L) := by
  unfold rootI
  split
  · exact okm_none
  · rename_i hn; exact (item_ok 65 (entsOf L) (ents_ne hn) (okP_ents h).1 (okP_ents h).2).1
theorem top_root {L : List Pr} (h : OkP L) : topI (builtM L).1 = rootI L := by
  unfold rootI
  split
  · rename_i hn; subst hn; rfl
  · rename_i hn; exact top_built h hn
set_option maxRecDepth 100000 in
set_option maxHeartbeats 4000000 in
theorem root_all (p : Option Addr) (n c : Nat) (root : Int) (A : List Nd) (hA : ∀ x ∈ A, x.part.size ≤ 140737488355328) (hAl : A.length ≤ 1000000000000) (hr : (readM A root).isSome = true) (hG : Good A) (hO : Okm (topI A)) :
    FnP Tryz.prog 11 #[.agg #[.slice p n c, .int .i64 root]] (fun w => NdAt w p n A ∧ Ke.Marks w) (.tuple #[.string (strB (Kec.sumB (encI (topI A)))), .int .i64 0]) := by
  refine FnP.intro (c := codeOf Tryz.f11) [.tmp 2, .tmp 3] 18 Tryz.func11 kr kr kr fun w hN => ?_
  obtain ⟨hN, hM⟩ := hN
  have H0 := St.start w
  have hri := right_fn p n c root A hA hAl
  rw [hr] at hri
  have hsz := hO.sz
  have hsum := sumT_fn (strB (encI (topI A))) (by rw [strB_size]; omega)
  rw [tl_strB] at hsum
  refine rS [.b, .v, .v] H0 kr fun gs1 w1 H1 => ?_
  refine g_seq kr ?_
  refine rS [.l 0, .cp (pre := fun w => NdAt w p n A) hri [] (fun w hb hd => hN.call hb), .v] H1 kr fun gs2 w2 H2 => ?_
  refine g_cond_f kr kr ?_
  refine g_skip kr ?_
  show WP _ _ _ _ _ _
  refine g_sreg [0, 1, 2, 3, 4, 5, 6, 7, 8] kr kr ?_
  refine rp [.v, .l 0] H2 kr fun gs3 w3 H3 => ?_
  show WPs _ _ _ _ [2, 3, 4, 5, 6, 7, 8] _ _
  have H4 : St w.heap.size w w3 [((gs1 0).b, .cells #[.slice p n c, .int .i64 root] 26 (0, 0))] := H3.as kr
  refine s_callFT H4 (some 12) 28 #[.slice p n c] (top_fn p n c A hG hAl) ⟨hN.call H4.below, marks_call hM H4.below⟩ kr kr ?_
  rintro _ T w4 ⟨X, rfl, hXi, hXs, hXe⟩ H5
  have henc := encode_fn X.l X.s X.p X.n X.c X.k (by rw [hXe]; exact Nat.zero_le _)
  have hOX : Okm X.i := hXi ▸ hO
  rw [show encS X.l X.s X.n X.k = (strB (encI (topI A)), 0) by rw [hXs.1, ← hXi]; exact enc_okm hOX] at henc
  refine s_callP H5 (some 13) 27 #[itV X] _ _ henc (hXs.at H5 fun e he => by simp [he]) (fun w => by kernel_rfl) kr ?_
  intro w5 H6
  refine rp [.v, .v, .v, .v, .v] H6 kr fun gs4 w6 H7 => ?_
  show WPs _ _ _ _ [] _ _
  refine s_nil ?_
  show WP _ _ _ _ _ _
  refine rS [.v, .cp hsum [] (fun w hb hd => marks_call hM hb), .v, .v] H7 kr fun gs5 w7 H8 => ?_
  exact rR [.tmp 2, .tmp 3] [] (.tuple #[.string (strB (Kec.sumB (encI (topI A)))), .int .i64 0]) H8 kr
/-- The root of what pairs make. -/
theorem root_built (p : Option Addr) (n c : Nat) (L : List Pr) (h : OkP L) : FnP Tryz.prog 11 #[.agg #[.slice p n c, .int .i64 (builtM L).2]] (fun w => NdAt w p n (builtM L).1 ∧ Ke.Marks w) (.tuple #[.string (strB (Kec.sumB (encI (rootI L)))), .int .i64 0]) := by
  have h9 := root_all p n c (builtM L).2 (builtM L).1 (built_part h) (built_len h) (by rw [read_built h]; rfl) (good_built h) (by rw [top_root h]; exact okm_root h)
  rw [top_root h] at h9
  exact h9
end Go.Proofs.YtlhfgbjhngkicaaGreatDoor

namespace Go.Proofs.YtlhfgbjhngkicaaGreatDoor
open Go Go.RowKit
open D2 (Gh)
set_option linter.unusedVariables false
set_option maxRecDepth 100000 in
set_option maxHeartbeats 4000000 in
theorem rootR_fn (p : Option Addr) (n c : Nat) (L : List Pr) (h : OkP L) : FnP Tryz.prog 14 #[.slice p n c] (fun w => PrAt w p n L) (.string (strB (Kec.sumB (encI (rootI L))))) := by
  refine FnP.intro (c := codeOf Tryz.f14) [.tmp 2] 14 Tryz.func14 kr kr kr fun w hP => ?_
  have hn := hP.1
  have hlen := h.len
  have hok := okm_root h
  have hsz := hok.sz
  have hsum := Ke.sumR_fn (strB (encI (rootI L))) (by rw [strB_size]; omega)
  rw [tl_strB] at hsum
  have H0 := St.start w
  refine rS [.v] H0 kr fun gs1 w1 H1 => ?_
  refine g_seq kr ?_
  by_cases hL : L = []
  · subst hL
    obtain rfl : n = 0 := hn
    refine rS [.v, .v, .v] H1 kr fun gs2 w2 H2 => ?_
    refine g_cond_t kr kr ?_
    refine rS [.v, .cp (pre := fun w => SlAt w.heap.size w none 0 .nil) (okm_ref okm_none { cap := 0 }) [] (fun w hb hd => SlAt.nil _ _ _), .c hsum, .v] H2 kr fun gs3 w3 H3 => ?_
    exact rR [.tmp 2] [] (.string (strB (Kec.sumB (encI (rootI []))))) H3 kr
  · have hn0 : n ≠ 0 := by rw [hn]; exact fun h => hL (List.length_eq_zero_iff.1 h)
    have hr : rootI L = itemM 65 (entsOf L) := by unfold rootI; rw [if_neg hL]
    refine rS [.v, .v, .e (v := .bool (((n : Nat) : Int) == 0)) (v' := .bool false) (bool_eq (beq_eq_false_iff_ne.2 (by omega)))] H1 kr fun gs2 w2 H2 => ?_
    refine g_cond_f kr kr ?_
    refine g_skip kr ?_
    show WP _ _ _ _ _ _
    have hpa := parts_fn p n c L (by omega) (fun x hx => by have := (may_size (h.may x hx)).1.2; omega)
    rw [parts_ents] at hpa
    have hit := item_all 65 (entsOf L) (ents_ne hL) (okP_ents h).1 (okP_ents h).2 (by show (L.map _).length ≤ _; rw [List.length_map]; omega)
    rw [← hr] at hit
    refine g_sreg [0, 1, 2, 3, 4, 5] kr kr ?_
    refine rp [.v] H2 kr fun gs3 w3 H3 => ?_
    show WPs _ _ _ _ [1, 2, 3, 4, 5] _ _
    have H4 : St w.heap.size w w3 [] := H3.as kr
    refine s_callFT H4 (some 10) 24 #[.slice p n c] hpa (hP.call H4.below) kr kr ?_
    rintro _ T1 w4 ⟨p1, n1, c1, rfl, hrow⟩ H5
    refine s_callFT H5 (some 11) 32 #[.slice p1 n1 c1] (hit p1 n1 c1) (hrow.prAt H5 fun e he => List.mem_append_left _ he) kr kr ?_
    rintro _ T2 w5 ⟨y, rfl, hsl⟩ H6
    refine s_callP H6 (some 12) 31 #[itV (Xg (rootI L) y)] _ _ (okm_ref hok y) (hsl.at H6 fun e he => List.mem_append_left _ he) (fun w => by kernel_rfl) kr ?_
    intro w6 H7
    refine rp [.c hsum, .v] H7 kr fun gs4 w7 H8 => ?_
    show WPs _ _ _ _ [] _ _
    refine s_nil ?_
    exact rR [.tmp 2] [] (.string (strB (Kec.sumB (encI (rootI L))))) H8 kr
end Go.Proofs.YtlhfgbjhngkicaaGreatDoor

namespace Go.Proofs.YtlhfgbjhngkicaaGreatDoor
open Go Go.RowKit
open D2 (Gh)
set_option linter.unusedVariables false
set_option maxRecDepth 100000 in
set_option maxHeartbeats 8000000 in
theorem makes_fn (p : Option Addr) (n c : Nat) (As : List Pr) : FnP Tryz.prog 3 #[.slice p n c] (fun w => PrAt w p n As ∧ Ke.Marks w) (.bool true) := by
  refine FnP.intro (c := codeOf Tryz.f3) [.tmp 2] 60 Tryz.func3 kr kr kr fun w hP => ?_
  obtain ⟨hP, hM⟩ := hP
  have H0 := St.start w
  refine rS [.v] H0 kr fun gs1 w1 H1 => ?_
  refine g_sreg [0, 1, 2, 3, 4, 5, 6, 7, 8, 9] kr kr ?_
  refine rp [.v] H1 kr fun gs2 w2 H2 => ?_
  show WPs _ _ _ _ [1, 2, 3, 4, 5, 6, 7, 8, 9] _ _
  have H3 : St w.heap.size w w2 [] := H2.as kr
  refine s_callFT H3 (some 12) 6 #[.slice p n c] (model_fn p n c As) (hP.call H3.below) kr kr ?_
  rintro _ _ w3 ⟨L, q, m, k, rowl, pt, nt, ct, Tt, hok, hrow, hrt, rfl, rfl⟩ H4
  have H4 : St w.heap.size w w3 (rowl ++ Tt) := H4.as (by simp)
  refine rp [.v, .v, .v, .v] H4 kr fun gs3 w4 H5 => ?_
  show WPs _ _ _ _ [6, 7, 8, 9] _ _
  have H6 : St w.heap.size w w4 (rowl ++ Tt) := H5.as kr
  refine s_alloc H6 (some 4) 26 (.agg #[.slice none 0 0, .int .i64 0]) kr kr kr ?_
  intro b4 w5 H7
  refine rp [.v, .s 0, .v] H7 kr fun gs4 w6 H8 => ?_
  show WPs _ _ _ _ [] _ _
  refine s_nil ?_
  have H9 : St w.heap.size w w6 ((b4, boT pt nt ct (builtM L).2) :: (rowl ++ Tt)) := H8.as kr
  have h64 := hok.len
  have hread := read_built hok
  have hA := built_part hok
  have hAl := built_len hok
  have hri := right_fn pt nt ct (builtM L).2 (builtM L).1 hA hAl
  rw [show (readM (builtM L).1 (builtM L).2).isSome = true by rw [hread]; rfl] at hri
  refine g_seq kr ?_
  refine g_seq kr ?_
  refine D2.g_draw0 [0, 1, 2, 3, 4, 5, 6, 7, 8, 9, 10, 11, 12, 13] [(some 16, fun _ => .bool true), (some 17, fun _ => .bool false), (some 18, fun _ => .bool false), (some 19, fun _ => .agg #[.slice pt nt ct, .int .i64 (builtM L).2]), (some 20, fun _ => .slice q m k), (some 21, fun y => .agg #[.slice (pG y) y.n y.cap, .int .i64 (builtM L).2]), (some 22, fun _ => .bool true), (some 23, fun _ => .bool false), (some 24, fun _ => .bool false), (some 25, fun _ => .bool false), (some 26, fun _ => .agg #[.slice pt nt ct, .int .i64 (builtM L).2]), (some 27, fun _ => .bool true), (some 28, fun _ => .bool false), (some 29, fun _ => .bool false)]
    (D2.two 5 (fun ww => St w.heap.size w ww ((b4, boT pt nt ct (builtM L).2) :: (rowl ++ Tt))) (fun y ww => ∃ T2, RowF nS 58 (pG y) y.n y.cap T2 (builtM L).1 ∧ St w.heap.size w ww ((b4, boT pt nt ct (builtM L).2) :: ((rowl ++ Tt) ++ T2)))) kr kr kr H9.drew ⟨?_, ?_, ?_, ?_, ?_, ?_, ?_, ?_, ?_, ?_, ?_, ?_, ?_, ?_, trivial⟩ ?_
  · exact D2.gv_val (fun _ _ _ h => h) (fun g w => by kernel_rfl)
  · exact D2.gv_val (fun _ _ _ h => h) (fun g w => by kernel_rfl)
  · exact D2.gv_val (fun _ _ _ h => h) (fun g w => by kernel_rfl)
  · exact D2.gv_ld (fun _ _ _ h => h) 26 (.tmp 4) (fun _ => b4) 0 #[.slice pt nt ct, .int .i64 (builtM L).2] 26 (0, 0) (fun g => by kernel_rfl) (fun g => by kernel_rfl) (fun L g w hN hp => hp.get (fun h => St.get h 0 kr) (fun _ ⟨_, _, h⟩ => St.get h 0 kr)) kr kr
  · exact D2.gv_val (fun _ _ _ h => h) (fun g w => by kernel_rfl)
  · refine D2.gv_ft 8 #[.slice q m k] (ofT_fn q m k L (by omega) (fun x hx => (may_size (hok.may x hx)).1.2)) (fun L g w hN hp => hrow.prAt (hp.bef hN.1) fun e he => List.mem_cons_of_mem _ (List.mem_append_left _ he)) (fun L1 g ww v T2 w' hN hp hk hT => ?_) (fun g w => by kernel_rfl)
    obtain ⟨p3, n3, c3, hr3, rfl⟩ := hk
    have hS := (St.addAll (hp.bef hN.1) hT).perm (List.perm_append_comm (l₁ := (b4, boT pt nt ct (builtM L).2) :: (rowl ++ Tt)) (l₂ := T2))
    obtain ⟨x, hx, hr4⟩ := gh_of hr3
    refine ⟨x, ?_, D2.two.to ⟨T2, hr4, hS⟩⟩
    rw [hx]; rfl
  · refine D2.gives_of fun L1 gg ww hp hN1 => ?_
    have h5 := hN1.bef 5 kr
    obtain ⟨T2, hr3, hS⟩ := hp.aft h5
    obtain ⟨o, ho, hd, hw, hrun⟩ := opv_some (show opv _ _ 6 _ ww = some (some 22, true, .ok (.enter 7 #[.agg #[.slice pt nt ct, .int .i64 (builtM L).2], .agg #[.slice (pG (gg 5)) (gg 5).n (gg 5).cap, .int .i64 (builtM L).2]]) ww) by kernel_rfl)
    refine ⟨o, ho, hd, .inr ⟨hw, ?_⟩⟩
    rw [hrun]
    refine Calls.mono (like_trie pt (pG (gg 5)) nt ct (gg 5).n (gg 5).cap hok ww ⟨hrt.ndAt hS fun e he => by simp [he], RowF.ndAt hr3 hS fun e he => by simp [he]⟩) ?_
    rintro e w' ⟨rfl, hb⟩
    refine ⟨_, rfl, gg 6, rfl, ?_⟩
    rw [D2.setN_self]
    unfold D2.two
    rw [show D2.put1 L1 6 5 = true from h5]
    exact ⟨T2, hr3, hS.call hb⟩
  · exact D2.gv_val (fun _ _ _ h => h) (fun g w => by kernel_rfl)
  · exact D2.gv_val (fun _ _ _ h => h) (fun g w => by kernel_rfl)
  · exact D2.gv_val (fun _ _ _ h => h) (fun g w => by kernel_rfl)
  · exact D2.gv_ld (fun _ _ _ h => h) 26 (.tmp 4) (fun _ => b4) 0 #[.slice pt nt ct, .int .i64 (builtM L).2] 26 (0, 0) (fun g => by kernel_rfl) (fun g => by kernel_rfl) (fun L g w hN hp => hp.get (fun h => St.get h 0 kr) (fun _ ⟨_, _, h⟩ => St.get h 0 kr)) kr kr
  · exact D2.gv_cpW (fun _ _ _ h => h) 9 #[.agg #[.slice pt nt ct, .int .i64 (builtM L).2]] hri (fun L g w hN hp => hp.get (fun h => hrt.ndAt h fun e he => by simp [he]) (fun _ ⟨_, _, h⟩ => hrt.ndAt h fun e he => by simp [he])) (fun L g w w' hN hp hb => hp.call (fun h => h.call hb) (fun _ ⟨T, h1, h2⟩ => ⟨T, h1, h2.call hb⟩)) (fun g w => by kernel_rfl)
  · exact D2.gv_val (fun _ _ _ h => h) (fun g w => by kernel_rfl)
  · exact D2.gv_val (fun _ _ _ h => h) (fun g w => by kernel_rfl)
  · intro L1 gg w9 hall hp
    obtain ⟨T2, _, H10⟩ := hp.aft (hall 5 (Nat.le_of_ble_eq_true kr))
    have H11 : St w.heap.size w w9 ((b4, boT pt nt ct (builtM L).2) :: (rowl ++ Tt)) := H10.sub (List.Sublist.cons_cons _ (List.sublist_append_left ..))
    show WP _ _ _ _ _ _
    refine g_cond_f kr kr ?_
    refine g_skip kr ?_
    show WP _ _ _ _ _ _
    refine g_sreg [0, 1, 2, 3, 4, 5, 6] kr kr ?_
    refine rp [.l 0] H11 kr fun gs5 w10 H12 => ?_
    show WPs _ _ _ _ [1, 2, 3, 4, 5, 6] _ _
    have H13 : St w.heap.size w w10 ((b4, boT pt nt ct (builtM L).2) :: (rowl ++ Tt)) := H12.as kr
    have hpairs := pairs_fn pt nt ct (builtM L).2 (builtM L).1 hA hAl
    rw [hread] at hpairs
    refine s_callFT H13 (some 32) 10 #[.agg #[.slice pt nt ct, .int .i64 (builtM L).2]] hpairs (hrt.ndAt H13 fun e he => by simp [he]) kr kr ?_
    rintro _ T6 w11 ⟨p6, n6, c6, rfl, hr6⟩ H14
    have H15 : St w.heap.size w w11 ((b4, boT pt nt ct (builtM L).2) :: (T6 ++ (rowl ++ Tt))) := H14.perm (List.perm_middle (l₁ := T6)).symm
    refine rp [.v, .v, .v, .v, .v] H15 kr fun gs6 w12 H16 => ?_
    show WPs _ _ _ _ [] _ _
    refine s_nil ?_
    show WP _ _ _ _ _ _
    refine g_sreg [0, 1, 2, 3, 4, 5, 6] kr kr ?_
    refine rp [.l 0] H16 kr fun gs7 w13 H17 => ?_
    show WPs _ _ _ _ [1, 2, 3, 4, 5, 6] _ _
    have H18 : St w.heap.size w w13 ((b4, boT pt nt ct (builtM L).2) :: (T6 ++ (rowl ++ Tt))) := H17.as kr
    refine s_callP H18 (some 37) 11 #[.agg #[.slice pt nt ct, .int .i64 (builtM L).2]] _ _ (root_built pt nt ct L hok) ⟨hrt.ndAt H18 fun e he => by simp [he], marks_call hM H18.below⟩ (fun w => by kernel_rfl) kr ?_
    intro w14 H19
    refine rp [.v, .v, .v, .v, .v] H19 kr fun gs8 w15 H20 => ?_
    show WPs _ _ _ _ [] _ _
    refine s_nil ?_
    show WP _ _ _ _ _ _
    have hsame := sameR_fn p6 n6 c6 L q m k L (by omega)
    rw [prsB_self] at hsame
    have hroot := rootR_fn q m k L hok
    generalize strB (Kec.sumB (encI (rootI L))) = s at *
    refine g_sreg [0, 1, 2, 3, 4, 5, 6, 7, 8, 9, 10, 11, 12, 13, 14, 15, 16, 17, 18, 19, 20] kr kr ?_
    refine rp [.cp alive_fn [] (fun w hb hd => marks_call hM hb), .v, .v, .v, .v, .v, .v, .v, .v, .v, .v, .v] H20 kr fun gs9 w16 H21 => ?_
    show WPs _ _ _ _ [12, 13, 14, 15, 16, 17, 18, 19, 20] _ _
    have H22 : St w.heap.size w w16 ((b4, boT pt nt ct (builtM L).2) :: (T6 ++ (rowl ++ Tt))) := H21.as kr
    refine s_callP H22 (some 52) 13 #[.slice p6 n6 c6, .slice q m k] _ _ hsame ⟨hr6.prAt H22 fun e he => by simp [he], hrow.prAt H22 fun e he => by simp [he]⟩ (fun w => by kernel_rfl) kr ?_
    intro w17 H23
    refine rp [.v, .v, .v, .v] H23 kr fun gs10 w18 H24 => ?_
    show WPs _ _ _ _ [17, 18, 19, 20] _ _
    have H25 : St w.heap.size w w18 ((b4, boT pt nt ct (builtM L).2) :: (T6 ++ (rowl ++ Tt))) := H24.as kr
    refine s_callP H25 (some 57) 14 #[.slice q m k] _ _ hroot (hrow.prAt H25 fun e he => by simp [he]) (fun w => by kernel_rfl) kr ?_
    intro w19 H26
    refine rp [.e (v := .bool (s.toList == s.toList)) (v' := .bool true) (bool_eq (str_self s)), .v, .v] H26 kr fun gs11 w20 H27 => ?_
    show WPs _ _ _ _ [] _ _
    refine s_nil ?_
    exact rR [.tmp 2] [] (.bool true) H27 kr
end Go.Proofs.YtlhfgbjhngkicaaGreatDoor
