/-
  Words turned; a block spread.
-/
import Derived.Test.YtjhldipeicpoeaaDoorProg
import Derived.Test.YtjhldipeicpoeaaDoorShaM
namespace Go.Proofs.YtjhldipeicpoeaaDoor
open Go Go.RowKit Go.Proofs.Sha
set_option linter.unusedVariables false

def arr (n : Nat) (s : List W) : Value := .agg (arrF n fun i => .int .u32 ((BitVec.toNat (nth s i) : Nat) : Int)).toArray
theorem arr_at {n : Nat} (s : List W) {k off : Nat} (ho : off = 0 + k * 1) (hk : k < n) : (Value.cells (arr n s))[off]? = some (.int .u32 ((BitVec.toNat (nth s k) : Nat) : Int)) :=
  seg_at (pre := []) (post := []) (n := n) (f := fun j => .int .u32 ((BitVec.toNat (nth s j) : Nat) : Int)) (by show arrF n _ = [] ++ arrF n _ ++ []; simp) (by simpa using ho) hk
theorem arr_put {n : Nat} {s t : List W} {k off : Nat} {x : W} (ho : off = 0 + k * 1) (hk : k < n) (hg : ∀ j, j < n → nth t j = if j = k then x else nth s j) :
    ((Value.cells (arr n s)).toList.take off ++ (Value.int .u32 ((BitVec.toNat x : Nat) : Int)).cells.toList ++ (Value.cells (arr n s)).toList.drop (off + (Value.int .u32 ((BitVec.toNat x : Nat) : Int)).cells.size)).toArray = Value.cells (arr n t) := by
  rw [seg_put (pre := []) (post := []) (n := n) (f := fun j => .int .u32 ((BitVec.toNat (nth s j) : Nat) : Int)) (g := fun j => .int .u32 ((BitVec.toNat (nth t j) : Nat) : Int)) (by show arrF n _ = [] ++ arrF n _ ++ []; simp) rfl (by simpa using ho) hk (fun j hj => by rw [hg j hj]; split <;> rfl)]
  simp; rfl
theorem arr_congr {n : Nat} {s t : List W} (h : ∀ j, j < n → nth s j = nth t j) : arr n s = arr n t := by
  unfold arr; rw [arrF_congr (fun j hj => by rw [h j hj])]
theorem arr_one (n : Nat) (s : List W) (q : Nat) : ∀ u ∈ List.take q (Array.toList (Value.cells (arr n s))), u.oneCell' = true := fun u hu =>
  arrF_one (n := n) (f := fun i => .int .u32 ((BitVec.toNat (nth s i) : Nat) : Int)) (fun _ _ => rfl) u (List.mem_of_mem_take hu)
def pdV (p : Pd) : Value := .agg ((arrF 8 fun i => .int .u32 ((BitVec.toNat (nth p.s i) : Nat) : Int)) ++ (arrF 16 fun i => .int .u32 ((BitVec.toNat (nth p.b i) : Nat) : Int)) ++ [Value.int .u64 ((p.n : Nat) : Int)]).toArray
theorem pd_at (p : Pd) {k off : Nat} (ho : off = 8 + k * 1) (hk : k < 16) : (Value.cells (pdV p))[off]? = some (.int .u32 ((BitVec.toNat (nth p.b k) : Nat) : Int)) :=
  seg_at (C := Value.cells (pdV p)) (off := off) (pre := arrF 8 fun i => .int .u32 ((BitVec.toNat (nth p.s i) : Nat) : Int)) (post := [Value.int .u64 ((p.n : Nat) : Int)]) (n := 16) (f := fun j => .int .u32 ((BitVec.toNat (nth p.b j) : Nat) : Int)) rfl (by rw [arrF_len]; exact ho) hk
theorem pd_put (p : Pd) {k off : Nat} {x : W} (ho : off = 8 + k * 1) (hk : k < 16) :
    ((Value.cells (pdV p)).toList.take off ++ (Value.int .u32 ((BitVec.toNat x : Nat) : Int)).cells.toList ++ (Value.cells (pdV p)).toList.drop (off + (Value.int .u32 ((BitVec.toNat x : Nat) : Int)).cells.size)).toArray = Value.cells (pdV ⟨p.s, put p.b k x, p.n⟩) :=
  seg_put (C := Value.cells (pdV p)) (off := off) (v := Value.int .u32 ((BitVec.toNat x : Nat) : Int)) (pre := arrF 8 fun i => .int .u32 ((BitVec.toNat (nth p.s i) : Nat) : Int)) (post := [Value.int .u64 ((p.n : Nat) : Int)]) (n := 16) (f := fun j => .int .u32 ((BitVec.toNat (nth p.b j) : Nat) : Int)) (g := fun j => .int .u32 ((BitVec.toNat (nth (put p.b k x) j) : Nat) : Int)) rfl rfl (by rw [arrF_len]; exact ho) hk
    (fun j hj => by rw [nth_put _ _ _ _ hj]; split <;> rfl)
def rootsC : Array Value := #[.int .u32 1116352408, .int .u32 1899447441, .int .u32 3049323471, .int .u32 3921009573, .int .u32 961987163, .int .u32 1508970993, .int .u32 2453635748, .int .u32 2870763221, .int .u32 3624381080, .int .u32 310598401, .int .u32 607225278, .int .u32 1426881987, .int .u32 1925078388, .int .u32 2162078206, .int .u32 2614888103, .int .u32 3248222580, .int .u32 3835390401, .int .u32 4022224774, .int .u32 264347078, .int .u32 604807628, .int .u32 770255983, .int .u32 1249150122, .int .u32 1555081692, .int .u32 1996064986, .int .u32 2554220882, .int .u32 2821834349, .int .u32 2952996808, .int .u32 3210313671, .int .u32 3336571891, .int .u32 3584528711, .int .u32 113926993, .int .u32 338241895, .int .u32 666307205, .int .u32 773529912, .int .u32 1294757372, .int .u32 1396182291, .int .u32 1695183700, .int .u32 1986661051, .int .u32 2177026350, .int .u32 2456956037, .int .u32 2730485921, .int .u32 2820302411, .int .u32 3259730800, .int .u32 3345764771, .int .u32 3516065817, .int .u32 3600352804, .int .u32 4094571909, .int .u32 275423344, .int .u32 430227734, .int .u32 506948616, .int .u32 659060556, .int .u32 883997877, .int .u32 958139571, .int .u32 1322822218, .int .u32 1537002063, .int .u32 1747873779, .int .u32 1955562222, .int .u32 2024104815, .int .u32 2227730452, .int .u32 2361852424, .int .u32 2428436474, .int .u32 2756734187, .int .u32 3204031479, .int .u32 3329325298]
theorem roots_arr : rootsC = (Value.cells (arr 64 roots)) := by kernel_rfl
theorem roots_at {k off : Nat} (ho : off = 0 + k * 1) (hk : k < 64) : rootsC[off]? = some (.int .u32 ((BitVec.toNat (nth roots k) : Nat) : Int)) := by rw [roots_arr]; exact arr_at roots ho hk
def Roots (w : World) : Prop := ∃ T fz, w.heap[0]? = some (.cells rootsC T fz)
theorem Roots.old {B : Nat} {w0 w : World} {l : List (Nat × Obj)} (HS : St B w0 w l) (hB : B = w0.heap.size) (h : Roots w0) : Roots w := by
  obtain ⟨T, fz, h⟩ := h; exact ⟨T, fz, HS.old h (by rw [hB]; exact lt_of_heap h)⟩
theorem Roots.oldE {B : Nat} {w0 w : World} {E : List D2.Ent} (HS : D2.StE B w0 w E) (hB : B = w0.heap.size) (h : Roots w0) : Roots w := by
  obtain ⟨T, fz, h⟩ := h; exact ⟨T, fz, D2.StE.old HS h (by rw [hB]; exact lt_of_heap h)⟩
theorem wrneg (n : Nat) (h0 : 0 < n) (hn : n < 32) : IntKind.u64.wrap (-((n : Nat) : Int)) = ((18446744073709551616 - n : Nat) : Int) := by rw [wr_u64]; omega
theorem and31 (n : Nat) (h0 : 0 < n) (hn : n < 32) : Go.bits .and .u64 ((18446744073709551616 - n : Nat) : Int) 31 = ((32 - n : Nat) : Int) := by
  rw [show (31 : Int) = ((31 : Nat) : Int) from rfl, u64_and_nat _ 31 (by omega) (by omega), show (31 : Nat) = 2 ^ 5 - 1 from rfl, Nat.and_two_pow_sub_one_eq_mod]; congr 1; omega

set_option maxRecDepth 100000 in
set_option maxHeartbeats 2000000 in
theorem rotl_fn (x : W) (n : Nat) (h0 : 0 < n) (hn : n < 32) : Fn Tryd.prog 33 #[.int .u32 ((BitVec.toNat x : Nat) : Int), .int .i64 (-((n : Nat) : Int))] (.int .u32 ((BitVec.toNat (rr x n) : Nat) : Int)) := by
  refine Fn.intro (c := codeOf Tryd.f33) [.tmp 4] 17 Tryd.func33 (by kernel_rfl) (by kernel_rfl) (by kernel_rfl) fun w => ?_
  have H0 := St.start w
  refine g_sreg [0] (by kernel_rfl) (by kernel_rfl) ?_
  refine s_val (some 4) (.int .u32 0) (fun w => by kernel_rfl) (by kernel_rfl) ?_
  refine s_nil ?_
  refine g_sreg [0, 1, 2, 3] (by kernel_rfl) (by kernel_rfl) ?_
  refine s_val (some 6) (.int .i64 (-((n : Nat) : Int))) (fun w => by kernel_rfl) (by kernel_rfl) ?_
  refine s_valE (some 7) (.int .u64 (IntKind.u64.wrap (-((n : Nat) : Int)))) (.int .u64 ((18446744073709551616 - n : Nat) : Int)) (fun w => by kernel_rfl) (int_eq (wrneg n h0 hn)) (by kernel_rfl) ?_
  refine s_valE (some 8) (.int .u64 (Go.bits .and .u64 ((18446744073709551616 - n : Nat) : Int) 31)) (.int .u64 ((32 - n : Nat) : Int)) (fun w => by kernel_rfl) (int_eq (and31 n h0 hn)) (by kernel_rfl) ?_
  refine s_val (some 5) (.int .u64 ((32 - n : Nat) : Int)) (fun w => by kernel_rfl) (by kernel_rfl) ?_
  refine s_nil ?_
  refine g_sreg [0, 1, 2, 3, 4, 5, 6, 7, 8] (by kernel_rfl) (by kernel_rfl) ?_
  refine s_val (some 9) (.int .u32 ((BitVec.toNat x : Nat) : Int)) (fun w => by kernel_rfl) (by kernel_rfl) ?_
  refine s_val (some 10) (.int .u64 ((32 - n : Nat) : Int)) (fun w => by kernel_rfl) (by kernel_rfl) ?_
  refine s_valE (some 11) (.int .u32 (IntKind.u32.wrap ((((BitVec.toNat x : Nat) : Int)) * 2 ^ (min (32 - n) 32)))) (.int .u32 ((BitVec.toNat (x <<< (32 - n)) : Nat) : Int)) (fun w => by kernel_rfl) (bv_shl_u32 x (32 - n)) (by kernel_rfl) ?_
  refine s_val (some 12) (.int .u32 ((BitVec.toNat x : Nat) : Int)) (fun w => by kernel_rfl) (by kernel_rfl) ?_
  refine s_val (some 13) (.int .u64 ((32 - n : Nat) : Int)) (fun w => by kernel_rfl) (by kernel_rfl) ?_
  refine s_valE (some 14) (.int .u64 (IntKind.u64.wrap (32 - ((32 - n : Nat) : Int)))) (.int .u64 ((32 - (32 - n) : Nat) : Int)) (fun w => by kernel_rfl) (int_eq (wrapSub_u64 (a := 32) (b := 32 - n) (by omega))) (by kernel_rfl) ?_
  refine s_valE (some 15) (.int .u32 (Int.fdiv (((BitVec.toNat x : Nat) : Int)) (2 ^ (min (32 - (32 - n)) 32)))) (.int .u32 ((BitVec.toNat (x >>> (32 - (32 - n))) : Nat) : Int)) (fun w => by kernel_rfl) (bv_shr_u32 x (32 - (32 - n))) (by kernel_rfl) ?_
  refine s_valE (some 16) (.int .u32 (Go.bits .or .u32 (((BitVec.toNat (x <<< (32 - n)) : Nat) : Int)) (((BitVec.toNat (x >>> (32 - (32 - n))) : Nat) : Int)))) (.int .u32 ((BitVec.toNat ((x <<< (32 - n)) ||| (x >>> (32 - (32 - n)))) : Nat) : Int)) (fun w => by kernel_rfl) (bv_or_u32 (x <<< (32 - n)) (x >>> (32 - (32 - n)))) (by kernel_rfl) ?_
  refine s_val (some 4) (.int .u32 ((BitVec.toNat ((x <<< (32 - n)) ||| (x >>> (32 - (32 - n)))) : Nat) : Int)) (fun w => by kernel_rfl) (by kernel_rfl) ?_
  refine s_nil ?_
  refine g_ret (by kernel_rfl) ?_
  show ∃ vs, Res _ _ _ _ vs ∧ _
  refine ⟨[.int .u32 ((BitVec.toNat ((x <<< (32 - n)) ||| (x >>> (32 - (32 - n)))) : Nat) : Int)], (.tmp (.int .u32 ((BitVec.toNat ((x <<< (32 - n)) ||| (x >>> (32 - (32 - n)))) : Nat) : Int)) (by kernel_rfl) .nil), ?_, H0.below⟩
  rw [show 32 - (32 - n) = n by omega]; rfl

set_option maxRecDepth 100000 in
set_option maxHeartbeats 2000000 in
theorem right_fn (x : W) (n : Nat) (h0 : 0 < n) (hn : n < 32) : Fn Tryd.prog 32 #[.int .u32 ((BitVec.toNat x : Nat) : Int), .int .i64 ((n : Nat) : Int)] (.int .u32 ((BitVec.toNat (rr x n) : Nat) : Int)) := by
  refine Fn.intro (c := codeOf Tryd.f32) [.tmp 4] 9 Tryd.func32 (by kernel_rfl) (by kernel_rfl) (by kernel_rfl) fun w => ?_
  have H0 := St.start w
  refine g_sreg [0] (by kernel_rfl) (by kernel_rfl) ?_
  refine s_val (some 4) (.int .u32 0) (fun w => by kernel_rfl) (by kernel_rfl) ?_
  refine s_nil ?_
  refine g_sreg [0, 1, 2, 3, 4] (by kernel_rfl) (by kernel_rfl) ?_
  refine s_val (some 5) (.int .u32 ((BitVec.toNat x : Nat) : Int)) (fun w => by kernel_rfl) (by kernel_rfl) ?_
  refine s_val (some 6) (.int .i64 ((n : Nat) : Int)) (fun w => by kernel_rfl) (by kernel_rfl) ?_
  refine s_valE (some 7) (.int .i64 (IntKind.i64.wrap (0 - ((n : Nat) : Int)))) (.int .i64 (-((n : Nat) : Int))) (fun w => by kernel_rfl) (int_eq (neg_i64 (by omega) (by omega))) (by kernel_rfl) ?_
  refine s_call H0 (some 8) 33 #[.int .u32 ((BitVec.toNat x : Nat) : Int), .int .i64 (-((n : Nat) : Int))] (.int .u32 ((BitVec.toNat (rr x n) : Nat) : Int)) (rotl_fn x n h0 hn) (fun w => by kernel_rfl) (by kernel_rfl) ?_
  intro w1 H1; clear H0
  refine s_val (some 4) (.int .u32 ((BitVec.toNat (rr x n) : Nat) : Int)) (fun w => by kernel_rfl) (by kernel_rfl) ?_
  refine s_nil ?_
  refine g_ret (by kernel_rfl) ?_
  show ∃ vs, Res _ _ _ _ vs ∧ _
  refine ⟨[.int .u32 ((BitVec.toNat (rr x n) : Nat) : Int)], (.tmp (.int .u32 ((BitVec.toNat (rr x n) : Nat) : Int)) (by kernel_rfl) .nil), ?_, H1.below⟩
  rfl

set_option maxRecDepth 100000 in
set_option maxHeartbeats 2000000 in
theorem turned_fn (x : W) (i j k : Nat) (hi0 : 0 < i) (hi : i < 32) (hj0 : 0 < j) (hj : j < 32) (hk0 : 0 < k) (hk : k < 32) : Fn Tryd.prog 30 #[.int .u32 ((BitVec.toNat x : Nat) : Int), .int .i64 ((i : Nat) : Int), .int .i64 ((j : Nat) : Int), .int .i64 ((k : Nat) : Int)] (.int .u32 ((BitVec.toNat (tri x i j k) : Nat) : Int)) := by
  refine Fn.intro (c := codeOf Tryd.f30) [.tmp 8] 20 Tryd.func30 (by kernel_rfl) (by kernel_rfl) (by kernel_rfl) fun w => ?_
  have H0 := St.start w
  refine g_sreg [0] (by kernel_rfl) (by kernel_rfl) ?_
  refine s_val (some 8) (.int .u32 0) (fun w => by kernel_rfl) (by kernel_rfl) ?_
  refine s_nil ?_
  refine g_sreg [0, 1, 2, 3, 4, 5, 6, 7, 8, 9, 10, 11] (by kernel_rfl) (by kernel_rfl) ?_
  refine s_val (some 9) (.int .u32 ((BitVec.toNat x : Nat) : Int)) (fun w => by kernel_rfl) (by kernel_rfl) ?_
  refine s_val (some 10) (.int .i64 ((i : Nat) : Int)) (fun w => by kernel_rfl) (by kernel_rfl) ?_
  refine s_call H0 (some 11) 32 #[.int .u32 ((BitVec.toNat x : Nat) : Int), .int .i64 ((i : Nat) : Int)] (.int .u32 ((BitVec.toNat (rr x i) : Nat) : Int)) (right_fn x i (by omega) (by omega)) (fun w => by kernel_rfl) (by kernel_rfl) ?_
  intro w1 H1; clear H0
  refine s_val (some 12) (.int .u32 ((BitVec.toNat x : Nat) : Int)) (fun w => by kernel_rfl) (by kernel_rfl) ?_
  refine s_val (some 13) (.int .i64 ((j : Nat) : Int)) (fun w => by kernel_rfl) (by kernel_rfl) ?_
  refine s_call H1 (some 14) 32 #[.int .u32 ((BitVec.toNat x : Nat) : Int), .int .i64 ((j : Nat) : Int)] (.int .u32 ((BitVec.toNat (rr x j) : Nat) : Int)) (right_fn x j (by omega) (by omega)) (fun w => by kernel_rfl) (by kernel_rfl) ?_
  intro w2 H2; clear H1
  refine s_valE (some 15) (.int .u32 (Go.bits .xor .u32 (((BitVec.toNat (rr x i) : Nat) : Int)) (((BitVec.toNat (rr x j) : Nat) : Int)))) (.int .u32 ((BitVec.toNat ((rr x i) ^^^ (rr x j)) : Nat) : Int)) (fun w => by kernel_rfl) (bv_xor_u32 (rr x i) (rr x j)) (by kernel_rfl) ?_
  refine s_val (some 16) (.int .u32 ((BitVec.toNat x : Nat) : Int)) (fun w => by kernel_rfl) (by kernel_rfl) ?_
  refine s_val (some 17) (.int .i64 ((k : Nat) : Int)) (fun w => by kernel_rfl) (by kernel_rfl) ?_
  refine s_call H2 (some 18) 32 #[.int .u32 ((BitVec.toNat x : Nat) : Int), .int .i64 ((k : Nat) : Int)] (.int .u32 ((BitVec.toNat (rr x k) : Nat) : Int)) (right_fn x k (by omega) (by omega)) (fun w => by kernel_rfl) (by kernel_rfl) ?_
  intro w3 H3; clear H2
  refine s_valE (some 19) (.int .u32 (Go.bits .xor .u32 (((BitVec.toNat ((rr x i) ^^^ (rr x j)) : Nat) : Int)) (((BitVec.toNat (rr x k) : Nat) : Int)))) (.int .u32 ((BitVec.toNat (((rr x i) ^^^ (rr x j)) ^^^ (rr x k)) : Nat) : Int)) (fun w => by kernel_rfl) (bv_xor_u32 ((rr x i) ^^^ (rr x j)) (rr x k)) (by kernel_rfl) ?_
  refine s_val (some 8) (.int .u32 ((BitVec.toNat (((rr x i) ^^^ (rr x j)) ^^^ (rr x k)) : Nat) : Int)) (fun w => by kernel_rfl) (by kernel_rfl) ?_
  refine s_nil ?_
  refine g_ret (by kernel_rfl) ?_
  show ∃ vs, Res _ _ _ _ vs ∧ _
  refine ⟨[.int .u32 ((BitVec.toNat (((rr x i) ^^^ (rr x j)) ^^^ (rr x k)) : Nat) : Int)], (.tmp (.int .u32 ((BitVec.toNat (((rr x i) ^^^ (rr x j)) ^^^ (rr x k)) : Nat) : Int)) (by kernel_rfl) .nil), ?_, H3.below⟩
  rfl

set_option maxRecDepth 100000 in
set_option maxHeartbeats 2000000 in
theorem moved_fn (x : W) (i j k : Nat) (hi0 : 0 < i) (hi : i < 32) (hj0 : 0 < j) (hj : j < 32) (hk0 : 0 < k) (hk : k < 32) : Fn Tryd.prog 31 #[.int .u32 ((BitVec.toNat x : Nat) : Int), .int .i64 ((i : Nat) : Int), .int .i64 ((j : Nat) : Int), .int .i64 ((k : Nat) : Int)] (.int .u32 ((BitVec.toNat (mov x i j k) : Nat) : Int)) := by
  refine Fn.intro (c := codeOf Tryd.f31) [.tmp 8] 20 Tryd.func31 (by kernel_rfl) (by kernel_rfl) (by kernel_rfl) fun w => ?_
  have H0 := St.start w
  refine g_sreg [0] (by kernel_rfl) (by kernel_rfl) ?_
  refine s_val (some 8) (.int .u32 0) (fun w => by kernel_rfl) (by kernel_rfl) ?_
  refine s_nil ?_
  refine D2.g_sdraw [0, 1, 2, 3, 4, 5, 6, 7, 8, 9, 10, 11] [((some 9), fun _ => .int .u32 ((BitVec.toNat x : Nat) : Int)), ((some 10), fun _ => .int .i64 ((i : Nat) : Int)), ((some 11), fun _ => .int .u32 ((BitVec.toNat (rr x i) : Nat) : Int)), ((some 12), fun _ => .int .u32 ((BitVec.toNat x : Nat) : Int)), ((some 13), fun _ => .int .i64 ((j : Nat) : Int)), ((some 14), fun _ => .int .u32 ((BitVec.toNat (rr x j) : Nat) : Int)), ((some 15), fun _ => .int .u32 ((BitVec.toNat ((rr x i) ^^^ (rr x j)) : Nat) : Int)), ((some 16), fun _ => .int .u32 ((BitVec.toNat x : Nat) : Int)), ((some 17), fun _ => .int .i64 ((k : Nat) : Int)), ((some 18), fun _ => .int .u32 ((BitVec.toNat (x >>> k) : Nat) : Int)), ((some 19), fun _ => .int .u32 ((BitVec.toNat (((rr x i) ^^^ (rr x j)) ^^^ (x >>> k)) : Nat) : Int)), ((some 8), fun _ => .int .u32 ((BitVec.toNat (((rr x i) ^^^ (rr x j)) ^^^ (x >>> k)) : Nat) : Int))] (D2.Pre w.heap.size w (fun L g => []) (fun L g => True)) (by kernel_rfl) (by kernel_rfl) (by kernel_rfl) (by kernel_rfl) ⟨D2.StE.of H0.drew _ (by kernel_rfl), trivial⟩ ⟨?_, ?_, ?_, ?_, ?_, ?_, ?_, ?_, ?_, ?_, ?_, ?_, trivial⟩ ?_
  · exact D2.gv_val (fun _ _ _ h => h) (fun g w => by kernel_rfl)
  · exact D2.gv_val (fun _ _ _ h => h) (fun g w => by kernel_rfl)
  · exact D2.gv_call 32 #[.int .u32 ((BitVec.toNat x : Nat) : Int), .int .i64 ((i : Nat) : Int)] (fun _ _ _ h => h) (right_fn x i (by omega) (by omega)) (fun g w => by kernel_rfl)
  · exact D2.gv_val (fun _ _ _ h => h) (fun g w => by kernel_rfl)
  · exact D2.gv_val (fun _ _ _ h => h) (fun g w => by kernel_rfl)
  · exact D2.gv_call 32 #[.int .u32 ((BitVec.toNat x : Nat) : Int), .int .i64 ((j : Nat) : Int)] (fun _ _ _ h => h) (right_fn x j (by omega) (by omega)) (fun g w => by kernel_rfl)
  · exact D2.gv_valE (fun _ _ _ h => h) (V' := .int .u32 (Go.bits .xor .u32 (((BitVec.toNat (rr x i) : Nat) : Int)) (((BitVec.toNat (rr x j) : Nat) : Int)))) (fun g w => by kernel_rfl) (bv_xor_u32 (rr x i) (rr x j))
  · exact D2.gv_val (fun _ _ _ h => h) (fun g w => by kernel_rfl)
  · exact D2.gv_val (fun _ _ _ h => h) (fun g w => by kernel_rfl)
  · exact D2.gv_valE (fun _ _ _ h => h) (V' := .int .u32 (Int.fdiv (((BitVec.toNat x : Nat) : Int)) (2 ^ (min k 32)))) (fun g w => by kernel_rfl) (bv_shr_u32 x k)
  · exact D2.gv_valE (fun _ _ _ h => h) (V' := .int .u32 (Go.bits .xor .u32 (((BitVec.toNat ((rr x i) ^^^ (rr x j)) : Nat) : Int)) (((BitVec.toNat (x >>> k) : Nat) : Int)))) (fun g w => by kernel_rfl) (bv_xor_u32 ((rr x i) ^^^ (rr x j)) (x >>> k))
  · exact D2.gv_val (fun _ _ _ h => h) (fun g w => by kernel_rfl)
  intro L0 G1 w1 hall HL; clear H0
  have H1 : St w.heap.size w w1 [] := D2.StE.st HL.1
  clear HL hall
  refine g_ret (by kernel_rfl) ?_
  show ∃ vs, Res _ _ _ _ vs ∧ _
  refine ⟨[.int .u32 ((BitVec.toNat (((rr x i) ^^^ (rr x j)) ^^^ (x >>> k)) : Nat) : Int)], (.tmp (.int .u32 ((BitVec.toNat (((rr x i) ^^^ (rr x j)) ^^^ (x >>> k)) : Nat) : Int)) (by kernel_rfl) .nil), ?_, H1.below⟩
  rfl

set_option maxRecDepth 100000 in
set_option maxHeartbeats 2000000 in
theorem spread_fn (b : List W) : Fn Tryd.prog 29 #[arr 16 b] (arr 64 (grow b 48)) := by
  refine Fn.intro (c := codeOf Tryd.f29) [.cell 2 61] 39 Tryd.func29 (by kernel_rfl) (by kernel_rfl) (by kernel_rfl) fun w => ?_
  have H0 := St.start w
  refine g_sreg [0, 1] (by kernel_rfl) (by kernel_rfl) ?_
  refine s_box H0 (some 1) 42 (.tmp 0) (arr 16 b) (by kernel_rfl) (by kernel_rfl) (by kernel_rfl) ?_
  intro b1 w1 H1; clear H0
  refine s_alloc H1 (some 2) 61 (zeroV .u32 64) (by kernel_rfl) (by kernel_rfl) (by kernel_rfl) ?_
  intro b2 w2 H2; clear H1
  refine s_nil ?_
  refine D2.g_sdraw [0, 1, 2] [((some 6), fun _ => .slice (some ⟨b2, 0, none⟩) 64 64), ((some 7), fun _ => .slice (some ⟨b1, 0, none⟩) 16 16), ((some 8), fun _ => .int .i64 16)] (D2.Pre w.heap.size w (fun L g => [(true, (bif L 2 then (b2, Obj.cells (Value.cells (arr 64 (grow b 0))) 61 (0, 0)) else (b2, Obj.cells (Value.cells (zeroV .u32 64)) 61 (0, 0)))), (true, (b1, Obj.cells (Value.cells (arr 16 b)) 42 (0, 0)))]) (fun L g => True)) (by kernel_rfl) (by kernel_rfl) (by kernel_rfl) (by kernel_rfl) ⟨D2.StE.of H2.drew _ (by kernel_rfl), trivial⟩ ⟨?_, ?_, ?_, trivial⟩ ?_
  · exact D2.gv_op (fun _ _ _ h => h) _ (fun g => by kernel_rfl) (fun g => (fun o w ho => slArr_run (t := 61) (n := 64) (e := 30) (z := 1) (by kernel_rfl) (by kernel_rfl) (x := (.tmp 2)) b2 ho (by kernel_rfl) w))
  · exact D2.gv_op (fun _ _ _ h => h) _ (fun g => by kernel_rfl) (fun g => (fun o w ho => slArr_run (t := 42) (n := 16) (e := 30) (z := 1) (by kernel_rfl) (by kernel_rfl) (x := (.tmp 1)) b1 ho (by kernel_rfl) w))
  · exact D2.gv_copy 0 1 22 22 30 4 (.tmp 6) (.tmp 7) (fun g => b2) (fun g => b1) 64 64 16 16 16 (Value.cells (zeroV .u32 64)) (Value.cells (arr 16 b)) (Value.cells (arr 64 (grow b 0))) 61 42 (0, 0) (List.take 16 (Array.toList (Value.cells (arr 16 b)))) (fun g => by kernel_rfl) (by kernel_rfl) (fun g => by kernel_rfl) (fun g => by kernel_rfl) (by kernel_rfl) rfl (by kernel_rfl) (arr_one 16 b 16) (of_decide_eq_true (by kernel_rfl)) (by kernel_rfl) (fun L g hN => ⟨(by have hL2 : L 2 = false := hN.1; exact D2.ent_get' (p := true) (e := (bif L 2 then (b2, Obj.cells (Value.cells (arr 64 (grow b 0))) 61 (0, 0)) else (b2, Obj.cells (Value.cells (zeroV .u32 64)) 61 (0, 0)))) (by kernel_rfl) (by rfl) (by simp only [hL2, cond_true, cond_false] <;> rfl)), (by kernel_rfl)⟩) (fun L g hN => (by kernel_rfl)) (fun L g hN hF => hF)
  intro L0 G3 w3 hall HL; clear H2
  have H3 : St w.heap.size w w3 [(b2, Obj.cells (Value.cells (arr 64 (grow b 0))) 61 (0, 0)), (b1, Obj.cells (Value.cells (arr 16 b)) 42 (0, 0))] := by have e2 := hall 2 (Nat.le_of_ble_eq_true (by kernel_rfl)); have hS := D2.StE.st HL.1; simp only [e2, cond_true, D2.pres] at hS; exact hS
  clear HL hall
  refine g_seq (by kernel_rfl) ?_
  refine g_sreg [0] (by kernel_rfl) (by kernel_rfl) ?_
  refine s_val (some 3) (.int .i64 16) (fun w => by kernel_rfl) (by kernel_rfl) ?_
  refine s_nil ?_
  refine g_block 0 (by kernel_rfl) ?_
  have HD1 : St w.heap.size w w3 [(b2, Obj.cells (Value.cells (arr 64 (grow b 0))) 61 (0, 0))] := H3.sub (List.Sublist.cons_cons _ (List.Sublist.cons _ List.Sublist.slnil))
  refine g_loop (by kernel_rfl) (fun mz ρ ww => ∃ (k : Nat), 48 - k = mz ∧ (k ≤ 48) ∧ St w.heap.size w ww [(b2, Obj.cells (Value.cells (arr 64 (grow b k))) 61 (0, 0))] ∧ Is [(0, arr 16 b), (1, .pointer (some ⟨b1, 0, none⟩)), (2, .pointer (some ⟨b2, 0, none⟩)), (3, .int .i64 ((16 + k : Nat) : Int))] ρ) (48 - 0) ⟨0, rfl, (by omega), HD1, (Is.of ⟨(by kernel_rfl), (by kernel_rfl), (by kernel_rfl), (by kernel_rfl), trivial⟩)⟩ ?_
  clear HD1
  rintro _ _ w4 ⟨k, rfl, hk, H4, _, rfl⟩
  refine g_seq (by kernel_rfl) ?_
  refine g_sreg [0, 1] (by kernel_rfl) (by kernel_rfl) ?_
  refine s_val (some 9) (.int .i64 ((16 + k : Nat) : Int)) (fun w => by kernel_rfl) (by kernel_rfl) ?_
  by_cases hc2 : (16 + k : Nat) < 64
  · skip
    refine s_valE (some 10) (.bool (decide (((16 + k : Nat) : Int) < 64))) (.bool true) (fun w => by kernel_rfl) (bool_eq (decide_eq_true (by omega))) (by kernel_rfl) ?_
    refine s_nil ?_
    refine g_cond_t (by kernel_rfl) (by kernel_rfl) ?_
    refine g_skip (by kernel_rfl) ?_
    show WP _ _ _ _ _ _
    refine g_seq (by kernel_rfl) ?_
    refine g_block 1 (by kernel_rfl) ?_
    refine D2.g_sdraw [0, 1, 2, 3, 4, 5, 6, 7, 8, 9] [((some 13), fun _ => .int .i64 ((16 + k : Nat) : Int)), ((some 14), fun _ => .int .i64 (((16 + k) - 15 : Nat) : Int)), ((some 15), fun _ => .pointer (some ⟨b2, 0 + ((16 + k) - 15) * 1, none⟩)), ((some 16), fun _ => .int .u32 ((BitVec.toNat (nth (grow b k) ((16 + k) - 15)) : Nat) : Int)), ((some 17), fun _ => .int .i64 ((16 + k : Nat) : Int)), ((some 18), fun _ => .int .i64 (((16 + k) - 2 : Nat) : Int)), ((some 19), fun _ => .pointer (some ⟨b2, 0 + ((16 + k) - 2) * 1, none⟩)), ((some 20), fun _ => .int .u32 ((BitVec.toNat (nth (grow b k) ((16 + k) - 2)) : Nat) : Int)), ((some 4), fun _ => .int .u32 ((BitVec.toNat (nth (grow b k) ((16 + k) - 15)) : Nat) : Int)), ((some 5), fun _ => .int .u32 ((BitVec.toNat (nth (grow b k) ((16 + k) - 2)) : Nat) : Int))] (D2.Pre w.heap.size w (fun L g => [(true, (b2, Obj.cells (Value.cells (arr 64 (grow b k))) 61 (0, 0)))]) (fun L g => True)) (by kernel_rfl) (by kernel_rfl) (by kernel_rfl) (by kernel_rfl) ⟨D2.StE.of H4.drew _ (by kernel_rfl), trivial⟩ ⟨?_, ?_, ?_, ?_, ?_, ?_, ?_, ?_, ?_, ?_, trivial⟩ ?_
    · exact D2.gv_val (fun _ _ _ h => h) (fun g w => by kernel_rfl)
    · exact D2.gv_valE (fun _ _ _ h => h) (V' := .int .i64 (IntKind.i64.wrap (((16 + k : Nat) : Int) - 15))) (fun g w => by kernel_rfl) (int_eq (wrapSub_i64 (a := 16 + k) (b := 15) (by omega)))
    · exact D2.gv_op (fun _ _ _ h => h) _ (fun g => by kernel_rfl) (fun g => (fun o w ho => idxA_run (kd := .i64) (t := 61) (n := 64) (size := 1) (by kernel_rfl) (x := (.tmp 2)) (y := (.tmp 14)) b2 0 ((16 + k) - 15) ho (by kernel_rfl) (by kernel_rfl) (by omega) w))
    · exact D2.gv_load1 30 (.tmp 15) 0 (fun g => b2) (fun g => 0 + ((16 + k) - 15) * 1) (fun g => (Value.cells (arr 64 (grow b k)))) 61 (0, 0) (fun _ _ _ h => h) (fun g => by kernel_rfl) (fun g => by kernel_rfl) (fun L g hN => (by kernel_rfl)) (by kernel_rfl) (fun L g hN hF => by exact (arr_at (n := 64) (grow b k) (k := ((16 + k) - 15)) (by omega) (by omega)))
    · exact D2.gv_val (fun _ _ _ h => h) (fun g w => by kernel_rfl)
    · exact D2.gv_valE (fun _ _ _ h => h) (V' := .int .i64 (IntKind.i64.wrap (((16 + k : Nat) : Int) - 2))) (fun g w => by kernel_rfl) (int_eq (wrapSub_i64 (a := 16 + k) (b := 2) (by omega)))
    · exact D2.gv_op (fun _ _ _ h => h) _ (fun g => by kernel_rfl) (fun g => (fun o w ho => idxA_run (kd := .i64) (t := 61) (n := 64) (size := 1) (by kernel_rfl) (x := (.tmp 2)) (y := (.tmp 18)) b2 0 ((16 + k) - 2) ho (by kernel_rfl) (by kernel_rfl) (by omega) w))
    · exact D2.gv_load1 30 (.tmp 19) 0 (fun g => b2) (fun g => 0 + ((16 + k) - 2) * 1) (fun g => (Value.cells (arr 64 (grow b k)))) 61 (0, 0) (fun _ _ _ h => h) (fun g => by kernel_rfl) (fun g => by kernel_rfl) (fun L g hN => (by kernel_rfl)) (by kernel_rfl) (fun L g hN hF => by exact (arr_at (n := 64) (grow b k) (k := ((16 + k) - 2)) (by omega) (by omega)))
    · exact D2.gv_val (fun _ _ _ h => h) (fun g w => by kernel_rfl)
    · exact D2.gv_val (fun _ _ _ h => h) (fun g w => by kernel_rfl)
    intro L0 G5 w5 hall HL; clear H4
    have H5 : St w.heap.size w w5 [(b2, Obj.cells (Value.cells (arr 64 (grow b k))) 61 (0, 0))] := D2.StE.st HL.1
    clear HL hall
    refine D2.g_draw0 [0, 1, 2, 3, 4, 5, 6, 7, 8, 9, 10, 11, 12, 13, 14, 15, 16, 17] [((some 21), fun _ => .int .i64 ((16 + k : Nat) : Int)), ((some 22), fun _ => .int .i64 ((16 + k : Nat) : Int)), ((some 23), fun _ => .int .i64 (((16 + k) - 16 : Nat) : Int)), ((some 24), fun _ => .pointer (some ⟨b2, 0 + ((16 + k) - 16) * 1, none⟩)), ((some 25), fun _ => .int .u32 ((BitVec.toNat (nth (grow b k) ((16 + k) - 16)) : Nat) : Int)), ((some 26), fun _ => .int .u32 ((BitVec.toNat (nth (grow b k) ((16 + k) - 15)) : Nat) : Int)), ((some 27), fun _ => .int .u32 ((BitVec.toNat (mov (nth (grow b k) ((16 + k) - 15)) 7 18 3) : Nat) : Int)), ((some 28), fun _ => .int .u32 ((BitVec.toNat ((nth (grow b k) ((16 + k) - 16)) + (mov (nth (grow b k) ((16 + k) - 15)) 7 18 3)) : Nat) : Int)), ((some 29), fun _ => .int .i64 ((16 + k : Nat) : Int)), ((some 30), fun _ => .int .i64 (((16 + k) - 7 : Nat) : Int)), ((some 31), fun _ => .pointer (some ⟨b2, 0 + ((16 + k) - 7) * 1, none⟩)), ((some 32), fun _ => .int .u32 ((BitVec.toNat (nth (grow b k) ((16 + k) - 7)) : Nat) : Int)), ((some 33), fun _ => .int .u32 ((BitVec.toNat (((nth (grow b k) ((16 + k) - 16)) + (mov (nth (grow b k) ((16 + k) - 15)) 7 18 3)) + (nth (grow b k) ((16 + k) - 7))) : Nat) : Int)), ((some 34), fun _ => .int .u32 ((BitVec.toNat (nth (grow b k) ((16 + k) - 2)) : Nat) : Int)), ((some 35), fun _ => .int .u32 ((BitVec.toNat (mov (nth (grow b k) ((16 + k) - 2)) 17 19 10) : Nat) : Int)), ((some 36), fun _ => .int .u32 ((BitVec.toNat ((((nth (grow b k) ((16 + k) - 16)) + (mov (nth (grow b k) ((16 + k) - 15)) 7 18 3)) + (nth (grow b k) ((16 + k) - 7))) + (mov (nth (grow b k) ((16 + k) - 2)) 17 19 10)) : Nat) : Int)), ((some 37), fun _ => .pointer (some ⟨b2, 0 + (16 + k) * 1, none⟩)), (none, fun _ => undef)] (D2.Pre w.heap.size w (fun L g => [(true, (bif L 17 then (b2, Obj.cells (Value.cells (arr 64 (grow b (k + 1)))) 61 (0, 0)) else (b2, Obj.cells (Value.cells (arr 64 (grow b k))) 61 (0, 0))))]) (fun L g => True)) (by kernel_rfl) (by kernel_rfl) (by kernel_rfl) ⟨D2.StE.of H5.drew _ (by kernel_rfl), trivial⟩ ⟨?_, ?_, ?_, ?_, ?_, ?_, ?_, ?_, ?_, ?_, ?_, ?_, ?_, ?_, ?_, ?_, ?_, ?_, trivial⟩ ?_
    · exact D2.gv_val (fun _ _ _ h => h) (fun g w => by kernel_rfl)
    · exact D2.gv_val (fun _ _ _ h => h) (fun g w => by kernel_rfl)
    · exact D2.gv_valE (fun _ _ _ h => h) (V' := .int .i64 (IntKind.i64.wrap (((16 + k : Nat) : Int) - 16))) (fun g w => by kernel_rfl) (int_eq (wrapSub_i64 (a := 16 + k) (b := 16) (by omega)))
    · exact D2.gv_op (fun _ _ _ h => h) _ (fun g => by kernel_rfl) (fun g => (fun o w ho => idxA_run (kd := .i64) (t := 61) (n := 64) (size := 1) (by kernel_rfl) (x := (.tmp 2)) (y := (.tmp 23)) b2 0 ((16 + k) - 16) ho (by kernel_rfl) (by kernel_rfl) (by omega) w))
    · exact D2.gv_load1 30 (.tmp 24) 0 (fun g => b2) (fun g => 0 + ((16 + k) - 16) * 1) (fun g => (Value.cells (arr 64 (grow b k)))) 61 (0, 0) (fun _ _ _ h => h) (fun g => by kernel_rfl) (fun g => by kernel_rfl) (fun L g hN => (by have hL17 : L 17 = false := (hN.post 17 (by kernel_rfl)); exact D2.ent_get' (p := true) (e := (bif L 17 then (b2, Obj.cells (Value.cells (arr 64 (grow b (k + 1)))) 61 (0, 0)) else (b2, Obj.cells (Value.cells (arr 64 (grow b k))) 61 (0, 0)))) (by kernel_rfl) (by rfl) (by simp only [hL17, cond_true, cond_false] <;> rfl))) (by kernel_rfl) (fun L g hN hF => by exact (arr_at (n := 64) (grow b k) (k := ((16 + k) - 16)) (by omega) (by omega)))
    · exact D2.gv_val (fun _ _ _ h => h) (fun g w => by kernel_rfl)
    · exact D2.gv_call 31 #[.int .u32 ((BitVec.toNat (nth (grow b k) ((16 + k) - 15)) : Nat) : Int), .int .i64 7, .int .i64 18, .int .i64 3] (fun _ _ _ h => h) (moved_fn (nth (grow b k) ((16 + k) - 15)) 7 18 3 (by omega) (by omega) (by omega) (by omega) (by omega) (by omega)) (fun g w => by kernel_rfl)
    · exact D2.gv_valE (fun _ _ _ h => h) (V' := .int .u32 (IntKind.u32.wrap ((((BitVec.toNat (nth (grow b k) ((16 + k) - 16)) : Nat) : Int)) + (((BitVec.toNat (mov (nth (grow b k) ((16 + k) - 15)) 7 18 3) : Nat) : Int))))) (fun g w => by kernel_rfl) (bv_add_u32 (nth (grow b k) ((16 + k) - 16)) (mov (nth (grow b k) ((16 + k) - 15)) 7 18 3))
    · exact D2.gv_val (fun _ _ _ h => h) (fun g w => by kernel_rfl)
    · exact D2.gv_valE (fun _ _ _ h => h) (V' := .int .i64 (IntKind.i64.wrap (((16 + k : Nat) : Int) - 7))) (fun g w => by kernel_rfl) (int_eq (wrapSub_i64 (a := 16 + k) (b := 7) (by omega)))
    · exact D2.gv_op (fun _ _ _ h => h) _ (fun g => by kernel_rfl) (fun g => (fun o w ho => idxA_run (kd := .i64) (t := 61) (n := 64) (size := 1) (by kernel_rfl) (x := (.tmp 2)) (y := (.tmp 30)) b2 0 ((16 + k) - 7) ho (by kernel_rfl) (by kernel_rfl) (by omega) w))
    · exact D2.gv_load1 30 (.tmp 31) 0 (fun g => b2) (fun g => 0 + ((16 + k) - 7) * 1) (fun g => (Value.cells (arr 64 (grow b k)))) 61 (0, 0) (fun _ _ _ h => h) (fun g => by kernel_rfl) (fun g => by kernel_rfl) (fun L g hN => (by have hL17 : L 17 = false := (hN.post 17 (by kernel_rfl)); exact D2.ent_get' (p := true) (e := (bif L 17 then (b2, Obj.cells (Value.cells (arr 64 (grow b (k + 1)))) 61 (0, 0)) else (b2, Obj.cells (Value.cells (arr 64 (grow b k))) 61 (0, 0)))) (by kernel_rfl) (by rfl) (by simp only [hL17, cond_true, cond_false] <;> rfl))) (by kernel_rfl) (fun L g hN hF => by exact (arr_at (n := 64) (grow b k) (k := ((16 + k) - 7)) (by omega) (by omega)))
    · exact D2.gv_valE (fun _ _ _ h => h) (V' := .int .u32 (IntKind.u32.wrap ((((BitVec.toNat ((nth (grow b k) ((16 + k) - 16)) + (mov (nth (grow b k) ((16 + k) - 15)) 7 18 3)) : Nat) : Int)) + (((BitVec.toNat (nth (grow b k) ((16 + k) - 7)) : Nat) : Int))))) (fun g w => by kernel_rfl) (bv_add_u32 ((nth (grow b k) ((16 + k) - 16)) + (mov (nth (grow b k) ((16 + k) - 15)) 7 18 3)) (nth (grow b k) ((16 + k) - 7)))
    · exact D2.gv_val (fun _ _ _ h => h) (fun g w => by kernel_rfl)
    · exact D2.gv_call 31 #[.int .u32 ((BitVec.toNat (nth (grow b k) ((16 + k) - 2)) : Nat) : Int), .int .i64 17, .int .i64 19, .int .i64 10] (fun _ _ _ h => h) (moved_fn (nth (grow b k) ((16 + k) - 2)) 17 19 10 (by omega) (by omega) (by omega) (by omega) (by omega) (by omega)) (fun g w => by kernel_rfl)
    · exact D2.gv_valE (fun _ _ _ h => h) (V' := .int .u32 (IntKind.u32.wrap ((((BitVec.toNat (((nth (grow b k) ((16 + k) - 16)) + (mov (nth (grow b k) ((16 + k) - 15)) 7 18 3)) + (nth (grow b k) ((16 + k) - 7))) : Nat) : Int)) + (((BitVec.toNat (mov (nth (grow b k) ((16 + k) - 2)) 17 19 10) : Nat) : Int))))) (fun g w => by kernel_rfl) (bv_add_u32 (((nth (grow b k) ((16 + k) - 16)) + (mov (nth (grow b k) ((16 + k) - 15)) 7 18 3)) + (nth (grow b k) ((16 + k) - 7))) (mov (nth (grow b k) ((16 + k) - 2)) 17 19 10))
    · exact D2.gv_op (fun _ _ _ h => h) _ (fun g => by kernel_rfl) (fun g => (fun o w ho => idxA_run (kd := .i64) (t := 61) (n := 64) (size := 1) (by kernel_rfl) (x := (.tmp 2)) (y := (.tmp 21)) b2 0 (16 + k) ho (by kernel_rfl) (by kernel_rfl) (by omega) w))
    · exact D2.gv_store 0 30 (.tmp 37) (.tmp 36) (fun g => b2) (fun g => 0 + (16 + k) * 1) (Value.cells (arr 64 (grow b k))) (Value.cells (arr 64 (grow b (k + 1)))) 61 (.int .u32 ((BitVec.toNat ((((nth (grow b k) ((16 + k) - 16)) + (mov (nth (grow b k) ((16 + k) - 15)) 7 18 3)) + (nth (grow b k) ((16 + k) - 7))) + (mov (nth (grow b k) ((16 + k) - 2)) 17 19 10)) : Nat) : Int)) (fun g => by kernel_rfl) (fun g => by kernel_rfl) (fun g => by kernel_rfl) (by kernel_rfl) (by kernel_rfl) (fun g => (by show _ + 1 ≤ 64; omega)) (fun g => (arr_put (k := 16 + k) (x := (((nth (grow b k) ((16 + k) - 16)) + (mov (nth (grow b k) ((16 + k) - 15)) 7 18 3)) + (nth (grow b k) ((16 + k) - 7))) + (mov (nth (grow b k) ((16 + k) - 2)) 17 19 10)) (by omega) (by omega) (fun j _ => nth_grow b k j))) (fun L g hN => ⟨(by have hL17 : L 17 = false := hN.1; exact D2.ent_get' (p := true) (e := (bif L 17 then (b2, Obj.cells (Value.cells (arr 64 (grow b (k + 1)))) 61 (0, 0)) else (b2, Obj.cells (Value.cells (arr 64 (grow b k))) 61 (0, 0)))) (by kernel_rfl) (by rfl) (by simp only [hL17, cond_true, cond_false] <;> rfl)), (by kernel_rfl)⟩) (fun L g hN hF => hF)
    intro L0 G6 w6 hall HL; clear H5
    have H6 : St w.heap.size w w6 [(b2, Obj.cells (Value.cells (arr 64 (grow b (k + 1)))) 61 (0, 0))] := by have e17 := hall 17 (Nat.le_of_ble_eq_true (by kernel_rfl)); have hS := D2.StE.st HL.1; simp only [e17, cond_true, D2.pres] at hS; exact hS
    clear HL hall
    show WP _ _ _ _ _ _
    refine g_reg0 [0, 1, 2] (by kernel_rfl) ?_
    refine s_val (some 11) (.int .i64 ((16 + k : Nat) : Int)) (fun w => by kernel_rfl) (by kernel_rfl) ?_
    refine s_valE (some 12) (.int .i64 (IntKind.i64.wrap (((16 + k : Nat) : Int) + 1))) (.int .i64 (((16 + k) + 1 : Nat) : Int)) (fun w => by kernel_rfl) (int_eq (wrapAdd_i64 (a := 16 + k) (b := 1) (by omega))) (by kernel_rfl) ?_
    refine s_val (some 3) (.int .i64 (((16 + k) + 1 : Nat) : Int)) (fun w => by kernel_rfl) (by kernel_rfl) ?_
    refine s_nil ?_
    show ∃ m, _ ∧ _
    exact ⟨_, (by omega), (k + 1), rfl, (by omega), H6, (Is.of ⟨(by kernel_rfl), (by kernel_rfl), (by kernel_rfl), (by kernel_rfl), trivial⟩)⟩
  · skip
    refine s_valE (some 10) (.bool (decide (((16 + k : Nat) : Int) < 64))) (.bool false) (fun w => by kernel_rfl) (bool_eq (decide_eq_false (by omega))) (by kernel_rfl) ?_
    refine s_nil ?_
    refine g_cond_f (by kernel_rfl) (by kernel_rfl) ?_
    refine g_exit 0 (by kernel_rfl) ?_
    show WP _ _ _ _ _ _
    refine g_sreg [0, 1] (by kernel_rfl) (by kernel_rfl) ?_
    refine s_load H4 (some 38) 61 (.tmp 2) 0 b2 (Value.cells (arr 64 (grow b k))) 61 (0, 0) (by kernel_rfl) (by kernel_rfl) (by kernel_rfl) (by kernel_rfl) (by kernel_rfl) ?_
    refine s_store H4 0 [(b2, Obj.cells (Value.cells (arr 64 (grow b k))) 61 (0, 0))] 61 (.tmp 2) (.tmp 38) b2 (0) (Value.cells (arr 64 (grow b k))) (Value.cells (arr 64 (grow b k))) 61 (arr 64 (grow b k)) (by kernel_rfl) (by kernel_rfl) (by kernel_rfl) (by kernel_rfl) (by kernel_rfl) (by kernel_rfl) (of_decide_eq_true (by kernel_rfl)) (by kernel_rfl) (by kernel_rfl) ?_
    intro w7 H7; clear H4
    refine s_nil ?_
    refine g_ret (by kernel_rfl) ?_
    show ∃ vs, Res _ _ _ _ vs ∧ _
    refine ⟨[arr 64 (grow b k)], (.agg (b := b2) (Value.cells (arr 64 (grow b k))) 61 (0, 0) (by kernel_rfl) (H7.get 0 (by kernel_rfl)) (by kernel_rfl) .nil), ?_, H7.below⟩
    obtain rfl : k = 48 := by omega
    rfl
end Go.Proofs.YtjhldipeicpoeaaDoor
