/-
  The reference: what eight words become.
-/
import Derived.Test.YtjhldipeicpoeaaDoorProg
import Derived.Test.YtjhldipeicpoeaaDoorShaM
import Derived.Test.YtjhldipeicpoeaaDoorShaK
namespace Go.Proofs.YtjhldipeicpoeaaDoor
open Go Go.RowKit Go.Proofs.Sha
set_option linter.unusedVariables false
def wpt (s : ByteArray) (t : Nat) : Nat → W
  | 0 => 0
  | i + 1 => 256 * wpt s t i + BitVec.ofNat 32 (by_ s (4 * t + i))
def bw (s : ByteArray) : List W := fix 16 fun t => wpt s t 4
def GG (s : ByteArray) : List W := grow (bw s) 48
theorem GG_len (s : ByteArray) : (GG s).length = 64 := grow_len _ _
theorem grow_old (b : List W) : ∀ k j, j < 16 + k → ∀ m, k ≤ m → nth (grow b m) j = nth (grow b k) j := by
  intro k j hj m hm
  induction m with
  | zero => obtain rfl : k = 0 := by omega
            rfl
  | succ m ih =>
    rcases Nat.lt_or_ge k (m + 1) with h | h
    · rw [nth_grow, if_neg (by omega), ih (by omega)]
    · obtain rfl : k = m + 1 := by omega
      rfl
theorem GG_low (s : ByteArray) (t : Nat) (h : t < 16) : nth (GG s) t = wpt s t 4 := by
  unfold GG
  rw [grow_old _ 0 t (by omega) 48 (by omega), nth_grow0, if_pos h]
  unfold bw; rw [nth_fix, if_pos h]
theorem GG_high (s : ByteArray) (t : Nat) (h : 16 ≤ t) (h2 : t < 64) : nth (GG s) t = nxt (GG s) t := by
  obtain ⟨k, rfl⟩ : ∃ k, t = 16 + k := ⟨t - 16, by omega⟩
  have e : ∀ j, j < 16 + k → nth (grow (bw s) k) j = nth (GG s) j := fun j hj => (grow_old _ k j hj 48 (by omega)).symm
  have h1 : nth (GG s) (16 + k) = nth (grow (bw s) (k + 1)) (16 + k) := grow_old _ (k + 1) (16 + k) (by omega) 48 (by omega)
  rw [h1, nth_grow, if_pos rfl]
  unfold nxt
  rw [e _ (by omega), e _ (by omega), e _ (by omega), e _ (by omega)]
def wl (s : ByteArray) (t i : Nat) : List W := fix 64 fun j => if j < t then nth (GG s) j else if j = t then wpt s t i else 0
theorem wl_len (s : ByteArray) (t i : Nat) : (wl s t i).length = 64 := fix_len _ _
theorem nth_get (l : List W) (j : Nat) : List.getD l j 0 = nth l j := rfl
theorem wl_at (s : ByteArray) (t i : Nat) (h : t < 64) : nth (wl s t i) t = wpt s t i := by
  unfold wl; rw [nth_fix, if_pos h, if_neg (by omega), if_pos rfl]
theorem wl_old (s : ByteArray) (t i j : Nat) (h : j < t) (h2 : j < 64) : nth (wl s t i) j = nth (GG s) j := by
  unfold wl; rw [nth_fix, if_pos h2, if_pos h]
theorem list_nth {l m : List W} (h : l.length = m.length) (e : ∀ j, j < l.length → nth l j = nth m j) : l = m := by
  apply List.ext_getElem h
  intro j h1 h2
  have := e j h1
  unfold nth at this
  rw [List.getD_eq_getElem?_getD, List.getD_eq_getElem?_getD, List.getElem?_eq_getElem h1, List.getElem?_eq_getElem h2] at this
  exact this
theorem nth_set' (l : List W) (k : Nat) (x : W) (j : Nat) (hj : j < l.length) : nth (l.set k x) j = if j = k then x else nth l j := by
  unfold nth
  rw [List.getD_eq_getElem?_getD, List.getD_eq_getElem?_getD, List.getElem?_set]
  by_cases h : k = j
  · subst h; rw [if_pos rfl, if_pos hj, if_pos rfl]; rfl
  · rw [if_neg h, if_neg (fun e => h e.symm)]
theorem wl_set (s : ByteArray) (t i : Nat) (h : t < 64) : List.set (wl s t i) t (256 * wpt s t i + BitVec.ofNat 32 (by_ s (4 * t + i))) = wl s t (i + 1) := by
  refine list_nth (by rw [List.length_set, wl_len, wl_len]) fun j hj => ?_
  rw [List.length_set, wl_len] at hj
  rw [nth_set' _ _ _ _ (by rw [wl_len]; exact hj)]
  by_cases e : j = t
  · subst e; rw [if_pos rfl, wl_at _ _ _ h]; rfl
  · rw [if_neg e]; unfold wl; rw [nth_fix, nth_fix, if_pos hj, if_pos hj, if_neg e, if_neg e]
theorem wl_go (s : ByteArray) (t i : Nat) (h : t < 64) (e : wpt s t i = nth (GG s) t) : wl s t i = wl s (t + 1) 0 := by
  refine list_nth (by rw [wl_len, wl_len]) fun j hj => ?_
  rw [wl_len] at hj
  unfold wl; rw [nth_fix, nth_fix, if_pos hj, if_pos hj]
  rcases Nat.lt_trichotomy j t with h1 | h1 | h1
  · rw [if_pos h1, if_pos (by omega)]
  · subst h1; rw [if_neg (by omega), if_pos rfl, if_pos (by omega), e]
  · rw [if_neg (by omega), if_neg (by omega), if_neg (by omega)]
    split <;> rfl
theorem wl_high (s : ByteArray) (t : Nat) (h : 16 ≤ t) (h2 : t < 64) (x : W) (e : x = nxt (GG s) t) : List.set (wl s t 0) t x = wl s (t + 1) 0 := by
  refine list_nth (by rw [List.length_set, wl_len, wl_len]) fun j hj => ?_
  rw [List.length_set, wl_len] at hj
  rw [nth_set' _ _ _ _ (by rw [wl_len]; exact hj)]
  by_cases q : j = t
  · subst q; rw [if_pos rfl, wl_old _ _ _ _ (by omega) h2, GG_high s j h h2, e]
  · rw [if_neg q]
    rcases Nat.lt_or_ge j t with h1 | h1
    · rw [wl_old _ _ _ _ h1 hj, wl_old _ _ _ _ (by omega) hj]
    · unfold wl; rw [nth_fix, nth_fix, if_pos hj, if_pos hj, if_neg (by omega), if_neg q, if_neg (by omega)]
      split <;> rfl
theorem wl_start (s : ByteArray) : List.replicate 64 0 = wl s 0 0 := by
  refine list_nth (by rw [List.length_replicate, wl_len]) fun j hj => ?_
  rw [List.length_replicate] at hj
  unfold wl; rw [nth_fix, if_pos hj, if_neg (by omega)]
  unfold nth; rw [List.getD_eq_getElem?_getD, List.getElem?_replicate, if_pos hj]
  split <;> rfl
theorem wl_end (s : ByteArray) (i : Nat) : wl s 64 i = GG s := by
  refine list_nth (by rw [wl_len, GG_len]) fun j hj => ?_
  rw [wl_len] at hj
  exact wl_old _ _ _ _ hj hj
theorem div8 (x : W) : x / 8#32 = x >>> 3 := by
  rw [show (8#32 : W) = BitVec.twoPow 32 3 from rfl, BitVec.udiv_twoPow_eq_of_lt (by decide)]
theorem div1024 (x : W) : x / 1024#32 = x >>> 10 := by
  rw [show (1024#32 : W) = BitVec.twoPow 32 10 from rfl, BitVec.udiv_twoPow_eq_of_lt (by decide)]
theorem allsub (x : W) : (4294967295 : BitVec 32) - x = ~~~x := by
  rw [show (4294967295 : BitVec 32) = BitVec.allOnes 32 from rfl, BitVec.allOnes_sub_eq_not]
def accZ (s l : List W) (i : Nat) : List W := fix 8 fun j => if j < i then nth s j + nth l j else 0
theorem nth_accZ (s l : List W) (i j : Nat) (hj : j < 8) : nth (accZ s l (i + 1)) j = if j = i then nth s i + nth l i else nth (accZ s l i) j := by
  unfold accZ
  by_cases h : j = i
  · subst h; rw [if_pos rfl, nth_fix, if_pos hj, if_pos (by omega)]
  · rw [if_neg h, nth_fix, nth_fix, if_pos hj, if_pos hj]
    by_cases h2 : j < i
    · rw [if_pos (by omega), if_pos h2]
    · rw [if_neg (by omega), if_neg h2]
theorem accZ8 (s : List W) (t : ByteArray) (j : Nat) (hj : j < 8) : nth (accZ s (list8 (run roots (GG t) (of8 s) 64)) 8) j = nth (become s (bw t)) j := by
  unfold accZ become GG; simp only [nth_fix, if_pos hj]

theorem bv_congr {x y : BitVec 32} (h : x = y) : Value.int .u32 ((BitVec.toNat x : Nat) : Int) = .int .u32 ((BitVec.toNat y : Nat) : Int) := by rw [h]

set_option maxRecDepth 100000 in
set_option maxHeartbeats 2000000 in
theorem blockR_fn (h : List W) (s : ByteArray) (hs : s.size = 64) (bk nk ck : Nat) (curK : Array Value) (hnk : nk = 64) (hK : Rw 1 curK ck nk (cellsW roots)) : FnP Tryd.prog 14 #[arr 8 h, .string s, .slice (some ⟨bk, 0, none⟩) nk ck] (fun w => w.heap[bk]? = some (.cells curK 30 (0, 0))) (arr 8 (become h (bw s))) := by
  refine FnP.intro (c := codeOf Tryd.f14) [.cell 6 31] 198 Tryd.func14 (by kernel_rfl) (by kernel_rfl) (by kernel_rfl) fun w hpre => ?_
  have H0 := St.start w
  refine g_sreg [0, 1] (by kernel_rfl) (by kernel_rfl) ?_
  refine s_box H0 (some 3) 31 (.tmp 0) (arr 8 h) (by kernel_rfl) (by kernel_rfl) (by kernel_rfl) ?_
  intro b1 w1 H1; clear H0
  refine s_alloc H1 (some 6) 31 (.agg #[.int .u32 0, .int .u32 0, .int .u32 0, .int .u32 0, .int .u32 0, .int .u32 0, .int .u32 0, .int .u32 0]) (by kernel_rfl) (by kernel_rfl) (by kernel_rfl) ?_
  intro b2 w2 H2; clear H1
  refine s_nil ?_
  refine g_sreg [0, 1] (by kernel_rfl) (by kernel_rfl) ?_
  refine s_make H2 (some 23) 22 30 4 (.int .u32 0) (.const (.int .i64 64)) (.const (.int .i64 64)) .i64 .i64 64 (by kernel_rfl) (by kernel_rfl) (by kernel_rfl) (by kernel_rfl) rfl (by kernel_rfl) (by kernel_rfl) (by omega) (by unfold maxLen; omega) ?_
  intro b_1 cur_2 w3 H3 hr_3; clear H2
  have hr_3z : Rw 1 cur_2 (64) (64) (cellsW (List.replicate (64) 0)) := by rw [cellsW_zeros]; exact hr_3
  refine s_val (some 7) (.slice (some ⟨b_1, 0, none⟩) 64 64) (fun w => by kernel_rfl) (by kernel_rfl) ?_
  refine s_nil ?_
  refine g_seq (by kernel_rfl) ?_
  refine g_sreg [0] (by kernel_rfl) (by kernel_rfl) ?_
  refine s_val (some 8) (.int .i64 0) (fun w => by kernel_rfl) (by kernel_rfl) ?_
  refine s_nil ?_
  refine g_block 0 (by kernel_rfl) ?_
  have hrr1 := hr_3z; rw [show (List.replicate (64) 0) = wl s 0 0 from (wl_start s)] at hrr1
  have HF2 : St w.heap.size w w3 [(b2, Obj.cells #[.int .u32 0, .int .u32 0, .int .u32 0, .int .u32 0, .int .u32 0, .int .u32 0, .int .u32 0, .int .u32 0] 31 (0, 0)), (b_1, Obj.cells cur_2 30 (0, 0)), (b1, Obj.cells (Value.cells (arr 8 h)) 31 (0, 0))] := H3.front 1 (by kernel_rfl) (by kernel_rfl)
  have HF3 : St w.heap.size w w3 [(b1, Obj.cells (Value.cells (arr 8 h)) 31 (0, 0)), (b2, Obj.cells #[.int .u32 0, .int .u32 0, .int .u32 0, .int .u32 0, .int .u32 0, .int .u32 0, .int .u32 0, .int .u32 0] 31 (0, 0)), (b_1, Obj.cells cur_2 30 (0, 0))] := HF2.front 2 (by kernel_rfl) (by kernel_rfl)
  have HF4 : St w.heap.size w w3 [(b_1, Obj.cells cur_2 30 (0, 0)), (b1, Obj.cells (Value.cells (arr 8 h)) 31 (0, 0)), (b2, Obj.cells #[.int .u32 0, .int .u32 0, .int .u32 0, .int .u32 0, .int .u32 0, .int .u32 0, .int .u32 0, .int .u32 0] 31 (0, 0))] := HF3.front 2 (by kernel_rfl) (by kernel_rfl)
  refine g_loop (by kernel_rfl) (fun mz ρ ww => ∃ (b : Nat) (cap : Nat) (n : Nat) (cur : Array Value) (t : Nat), 64 - t = mz ∧ (n = 64) ∧ (Rw 1 cur cap n (cellsW (wl s t 0))) ∧ (t ≤ 64) ∧ St w.heap.size w ww [(b, Obj.cells cur 30 (0, 0)), (b1, Obj.cells (Value.cells (arr 8 h)) 31 (0, 0)), (b2, Obj.cells #[.int .u32 0, .int .u32 0, .int .u32 0, .int .u32 0, .int .u32 0, .int .u32 0, .int .u32 0, .int .u32 0] 31 (0, 0))] ∧ Is [(0, arr 8 h), (1, .string s), (2, .slice (some ⟨bk, 0, none⟩) nk ck), (3, .pointer (some ⟨b1, 0, none⟩)), (6, .pointer (some ⟨b2, 0, none⟩)), (7, .slice (some ⟨b, 0, none⟩) n cap), (8, .int .i64 ((t : Nat) : Int))] ρ) (64 - 0) ⟨b_1, 64, 64, cur_2, 0, rfl, rfl, hrr1, (by omega), HF4, (Is.of ⟨(by kernel_rfl), (by kernel_rfl), (by kernel_rfl), (by kernel_rfl), (by kernel_rfl), (by kernel_rfl), (by kernel_rfl), trivial⟩)⟩ ?_
  clear HF4
  rintro _ _ w4 ⟨b, cap, n, cur, t, rfl, hn, hr, ht, H4, _, rfl⟩
  refine g_seq (by kernel_rfl) ?_
  refine g_sreg [0, 1] (by kernel_rfl) (by kernel_rfl) ?_
  refine s_val (some 24) (.int .i64 ((t : Nat) : Int)) (fun w => by kernel_rfl) (by kernel_rfl) ?_
  by_cases hc5 : (t : Nat) < 64
  · skip
    refine s_valE (some 25) (.bool (decide (((t : Nat) : Int) < 64))) (.bool true) (fun w => by kernel_rfl) (bool_eq (decide_eq_true (by omega))) (by kernel_rfl) ?_
    refine s_nil ?_
    refine g_cond_t (by kernel_rfl) (by kernel_rfl) ?_
    refine g_skip (by kernel_rfl) ?_
    show WP _ _ _ _ _ _
    refine g_seq (by kernel_rfl) ?_
    refine g_block 1 (by kernel_rfl) ?_
    refine g_sreg [0, 1] (by kernel_rfl) (by kernel_rfl) ?_
    refine s_val (some 28) (.int .i64 ((t : Nat) : Int)) (fun w => by kernel_rfl) (by kernel_rfl) ?_
    by_cases hc6 : (t : Nat) < 16
    · skip
      refine s_valE (some 29) (.bool (decide (((t : Nat) : Int) < 16))) (.bool true) (fun w => by kernel_rfl) (bool_eq (decide_eq_true (by omega))) (by kernel_rfl) ?_
      refine s_nil ?_
      refine g_cond_t (by kernel_rfl) (by kernel_rfl) ?_
      refine g_sreg [0] (by kernel_rfl) (by kernel_rfl) ?_
      refine s_val (some 9) (.int .i64 0) (fun w => by kernel_rfl) (by kernel_rfl) ?_
      refine s_nil ?_
      refine g_block 2 (by kernel_rfl) ?_
      refine g_loop (by kernel_rfl) (fun mz ρ ww => ∃ (bz : Nat) (capz : Nat) (nz : Nat) (curz : Array Value) (i : Nat), 4 - i = mz ∧ (nz = 64) ∧ (Rw 1 curz capz nz (cellsW (wl s t i))) ∧ (i ≤ 4) ∧ St w.heap.size w ww [(bz, Obj.cells curz 30 (0, 0)), (b1, Obj.cells (Value.cells (arr 8 h)) 31 (0, 0)), (b2, Obj.cells #[.int .u32 0, .int .u32 0, .int .u32 0, .int .u32 0, .int .u32 0, .int .u32 0, .int .u32 0, .int .u32 0] 31 (0, 0))] ∧ Is [(0, arr 8 h), (1, .string s), (2, .slice (some ⟨bk, 0, none⟩) nk ck), (3, .pointer (some ⟨b1, 0, none⟩)), (6, .pointer (some ⟨b2, 0, none⟩)), (7, .slice (some ⟨bz, 0, none⟩) nz capz), (8, .int .i64 ((t : Nat) : Int)), (9, .int .i64 ((i : Nat) : Int)), (25, .bool true), (29, .bool true)] ρ) (4 - 0) ⟨b, cap, n, cur, 0, rfl, hn, hr, (by omega), H4, (Is.of ⟨(by kernel_rfl), (by kernel_rfl), (by kernel_rfl), (by kernel_rfl), (by kernel_rfl), (by kernel_rfl), (by kernel_rfl), (by kernel_rfl), (by kernel_rfl), (by kernel_rfl), trivial⟩)⟩ ?_
      clear H4
      rintro _ _ w5 ⟨bz, capz, nz, curz, i, rfl, hnz, hrz, hi, H5, _, rfl⟩
      have hbl := by_lt s (4 * t + i)
      refine g_seq (by kernel_rfl) ?_
      refine g_sreg [0, 1] (by kernel_rfl) (by kernel_rfl) ?_
      refine s_val (some 30) (.int .i64 ((i : Nat) : Int)) (fun w => by kernel_rfl) (by kernel_rfl) ?_
      by_cases hc7 : (i : Nat) < 4
      · skip
        refine s_valE (some 31) (.bool (decide (((i : Nat) : Int) < 4))) (.bool true) (fun w => by kernel_rfl) (bool_eq (decide_eq_true (by omega))) (by kernel_rfl) ?_
        refine s_nil ?_
        refine g_cond_t (by kernel_rfl) (by kernel_rfl) ?_
        refine g_skip (by kernel_rfl) ?_
        show WP _ _ _ _ _ _
        refine g_seq (by kernel_rfl) ?_
        refine g_block 3 (by kernel_rfl) ?_
        obtain ⟨cur_4, hc_5, hs_6, hr_7⟩ := hrz.putW t (((256 : BitVec 32) * (wpt s t i)) + (BitVec.ofNat 32 (by_ s ((4 * t) + i)))) (by omega)
        refine D2.g_draw0 [0, 1, 2, 3, 4, 5, 6, 7, 8, 9, 10, 11, 12, 13, 14, 15, 16] [((some 34), fun _ => .slice (some ⟨bz, 0, none⟩) nz capz), ((some 35), fun _ => .int .i64 ((t : Nat) : Int)), ((some 36), fun _ => .slice (some ⟨bz, 0, none⟩) nz capz), ((some 37), fun _ => .int .i64 ((t : Nat) : Int)), ((some 38), fun _ => .pointer (some ⟨bz, 0 + t * 1, none⟩)), ((some 39), fun _ => .int .u32 ((BitVec.toNat (wpt s t i) : Nat) : Int)), ((some 40), fun _ => .int .u32 ((BitVec.toNat ((256 : BitVec 32) * (wpt s t i)) : Nat) : Int)), ((some 41), fun _ => .string s), ((some 42), fun _ => .int .i64 ((t : Nat) : Int)), ((some 43), fun _ => .int .i64 ((4 * t : Nat) : Int)), ((some 44), fun _ => .int .i64 ((i : Nat) : Int)), ((some 45), fun _ => .int .i64 (((4 * t) + i : Nat) : Int)), ((some 46), fun _ => .int .u8 ((by_ s ((4 * t) + i) : Nat) : Int)), ((some 47), fun _ => .int .u32 ((BitVec.toNat (BitVec.ofNat 32 (by_ s ((4 * t) + i))) : Nat) : Int)), ((some 48), fun _ => .int .u32 ((BitVec.toNat (((256 : BitVec 32) * (wpt s t i)) + (BitVec.ofNat 32 (by_ s ((4 * t) + i)))) : Nat) : Int)), ((some 49), fun _ => .pointer (some ⟨bz, 0 + t * 1, none⟩)), (none, fun _ => undef)] (D2.Pre w.heap.size w (fun L g => [(true, (bif L 16 then (bz, Obj.cells cur_4 30 (0, 0)) else (bz, Obj.cells curz 30 (0, 0)))), (true, (b1, Obj.cells (Value.cells (arr 8 h)) 31 (0, 0))), (true, (b2, Obj.cells #[.int .u32 0, .int .u32 0, .int .u32 0, .int .u32 0, .int .u32 0, .int .u32 0, .int .u32 0, .int .u32 0] 31 (0, 0)))]) (fun L g => True)) (by kernel_rfl) (by kernel_rfl) (by kernel_rfl) ⟨D2.StE.of H5.drew _ (by kernel_rfl), trivial⟩ ⟨?_, ?_, ?_, ?_, ?_, ?_, ?_, ?_, ?_, ?_, ?_, ?_, ?_, ?_, ?_, ?_, ?_, trivial⟩ ?_
        · exact D2.gv_val (fun _ _ _ h => h) (fun g w => by kernel_rfl)
        · exact D2.gv_val (fun _ _ _ h => h) (fun g w => by kernel_rfl)
        · exact D2.gv_val (fun _ _ _ h => h) (fun g w => by kernel_rfl)
        · exact D2.gv_val (fun _ _ _ h => h) (fun g w => by kernel_rfl)
        · exact D2.gv_op (fun _ _ _ h => h) _ (fun g => by kernel_rfl) (fun g => (fun o w ho => idxS_run (kd := .i64) (t := 22) (e := 30) (size := 1) (bytes := 4) (by kernel_rfl) (x := (.tmp 36)) (y := (.tmp 37)) bz 0 nz capz t ho (by kernel_rfl) (by kernel_rfl) (by omega) w))
        · exact D2.gv_load1 30 (.tmp 38) 0 (fun g => bz) (fun g => 0 + t * 1) (fun g => curz) 30 (0, 0) (fun _ _ _ h => h) (fun g => by kernel_rfl) (fun g => by kernel_rfl) (fun L g hN => (by have hL16 : L 16 = false := (hN.post 16 (by kernel_rfl)); exact D2.ent_get' (p := true) (e := (bif L 16 then (bz, Obj.cells cur_4 30 (0, 0)) else (bz, Obj.cells curz 30 (0, 0)))) (by kernel_rfl) (by rfl) (by simp only [hL16, cond_true, cond_false] <;> rfl))) (by kernel_rfl) (fun L g hN hF => by exact ((show List.getD (wl s t i) t 0 = wpt s t i from wl_at s t i (by omega)) ▸ hrz.atW (by omega) (by rw [wl_len]; exact hnz)))
        · exact D2.gv_valE (fun _ _ _ h => h) (V' := .int .u32 (IntKind.u32.wrap ((256) * (((BitVec.toNat (wpt s t i) : Nat) : Int))))) (fun g w => by kernel_rfl) (bv_mul_u32 (256 : BitVec 32) (wpt s t i))
        · exact D2.gv_val (fun _ _ _ h => h) (fun g w => by kernel_rfl)
        · exact D2.gv_val (fun _ _ _ h => h) (fun g w => by kernel_rfl)
        · exact D2.gv_valE (fun _ _ _ h => h) (V' := .int .i64 (IntKind.i64.wrap (4 * ((t : Nat) : Int)))) (fun g w => by kernel_rfl) (int_eq (wrapMul_i64 (a := 4) (b := t) (by omega)))
        · exact D2.gv_val (fun _ _ _ h => h) (fun g w => by kernel_rfl)
        · exact D2.gv_valE (fun _ _ _ h => h) (V' := .int .i64 (IntKind.i64.wrap (((4 * t : Nat) : Int) + ((i : Nat) : Int)))) (fun g w => by kernel_rfl) (int_eq (wrapAdd_i64 (a := 4 * t) (b := i) (by omega)))
        · exact D2.gv_op (fun _ _ _ h => h) _ (fun g => by kernel_rfl) (fun g => (fun o w ho => sindex_run (t := 9) (kd := .i64) (by kernel_rfl) (x := (.tmp 41)) (y := (.tmp 45)) s ((4 * t) + i) ho (by kernel_rfl) (by kernel_rfl) (by omega) w))
        · exact D2.gv_valE (fun _ _ _ h => h) (V' := .int .u32 (IntKind.u32.wrap (((by_ s ((4 * t) + i) : Nat) : Int)))) (fun g w => by kernel_rfl) (bv_ofNat_u32 (by_ s ((4 * t) + i)))
        · exact D2.gv_valE (fun _ _ _ h => h) (V' := .int .u32 (IntKind.u32.wrap ((((BitVec.toNat ((256 : BitVec 32) * (wpt s t i)) : Nat) : Int)) + (((BitVec.toNat (BitVec.ofNat 32 (by_ s ((4 * t) + i))) : Nat) : Int))))) (fun g w => by kernel_rfl) (bv_add_u32 ((256 : BitVec 32) * (wpt s t i)) (BitVec.ofNat 32 (by_ s ((4 * t) + i))))
        · exact D2.gv_op (fun _ _ _ h => h) _ (fun g => by kernel_rfl) (fun g => (fun o w ho => idxS_run (kd := .i64) (t := 22) (e := 30) (size := 1) (bytes := 4) (by kernel_rfl) (x := (.tmp 34)) (y := (.tmp 35)) bz 0 nz capz t ho (by kernel_rfl) (by kernel_rfl) (by omega) w))
        · exact D2.gv_store 0 30 (.tmp 49) (.tmp 48) (fun g => bz) (fun g => 0 + t * 1) curz cur_4 30 (.int .u32 ((BitVec.toNat (((256 : BitVec 32) * (wpt s t i)) + (BitVec.ofNat 32 (by_ s ((4 * t) + i)))) : Nat) : Int)) (fun g => by kernel_rfl) (fun g => by kernel_rfl) (fun g => by kernel_rfl) (by kernel_rfl) (by kernel_rfl) (fun g => hs_6) (fun g => hc_5) (fun L g hN => ⟨(by have hL16 : L 16 = false := hN.1; exact D2.ent_get' (p := true) (e := (bif L 16 then (bz, Obj.cells cur_4 30 (0, 0)) else (bz, Obj.cells curz 30 (0, 0)))) (by kernel_rfl) (by rfl) (by simp only [hL16, cond_true, cond_false] <;> rfl)), (by kernel_rfl)⟩) (fun L g hN hF => hF)
        intro L0 G6 w6 hall HL; clear H5
        have H6 : St w.heap.size w w6 [(bz, Obj.cells cur_4 30 (0, 0)), (b1, Obj.cells (Value.cells (arr 8 h)) 31 (0, 0)), (b2, Obj.cells #[.int .u32 0, .int .u32 0, .int .u32 0, .int .u32 0, .int .u32 0, .int .u32 0, .int .u32 0, .int .u32 0] 31 (0, 0))] := by have e16 := hall 16 (Nat.le_of_ble_eq_true (by kernel_rfl)); have hS := D2.StE.st HL.1; simp only [e16, cond_true, D2.pres] at hS; exact hS
        clear HL hall
        show WP _ _ _ _ _ _
        refine g_reg0 [0, 1, 2] (by kernel_rfl) ?_
        refine s_val (some 32) (.int .i64 ((i : Nat) : Int)) (fun w => by kernel_rfl) (by kernel_rfl) ?_
        refine s_valE (some 33) (.int .i64 (IntKind.i64.wrap (((i : Nat) : Int) + 1))) (.int .i64 ((i + 1 : Nat) : Int)) (fun w => by kernel_rfl) (int_eq (wrapAdd_i64 (a := i) (b := 1) (by omega))) (by kernel_rfl) ?_
        refine s_val (some 9) (.int .i64 ((i + 1 : Nat) : Int)) (fun w => by kernel_rfl) (by kernel_rfl) ?_
        refine s_nil ?_
        have hrw := hr_7; rw [wl_set s t i (by omega)] at hrw
        show ∃ m, _ ∧ _
        exact ⟨_, (by omega), bz, capz, nz, cur_4, (i + 1), rfl, hnz, hrw, (by omega), H6, (Is.of ⟨(by kernel_rfl), (by kernel_rfl), (by kernel_rfl), (by kernel_rfl), (by kernel_rfl), (by kernel_rfl), (by kernel_rfl), (by kernel_rfl), (by kernel_rfl), (by kernel_rfl), trivial⟩)⟩
      · skip
        refine s_valE (some 31) (.bool (decide (((i : Nat) : Int) < 4))) (.bool false) (fun w => by kernel_rfl) (bool_eq (decide_eq_false (by omega))) (by kernel_rfl) ?_
        refine s_nil ?_
        refine g_cond_f (by kernel_rfl) (by kernel_rfl) ?_
        refine g_exit 2 (by kernel_rfl) ?_
        show WP _ _ _ _ _ _
        refine g_reg0 [0, 1, 2] (by kernel_rfl) ?_
        refine s_val (some 26) (.int .i64 ((t : Nat) : Int)) (fun w => by kernel_rfl) (by kernel_rfl) ?_
        refine s_valE (some 27) (.int .i64 (IntKind.i64.wrap (((t : Nat) : Int) + 1))) (.int .i64 ((t + 1 : Nat) : Int)) (fun w => by kernel_rfl) (int_eq (wrapAdd_i64 (a := t) (b := 1) (by omega))) (by kernel_rfl) ?_
        refine s_val (some 8) (.int .i64 ((t + 1 : Nat) : Int)) (fun w => by kernel_rfl) (by kernel_rfl) ?_
        refine s_nil ?_
        obtain rfl : i = 4 := by omega
        have hgo := wl_go s t 4 (by omega) (GG_low s t (by omega)).symm; have hrw := hrz; rw [hgo] at hrw
        show ∃ m, _ ∧ _
        exact ⟨_, (by omega), bz, capz, nz, curz, (t + 1), rfl, hnz, hrw, (by omega), H5, (Is.of ⟨(by kernel_rfl), (by kernel_rfl), (by kernel_rfl), (by kernel_rfl), (by kernel_rfl), (by kernel_rfl), (by kernel_rfl), trivial⟩)⟩
    · skip
      refine s_valE (some 29) (.bool (decide (((t : Nat) : Int) < 16))) (.bool false) (fun w => by kernel_rfl) (bool_eq (decide_eq_false (by omega))) (by kernel_rfl) ?_
      refine s_nil ?_
      refine g_cond_f (by kernel_rfl) (by kernel_rfl) ?_
      refine g_sreg [0, 1, 2, 3, 4, 5] (by kernel_rfl) (by kernel_rfl) ?_
      refine s_val (some 50) (.slice (some ⟨b, 0, none⟩) n cap) (fun w => by kernel_rfl) (by kernel_rfl) ?_
      refine s_val (some 51) (.int .i64 ((t : Nat) : Int)) (fun w => by kernel_rfl) (by kernel_rfl) ?_
      refine s_valE (some 52) (.int .i64 (IntKind.i64.wrap (((t : Nat) : Int) - 15))) (.int .i64 ((t - 15 : Nat) : Int)) (fun w => by kernel_rfl) (int_eq (wrapSub_i64 (a := t) (b := 15) (by omega))) (by kernel_rfl) ?_
      refine s_op (some 53) _ (.pointer (some ⟨b, 0 + (t - 15) * 1, none⟩)) (by kernel_rfl) (by kernel_rfl) (fun o w ho => idxS_run (kd := .i64) (t := 22) (e := 30) (size := 1) (bytes := 4) (by kernel_rfl) (x := (.tmp 50)) (y := (.tmp 52)) b 0 n cap (t - 15) ho (by kernel_rfl) (by kernel_rfl) (by omega) w) ?_
      refine s_load1 H4 (some 54) 30 (.tmp 53) 0 b (0 + (t - 15) * 1) cur 30 (0, 0) (.int .u32 ((BitVec.toNat (List.getD (wl s t 0) (t - 15) 0) : Nat) : Int)) (by kernel_rfl) (by kernel_rfl) (by kernel_rfl) (by kernel_rfl) (by kernel_rfl) (hr.atW (by omega) (by rw [wl_len]; exact hn)) ?_
      refine s_val (some 10) (.int .u32 ((BitVec.toNat (List.getD (wl s t 0) (t - 15) 0) : Nat) : Int)) (fun w => by kernel_rfl) (by kernel_rfl) ?_
      refine s_nil ?_
      refine g_sreg [0, 1, 2, 3, 4, 5] (by kernel_rfl) (by kernel_rfl) ?_
      refine s_val (some 55) (.slice (some ⟨b, 0, none⟩) n cap) (fun w => by kernel_rfl) (by kernel_rfl) ?_
      refine s_val (some 56) (.int .i64 ((t : Nat) : Int)) (fun w => by kernel_rfl) (by kernel_rfl) ?_
      refine s_valE (some 57) (.int .i64 (IntKind.i64.wrap (((t : Nat) : Int) - 2))) (.int .i64 ((t - 2 : Nat) : Int)) (fun w => by kernel_rfl) (int_eq (wrapSub_i64 (a := t) (b := 2) (by omega))) (by kernel_rfl) ?_
      refine s_op (some 58) _ (.pointer (some ⟨b, 0 + (t - 2) * 1, none⟩)) (by kernel_rfl) (by kernel_rfl) (fun o w ho => idxS_run (kd := .i64) (t := 22) (e := 30) (size := 1) (bytes := 4) (by kernel_rfl) (x := (.tmp 55)) (y := (.tmp 57)) b 0 n cap (t - 2) ho (by kernel_rfl) (by kernel_rfl) (by omega) w) ?_
      refine s_load1 H4 (some 59) 30 (.tmp 58) 0 b (0 + (t - 2) * 1) cur 30 (0, 0) (.int .u32 ((BitVec.toNat (List.getD (wl s t 0) (t - 2) 0) : Nat) : Int)) (by kernel_rfl) (by kernel_rfl) (by kernel_rfl) (by kernel_rfl) (by kernel_rfl) (hr.atW (by omega) (by rw [wl_len]; exact hn)) ?_
      refine s_val (some 11) (.int .u32 ((BitVec.toNat (List.getD (wl s t 0) (t - 2) 0) : Nat) : Int)) (fun w => by kernel_rfl) (by kernel_rfl) ?_
      refine s_nil ?_
      obtain ⟨cur_8, hc_9, hs_10, hr_11⟩ := hr.putW t ((((List.getD (wl s t 0) (t - 16) 0) + (((rr (List.getD (wl s t 0) (t - 15) 0) 7) ^^^ (rr (List.getD (wl s t 0) (t - 15) 0) 18)) ^^^ ((List.getD (wl s t 0) (t - 15) 0) >>> 3))) + (List.getD (wl s t 0) (t - 7) 0)) + (((rr (List.getD (wl s t 0) (t - 2) 0) 17) ^^^ (rr (List.getD (wl s t 0) (t - 2) 0) 19)) ^^^ ((List.getD (wl s t 0) (t - 2) 0) >>> 10))) (by omega)
      refine D2.g_draw0 [0, 1, 2, 3, 4, 5, 6, 7, 8, 9, 10, 11, 12, 13, 14, 15, 16, 17, 18, 19, 20, 21, 22, 23, 24, 25, 26, 27, 28, 29, 30, 31, 32] [((some 60), fun _ => .slice (some ⟨b, 0, none⟩) n cap), ((some 61), fun _ => .int .i64 ((t : Nat) : Int)), ((some 62), fun _ => .slice (some ⟨b, 0, none⟩) n cap), ((some 63), fun _ => .int .i64 ((t : Nat) : Int)), ((some 64), fun _ => .int .i64 ((t - 16 : Nat) : Int)), ((some 65), fun _ => .pointer (some ⟨b, 0 + (t - 16) * 1, none⟩)), ((some 66), fun _ => .int .u32 ((BitVec.toNat (List.getD (wl s t 0) (t - 16) 0) : Nat) : Int)), ((some 67), fun _ => .int .u32 ((BitVec.toNat (List.getD (wl s t 0) (t - 15) 0) : Nat) : Int)), ((some 68), fun _ => .int .u32 ((BitVec.toNat (rr (List.getD (wl s t 0) (t - 15) 0) 7) : Nat) : Int)), ((some 69), fun _ => .int .u32 ((BitVec.toNat (List.getD (wl s t 0) (t - 15) 0) : Nat) : Int)), ((some 70), fun _ => .int .u32 ((BitVec.toNat (rr (List.getD (wl s t 0) (t - 15) 0) 18) : Nat) : Int)), ((some 71), fun _ => .int .u32 ((BitVec.toNat ((rr (List.getD (wl s t 0) (t - 15) 0) 7) ^^^ (rr (List.getD (wl s t 0) (t - 15) 0) 18)) : Nat) : Int)), ((some 72), fun _ => .int .u32 ((BitVec.toNat (List.getD (wl s t 0) (t - 15) 0) : Nat) : Int)), ((some 73), fun _ => .int .u32 ((BitVec.toNat ((List.getD (wl s t 0) (t - 15) 0) >>> 3) : Nat) : Int)), ((some 74), fun _ => .int .u32 ((BitVec.toNat (((rr (List.getD (wl s t 0) (t - 15) 0) 7) ^^^ (rr (List.getD (wl s t 0) (t - 15) 0) 18)) ^^^ ((List.getD (wl s t 0) (t - 15) 0) >>> 3)) : Nat) : Int)), ((some 75), fun _ => .int .u32 ((BitVec.toNat ((List.getD (wl s t 0) (t - 16) 0) + (((rr (List.getD (wl s t 0) (t - 15) 0) 7) ^^^ (rr (List.getD (wl s t 0) (t - 15) 0) 18)) ^^^ ((List.getD (wl s t 0) (t - 15) 0) >>> 3))) : Nat) : Int)), ((some 76), fun _ => .slice (some ⟨b, 0, none⟩) n cap), ((some 77), fun _ => .int .i64 ((t : Nat) : Int)), ((some 78), fun _ => .int .i64 ((t - 7 : Nat) : Int)), ((some 79), fun _ => .pointer (some ⟨b, 0 + (t - 7) * 1, none⟩)), ((some 80), fun _ => .int .u32 ((BitVec.toNat (List.getD (wl s t 0) (t - 7) 0) : Nat) : Int)), ((some 81), fun _ => .int .u32 ((BitVec.toNat (((List.getD (wl s t 0) (t - 16) 0) + (((rr (List.getD (wl s t 0) (t - 15) 0) 7) ^^^ (rr (List.getD (wl s t 0) (t - 15) 0) 18)) ^^^ ((List.getD (wl s t 0) (t - 15) 0) >>> 3))) + (List.getD (wl s t 0) (t - 7) 0)) : Nat) : Int)), ((some 82), fun _ => .int .u32 ((BitVec.toNat (List.getD (wl s t 0) (t - 2) 0) : Nat) : Int)), ((some 83), fun _ => .int .u32 ((BitVec.toNat (rr (List.getD (wl s t 0) (t - 2) 0) 17) : Nat) : Int)), ((some 84), fun _ => .int .u32 ((BitVec.toNat (List.getD (wl s t 0) (t - 2) 0) : Nat) : Int)), ((some 85), fun _ => .int .u32 ((BitVec.toNat (rr (List.getD (wl s t 0) (t - 2) 0) 19) : Nat) : Int)), ((some 86), fun _ => .int .u32 ((BitVec.toNat ((rr (List.getD (wl s t 0) (t - 2) 0) 17) ^^^ (rr (List.getD (wl s t 0) (t - 2) 0) 19)) : Nat) : Int)), ((some 87), fun _ => .int .u32 ((BitVec.toNat (List.getD (wl s t 0) (t - 2) 0) : Nat) : Int)), ((some 88), fun _ => .int .u32 ((BitVec.toNat ((List.getD (wl s t 0) (t - 2) 0) >>> 10) : Nat) : Int)), ((some 89), fun _ => .int .u32 ((BitVec.toNat (((rr (List.getD (wl s t 0) (t - 2) 0) 17) ^^^ (rr (List.getD (wl s t 0) (t - 2) 0) 19)) ^^^ ((List.getD (wl s t 0) (t - 2) 0) >>> 10)) : Nat) : Int)), ((some 90), fun _ => .int .u32 ((BitVec.toNat ((((List.getD (wl s t 0) (t - 16) 0) + (((rr (List.getD (wl s t 0) (t - 15) 0) 7) ^^^ (rr (List.getD (wl s t 0) (t - 15) 0) 18)) ^^^ ((List.getD (wl s t 0) (t - 15) 0) >>> 3))) + (List.getD (wl s t 0) (t - 7) 0)) + (((rr (List.getD (wl s t 0) (t - 2) 0) 17) ^^^ (rr (List.getD (wl s t 0) (t - 2) 0) 19)) ^^^ ((List.getD (wl s t 0) (t - 2) 0) >>> 10))) : Nat) : Int)), ((some 91), fun _ => .pointer (some ⟨b, 0 + t * 1, none⟩)), (none, fun _ => undef)] (D2.Pre w.heap.size w (fun L g => [(true, (bif L 32 then (b, Obj.cells cur_8 30 (0, 0)) else (b, Obj.cells cur 30 (0, 0)))), (true, (b1, Obj.cells (Value.cells (arr 8 h)) 31 (0, 0))), (true, (b2, Obj.cells #[.int .u32 0, .int .u32 0, .int .u32 0, .int .u32 0, .int .u32 0, .int .u32 0, .int .u32 0, .int .u32 0] 31 (0, 0)))]) (fun L g => True)) (by kernel_rfl) (by kernel_rfl) (by kernel_rfl) ⟨D2.StE.of H4.drew _ (by kernel_rfl), trivial⟩ ⟨?_, ?_, ?_, ?_, ?_, ?_, ?_, ?_, ?_, ?_, ?_, ?_, ?_, ?_, ?_, ?_, ?_, ?_, ?_, ?_, ?_, ?_, ?_, ?_, ?_, ?_, ?_, ?_, ?_, ?_, ?_, ?_, ?_, trivial⟩ ?_
      · exact D2.gv_val (fun _ _ _ h => h) (fun g w => by kernel_rfl)
      · exact D2.gv_val (fun _ _ _ h => h) (fun g w => by kernel_rfl)
      · exact D2.gv_val (fun _ _ _ h => h) (fun g w => by kernel_rfl)
      · exact D2.gv_val (fun _ _ _ h => h) (fun g w => by kernel_rfl)
      · exact D2.gv_valE (fun _ _ _ h => h) (V' := .int .i64 (IntKind.i64.wrap (((t : Nat) : Int) - 16))) (fun g w => by kernel_rfl) (int_eq (wrapSub_i64 (a := t) (b := 16) (by omega)))
      · exact D2.gv_op (fun _ _ _ h => h) _ (fun g => by kernel_rfl) (fun g => (fun o w ho => idxS_run (kd := .i64) (t := 22) (e := 30) (size := 1) (bytes := 4) (by kernel_rfl) (x := (.tmp 62)) (y := (.tmp 64)) b 0 n cap (t - 16) ho (by kernel_rfl) (by kernel_rfl) (by omega) w))
      · exact D2.gv_load1 30 (.tmp 65) 0 (fun g => b) (fun g => 0 + (t - 16) * 1) (fun g => cur) 30 (0, 0) (fun _ _ _ h => h) (fun g => by kernel_rfl) (fun g => by kernel_rfl) (fun L g hN => (by have hL32 : L 32 = false := (hN.post 32 (by kernel_rfl)); exact D2.ent_get' (p := true) (e := (bif L 32 then (b, Obj.cells cur_8 30 (0, 0)) else (b, Obj.cells cur 30 (0, 0)))) (by kernel_rfl) (by rfl) (by simp only [hL32, cond_true, cond_false] <;> rfl))) (by kernel_rfl) (fun L g hN hF => by exact (hr.atW (by omega) (by rw [wl_len]; exact hn)))
      · exact D2.gv_val (fun _ _ _ h => h) (fun g w => by kernel_rfl)
      · exact D2.gv_call 23 #[.int .u32 ((BitVec.toNat (List.getD (wl s t 0) (t - 15) 0) : Nat) : Int), .int .i64 7] (fun _ _ _ h => h) (rightR_fn (List.getD (wl s t 0) (t - 15) 0) 7 (by omega) (by omega)) (fun g w => by kernel_rfl)
      · exact D2.gv_val (fun _ _ _ h => h) (fun g w => by kernel_rfl)
      · exact D2.gv_call 23 #[.int .u32 ((BitVec.toNat (List.getD (wl s t 0) (t - 15) 0) : Nat) : Int), .int .i64 18] (fun _ _ _ h => h) (rightR_fn (List.getD (wl s t 0) (t - 15) 0) 18 (by omega) (by omega)) (fun g w => by kernel_rfl)
      · exact D2.gv_valE (fun _ _ _ h => h) (V' := .int .u32 (Go.bits .xor .u32 (((BitVec.toNat (rr (List.getD (wl s t 0) (t - 15) 0) 7) : Nat) : Int)) (((BitVec.toNat (rr (List.getD (wl s t 0) (t - 15) 0) 18) : Nat) : Int)))) (fun g w => by kernel_rfl) (bv_xor_u32 (rr (List.getD (wl s t 0) (t - 15) 0) 7) (rr (List.getD (wl s t 0) (t - 15) 0) 18))
      · exact D2.gv_val (fun _ _ _ h => h) (fun g w => by kernel_rfl)
      · exact D2.gv_valE (fun _ _ _ h => h) (V' := .int .u32 (IntKind.u32.wrap (Int.tdiv (((BitVec.toNat (List.getD (wl s t 0) (t - 15) 0) : Nat) : Int)) 8))) (fun g w => by kernel_rfl) ((bv_quo_u32 (List.getD (wl s t 0) (t - 15) 0) (8 : BitVec 32)).trans (bv_congr (div8 (List.getD (wl s t 0) (t - 15) 0))))
      · exact D2.gv_valE (fun _ _ _ h => h) (V' := .int .u32 (Go.bits .xor .u32 (((BitVec.toNat ((rr (List.getD (wl s t 0) (t - 15) 0) 7) ^^^ (rr (List.getD (wl s t 0) (t - 15) 0) 18)) : Nat) : Int)) (((BitVec.toNat ((List.getD (wl s t 0) (t - 15) 0) >>> 3) : Nat) : Int)))) (fun g w => by kernel_rfl) (bv_xor_u32 ((rr (List.getD (wl s t 0) (t - 15) 0) 7) ^^^ (rr (List.getD (wl s t 0) (t - 15) 0) 18)) ((List.getD (wl s t 0) (t - 15) 0) >>> 3))
      · exact D2.gv_valE (fun _ _ _ h => h) (V' := .int .u32 (IntKind.u32.wrap ((((BitVec.toNat (List.getD (wl s t 0) (t - 16) 0) : Nat) : Int)) + (((BitVec.toNat (((rr (List.getD (wl s t 0) (t - 15) 0) 7) ^^^ (rr (List.getD (wl s t 0) (t - 15) 0) 18)) ^^^ ((List.getD (wl s t 0) (t - 15) 0) >>> 3)) : Nat) : Int))))) (fun g w => by kernel_rfl) (bv_add_u32 (List.getD (wl s t 0) (t - 16) 0) (((rr (List.getD (wl s t 0) (t - 15) 0) 7) ^^^ (rr (List.getD (wl s t 0) (t - 15) 0) 18)) ^^^ ((List.getD (wl s t 0) (t - 15) 0) >>> 3)))
      · exact D2.gv_val (fun _ _ _ h => h) (fun g w => by kernel_rfl)
      · exact D2.gv_val (fun _ _ _ h => h) (fun g w => by kernel_rfl)
      · exact D2.gv_valE (fun _ _ _ h => h) (V' := .int .i64 (IntKind.i64.wrap (((t : Nat) : Int) - 7))) (fun g w => by kernel_rfl) (int_eq (wrapSub_i64 (a := t) (b := 7) (by omega)))
      · exact D2.gv_op (fun _ _ _ h => h) _ (fun g => by kernel_rfl) (fun g => (fun o w ho => idxS_run (kd := .i64) (t := 22) (e := 30) (size := 1) (bytes := 4) (by kernel_rfl) (x := (.tmp 76)) (y := (.tmp 78)) b 0 n cap (t - 7) ho (by kernel_rfl) (by kernel_rfl) (by omega) w))
      · exact D2.gv_load1 30 (.tmp 79) 0 (fun g => b) (fun g => 0 + (t - 7) * 1) (fun g => cur) 30 (0, 0) (fun _ _ _ h => h) (fun g => by kernel_rfl) (fun g => by kernel_rfl) (fun L g hN => (by have hL32 : L 32 = false := (hN.post 32 (by kernel_rfl)); exact D2.ent_get' (p := true) (e := (bif L 32 then (b, Obj.cells cur_8 30 (0, 0)) else (b, Obj.cells cur 30 (0, 0)))) (by kernel_rfl) (by rfl) (by simp only [hL32, cond_true, cond_false] <;> rfl))) (by kernel_rfl) (fun L g hN hF => by exact (hr.atW (by omega) (by rw [wl_len]; exact hn)))
      · exact D2.gv_valE (fun _ _ _ h => h) (V' := .int .u32 (IntKind.u32.wrap ((((BitVec.toNat ((List.getD (wl s t 0) (t - 16) 0) + (((rr (List.getD (wl s t 0) (t - 15) 0) 7) ^^^ (rr (List.getD (wl s t 0) (t - 15) 0) 18)) ^^^ ((List.getD (wl s t 0) (t - 15) 0) >>> 3))) : Nat) : Int)) + (((BitVec.toNat (List.getD (wl s t 0) (t - 7) 0) : Nat) : Int))))) (fun g w => by kernel_rfl) (bv_add_u32 ((List.getD (wl s t 0) (t - 16) 0) + (((rr (List.getD (wl s t 0) (t - 15) 0) 7) ^^^ (rr (List.getD (wl s t 0) (t - 15) 0) 18)) ^^^ ((List.getD (wl s t 0) (t - 15) 0) >>> 3))) (List.getD (wl s t 0) (t - 7) 0))
      · exact D2.gv_val (fun _ _ _ h => h) (fun g w => by kernel_rfl)
      · exact D2.gv_call 23 #[.int .u32 ((BitVec.toNat (List.getD (wl s t 0) (t - 2) 0) : Nat) : Int), .int .i64 17] (fun _ _ _ h => h) (rightR_fn (List.getD (wl s t 0) (t - 2) 0) 17 (by omega) (by omega)) (fun g w => by kernel_rfl)
      · exact D2.gv_val (fun _ _ _ h => h) (fun g w => by kernel_rfl)
      · exact D2.gv_call 23 #[.int .u32 ((BitVec.toNat (List.getD (wl s t 0) (t - 2) 0) : Nat) : Int), .int .i64 19] (fun _ _ _ h => h) (rightR_fn (List.getD (wl s t 0) (t - 2) 0) 19 (by omega) (by omega)) (fun g w => by kernel_rfl)
      · exact D2.gv_valE (fun _ _ _ h => h) (V' := .int .u32 (Go.bits .xor .u32 (((BitVec.toNat (rr (List.getD (wl s t 0) (t - 2) 0) 17) : Nat) : Int)) (((BitVec.toNat (rr (List.getD (wl s t 0) (t - 2) 0) 19) : Nat) : Int)))) (fun g w => by kernel_rfl) (bv_xor_u32 (rr (List.getD (wl s t 0) (t - 2) 0) 17) (rr (List.getD (wl s t 0) (t - 2) 0) 19))
      · exact D2.gv_val (fun _ _ _ h => h) (fun g w => by kernel_rfl)
      · exact D2.gv_valE (fun _ _ _ h => h) (V' := .int .u32 (IntKind.u32.wrap (Int.tdiv (((BitVec.toNat (List.getD (wl s t 0) (t - 2) 0) : Nat) : Int)) 1024))) (fun g w => by kernel_rfl) ((bv_quo_u32 (List.getD (wl s t 0) (t - 2) 0) (1024 : BitVec 32)).trans (bv_congr (div1024 (List.getD (wl s t 0) (t - 2) 0))))
      · exact D2.gv_valE (fun _ _ _ h => h) (V' := .int .u32 (Go.bits .xor .u32 (((BitVec.toNat ((rr (List.getD (wl s t 0) (t - 2) 0) 17) ^^^ (rr (List.getD (wl s t 0) (t - 2) 0) 19)) : Nat) : Int)) (((BitVec.toNat ((List.getD (wl s t 0) (t - 2) 0) >>> 10) : Nat) : Int)))) (fun g w => by kernel_rfl) (bv_xor_u32 ((rr (List.getD (wl s t 0) (t - 2) 0) 17) ^^^ (rr (List.getD (wl s t 0) (t - 2) 0) 19)) ((List.getD (wl s t 0) (t - 2) 0) >>> 10))
      · exact D2.gv_valE (fun _ _ _ h => h) (V' := .int .u32 (IntKind.u32.wrap ((((BitVec.toNat (((List.getD (wl s t 0) (t - 16) 0) + (((rr (List.getD (wl s t 0) (t - 15) 0) 7) ^^^ (rr (List.getD (wl s t 0) (t - 15) 0) 18)) ^^^ ((List.getD (wl s t 0) (t - 15) 0) >>> 3))) + (List.getD (wl s t 0) (t - 7) 0)) : Nat) : Int)) + (((BitVec.toNat (((rr (List.getD (wl s t 0) (t - 2) 0) 17) ^^^ (rr (List.getD (wl s t 0) (t - 2) 0) 19)) ^^^ ((List.getD (wl s t 0) (t - 2) 0) >>> 10)) : Nat) : Int))))) (fun g w => by kernel_rfl) (bv_add_u32 (((List.getD (wl s t 0) (t - 16) 0) + (((rr (List.getD (wl s t 0) (t - 15) 0) 7) ^^^ (rr (List.getD (wl s t 0) (t - 15) 0) 18)) ^^^ ((List.getD (wl s t 0) (t - 15) 0) >>> 3))) + (List.getD (wl s t 0) (t - 7) 0)) (((rr (List.getD (wl s t 0) (t - 2) 0) 17) ^^^ (rr (List.getD (wl s t 0) (t - 2) 0) 19)) ^^^ ((List.getD (wl s t 0) (t - 2) 0) >>> 10)))
      · exact D2.gv_op (fun _ _ _ h => h) _ (fun g => by kernel_rfl) (fun g => (fun o w ho => idxS_run (kd := .i64) (t := 22) (e := 30) (size := 1) (bytes := 4) (by kernel_rfl) (x := (.tmp 60)) (y := (.tmp 61)) b 0 n cap t ho (by kernel_rfl) (by kernel_rfl) (by omega) w))
      · exact D2.gv_store 0 30 (.tmp 91) (.tmp 90) (fun g => b) (fun g => 0 + t * 1) cur cur_8 30 (.int .u32 ((BitVec.toNat ((((List.getD (wl s t 0) (t - 16) 0) + (((rr (List.getD (wl s t 0) (t - 15) 0) 7) ^^^ (rr (List.getD (wl s t 0) (t - 15) 0) 18)) ^^^ ((List.getD (wl s t 0) (t - 15) 0) >>> 3))) + (List.getD (wl s t 0) (t - 7) 0)) + (((rr (List.getD (wl s t 0) (t - 2) 0) 17) ^^^ (rr (List.getD (wl s t 0) (t - 2) 0) 19)) ^^^ ((List.getD (wl s t 0) (t - 2) 0) >>> 10))) : Nat) : Int)) (fun g => by kernel_rfl) (fun g => by kernel_rfl) (fun g => by kernel_rfl) (by kernel_rfl) (by kernel_rfl) (fun g => hs_10) (fun g => hc_9) (fun L g hN => ⟨(by have hL32 : L 32 = false := hN.1; exact D2.ent_get' (p := true) (e := (bif L 32 then (b, Obj.cells cur_8 30 (0, 0)) else (b, Obj.cells cur 30 (0, 0)))) (by kernel_rfl) (by rfl) (by simp only [hL32, cond_true, cond_false] <;> rfl)), (by kernel_rfl)⟩) (fun L g hN hF => hF)
      intro L0 G7 w7 hall HL; clear H4
      have H7 : St w.heap.size w w7 [(b, Obj.cells cur_8 30 (0, 0)), (b1, Obj.cells (Value.cells (arr 8 h)) 31 (0, 0)), (b2, Obj.cells #[.int .u32 0, .int .u32 0, .int .u32 0, .int .u32 0, .int .u32 0, .int .u32 0, .int .u32 0, .int .u32 0] 31 (0, 0))] := by have e32 := hall 32 (Nat.le_of_ble_eq_true (by kernel_rfl)); have hS := D2.StE.st HL.1; simp only [e32, cond_true, D2.pres] at hS; exact hS
      clear HL hall
      show WP _ _ _ _ _ _
      refine g_reg0 [0, 1, 2] (by kernel_rfl) ?_
      refine s_val (some 26) (.int .i64 ((t : Nat) : Int)) (fun w => by kernel_rfl) (by kernel_rfl) ?_
      refine s_valE (some 27) (.int .i64 (IntKind.i64.wrap (((t : Nat) : Int) + 1))) (.int .i64 ((t + 1 : Nat) : Int)) (fun w => by kernel_rfl) (int_eq (wrapAdd_i64 (a := t) (b := 1) (by omega))) (by kernel_rfl) ?_
      refine s_val (some 8) (.int .i64 ((t + 1 : Nat) : Int)) (fun w => by kernel_rfl) (by kernel_rfl) ?_
      refine s_nil ?_
      have hgo := wl_high s t (by omega) (by omega) ((((List.getD (wl s t 0) (t - 16) 0) + (((rr (List.getD (wl s t 0) (t - 15) 0) 7) ^^^ (rr (List.getD (wl s t 0) (t - 15) 0) 18)) ^^^ ((List.getD (wl s t 0) (t - 15) 0) >>> 3))) + (List.getD (wl s t 0) (t - 7) 0)) + (((rr (List.getD (wl s t 0) (t - 2) 0) 17) ^^^ (rr (List.getD (wl s t 0) (t - 2) 0) 19)) ^^^ ((List.getD (wl s t 0) (t - 2) 0) >>> 10))) (by show ((((List.getD (wl s t 0) (t - 16) 0) + (((rr (List.getD (wl s t 0) (t - 15) 0) 7) ^^^ (rr (List.getD (wl s t 0) (t - 15) 0) 18)) ^^^ ((List.getD (wl s t 0) (t - 15) 0) >>> 3))) + (List.getD (wl s t 0) (t - 7) 0)) + (((rr (List.getD (wl s t 0) (t - 2) 0) 17) ^^^ (rr (List.getD (wl s t 0) (t - 2) 0) 19)) ^^^ ((List.getD (wl s t 0) (t - 2) 0) >>> 10))) = _; unfold nxt; simp only [nth_get]; rw [wl_old _ _ _ _ (by omega) (by omega), wl_old _ _ _ _ (by omega) (by omega), wl_old _ _ _ _ (by omega) (by omega), wl_old _ _ _ _ (by omega) (by omega)]; rfl); have hrw := hr_11; rw [hgo] at hrw
      show ∃ m, _ ∧ _
      exact ⟨_, (by omega), b, cap, n, cur_8, (t + 1), rfl, hn, hrw, (by omega), H7, (Is.of ⟨(by kernel_rfl), (by kernel_rfl), (by kernel_rfl), (by kernel_rfl), (by kernel_rfl), (by kernel_rfl), (by kernel_rfl), trivial⟩)⟩
  · skip
    refine s_valE (some 25) (.bool (decide (((t : Nat) : Int) < 64))) (.bool false) (fun w => by kernel_rfl) (bool_eq (decide_eq_false (by omega))) (by kernel_rfl) ?_
    refine s_nil ?_
    refine g_cond_f (by kernel_rfl) (by kernel_rfl) ?_
    refine g_exit 0 (by kernel_rfl) ?_
    show WP _ _ _ _ _ _
    refine g_sreg [0, 1, 2] (by kernel_rfl) (by kernel_rfl) ?_
    refine s_load H4 (some 92) 31 (.tmp 3) 1 b1 (Value.cells (arr 8 h)) 31 (0, 0) (by kernel_rfl) (by kernel_rfl) (by kernel_rfl) (by kernel_rfl) (by kernel_rfl) ?_
    refine s_alloc H4 (some 12) 31 (.agg #[.int .u32 0, .int .u32 0, .int .u32 0, .int .u32 0, .int .u32 0, .int .u32 0, .int .u32 0, .int .u32 0]) (by kernel_rfl) (by kernel_rfl) (by kernel_rfl) ?_
    intro b3 w8 H8; clear H4
    refine s_store H8 0 [(b3, Obj.cells (Value.cells (arr 8 h)) 31 (0, 0)), (b, Obj.cells cur 30 (0, 0)), (b1, Obj.cells (Value.cells (arr 8 h)) 31 (0, 0)), (b2, Obj.cells #[.int .u32 0, .int .u32 0, .int .u32 0, .int .u32 0, .int .u32 0, .int .u32 0, .int .u32 0, .int .u32 0] 31 (0, 0))] 31 (.tmp 12) (.tmp 92) b3 (0) #[.int .u32 0, .int .u32 0, .int .u32 0, .int .u32 0, .int .u32 0, .int .u32 0, .int .u32 0, .int .u32 0] (Value.cells (arr 8 h)) 31 (arr 8 h) (by kernel_rfl) (by kernel_rfl) (by kernel_rfl) (by kernel_rfl) (by kernel_rfl) (by kernel_rfl) (of_decide_eq_true (by kernel_rfl)) (by kernel_rfl) (by kernel_rfl) ?_
    intro w9 H9; clear H8
    refine s_nil ?_
    refine g_seq (by kernel_rfl) ?_
    refine g_sreg [0] (by kernel_rfl) (by kernel_rfl) ?_
    refine s_val (some 13) (.int .i64 0) (fun w => by kernel_rfl) (by kernel_rfl) ?_
    refine s_nil ?_
    refine g_block 4 (by kernel_rfl) ?_
    have ht64 : t = 64 := by omega
    have hrr8 := hr; rw [show wl s t 0 = GG s from (by rw [ht64]; exact wl_end s 0)] at hrr8
    have HS9 : St w.heap.size w w9 [(b3, Obj.cells (Value.cells (arr 8 (list8 (of8 h)))) 31 (0, 0)), (b, Obj.cells cur 30 (0, 0)), (b1, Obj.cells (Value.cells (arr 8 h)) 31 (0, 0)), (b2, Obj.cells #[.int .u32 0, .int .u32 0, .int .u32 0, .int .u32 0, .int .u32 0, .int .u32 0, .int .u32 0, .int .u32 0] 31 (0, 0))] := by rw [show (Value.cells (arr 8 (list8 (of8 h)))) = (Value.cells (arr 8 h)) from by kernel_rfl]; exact H9
    refine g_loop (by kernel_rfl) (fun mz ρ ww => ∃ (q : S8) (u : Nat), 64 - u = mz ∧ (u ≤ 64) ∧ (run roots (GG s) (of8 h) u = q) ∧ St w.heap.size w ww [(b3, Obj.cells (Value.cells (arr 8 (list8 q))) 31 (0, 0)), (b, Obj.cells cur 30 (0, 0)), (b1, Obj.cells (Value.cells (arr 8 h)) 31 (0, 0)), (b2, Obj.cells #[.int .u32 0, .int .u32 0, .int .u32 0, .int .u32 0, .int .u32 0, .int .u32 0, .int .u32 0, .int .u32 0] 31 (0, 0))] ∧ Is [(0, arr 8 h), (1, .string s), (2, .slice (some ⟨bk, 0, none⟩) nk ck), (3, .pointer (some ⟨b1, 0, none⟩)), (6, .pointer (some ⟨b2, 0, none⟩)), (7, .slice (some ⟨b, 0, none⟩) n cap), (8, .int .i64 ((t : Nat) : Int)), (12, .pointer (some ⟨b3, 0, none⟩)), (13, .int .i64 ((u : Nat) : Int)), (25, .bool false)] ρ) (64 - 0) ⟨(of8 h), 0, rfl, (by omega), rfl, HS9, (Is.of ⟨(by kernel_rfl), (by kernel_rfl), (by kernel_rfl), (by kernel_rfl), (by kernel_rfl), (by kernel_rfl), (by kernel_rfl), (by kernel_rfl), (by kernel_rfl), (by kernel_rfl), trivial⟩)⟩ ?_
    clear HS9
    rintro _ _ w10 ⟨q, u, rfl, hu, hq, H10, _, rfl⟩
    refine g_seq (by kernel_rfl) ?_
    refine g_sreg [0, 1] (by kernel_rfl) (by kernel_rfl) ?_
    refine s_val (some 93) (.int .i64 ((u : Nat) : Int)) (fun w => by kernel_rfl) (by kernel_rfl) ?_
    by_cases hc10 : (u : Nat) < 64
    · skip
      refine s_valE (some 94) (.bool (decide (((u : Nat) : Int) < 64))) (.bool true) (fun w => by kernel_rfl) (bool_eq (decide_eq_true (by omega))) (by kernel_rfl) ?_
      refine s_nil ?_
      refine g_cond_t (by kernel_rfl) (by kernel_rfl) ?_
      refine g_skip (by kernel_rfl) ?_
      show WP _ _ _ _ _ _
      refine g_seq (by kernel_rfl) ?_
      refine g_block 5 (by kernel_rfl) ?_
      refine g_sreg [0, 1, 2] (by kernel_rfl) (by kernel_rfl) ?_
      refine s_val (some 97) (.pointer (some ⟨b3, 4, none⟩)) (fun w => by kernel_rfl) (by kernel_rfl) ?_
      refine s_load1 H10 (some 98) 30 (.tmp 97) 0 b3 4 (Value.cells (arr 8 (list8 q))) 31 (0, 0) (.int .u32 ((BitVec.toNat (S8.e q) : Nat) : Int)) (by kernel_rfl) (by kernel_rfl) (by kernel_rfl) (by kernel_rfl) (by kernel_rfl) (by kernel_rfl) ?_
      refine s_val (some 14) (.int .u32 ((BitVec.toNat (S8.e q) : Nat) : Int)) (fun w => by kernel_rfl) (by kernel_rfl) ?_
      refine s_nil ?_
      refine g_sreg [0, 1, 2] (by kernel_rfl) (by kernel_rfl) ?_
      refine s_val (some 99) (.pointer (some ⟨b3, 5, none⟩)) (fun w => by kernel_rfl) (by kernel_rfl) ?_
      refine s_load1 H10 (some 100) 30 (.tmp 99) 0 b3 5 (Value.cells (arr 8 (list8 q))) 31 (0, 0) (.int .u32 ((BitVec.toNat (S8.f q) : Nat) : Int)) (by kernel_rfl) (by kernel_rfl) (by kernel_rfl) (by kernel_rfl) (by kernel_rfl) (by kernel_rfl) ?_
      refine s_val (some 15) (.int .u32 ((BitVec.toNat (S8.f q) : Nat) : Int)) (fun w => by kernel_rfl) (by kernel_rfl) ?_
      refine s_nil ?_
      refine g_sreg [0, 1, 2] (by kernel_rfl) (by kernel_rfl) ?_
      refine s_val (some 101) (.pointer (some ⟨b3, 6, none⟩)) (fun w => by kernel_rfl) (by kernel_rfl) ?_
      refine s_load1 H10 (some 102) 30 (.tmp 101) 0 b3 6 (Value.cells (arr 8 (list8 q))) 31 (0, 0) (.int .u32 ((BitVec.toNat (S8.g q) : Nat) : Int)) (by kernel_rfl) (by kernel_rfl) (by kernel_rfl) (by kernel_rfl) (by kernel_rfl) (by kernel_rfl) ?_
      refine s_val (some 16) (.int .u32 ((BitVec.toNat (S8.g q) : Nat) : Int)) (fun w => by kernel_rfl) (by kernel_rfl) ?_
      refine s_nil ?_
      refine D2.g_sdraw [0, 1, 2, 3, 4, 5, 6, 7, 8, 9, 10, 11, 12, 13, 14, 15, 16, 17, 18, 19, 20, 21, 22, 23, 24, 25, 26, 27, 28, 29, 30] [((some 103), fun _ => .pointer (some ⟨b3, 7, none⟩)), ((some 104), fun _ => .int .u32 ((BitVec.toNat (S8.h q) : Nat) : Int)), ((some 105), fun _ => .int .u32 ((BitVec.toNat (S8.e q) : Nat) : Int)), ((some 106), fun _ => .int .u32 ((BitVec.toNat (rr (S8.e q) 6) : Nat) : Int)), ((some 107), fun _ => .int .u32 ((BitVec.toNat (S8.e q) : Nat) : Int)), ((some 108), fun _ => .int .u32 ((BitVec.toNat (rr (S8.e q) 11) : Nat) : Int)), ((some 109), fun _ => .int .u32 ((BitVec.toNat ((rr (S8.e q) 6) ^^^ (rr (S8.e q) 11)) : Nat) : Int)), ((some 110), fun _ => .int .u32 ((BitVec.toNat (S8.e q) : Nat) : Int)), ((some 111), fun _ => .int .u32 ((BitVec.toNat (rr (S8.e q) 25) : Nat) : Int)), ((some 112), fun _ => .int .u32 ((BitVec.toNat (((rr (S8.e q) 6) ^^^ (rr (S8.e q) 11)) ^^^ (rr (S8.e q) 25)) : Nat) : Int)), ((some 113), fun _ => .int .u32 ((BitVec.toNat ((S8.h q) + (((rr (S8.e q) 6) ^^^ (rr (S8.e q) 11)) ^^^ (rr (S8.e q) 25))) : Nat) : Int)), ((some 114), fun _ => .int .u32 ((BitVec.toNat (S8.e q) : Nat) : Int)), ((some 115), fun _ => .int .u32 ((BitVec.toNat (S8.f q) : Nat) : Int)), ((some 116), fun _ => .int .u32 ((BitVec.toNat ((S8.e q) &&& (S8.f q)) : Nat) : Int)), ((some 117), fun _ => .int .u32 ((BitVec.toNat (S8.e q) : Nat) : Int)), ((some 118), fun _ => .int .u32 ((BitVec.toNat (~~~(S8.e q)) : Nat) : Int)), ((some 119), fun _ => .int .u32 ((BitVec.toNat (S8.g q) : Nat) : Int)), ((some 120), fun _ => .int .u32 ((BitVec.toNat ((~~~(S8.e q)) &&& (S8.g q)) : Nat) : Int)), ((some 121), fun _ => .int .u32 ((BitVec.toNat (((S8.e q) &&& (S8.f q)) ||| ((~~~(S8.e q)) &&& (S8.g q))) : Nat) : Int)), ((some 122), fun _ => .int .u32 ((BitVec.toNat (((S8.h q) + (((rr (S8.e q) 6) ^^^ (rr (S8.e q) 11)) ^^^ (rr (S8.e q) 25))) + (((S8.e q) &&& (S8.f q)) ||| ((~~~(S8.e q)) &&& (S8.g q)))) : Nat) : Int)), ((some 123), fun _ => .slice (some ⟨bk, 0, none⟩) nk ck), ((some 124), fun _ => .int .i64 ((u : Nat) : Int)), ((some 125), fun _ => .pointer (some ⟨bk, 0 + u * 1, none⟩)), ((some 126), fun _ => .int .u32 ((BitVec.toNat (List.getD roots u 0) : Nat) : Int)), ((some 127), fun _ => .int .u32 ((BitVec.toNat ((((S8.h q) + (((rr (S8.e q) 6) ^^^ (rr (S8.e q) 11)) ^^^ (rr (S8.e q) 25))) + (((S8.e q) &&& (S8.f q)) ||| ((~~~(S8.e q)) &&& (S8.g q)))) + (List.getD roots u 0)) : Nat) : Int)), ((some 128), fun _ => .slice (some ⟨b, 0, none⟩) n cap), ((some 129), fun _ => .int .i64 ((u : Nat) : Int)), ((some 130), fun _ => .pointer (some ⟨b, 0 + u * 1, none⟩)), ((some 131), fun _ => .int .u32 ((BitVec.toNat (List.getD (GG s) u 0) : Nat) : Int)), ((some 132), fun _ => .int .u32 ((BitVec.toNat (((((S8.h q) + (((rr (S8.e q) 6) ^^^ (rr (S8.e q) 11)) ^^^ (rr (S8.e q) 25))) + (((S8.e q) &&& (S8.f q)) ||| ((~~~(S8.e q)) &&& (S8.g q)))) + (List.getD roots u 0)) + (List.getD (GG s) u 0)) : Nat) : Int)), ((some 17), fun _ => .int .u32 ((BitVec.toNat (((((S8.h q) + (((rr (S8.e q) 6) ^^^ (rr (S8.e q) 11)) ^^^ (rr (S8.e q) 25))) + (((S8.e q) &&& (S8.f q)) ||| ((~~~(S8.e q)) &&& (S8.g q)))) + (List.getD roots u 0)) + (List.getD (GG s) u 0)) : Nat) : Int))] (D2.Pre w.heap.size w (fun L g => [(true, (b3, Obj.cells (Value.cells (arr 8 (list8 q))) 31 (0, 0))), (true, (b, Obj.cells cur 30 (0, 0))), (true, (b1, Obj.cells (Value.cells (arr 8 h)) 31 (0, 0))), (true, (b2, Obj.cells #[.int .u32 0, .int .u32 0, .int .u32 0, .int .u32 0, .int .u32 0, .int .u32 0, .int .u32 0, .int .u32 0] 31 (0, 0)))]) (fun L g => True)) (by kernel_rfl) (by kernel_rfl) (by kernel_rfl) (by kernel_rfl) ⟨D2.StE.of H10.drew _ (by kernel_rfl), trivial⟩ ⟨?_, ?_, ?_, ?_, ?_, ?_, ?_, ?_, ?_, ?_, ?_, ?_, ?_, ?_, ?_, ?_, ?_, ?_, ?_, ?_, ?_, ?_, ?_, ?_, ?_, ?_, ?_, ?_, ?_, ?_, ?_, trivial⟩ ?_
      · exact D2.gv_val (fun _ _ _ h => h) (fun g w => by kernel_rfl)
      · exact D2.gv_load1 30 (.tmp 103) 0 (fun g => b3) (fun g => 7) (fun g => (Value.cells (arr 8 (list8 q)))) 31 (0, 0) (fun _ _ _ h => h) (fun g => by kernel_rfl) (fun g => by kernel_rfl) (fun L g hN => (by kernel_rfl)) (by kernel_rfl) (fun L g hN hF => by kernel_rfl)
      · exact D2.gv_val (fun _ _ _ h => h) (fun g w => by kernel_rfl)
      · exact D2.gv_call 23 #[.int .u32 ((BitVec.toNat (S8.e q) : Nat) : Int), .int .i64 6] (fun _ _ _ h => h) (rightR_fn (S8.e q) 6 (by omega) (by omega)) (fun g w => by kernel_rfl)
      · exact D2.gv_val (fun _ _ _ h => h) (fun g w => by kernel_rfl)
      · exact D2.gv_call 23 #[.int .u32 ((BitVec.toNat (S8.e q) : Nat) : Int), .int .i64 11] (fun _ _ _ h => h) (rightR_fn (S8.e q) 11 (by omega) (by omega)) (fun g w => by kernel_rfl)
      · exact D2.gv_valE (fun _ _ _ h => h) (V' := .int .u32 (Go.bits .xor .u32 (((BitVec.toNat (rr (S8.e q) 6) : Nat) : Int)) (((BitVec.toNat (rr (S8.e q) 11) : Nat) : Int)))) (fun g w => by kernel_rfl) (bv_xor_u32 (rr (S8.e q) 6) (rr (S8.e q) 11))
      · exact D2.gv_val (fun _ _ _ h => h) (fun g w => by kernel_rfl)
      · exact D2.gv_call 23 #[.int .u32 ((BitVec.toNat (S8.e q) : Nat) : Int), .int .i64 25] (fun _ _ _ h => h) (rightR_fn (S8.e q) 25 (by omega) (by omega)) (fun g w => by kernel_rfl)
      · exact D2.gv_valE (fun _ _ _ h => h) (V' := .int .u32 (Go.bits .xor .u32 (((BitVec.toNat ((rr (S8.e q) 6) ^^^ (rr (S8.e q) 11)) : Nat) : Int)) (((BitVec.toNat (rr (S8.e q) 25) : Nat) : Int)))) (fun g w => by kernel_rfl) (bv_xor_u32 ((rr (S8.e q) 6) ^^^ (rr (S8.e q) 11)) (rr (S8.e q) 25))
      · exact D2.gv_valE (fun _ _ _ h => h) (V' := .int .u32 (IntKind.u32.wrap ((((BitVec.toNat (S8.h q) : Nat) : Int)) + (((BitVec.toNat (((rr (S8.e q) 6) ^^^ (rr (S8.e q) 11)) ^^^ (rr (S8.e q) 25)) : Nat) : Int))))) (fun g w => by kernel_rfl) (bv_add_u32 (S8.h q) (((rr (S8.e q) 6) ^^^ (rr (S8.e q) 11)) ^^^ (rr (S8.e q) 25)))
      · exact D2.gv_val (fun _ _ _ h => h) (fun g w => by kernel_rfl)
      · exact D2.gv_val (fun _ _ _ h => h) (fun g w => by kernel_rfl)
      · exact D2.gv_valE (fun _ _ _ h => h) (V' := .int .u32 (Go.bits .and .u32 (((BitVec.toNat (S8.e q) : Nat) : Int)) (((BitVec.toNat (S8.f q) : Nat) : Int)))) (fun g w => by kernel_rfl) (bv_and_u32 (S8.e q) (S8.f q))
      · exact D2.gv_val (fun _ _ _ h => h) (fun g w => by kernel_rfl)
      · exact D2.gv_valE (fun _ _ _ h => h) (V' := .int .u32 (IntKind.u32.wrap ((4294967295) - (((BitVec.toNat (S8.e q) : Nat) : Int))))) (fun g w => by kernel_rfl) ((bv_sub_u32 (4294967295 : BitVec 32) (S8.e q)).trans (bv_congr (allsub (S8.e q))))
      · exact D2.gv_val (fun _ _ _ h => h) (fun g w => by kernel_rfl)
      · exact D2.gv_valE (fun _ _ _ h => h) (V' := .int .u32 (Go.bits .and .u32 (((BitVec.toNat (~~~(S8.e q)) : Nat) : Int)) (((BitVec.toNat (S8.g q) : Nat) : Int)))) (fun g w => by kernel_rfl) (bv_and_u32 (~~~(S8.e q)) (S8.g q))
      · exact D2.gv_valE (fun _ _ _ h => h) (V' := .int .u32 (Go.bits .or .u32 (((BitVec.toNat ((S8.e q) &&& (S8.f q)) : Nat) : Int)) (((BitVec.toNat ((~~~(S8.e q)) &&& (S8.g q)) : Nat) : Int)))) (fun g w => by kernel_rfl) (bv_or_u32 ((S8.e q) &&& (S8.f q)) ((~~~(S8.e q)) &&& (S8.g q)))
      · exact D2.gv_valE (fun _ _ _ h => h) (V' := .int .u32 (IntKind.u32.wrap ((((BitVec.toNat ((S8.h q) + (((rr (S8.e q) 6) ^^^ (rr (S8.e q) 11)) ^^^ (rr (S8.e q) 25))) : Nat) : Int)) + (((BitVec.toNat (((S8.e q) &&& (S8.f q)) ||| ((~~~(S8.e q)) &&& (S8.g q))) : Nat) : Int))))) (fun g w => by kernel_rfl) (bv_add_u32 ((S8.h q) + (((rr (S8.e q) 6) ^^^ (rr (S8.e q) 11)) ^^^ (rr (S8.e q) 25))) (((S8.e q) &&& (S8.f q)) ||| ((~~~(S8.e q)) &&& (S8.g q))))
      · exact D2.gv_val (fun _ _ _ h => h) (fun g w => by kernel_rfl)
      · exact D2.gv_val (fun _ _ _ h => h) (fun g w => by kernel_rfl)
      · exact D2.gv_op (fun _ _ _ h => h) _ (fun g => by kernel_rfl) (fun g => (fun o w ho => idxS_run (kd := .i64) (t := 22) (e := 30) (size := 1) (bytes := 4) (by kernel_rfl) (x := (.tmp 123)) (y := (.tmp 124)) bk 0 nk ck u ho (by kernel_rfl) (by kernel_rfl) (by omega) w))
      · exact D2.gv_load1F 30 (.tmp 125) bk (0 + u * 1) curK 30 (0, 0) (fun _ _ _ h => h) (fun g => by kernel_rfl) (fun g => by kernel_rfl) hpre (lt_of_heap hpre) (by kernel_rfl) (hK.atW (by omega) (show nk = List.length roots from hnk))
      · exact D2.gv_valE (fun _ _ _ h => h) (V' := .int .u32 (IntKind.u32.wrap ((((BitVec.toNat (((S8.h q) + (((rr (S8.e q) 6) ^^^ (rr (S8.e q) 11)) ^^^ (rr (S8.e q) 25))) + (((S8.e q) &&& (S8.f q)) ||| ((~~~(S8.e q)) &&& (S8.g q)))) : Nat) : Int)) + (((BitVec.toNat (List.getD roots u 0) : Nat) : Int))))) (fun g w => by kernel_rfl) (bv_add_u32 (((S8.h q) + (((rr (S8.e q) 6) ^^^ (rr (S8.e q) 11)) ^^^ (rr (S8.e q) 25))) + (((S8.e q) &&& (S8.f q)) ||| ((~~~(S8.e q)) &&& (S8.g q)))) (List.getD roots u 0))
      · exact D2.gv_val (fun _ _ _ h => h) (fun g w => by kernel_rfl)
      · exact D2.gv_val (fun _ _ _ h => h) (fun g w => by kernel_rfl)
      · exact D2.gv_op (fun _ _ _ h => h) _ (fun g => by kernel_rfl) (fun g => (fun o w ho => idxS_run (kd := .i64) (t := 22) (e := 30) (size := 1) (bytes := 4) (by kernel_rfl) (x := (.tmp 128)) (y := (.tmp 129)) b 0 n cap u ho (by kernel_rfl) (by kernel_rfl) (by omega) w))
      · exact D2.gv_load1 30 (.tmp 130) 1 (fun g => b) (fun g => 0 + u * 1) (fun g => cur) 30 (0, 0) (fun _ _ _ h => h) (fun g => by kernel_rfl) (fun g => by kernel_rfl) (fun L g hN => (by kernel_rfl)) (by kernel_rfl) (fun L g hN hF => by exact (hrr8.atW (by omega) (by rw [GG_len]; exact hn)))
      · exact D2.gv_valE (fun _ _ _ h => h) (V' := .int .u32 (IntKind.u32.wrap ((((BitVec.toNat ((((S8.h q) + (((rr (S8.e q) 6) ^^^ (rr (S8.e q) 11)) ^^^ (rr (S8.e q) 25))) + (((S8.e q) &&& (S8.f q)) ||| ((~~~(S8.e q)) &&& (S8.g q)))) + (List.getD roots u 0)) : Nat) : Int)) + (((BitVec.toNat (List.getD (GG s) u 0) : Nat) : Int))))) (fun g w => by kernel_rfl) (bv_add_u32 ((((S8.h q) + (((rr (S8.e q) 6) ^^^ (rr (S8.e q) 11)) ^^^ (rr (S8.e q) 25))) + (((S8.e q) &&& (S8.f q)) ||| ((~~~(S8.e q)) &&& (S8.g q)))) + (List.getD roots u 0)) (List.getD (GG s) u 0))
      · exact D2.gv_val (fun _ _ _ h => h) (fun g w => by kernel_rfl)
      intro L0 G11 w11 hall HL; clear H10
      have H11 : St w.heap.size w w11 [(b3, Obj.cells (Value.cells (arr 8 (list8 q))) 31 (0, 0)), (b, Obj.cells cur 30 (0, 0)), (b1, Obj.cells (Value.cells (arr 8 h)) 31 (0, 0)), (b2, Obj.cells #[.int .u32 0, .int .u32 0, .int .u32 0, .int .u32 0, .int .u32 0, .int .u32 0, .int .u32 0, .int .u32 0] 31 (0, 0))] := D2.StE.st HL.1
      clear HL hall
      refine D2.g_sdraw [0, 1, 2, 3, 4, 5, 6, 7, 8, 9, 10, 11, 12, 13, 14, 15, 16, 17, 18, 19, 20, 21, 22, 23, 24, 25, 26, 27, 28, 29] [((some 133), fun _ => .pointer (some ⟨b3, 0, none⟩)), ((some 134), fun _ => .int .u32 ((BitVec.toNat (S8.a q) : Nat) : Int)), ((some 135), fun _ => .int .u32 ((BitVec.toNat (rr (S8.a q) 2) : Nat) : Int)), ((some 136), fun _ => .pointer (some ⟨b3, 0, none⟩)), ((some 137), fun _ => .int .u32 ((BitVec.toNat (S8.a q) : Nat) : Int)), ((some 138), fun _ => .int .u32 ((BitVec.toNat (rr (S8.a q) 13) : Nat) : Int)), ((some 139), fun _ => .int .u32 ((BitVec.toNat ((rr (S8.a q) 2) ^^^ (rr (S8.a q) 13)) : Nat) : Int)), ((some 140), fun _ => .pointer (some ⟨b3, 0, none⟩)), ((some 141), fun _ => .int .u32 ((BitVec.toNat (S8.a q) : Nat) : Int)), ((some 142), fun _ => .int .u32 ((BitVec.toNat (rr (S8.a q) 22) : Nat) : Int)), ((some 143), fun _ => .int .u32 ((BitVec.toNat (((rr (S8.a q) 2) ^^^ (rr (S8.a q) 13)) ^^^ (rr (S8.a q) 22)) : Nat) : Int)), ((some 144), fun _ => .pointer (some ⟨b3, 0, none⟩)), ((some 145), fun _ => .int .u32 ((BitVec.toNat (S8.a q) : Nat) : Int)), ((some 146), fun _ => .pointer (some ⟨b3, 1, none⟩)), ((some 147), fun _ => .int .u32 ((BitVec.toNat (S8.b q) : Nat) : Int)), ((some 148), fun _ => .int .u32 ((BitVec.toNat ((S8.a q) &&& (S8.b q)) : Nat) : Int)), ((some 149), fun _ => .pointer (some ⟨b3, 0, none⟩)), ((some 150), fun _ => .int .u32 ((BitVec.toNat (S8.a q) : Nat) : Int)), ((some 151), fun _ => .pointer (some ⟨b3, 2, none⟩)), ((some 152), fun _ => .int .u32 ((BitVec.toNat (S8.c q) : Nat) : Int)), ((some 153), fun _ => .int .u32 ((BitVec.toNat ((S8.a q) &&& (S8.c q)) : Nat) : Int)), ((some 154), fun _ => .int .u32 ((BitVec.toNat (((S8.a q) &&& (S8.b q)) ||| ((S8.a q) &&& (S8.c q))) : Nat) : Int)), ((some 155), fun _ => .pointer (some ⟨b3, 1, none⟩)), ((some 156), fun _ => .int .u32 ((BitVec.toNat (S8.b q) : Nat) : Int)), ((some 157), fun _ => .pointer (some ⟨b3, 2, none⟩)), ((some 158), fun _ => .int .u32 ((BitVec.toNat (S8.c q) : Nat) : Int)), ((some 159), fun _ => .int .u32 ((BitVec.toNat ((S8.b q) &&& (S8.c q)) : Nat) : Int)), ((some 160), fun _ => .int .u32 ((BitVec.toNat ((((S8.a q) &&& (S8.b q)) ||| ((S8.a q) &&& (S8.c q))) ||| ((S8.b q) &&& (S8.c q))) : Nat) : Int)), ((some 161), fun _ => .int .u32 ((BitVec.toNat ((((rr (S8.a q) 2) ^^^ (rr (S8.a q) 13)) ^^^ (rr (S8.a q) 22)) + ((((S8.a q) &&& (S8.b q)) ||| ((S8.a q) &&& (S8.c q))) ||| ((S8.b q) &&& (S8.c q)))) : Nat) : Int)), ((some 18), fun _ => .int .u32 ((BitVec.toNat ((((rr (S8.a q) 2) ^^^ (rr (S8.a q) 13)) ^^^ (rr (S8.a q) 22)) + ((((S8.a q) &&& (S8.b q)) ||| ((S8.a q) &&& (S8.c q))) ||| ((S8.b q) &&& (S8.c q)))) : Nat) : Int))] (D2.Pre w.heap.size w (fun L g => [(true, (b3, Obj.cells (Value.cells (arr 8 (list8 q))) 31 (0, 0))), (true, (b, Obj.cells cur 30 (0, 0))), (true, (b1, Obj.cells (Value.cells (arr 8 h)) 31 (0, 0))), (true, (b2, Obj.cells #[.int .u32 0, .int .u32 0, .int .u32 0, .int .u32 0, .int .u32 0, .int .u32 0, .int .u32 0, .int .u32 0] 31 (0, 0)))]) (fun L g => True)) (by kernel_rfl) (by kernel_rfl) (by kernel_rfl) (by kernel_rfl) ⟨D2.StE.of H11.drew _ (by kernel_rfl), trivial⟩ ⟨?_, ?_, ?_, ?_, ?_, ?_, ?_, ?_, ?_, ?_, ?_, ?_, ?_, ?_, ?_, ?_, ?_, ?_, ?_, ?_, ?_, ?_, ?_, ?_, ?_, ?_, ?_, ?_, ?_, ?_, trivial⟩ ?_
      · exact D2.gv_val (fun _ _ _ h => h) (fun g w => by kernel_rfl)
      · exact D2.gv_load1 30 (.tmp 133) 0 (fun g => b3) (fun g => 0) (fun g => (Value.cells (arr 8 (list8 q)))) 31 (0, 0) (fun _ _ _ h => h) (fun g => by kernel_rfl) (fun g => by kernel_rfl) (fun L g hN => (by kernel_rfl)) (by kernel_rfl) (fun L g hN hF => by kernel_rfl)
      · exact D2.gv_call 23 #[.int .u32 ((BitVec.toNat (S8.a q) : Nat) : Int), .int .i64 2] (fun _ _ _ h => h) (rightR_fn (S8.a q) 2 (by omega) (by omega)) (fun g w => by kernel_rfl)
      · exact D2.gv_val (fun _ _ _ h => h) (fun g w => by kernel_rfl)
      · exact D2.gv_load1 30 (.tmp 136) 0 (fun g => b3) (fun g => 0) (fun g => (Value.cells (arr 8 (list8 q)))) 31 (0, 0) (fun _ _ _ h => h) (fun g => by kernel_rfl) (fun g => by kernel_rfl) (fun L g hN => (by kernel_rfl)) (by kernel_rfl) (fun L g hN hF => by kernel_rfl)
      · exact D2.gv_call 23 #[.int .u32 ((BitVec.toNat (S8.a q) : Nat) : Int), .int .i64 13] (fun _ _ _ h => h) (rightR_fn (S8.a q) 13 (by omega) (by omega)) (fun g w => by kernel_rfl)
      · exact D2.gv_valE (fun _ _ _ h => h) (V' := .int .u32 (Go.bits .xor .u32 (((BitVec.toNat (rr (S8.a q) 2) : Nat) : Int)) (((BitVec.toNat (rr (S8.a q) 13) : Nat) : Int)))) (fun g w => by kernel_rfl) (bv_xor_u32 (rr (S8.a q) 2) (rr (S8.a q) 13))
      · exact D2.gv_val (fun _ _ _ h => h) (fun g w => by kernel_rfl)
      · exact D2.gv_load1 30 (.tmp 140) 0 (fun g => b3) (fun g => 0) (fun g => (Value.cells (arr 8 (list8 q)))) 31 (0, 0) (fun _ _ _ h => h) (fun g => by kernel_rfl) (fun g => by kernel_rfl) (fun L g hN => (by kernel_rfl)) (by kernel_rfl) (fun L g hN hF => by kernel_rfl)
      · exact D2.gv_call 23 #[.int .u32 ((BitVec.toNat (S8.a q) : Nat) : Int), .int .i64 22] (fun _ _ _ h => h) (rightR_fn (S8.a q) 22 (by omega) (by omega)) (fun g w => by kernel_rfl)
      · exact D2.gv_valE (fun _ _ _ h => h) (V' := .int .u32 (Go.bits .xor .u32 (((BitVec.toNat ((rr (S8.a q) 2) ^^^ (rr (S8.a q) 13)) : Nat) : Int)) (((BitVec.toNat (rr (S8.a q) 22) : Nat) : Int)))) (fun g w => by kernel_rfl) (bv_xor_u32 ((rr (S8.a q) 2) ^^^ (rr (S8.a q) 13)) (rr (S8.a q) 22))
      · exact D2.gv_val (fun _ _ _ h => h) (fun g w => by kernel_rfl)
      · exact D2.gv_load1 30 (.tmp 144) 0 (fun g => b3) (fun g => 0) (fun g => (Value.cells (arr 8 (list8 q)))) 31 (0, 0) (fun _ _ _ h => h) (fun g => by kernel_rfl) (fun g => by kernel_rfl) (fun L g hN => (by kernel_rfl)) (by kernel_rfl) (fun L g hN hF => by kernel_rfl)
      · exact D2.gv_val (fun _ _ _ h => h) (fun g w => by kernel_rfl)
      · exact D2.gv_load1 30 (.tmp 146) 0 (fun g => b3) (fun g => 1) (fun g => (Value.cells (arr 8 (list8 q)))) 31 (0, 0) (fun _ _ _ h => h) (fun g => by kernel_rfl) (fun g => by kernel_rfl) (fun L g hN => (by kernel_rfl)) (by kernel_rfl) (fun L g hN hF => by kernel_rfl)
      · exact D2.gv_valE (fun _ _ _ h => h) (V' := .int .u32 (Go.bits .and .u32 (((BitVec.toNat (S8.a q) : Nat) : Int)) (((BitVec.toNat (S8.b q) : Nat) : Int)))) (fun g w => by kernel_rfl) (bv_and_u32 (S8.a q) (S8.b q))
      · exact D2.gv_val (fun _ _ _ h => h) (fun g w => by kernel_rfl)
      · exact D2.gv_load1 30 (.tmp 149) 0 (fun g => b3) (fun g => 0) (fun g => (Value.cells (arr 8 (list8 q)))) 31 (0, 0) (fun _ _ _ h => h) (fun g => by kernel_rfl) (fun g => by kernel_rfl) (fun L g hN => (by kernel_rfl)) (by kernel_rfl) (fun L g hN hF => by kernel_rfl)
      · exact D2.gv_val (fun _ _ _ h => h) (fun g w => by kernel_rfl)
      · exact D2.gv_load1 30 (.tmp 151) 0 (fun g => b3) (fun g => 2) (fun g => (Value.cells (arr 8 (list8 q)))) 31 (0, 0) (fun _ _ _ h => h) (fun g => by kernel_rfl) (fun g => by kernel_rfl) (fun L g hN => (by kernel_rfl)) (by kernel_rfl) (fun L g hN hF => by kernel_rfl)
      · exact D2.gv_valE (fun _ _ _ h => h) (V' := .int .u32 (Go.bits .and .u32 (((BitVec.toNat (S8.a q) : Nat) : Int)) (((BitVec.toNat (S8.c q) : Nat) : Int)))) (fun g w => by kernel_rfl) (bv_and_u32 (S8.a q) (S8.c q))
      · exact D2.gv_valE (fun _ _ _ h => h) (V' := .int .u32 (Go.bits .or .u32 (((BitVec.toNat ((S8.a q) &&& (S8.b q)) : Nat) : Int)) (((BitVec.toNat ((S8.a q) &&& (S8.c q)) : Nat) : Int)))) (fun g w => by kernel_rfl) (bv_or_u32 ((S8.a q) &&& (S8.b q)) ((S8.a q) &&& (S8.c q)))
      · exact D2.gv_val (fun _ _ _ h => h) (fun g w => by kernel_rfl)
      · exact D2.gv_load1 30 (.tmp 155) 0 (fun g => b3) (fun g => 1) (fun g => (Value.cells (arr 8 (list8 q)))) 31 (0, 0) (fun _ _ _ h => h) (fun g => by kernel_rfl) (fun g => by kernel_rfl) (fun L g hN => (by kernel_rfl)) (by kernel_rfl) (fun L g hN hF => by kernel_rfl)
      · exact D2.gv_val (fun _ _ _ h => h) (fun g w => by kernel_rfl)
      · exact D2.gv_load1 30 (.tmp 157) 0 (fun g => b3) (fun g => 2) (fun g => (Value.cells (arr 8 (list8 q)))) 31 (0, 0) (fun _ _ _ h => h) (fun g => by kernel_rfl) (fun g => by kernel_rfl) (fun L g hN => (by kernel_rfl)) (by kernel_rfl) (fun L g hN hF => by kernel_rfl)
      · exact D2.gv_valE (fun _ _ _ h => h) (V' := .int .u32 (Go.bits .and .u32 (((BitVec.toNat (S8.b q) : Nat) : Int)) (((BitVec.toNat (S8.c q) : Nat) : Int)))) (fun g w => by kernel_rfl) (bv_and_u32 (S8.b q) (S8.c q))
      · exact D2.gv_valE (fun _ _ _ h => h) (V' := .int .u32 (Go.bits .or .u32 (((BitVec.toNat (((S8.a q) &&& (S8.b q)) ||| ((S8.a q) &&& (S8.c q))) : Nat) : Int)) (((BitVec.toNat ((S8.b q) &&& (S8.c q)) : Nat) : Int)))) (fun g w => by kernel_rfl) (bv_or_u32 (((S8.a q) &&& (S8.b q)) ||| ((S8.a q) &&& (S8.c q))) ((S8.b q) &&& (S8.c q)))
      · exact D2.gv_valE (fun _ _ _ h => h) (V' := .int .u32 (IntKind.u32.wrap ((((BitVec.toNat (((rr (S8.a q) 2) ^^^ (rr (S8.a q) 13)) ^^^ (rr (S8.a q) 22)) : Nat) : Int)) + (((BitVec.toNat ((((S8.a q) &&& (S8.b q)) ||| ((S8.a q) &&& (S8.c q))) ||| ((S8.b q) &&& (S8.c q))) : Nat) : Int))))) (fun g w => by kernel_rfl) (bv_add_u32 (((rr (S8.a q) 2) ^^^ (rr (S8.a q) 13)) ^^^ (rr (S8.a q) 22)) ((((S8.a q) &&& (S8.b q)) ||| ((S8.a q) &&& (S8.c q))) ||| ((S8.b q) &&& (S8.c q))))
      · exact D2.gv_val (fun _ _ _ h => h) (fun g w => by kernel_rfl)
      intro L0 G12 w12 hall HL; clear H11
      have H12 : St w.heap.size w w12 [(b3, Obj.cells (Value.cells (arr 8 (list8 q))) 31 (0, 0)), (b, Obj.cells cur 30 (0, 0)), (b1, Obj.cells (Value.cells (arr 8 h)) 31 (0, 0)), (b2, Obj.cells #[.int .u32 0, .int .u32 0, .int .u32 0, .int .u32 0, .int .u32 0, .int .u32 0, .int .u32 0, .int .u32 0] 31 (0, 0))] := D2.StE.st HL.1
      clear HL hall
      refine g_sreg [0, 1, 2] (by kernel_rfl) (by kernel_rfl) ?_
      refine s_val (some 162) (.agg #[.int .u32 0, .int .u32 0, .int .u32 0, .int .u32 0, .int .u32 0, .int .u32 0, .int .u32 0, .int .u32 0]) (fun w => by kernel_rfl) (by kernel_rfl) ?_
      refine s_alloc H12 (some 19) 31 (.agg #[.int .u32 0, .int .u32 0, .int .u32 0, .int .u32 0, .int .u32 0, .int .u32 0, .int .u32 0, .int .u32 0]) (by kernel_rfl) (by kernel_rfl) (by kernel_rfl) ?_
      intro b4 w13 H13; clear H12
      refine s_store H13 0 [(b4, Obj.cells #[.int .u32 0, .int .u32 0, .int .u32 0, .int .u32 0, .int .u32 0, .int .u32 0, .int .u32 0, .int .u32 0] 31 (0, 0)), (b3, Obj.cells (Value.cells (arr 8 (list8 q))) 31 (0, 0)), (b, Obj.cells cur 30 (0, 0)), (b1, Obj.cells (Value.cells (arr 8 h)) 31 (0, 0)), (b2, Obj.cells #[.int .u32 0, .int .u32 0, .int .u32 0, .int .u32 0, .int .u32 0, .int .u32 0, .int .u32 0, .int .u32 0] 31 (0, 0))] 31 (.tmp 19) (.tmp 162) b4 (0) #[.int .u32 0, .int .u32 0, .int .u32 0, .int .u32 0, .int .u32 0, .int .u32 0, .int .u32 0, .int .u32 0] #[.int .u32 0, .int .u32 0, .int .u32 0, .int .u32 0, .int .u32 0, .int .u32 0, .int .u32 0, .int .u32 0] 31 (.agg #[.int .u32 0, .int .u32 0, .int .u32 0, .int .u32 0, .int .u32 0, .int .u32 0, .int .u32 0, .int .u32 0]) (by kernel_rfl) (by kernel_rfl) (by kernel_rfl) (by kernel_rfl) (by kernel_rfl) (by kernel_rfl) (of_decide_eq_true (by kernel_rfl)) (by kernel_rfl) (by kernel_rfl) ?_
      intro w14 H14; clear H13
      refine s_nil ?_
      refine g_seq (by kernel_rfl) ?_
      refine g_sreg [0] (by kernel_rfl) (by kernel_rfl) ?_
      refine s_val (some 20) (.int .i64 1) (fun w => by kernel_rfl) (by kernel_rfl) ?_
      refine s_nil ?_
      refine g_block 6 (by kernel_rfl) ?_
      refine g_first (by kernel_rfl) ?_
      refine g_seq (by kernel_rfl) ?_
      refine g_sreg [0, 1] (by kernel_rfl) (by kernel_rfl) ?_
      refine s_val (some 163) (.int .i64 1) (fun w => by kernel_rfl) (by kernel_rfl) ?_
      refine s_val (some 164) (.bool true) (fun w => by kernel_rfl) (by kernel_rfl) ?_
      refine s_nil ?_
      refine g_cond_t (by kernel_rfl) (by kernel_rfl) ?_
      refine g_skip (by kernel_rfl) ?_
      show WP _ _ _ _ _ _
      refine g_seq (by kernel_rfl) ?_
      refine g_block 7 (by kernel_rfl) ?_
      refine g_reg0 [0, 1, 2, 3, 4, 5, 6] (by kernel_rfl) ?_
      refine s_val (some 167) (.int .i64 1) (fun w => by kernel_rfl) (by kernel_rfl) ?_
      refine s_val (some 168) (.int .i64 1) (fun w => by kernel_rfl) (by kernel_rfl) ?_
      refine s_val (some 169) (.int .i64 0) (fun w => by kernel_rfl) (by kernel_rfl) ?_
      refine s_val (some 170) (.pointer (some ⟨b3, 0, none⟩)) (fun w => by kernel_rfl) (by kernel_rfl) ?_
      refine s_load1 H14 (some 171) 30 (.tmp 170) 1 b3 0 (Value.cells (arr 8 (list8 q))) 31 (0, 0) (.int .u32 ((BitVec.toNat (S8.a q) : Nat) : Int)) (by kernel_rfl) (by kernel_rfl) (by kernel_rfl) (by kernel_rfl) (by kernel_rfl) (by kernel_rfl) ?_
      refine s_val (some 172) (.pointer (some ⟨b4, 1, none⟩)) (fun w => by kernel_rfl) (by kernel_rfl) ?_
      refine s_store H14 0 [(b4, Obj.cells #[.int .u32 0, .int .u32 ((BitVec.toNat (S8.a q) : Nat) : Int), .int .u32 0, .int .u32 0, .int .u32 0, .int .u32 0, .int .u32 0, .int .u32 0] 31 (0, 0)), (b3, Obj.cells (Value.cells (arr 8 (list8 q))) 31 (0, 0)), (b, Obj.cells cur 30 (0, 0)), (b1, Obj.cells (Value.cells (arr 8 h)) 31 (0, 0)), (b2, Obj.cells #[.int .u32 0, .int .u32 0, .int .u32 0, .int .u32 0, .int .u32 0, .int .u32 0, .int .u32 0, .int .u32 0] 31 (0, 0))] 30 (.tmp 172) (.tmp 171) b4 (1) #[.int .u32 0, .int .u32 0, .int .u32 0, .int .u32 0, .int .u32 0, .int .u32 0, .int .u32 0, .int .u32 0] #[.int .u32 0, .int .u32 ((BitVec.toNat (S8.a q) : Nat) : Int), .int .u32 0, .int .u32 0, .int .u32 0, .int .u32 0, .int .u32 0, .int .u32 0] 31 (.int .u32 ((BitVec.toNat (S8.a q) : Nat) : Int)) (by kernel_rfl) (by kernel_rfl) (by kernel_rfl) (by kernel_rfl) (by kernel_rfl) (by kernel_rfl) (of_decide_eq_true (by kernel_rfl)) (by kernel_rfl) (by kernel_rfl) ?_
      intro w15 H15; clear H14
      refine s_nil ?_
      show WP _ _ _ _ _ _
      refine g_reg0 [0, 1, 2] (by kernel_rfl) ?_
      refine s_val (some 165) (.int .i64 1) (fun w => by kernel_rfl) (by kernel_rfl) ?_
      refine s_val (some 166) (.int .i64 2) (fun w => by kernel_rfl) (by kernel_rfl) ?_
      refine s_val (some 20) (.int .i64 2) (fun w => by kernel_rfl) (by kernel_rfl) ?_
      refine s_nil ?_
      show WPL _ _ _ _ _ _
      refine g_next ?_
      refine g_seq (by kernel_rfl) ?_
      refine g_sreg [0, 1] (by kernel_rfl) (by kernel_rfl) ?_
      refine s_val (some 163) (.int .i64 2) (fun w => by kernel_rfl) (by kernel_rfl) ?_
      refine s_val (some 164) (.bool true) (fun w => by kernel_rfl) (by kernel_rfl) ?_
      refine s_nil ?_
      refine g_cond_t (by kernel_rfl) (by kernel_rfl) ?_
      refine g_skip (by kernel_rfl) ?_
      show WP _ _ _ _ _ _
      refine g_seq (by kernel_rfl) ?_
      refine g_block 7 (by kernel_rfl) ?_
      refine g_reg0 [0, 1, 2, 3, 4, 5, 6] (by kernel_rfl) ?_
      refine s_val (some 167) (.int .i64 2) (fun w => by kernel_rfl) (by kernel_rfl) ?_
      refine s_val (some 168) (.int .i64 2) (fun w => by kernel_rfl) (by kernel_rfl) ?_
      refine s_val (some 169) (.int .i64 1) (fun w => by kernel_rfl) (by kernel_rfl) ?_
      refine s_val (some 170) (.pointer (some ⟨b3, 1, none⟩)) (fun w => by kernel_rfl) (by kernel_rfl) ?_
      refine s_load1 H15 (some 171) 30 (.tmp 170) 1 b3 1 (Value.cells (arr 8 (list8 q))) 31 (0, 0) (.int .u32 ((BitVec.toNat (S8.b q) : Nat) : Int)) (by kernel_rfl) (by kernel_rfl) (by kernel_rfl) (by kernel_rfl) (by kernel_rfl) (by kernel_rfl) ?_
      refine s_val (some 172) (.pointer (some ⟨b4, 2, none⟩)) (fun w => by kernel_rfl) (by kernel_rfl) ?_
      refine s_store H15 0 [(b4, Obj.cells #[.int .u32 0, .int .u32 ((BitVec.toNat (S8.a q) : Nat) : Int), .int .u32 ((BitVec.toNat (S8.b q) : Nat) : Int), .int .u32 0, .int .u32 0, .int .u32 0, .int .u32 0, .int .u32 0] 31 (0, 0)), (b3, Obj.cells (Value.cells (arr 8 (list8 q))) 31 (0, 0)), (b, Obj.cells cur 30 (0, 0)), (b1, Obj.cells (Value.cells (arr 8 h)) 31 (0, 0)), (b2, Obj.cells #[.int .u32 0, .int .u32 0, .int .u32 0, .int .u32 0, .int .u32 0, .int .u32 0, .int .u32 0, .int .u32 0] 31 (0, 0))] 30 (.tmp 172) (.tmp 171) b4 (2) #[.int .u32 0, .int .u32 ((BitVec.toNat (S8.a q) : Nat) : Int), .int .u32 0, .int .u32 0, .int .u32 0, .int .u32 0, .int .u32 0, .int .u32 0] #[.int .u32 0, .int .u32 ((BitVec.toNat (S8.a q) : Nat) : Int), .int .u32 ((BitVec.toNat (S8.b q) : Nat) : Int), .int .u32 0, .int .u32 0, .int .u32 0, .int .u32 0, .int .u32 0] 31 (.int .u32 ((BitVec.toNat (S8.b q) : Nat) : Int)) (by kernel_rfl) (by kernel_rfl) (by kernel_rfl) (by kernel_rfl) (by kernel_rfl) (by kernel_rfl) (of_decide_eq_true (by kernel_rfl)) (by kernel_rfl) (by kernel_rfl) ?_
      intro w16 H16; clear H15
      refine s_nil ?_
      show WP _ _ _ _ _ _
      refine g_reg0 [0, 1, 2] (by kernel_rfl) ?_
      refine s_val (some 165) (.int .i64 2) (fun w => by kernel_rfl) (by kernel_rfl) ?_
      refine s_val (some 166) (.int .i64 3) (fun w => by kernel_rfl) (by kernel_rfl) ?_
      refine s_val (some 20) (.int .i64 3) (fun w => by kernel_rfl) (by kernel_rfl) ?_
      refine s_nil ?_
      show WPL _ _ _ _ _ _
      refine g_next ?_
      refine g_seq (by kernel_rfl) ?_
      refine g_sreg [0, 1] (by kernel_rfl) (by kernel_rfl) ?_
      refine s_val (some 163) (.int .i64 3) (fun w => by kernel_rfl) (by kernel_rfl) ?_
      refine s_val (some 164) (.bool true) (fun w => by kernel_rfl) (by kernel_rfl) ?_
      refine s_nil ?_
      refine g_cond_t (by kernel_rfl) (by kernel_rfl) ?_
      refine g_skip (by kernel_rfl) ?_
      show WP _ _ _ _ _ _
      refine g_seq (by kernel_rfl) ?_
      refine g_block 7 (by kernel_rfl) ?_
      refine g_reg0 [0, 1, 2, 3, 4, 5, 6] (by kernel_rfl) ?_
      refine s_val (some 167) (.int .i64 3) (fun w => by kernel_rfl) (by kernel_rfl) ?_
      refine s_val (some 168) (.int .i64 3) (fun w => by kernel_rfl) (by kernel_rfl) ?_
      refine s_val (some 169) (.int .i64 2) (fun w => by kernel_rfl) (by kernel_rfl) ?_
      refine s_val (some 170) (.pointer (some ⟨b3, 2, none⟩)) (fun w => by kernel_rfl) (by kernel_rfl) ?_
      refine s_load1 H16 (some 171) 30 (.tmp 170) 1 b3 2 (Value.cells (arr 8 (list8 q))) 31 (0, 0) (.int .u32 ((BitVec.toNat (S8.c q) : Nat) : Int)) (by kernel_rfl) (by kernel_rfl) (by kernel_rfl) (by kernel_rfl) (by kernel_rfl) (by kernel_rfl) ?_
      refine s_val (some 172) (.pointer (some ⟨b4, 3, none⟩)) (fun w => by kernel_rfl) (by kernel_rfl) ?_
      refine s_store H16 0 [(b4, Obj.cells #[.int .u32 0, .int .u32 ((BitVec.toNat (S8.a q) : Nat) : Int), .int .u32 ((BitVec.toNat (S8.b q) : Nat) : Int), .int .u32 ((BitVec.toNat (S8.c q) : Nat) : Int), .int .u32 0, .int .u32 0, .int .u32 0, .int .u32 0] 31 (0, 0)), (b3, Obj.cells (Value.cells (arr 8 (list8 q))) 31 (0, 0)), (b, Obj.cells cur 30 (0, 0)), (b1, Obj.cells (Value.cells (arr 8 h)) 31 (0, 0)), (b2, Obj.cells #[.int .u32 0, .int .u32 0, .int .u32 0, .int .u32 0, .int .u32 0, .int .u32 0, .int .u32 0, .int .u32 0] 31 (0, 0))] 30 (.tmp 172) (.tmp 171) b4 (3) #[.int .u32 0, .int .u32 ((BitVec.toNat (S8.a q) : Nat) : Int), .int .u32 ((BitVec.toNat (S8.b q) : Nat) : Int), .int .u32 0, .int .u32 0, .int .u32 0, .int .u32 0, .int .u32 0] #[.int .u32 0, .int .u32 ((BitVec.toNat (S8.a q) : Nat) : Int), .int .u32 ((BitVec.toNat (S8.b q) : Nat) : Int), .int .u32 ((BitVec.toNat (S8.c q) : Nat) : Int), .int .u32 0, .int .u32 0, .int .u32 0, .int .u32 0] 31 (.int .u32 ((BitVec.toNat (S8.c q) : Nat) : Int)) (by kernel_rfl) (by kernel_rfl) (by kernel_rfl) (by kernel_rfl) (by kernel_rfl) (by kernel_rfl) (of_decide_eq_true (by kernel_rfl)) (by kernel_rfl) (by kernel_rfl) ?_
      intro w17 H17; clear H16
      refine s_nil ?_
      show WP _ _ _ _ _ _
      refine g_reg0 [0, 1, 2] (by kernel_rfl) ?_
      refine s_val (some 165) (.int .i64 3) (fun w => by kernel_rfl) (by kernel_rfl) ?_
      refine s_val (some 166) (.int .i64 4) (fun w => by kernel_rfl) (by kernel_rfl) ?_
      refine s_val (some 20) (.int .i64 4) (fun w => by kernel_rfl) (by kernel_rfl) ?_
      refine s_nil ?_
      show WPL _ _ _ _ _ _
      refine g_next ?_
      refine g_seq (by kernel_rfl) ?_
      refine g_sreg [0, 1] (by kernel_rfl) (by kernel_rfl) ?_
      refine s_val (some 163) (.int .i64 4) (fun w => by kernel_rfl) (by kernel_rfl) ?_
      refine s_val (some 164) (.bool true) (fun w => by kernel_rfl) (by kernel_rfl) ?_
      refine s_nil ?_
      refine g_cond_t (by kernel_rfl) (by kernel_rfl) ?_
      refine g_skip (by kernel_rfl) ?_
      show WP _ _ _ _ _ _
      refine g_seq (by kernel_rfl) ?_
      refine g_block 7 (by kernel_rfl) ?_
      refine g_reg0 [0, 1, 2, 3, 4, 5, 6] (by kernel_rfl) ?_
      refine s_val (some 167) (.int .i64 4) (fun w => by kernel_rfl) (by kernel_rfl) ?_
      refine s_val (some 168) (.int .i64 4) (fun w => by kernel_rfl) (by kernel_rfl) ?_
      refine s_val (some 169) (.int .i64 3) (fun w => by kernel_rfl) (by kernel_rfl) ?_
      refine s_val (some 170) (.pointer (some ⟨b3, 3, none⟩)) (fun w => by kernel_rfl) (by kernel_rfl) ?_
      refine s_load1 H17 (some 171) 30 (.tmp 170) 1 b3 3 (Value.cells (arr 8 (list8 q))) 31 (0, 0) (.int .u32 ((BitVec.toNat (S8.d q) : Nat) : Int)) (by kernel_rfl) (by kernel_rfl) (by kernel_rfl) (by kernel_rfl) (by kernel_rfl) (by kernel_rfl) ?_
      refine s_val (some 172) (.pointer (some ⟨b4, 4, none⟩)) (fun w => by kernel_rfl) (by kernel_rfl) ?_
      refine s_store H17 0 [(b4, Obj.cells #[.int .u32 0, .int .u32 ((BitVec.toNat (S8.a q) : Nat) : Int), .int .u32 ((BitVec.toNat (S8.b q) : Nat) : Int), .int .u32 ((BitVec.toNat (S8.c q) : Nat) : Int), .int .u32 ((BitVec.toNat (S8.d q) : Nat) : Int), .int .u32 0, .int .u32 0, .int .u32 0] 31 (0, 0)), (b3, Obj.cells (Value.cells (arr 8 (list8 q))) 31 (0, 0)), (b, Obj.cells cur 30 (0, 0)), (b1, Obj.cells (Value.cells (arr 8 h)) 31 (0, 0)), (b2, Obj.cells #[.int .u32 0, .int .u32 0, .int .u32 0, .int .u32 0, .int .u32 0, .int .u32 0, .int .u32 0, .int .u32 0] 31 (0, 0))] 30 (.tmp 172) (.tmp 171) b4 (4) #[.int .u32 0, .int .u32 ((BitVec.toNat (S8.a q) : Nat) : Int), .int .u32 ((BitVec.toNat (S8.b q) : Nat) : Int), .int .u32 ((BitVec.toNat (S8.c q) : Nat) : Int), .int .u32 0, .int .u32 0, .int .u32 0, .int .u32 0] #[.int .u32 0, .int .u32 ((BitVec.toNat (S8.a q) : Nat) : Int), .int .u32 ((BitVec.toNat (S8.b q) : Nat) : Int), .int .u32 ((BitVec.toNat (S8.c q) : Nat) : Int), .int .u32 ((BitVec.toNat (S8.d q) : Nat) : Int), .int .u32 0, .int .u32 0, .int .u32 0] 31 (.int .u32 ((BitVec.toNat (S8.d q) : Nat) : Int)) (by kernel_rfl) (by kernel_rfl) (by kernel_rfl) (by kernel_rfl) (by kernel_rfl) (by kernel_rfl) (of_decide_eq_true (by kernel_rfl)) (by kernel_rfl) (by kernel_rfl) ?_
      intro w18 H18; clear H17
      refine s_nil ?_
      show WP _ _ _ _ _ _
      refine g_reg0 [0, 1, 2] (by kernel_rfl) ?_
      refine s_val (some 165) (.int .i64 4) (fun w => by kernel_rfl) (by kernel_rfl) ?_
      refine s_val (some 166) (.int .i64 5) (fun w => by kernel_rfl) (by kernel_rfl) ?_
      refine s_val (some 20) (.int .i64 5) (fun w => by kernel_rfl) (by kernel_rfl) ?_
      refine s_nil ?_
      show WPL _ _ _ _ _ _
      refine g_next ?_
      refine g_seq (by kernel_rfl) ?_
      refine g_sreg [0, 1] (by kernel_rfl) (by kernel_rfl) ?_
      refine s_val (some 163) (.int .i64 5) (fun w => by kernel_rfl) (by kernel_rfl) ?_
      refine s_val (some 164) (.bool true) (fun w => by kernel_rfl) (by kernel_rfl) ?_
      refine s_nil ?_
      refine g_cond_t (by kernel_rfl) (by kernel_rfl) ?_
      refine g_skip (by kernel_rfl) ?_
      show WP _ _ _ _ _ _
      refine g_seq (by kernel_rfl) ?_
      refine g_block 7 (by kernel_rfl) ?_
      refine g_reg0 [0, 1, 2, 3, 4, 5, 6] (by kernel_rfl) ?_
      refine s_val (some 167) (.int .i64 5) (fun w => by kernel_rfl) (by kernel_rfl) ?_
      refine s_val (some 168) (.int .i64 5) (fun w => by kernel_rfl) (by kernel_rfl) ?_
      refine s_val (some 169) (.int .i64 4) (fun w => by kernel_rfl) (by kernel_rfl) ?_
      refine s_val (some 170) (.pointer (some ⟨b3, 4, none⟩)) (fun w => by kernel_rfl) (by kernel_rfl) ?_
      refine s_load1 H18 (some 171) 30 (.tmp 170) 1 b3 4 (Value.cells (arr 8 (list8 q))) 31 (0, 0) (.int .u32 ((BitVec.toNat (S8.e q) : Nat) : Int)) (by kernel_rfl) (by kernel_rfl) (by kernel_rfl) (by kernel_rfl) (by kernel_rfl) (by kernel_rfl) ?_
      refine s_val (some 172) (.pointer (some ⟨b4, 5, none⟩)) (fun w => by kernel_rfl) (by kernel_rfl) ?_
      refine s_store H18 0 [(b4, Obj.cells #[.int .u32 0, .int .u32 ((BitVec.toNat (S8.a q) : Nat) : Int), .int .u32 ((BitVec.toNat (S8.b q) : Nat) : Int), .int .u32 ((BitVec.toNat (S8.c q) : Nat) : Int), .int .u32 ((BitVec.toNat (S8.d q) : Nat) : Int), .int .u32 ((BitVec.toNat (S8.e q) : Nat) : Int), .int .u32 0, .int .u32 0] 31 (0, 0)), (b3, Obj.cells (Value.cells (arr 8 (list8 q))) 31 (0, 0)), (b, Obj.cells cur 30 (0, 0)), (b1, Obj.cells (Value.cells (arr 8 h)) 31 (0, 0)), (b2, Obj.cells #[.int .u32 0, .int .u32 0, .int .u32 0, .int .u32 0, .int .u32 0, .int .u32 0, .int .u32 0, .int .u32 0] 31 (0, 0))] 30 (.tmp 172) (.tmp 171) b4 (5) #[.int .u32 0, .int .u32 ((BitVec.toNat (S8.a q) : Nat) : Int), .int .u32 ((BitVec.toNat (S8.b q) : Nat) : Int), .int .u32 ((BitVec.toNat (S8.c q) : Nat) : Int), .int .u32 ((BitVec.toNat (S8.d q) : Nat) : Int), .int .u32 0, .int .u32 0, .int .u32 0] #[.int .u32 0, .int .u32 ((BitVec.toNat (S8.a q) : Nat) : Int), .int .u32 ((BitVec.toNat (S8.b q) : Nat) : Int), .int .u32 ((BitVec.toNat (S8.c q) : Nat) : Int), .int .u32 ((BitVec.toNat (S8.d q) : Nat) : Int), .int .u32 ((BitVec.toNat (S8.e q) : Nat) : Int), .int .u32 0, .int .u32 0] 31 (.int .u32 ((BitVec.toNat (S8.e q) : Nat) : Int)) (by kernel_rfl) (by kernel_rfl) (by kernel_rfl) (by kernel_rfl) (by kernel_rfl) (by kernel_rfl) (of_decide_eq_true (by kernel_rfl)) (by kernel_rfl) (by kernel_rfl) ?_
      intro w19 H19; clear H18
      refine s_nil ?_
      show WP _ _ _ _ _ _
      refine g_reg0 [0, 1, 2] (by kernel_rfl) ?_
      refine s_val (some 165) (.int .i64 5) (fun w => by kernel_rfl) (by kernel_rfl) ?_
      refine s_val (some 166) (.int .i64 6) (fun w => by kernel_rfl) (by kernel_rfl) ?_
      refine s_val (some 20) (.int .i64 6) (fun w => by kernel_rfl) (by kernel_rfl) ?_
      refine s_nil ?_
      show WPL _ _ _ _ _ _
      refine g_next ?_
      refine g_seq (by kernel_rfl) ?_
      refine g_sreg [0, 1] (by kernel_rfl) (by kernel_rfl) ?_
      refine s_val (some 163) (.int .i64 6) (fun w => by kernel_rfl) (by kernel_rfl) ?_
      refine s_val (some 164) (.bool true) (fun w => by kernel_rfl) (by kernel_rfl) ?_
      refine s_nil ?_
      refine g_cond_t (by kernel_rfl) (by kernel_rfl) ?_
      refine g_skip (by kernel_rfl) ?_
      show WP _ _ _ _ _ _
      refine g_seq (by kernel_rfl) ?_
      refine g_block 7 (by kernel_rfl) ?_
      refine g_reg0 [0, 1, 2, 3, 4, 5, 6] (by kernel_rfl) ?_
      refine s_val (some 167) (.int .i64 6) (fun w => by kernel_rfl) (by kernel_rfl) ?_
      refine s_val (some 168) (.int .i64 6) (fun w => by kernel_rfl) (by kernel_rfl) ?_
      refine s_val (some 169) (.int .i64 5) (fun w => by kernel_rfl) (by kernel_rfl) ?_
      refine s_val (some 170) (.pointer (some ⟨b3, 5, none⟩)) (fun w => by kernel_rfl) (by kernel_rfl) ?_
      refine s_load1 H19 (some 171) 30 (.tmp 170) 1 b3 5 (Value.cells (arr 8 (list8 q))) 31 (0, 0) (.int .u32 ((BitVec.toNat (S8.f q) : Nat) : Int)) (by kernel_rfl) (by kernel_rfl) (by kernel_rfl) (by kernel_rfl) (by kernel_rfl) (by kernel_rfl) ?_
      refine s_val (some 172) (.pointer (some ⟨b4, 6, none⟩)) (fun w => by kernel_rfl) (by kernel_rfl) ?_
      refine s_store H19 0 [(b4, Obj.cells #[.int .u32 0, .int .u32 ((BitVec.toNat (S8.a q) : Nat) : Int), .int .u32 ((BitVec.toNat (S8.b q) : Nat) : Int), .int .u32 ((BitVec.toNat (S8.c q) : Nat) : Int), .int .u32 ((BitVec.toNat (S8.d q) : Nat) : Int), .int .u32 ((BitVec.toNat (S8.e q) : Nat) : Int), .int .u32 ((BitVec.toNat (S8.f q) : Nat) : Int), .int .u32 0] 31 (0, 0)), (b3, Obj.cells (Value.cells (arr 8 (list8 q))) 31 (0, 0)), (b, Obj.cells cur 30 (0, 0)), (b1, Obj.cells (Value.cells (arr 8 h)) 31 (0, 0)), (b2, Obj.cells #[.int .u32 0, .int .u32 0, .int .u32 0, .int .u32 0, .int .u32 0, .int .u32 0, .int .u32 0, .int .u32 0] 31 (0, 0))] 30 (.tmp 172) (.tmp 171) b4 (6) #[.int .u32 0, .int .u32 ((BitVec.toNat (S8.a q) : Nat) : Int), .int .u32 ((BitVec.toNat (S8.b q) : Nat) : Int), .int .u32 ((BitVec.toNat (S8.c q) : Nat) : Int), .int .u32 ((BitVec.toNat (S8.d q) : Nat) : Int), .int .u32 ((BitVec.toNat (S8.e q) : Nat) : Int), .int .u32 0, .int .u32 0] #[.int .u32 0, .int .u32 ((BitVec.toNat (S8.a q) : Nat) : Int), .int .u32 ((BitVec.toNat (S8.b q) : Nat) : Int), .int .u32 ((BitVec.toNat (S8.c q) : Nat) : Int), .int .u32 ((BitVec.toNat (S8.d q) : Nat) : Int), .int .u32 ((BitVec.toNat (S8.e q) : Nat) : Int), .int .u32 ((BitVec.toNat (S8.f q) : Nat) : Int), .int .u32 0] 31 (.int .u32 ((BitVec.toNat (S8.f q) : Nat) : Int)) (by kernel_rfl) (by kernel_rfl) (by kernel_rfl) (by kernel_rfl) (by kernel_rfl) (by kernel_rfl) (of_decide_eq_true (by kernel_rfl)) (by kernel_rfl) (by kernel_rfl) ?_
      intro w20 H20; clear H19
      refine s_nil ?_
      show WP _ _ _ _ _ _
      refine g_reg0 [0, 1, 2] (by kernel_rfl) ?_
      refine s_val (some 165) (.int .i64 6) (fun w => by kernel_rfl) (by kernel_rfl) ?_
      refine s_val (some 166) (.int .i64 7) (fun w => by kernel_rfl) (by kernel_rfl) ?_
      refine s_val (some 20) (.int .i64 7) (fun w => by kernel_rfl) (by kernel_rfl) ?_
      refine s_nil ?_
      show WPL _ _ _ _ _ _
      refine g_next ?_
      refine g_seq (by kernel_rfl) ?_
      refine g_sreg [0, 1] (by kernel_rfl) (by kernel_rfl) ?_
      refine s_val (some 163) (.int .i64 7) (fun w => by kernel_rfl) (by kernel_rfl) ?_
      refine s_val (some 164) (.bool true) (fun w => by kernel_rfl) (by kernel_rfl) ?_
      refine s_nil ?_
      refine g_cond_t (by kernel_rfl) (by kernel_rfl) ?_
      refine g_skip (by kernel_rfl) ?_
      show WP _ _ _ _ _ _
      refine g_seq (by kernel_rfl) ?_
      refine g_block 7 (by kernel_rfl) ?_
      refine g_reg0 [0, 1, 2, 3, 4, 5, 6] (by kernel_rfl) ?_
      refine s_val (some 167) (.int .i64 7) (fun w => by kernel_rfl) (by kernel_rfl) ?_
      refine s_val (some 168) (.int .i64 7) (fun w => by kernel_rfl) (by kernel_rfl) ?_
      refine s_val (some 169) (.int .i64 6) (fun w => by kernel_rfl) (by kernel_rfl) ?_
      refine s_val (some 170) (.pointer (some ⟨b3, 6, none⟩)) (fun w => by kernel_rfl) (by kernel_rfl) ?_
      refine s_load1 H20 (some 171) 30 (.tmp 170) 1 b3 6 (Value.cells (arr 8 (list8 q))) 31 (0, 0) (.int .u32 ((BitVec.toNat (S8.g q) : Nat) : Int)) (by kernel_rfl) (by kernel_rfl) (by kernel_rfl) (by kernel_rfl) (by kernel_rfl) (by kernel_rfl) ?_
      refine s_val (some 172) (.pointer (some ⟨b4, 7, none⟩)) (fun w => by kernel_rfl) (by kernel_rfl) ?_
      refine s_store H20 0 [(b4, Obj.cells #[.int .u32 0, .int .u32 ((BitVec.toNat (S8.a q) : Nat) : Int), .int .u32 ((BitVec.toNat (S8.b q) : Nat) : Int), .int .u32 ((BitVec.toNat (S8.c q) : Nat) : Int), .int .u32 ((BitVec.toNat (S8.d q) : Nat) : Int), .int .u32 ((BitVec.toNat (S8.e q) : Nat) : Int), .int .u32 ((BitVec.toNat (S8.f q) : Nat) : Int), .int .u32 ((BitVec.toNat (S8.g q) : Nat) : Int)] 31 (0, 0)), (b3, Obj.cells (Value.cells (arr 8 (list8 q))) 31 (0, 0)), (b, Obj.cells cur 30 (0, 0)), (b1, Obj.cells (Value.cells (arr 8 h)) 31 (0, 0)), (b2, Obj.cells #[.int .u32 0, .int .u32 0, .int .u32 0, .int .u32 0, .int .u32 0, .int .u32 0, .int .u32 0, .int .u32 0] 31 (0, 0))] 30 (.tmp 172) (.tmp 171) b4 (7) #[.int .u32 0, .int .u32 ((BitVec.toNat (S8.a q) : Nat) : Int), .int .u32 ((BitVec.toNat (S8.b q) : Nat) : Int), .int .u32 ((BitVec.toNat (S8.c q) : Nat) : Int), .int .u32 ((BitVec.toNat (S8.d q) : Nat) : Int), .int .u32 ((BitVec.toNat (S8.e q) : Nat) : Int), .int .u32 ((BitVec.toNat (S8.f q) : Nat) : Int), .int .u32 0] #[.int .u32 0, .int .u32 ((BitVec.toNat (S8.a q) : Nat) : Int), .int .u32 ((BitVec.toNat (S8.b q) : Nat) : Int), .int .u32 ((BitVec.toNat (S8.c q) : Nat) : Int), .int .u32 ((BitVec.toNat (S8.d q) : Nat) : Int), .int .u32 ((BitVec.toNat (S8.e q) : Nat) : Int), .int .u32 ((BitVec.toNat (S8.f q) : Nat) : Int), .int .u32 ((BitVec.toNat (S8.g q) : Nat) : Int)] 31 (.int .u32 ((BitVec.toNat (S8.g q) : Nat) : Int)) (by kernel_rfl) (by kernel_rfl) (by kernel_rfl) (by kernel_rfl) (by kernel_rfl) (by kernel_rfl) (of_decide_eq_true (by kernel_rfl)) (by kernel_rfl) (by kernel_rfl) ?_
      intro w21 H21; clear H20
      refine s_nil ?_
      show WP _ _ _ _ _ _
      refine g_reg0 [0, 1, 2] (by kernel_rfl) ?_
      refine s_val (some 165) (.int .i64 7) (fun w => by kernel_rfl) (by kernel_rfl) ?_
      refine s_val (some 166) (.int .i64 8) (fun w => by kernel_rfl) (by kernel_rfl) ?_
      refine s_val (some 20) (.int .i64 8) (fun w => by kernel_rfl) (by kernel_rfl) ?_
      refine s_nil ?_
      show WPL _ _ _ _ _ _
      refine g_next ?_
      refine g_seq (by kernel_rfl) ?_
      refine g_sreg [0, 1] (by kernel_rfl) (by kernel_rfl) ?_
      refine s_val (some 163) (.int .i64 8) (fun w => by kernel_rfl) (by kernel_rfl) ?_
      refine s_val (some 164) (.bool false) (fun w => by kernel_rfl) (by kernel_rfl) ?_
      refine s_nil ?_
      refine g_cond_f (by kernel_rfl) (by kernel_rfl) ?_
      refine g_exit 6 (by kernel_rfl) ?_
      show WP _ _ _ _ _ _
      refine g_sreg [0, 1, 2, 3, 4] (by kernel_rfl) (by kernel_rfl) ?_
      refine s_val (some 173) (.int .u32 ((BitVec.toNat (((((S8.h q) + (((rr (S8.e q) 6) ^^^ (rr (S8.e q) 11)) ^^^ (rr (S8.e q) 25))) + (((S8.e q) &&& (S8.f q)) ||| ((~~~(S8.e q)) &&& (S8.g q)))) + (List.getD roots u 0)) + (List.getD (GG s) u 0)) : Nat) : Int)) (fun w => by kernel_rfl) (by kernel_rfl) ?_
      refine s_val (some 174) (.int .u32 ((BitVec.toNat ((((rr (S8.a q) 2) ^^^ (rr (S8.a q) 13)) ^^^ (rr (S8.a q) 22)) + ((((S8.a q) &&& (S8.b q)) ||| ((S8.a q) &&& (S8.c q))) ||| ((S8.b q) &&& (S8.c q)))) : Nat) : Int)) (fun w => by kernel_rfl) (by kernel_rfl) ?_
      refine s_valE (some 175) (.int .u32 (IntKind.u32.wrap ((((BitVec.toNat (((((S8.h q) + (((rr (S8.e q) 6) ^^^ (rr (S8.e q) 11)) ^^^ (rr (S8.e q) 25))) + (((S8.e q) &&& (S8.f q)) ||| ((~~~(S8.e q)) &&& (S8.g q)))) + (List.getD roots u 0)) + (List.getD (GG s) u 0)) : Nat) : Int)) + (((BitVec.toNat ((((rr (S8.a q) 2) ^^^ (rr (S8.a q) 13)) ^^^ (rr (S8.a q) 22)) + ((((S8.a q) &&& (S8.b q)) ||| ((S8.a q) &&& (S8.c q))) ||| ((S8.b q) &&& (S8.c q)))) : Nat) : Int))))) (.int .u32 ((BitVec.toNat ((((((S8.h q) + (((rr (S8.e q) 6) ^^^ (rr (S8.e q) 11)) ^^^ (rr (S8.e q) 25))) + (((S8.e q) &&& (S8.f q)) ||| ((~~~(S8.e q)) &&& (S8.g q)))) + (List.getD roots u 0)) + (List.getD (GG s) u 0)) + ((((rr (S8.a q) 2) ^^^ (rr (S8.a q) 13)) ^^^ (rr (S8.a q) 22)) + ((((S8.a q) &&& (S8.b q)) ||| ((S8.a q) &&& (S8.c q))) ||| ((S8.b q) &&& (S8.c q))))) : Nat) : Int)) (fun w => by kernel_rfl) (bv_add_u32 (((((S8.h q) + (((rr (S8.e q) 6) ^^^ (rr (S8.e q) 11)) ^^^ (rr (S8.e q) 25))) + (((S8.e q) &&& (S8.f q)) ||| ((~~~(S8.e q)) &&& (S8.g q)))) + (List.getD roots u 0)) + (List.getD (GG s) u 0)) ((((rr (S8.a q) 2) ^^^ (rr (S8.a q) 13)) ^^^ (rr (S8.a q) 22)) + ((((S8.a q) &&& (S8.b q)) ||| ((S8.a q) &&& (S8.c q))) ||| ((S8.b q) &&& (S8.c q))))) (by kernel_rfl) ?_
      refine s_val (some 176) (.pointer (some ⟨b4, 0, none⟩)) (fun w => by kernel_rfl) (by kernel_rfl) ?_
      refine s_store H21 0 [(b4, Obj.cells #[.int .u32 ((BitVec.toNat ((((((S8.h q) + (((rr (S8.e q) 6) ^^^ (rr (S8.e q) 11)) ^^^ (rr (S8.e q) 25))) + (((S8.e q) &&& (S8.f q)) ||| ((~~~(S8.e q)) &&& (S8.g q)))) + (List.getD roots u 0)) + (List.getD (GG s) u 0)) + ((((rr (S8.a q) 2) ^^^ (rr (S8.a q) 13)) ^^^ (rr (S8.a q) 22)) + ((((S8.a q) &&& (S8.b q)) ||| ((S8.a q) &&& (S8.c q))) ||| ((S8.b q) &&& (S8.c q))))) : Nat) : Int), .int .u32 ((BitVec.toNat (S8.a q) : Nat) : Int), .int .u32 ((BitVec.toNat (S8.b q) : Nat) : Int), .int .u32 ((BitVec.toNat (S8.c q) : Nat) : Int), .int .u32 ((BitVec.toNat (S8.d q) : Nat) : Int), .int .u32 ((BitVec.toNat (S8.e q) : Nat) : Int), .int .u32 ((BitVec.toNat (S8.f q) : Nat) : Int), .int .u32 ((BitVec.toNat (S8.g q) : Nat) : Int)] 31 (0, 0)), (b3, Obj.cells (Value.cells (arr 8 (list8 q))) 31 (0, 0)), (b, Obj.cells cur 30 (0, 0)), (b1, Obj.cells (Value.cells (arr 8 h)) 31 (0, 0)), (b2, Obj.cells #[.int .u32 0, .int .u32 0, .int .u32 0, .int .u32 0, .int .u32 0, .int .u32 0, .int .u32 0, .int .u32 0] 31 (0, 0))] 30 (.tmp 176) (.tmp 175) b4 (0) #[.int .u32 0, .int .u32 ((BitVec.toNat (S8.a q) : Nat) : Int), .int .u32 ((BitVec.toNat (S8.b q) : Nat) : Int), .int .u32 ((BitVec.toNat (S8.c q) : Nat) : Int), .int .u32 ((BitVec.toNat (S8.d q) : Nat) : Int), .int .u32 ((BitVec.toNat (S8.e q) : Nat) : Int), .int .u32 ((BitVec.toNat (S8.f q) : Nat) : Int), .int .u32 ((BitVec.toNat (S8.g q) : Nat) : Int)] #[.int .u32 ((BitVec.toNat ((((((S8.h q) + (((rr (S8.e q) 6) ^^^ (rr (S8.e q) 11)) ^^^ (rr (S8.e q) 25))) + (((S8.e q) &&& (S8.f q)) ||| ((~~~(S8.e q)) &&& (S8.g q)))) + (List.getD roots u 0)) + (List.getD (GG s) u 0)) + ((((rr (S8.a q) 2) ^^^ (rr (S8.a q) 13)) ^^^ (rr (S8.a q) 22)) + ((((S8.a q) &&& (S8.b q)) ||| ((S8.a q) &&& (S8.c q))) ||| ((S8.b q) &&& (S8.c q))))) : Nat) : Int), .int .u32 ((BitVec.toNat (S8.a q) : Nat) : Int), .int .u32 ((BitVec.toNat (S8.b q) : Nat) : Int), .int .u32 ((BitVec.toNat (S8.c q) : Nat) : Int), .int .u32 ((BitVec.toNat (S8.d q) : Nat) : Int), .int .u32 ((BitVec.toNat (S8.e q) : Nat) : Int), .int .u32 ((BitVec.toNat (S8.f q) : Nat) : Int), .int .u32 ((BitVec.toNat (S8.g q) : Nat) : Int)] 31 (.int .u32 ((BitVec.toNat ((((((S8.h q) + (((rr (S8.e q) 6) ^^^ (rr (S8.e q) 11)) ^^^ (rr (S8.e q) 25))) + (((S8.e q) &&& (S8.f q)) ||| ((~~~(S8.e q)) &&& (S8.g q)))) + (List.getD roots u 0)) + (List.getD (GG s) u 0)) + ((((rr (S8.a q) 2) ^^^ (rr (S8.a q) 13)) ^^^ (rr (S8.a q) 22)) + ((((S8.a q) &&& (S8.b q)) ||| ((S8.a q) &&& (S8.c q))) ||| ((S8.b q) &&& (S8.c q))))) : Nat) : Int)) (by kernel_rfl) (by kernel_rfl) (by kernel_rfl) (by kernel_rfl) (by kernel_rfl) (by kernel_rfl) (of_decide_eq_true (by kernel_rfl)) (by kernel_rfl) (by kernel_rfl) ?_
      intro w22 H22; clear H21
      refine s_nil ?_
      refine g_sreg [0, 1, 2, 3, 4, 5] (by kernel_rfl) (by kernel_rfl) ?_
      refine s_val (some 177) (.pointer (some ⟨b3, 3, none⟩)) (fun w => by kernel_rfl) (by kernel_rfl) ?_
      refine s_load1 H22 (some 178) 30 (.tmp 177) 1 b3 3 (Value.cells (arr 8 (list8 q))) 31 (0, 0) (.int .u32 ((BitVec.toNat (S8.d q) : Nat) : Int)) (by kernel_rfl) (by kernel_rfl) (by kernel_rfl) (by kernel_rfl) (by kernel_rfl) (by kernel_rfl) ?_
      refine s_val (some 179) (.int .u32 ((BitVec.toNat (((((S8.h q) + (((rr (S8.e q) 6) ^^^ (rr (S8.e q) 11)) ^^^ (rr (S8.e q) 25))) + (((S8.e q) &&& (S8.f q)) ||| ((~~~(S8.e q)) &&& (S8.g q)))) + (List.getD roots u 0)) + (List.getD (GG s) u 0)) : Nat) : Int)) (fun w => by kernel_rfl) (by kernel_rfl) ?_
      refine s_valE (some 180) (.int .u32 (IntKind.u32.wrap ((((BitVec.toNat (S8.d q) : Nat) : Int)) + (((BitVec.toNat (((((S8.h q) + (((rr (S8.e q) 6) ^^^ (rr (S8.e q) 11)) ^^^ (rr (S8.e q) 25))) + (((S8.e q) &&& (S8.f q)) ||| ((~~~(S8.e q)) &&& (S8.g q)))) + (List.getD roots u 0)) + (List.getD (GG s) u 0)) : Nat) : Int))))) (.int .u32 ((BitVec.toNat ((S8.d q) + (((((S8.h q) + (((rr (S8.e q) 6) ^^^ (rr (S8.e q) 11)) ^^^ (rr (S8.e q) 25))) + (((S8.e q) &&& (S8.f q)) ||| ((~~~(S8.e q)) &&& (S8.g q)))) + (List.getD roots u 0)) + (List.getD (GG s) u 0))) : Nat) : Int)) (fun w => by kernel_rfl) (bv_add_u32 (S8.d q) (((((S8.h q) + (((rr (S8.e q) 6) ^^^ (rr (S8.e q) 11)) ^^^ (rr (S8.e q) 25))) + (((S8.e q) &&& (S8.f q)) ||| ((~~~(S8.e q)) &&& (S8.g q)))) + (List.getD roots u 0)) + (List.getD (GG s) u 0))) (by kernel_rfl) ?_
      refine s_val (some 181) (.pointer (some ⟨b4, 4, none⟩)) (fun w => by kernel_rfl) (by kernel_rfl) ?_
      refine s_store H22 0 [(b4, Obj.cells #[.int .u32 ((BitVec.toNat ((((((S8.h q) + (((rr (S8.e q) 6) ^^^ (rr (S8.e q) 11)) ^^^ (rr (S8.e q) 25))) + (((S8.e q) &&& (S8.f q)) ||| ((~~~(S8.e q)) &&& (S8.g q)))) + (List.getD roots u 0)) + (List.getD (GG s) u 0)) + ((((rr (S8.a q) 2) ^^^ (rr (S8.a q) 13)) ^^^ (rr (S8.a q) 22)) + ((((S8.a q) &&& (S8.b q)) ||| ((S8.a q) &&& (S8.c q))) ||| ((S8.b q) &&& (S8.c q))))) : Nat) : Int), .int .u32 ((BitVec.toNat (S8.a q) : Nat) : Int), .int .u32 ((BitVec.toNat (S8.b q) : Nat) : Int), .int .u32 ((BitVec.toNat (S8.c q) : Nat) : Int), .int .u32 ((BitVec.toNat ((S8.d q) + (((((S8.h q) + (((rr (S8.e q) 6) ^^^ (rr (S8.e q) 11)) ^^^ (rr (S8.e q) 25))) + (((S8.e q) &&& (S8.f q)) ||| ((~~~(S8.e q)) &&& (S8.g q)))) + (List.getD roots u 0)) + (List.getD (GG s) u 0))) : Nat) : Int), .int .u32 ((BitVec.toNat (S8.e q) : Nat) : Int), .int .u32 ((BitVec.toNat (S8.f q) : Nat) : Int), .int .u32 ((BitVec.toNat (S8.g q) : Nat) : Int)] 31 (0, 0)), (b3, Obj.cells (Value.cells (arr 8 (list8 q))) 31 (0, 0)), (b, Obj.cells cur 30 (0, 0)), (b1, Obj.cells (Value.cells (arr 8 h)) 31 (0, 0)), (b2, Obj.cells #[.int .u32 0, .int .u32 0, .int .u32 0, .int .u32 0, .int .u32 0, .int .u32 0, .int .u32 0, .int .u32 0] 31 (0, 0))] 30 (.tmp 181) (.tmp 180) b4 (4) #[.int .u32 ((BitVec.toNat ((((((S8.h q) + (((rr (S8.e q) 6) ^^^ (rr (S8.e q) 11)) ^^^ (rr (S8.e q) 25))) + (((S8.e q) &&& (S8.f q)) ||| ((~~~(S8.e q)) &&& (S8.g q)))) + (List.getD roots u 0)) + (List.getD (GG s) u 0)) + ((((rr (S8.a q) 2) ^^^ (rr (S8.a q) 13)) ^^^ (rr (S8.a q) 22)) + ((((S8.a q) &&& (S8.b q)) ||| ((S8.a q) &&& (S8.c q))) ||| ((S8.b q) &&& (S8.c q))))) : Nat) : Int), .int .u32 ((BitVec.toNat (S8.a q) : Nat) : Int), .int .u32 ((BitVec.toNat (S8.b q) : Nat) : Int), .int .u32 ((BitVec.toNat (S8.c q) : Nat) : Int), .int .u32 ((BitVec.toNat (S8.d q) : Nat) : Int), .int .u32 ((BitVec.toNat (S8.e q) : Nat) : Int), .int .u32 ((BitVec.toNat (S8.f q) : Nat) : Int), .int .u32 ((BitVec.toNat (S8.g q) : Nat) : Int)] #[.int .u32 ((BitVec.toNat ((((((S8.h q) + (((rr (S8.e q) 6) ^^^ (rr (S8.e q) 11)) ^^^ (rr (S8.e q) 25))) + (((S8.e q) &&& (S8.f q)) ||| ((~~~(S8.e q)) &&& (S8.g q)))) + (List.getD roots u 0)) + (List.getD (GG s) u 0)) + ((((rr (S8.a q) 2) ^^^ (rr (S8.a q) 13)) ^^^ (rr (S8.a q) 22)) + ((((S8.a q) &&& (S8.b q)) ||| ((S8.a q) &&& (S8.c q))) ||| ((S8.b q) &&& (S8.c q))))) : Nat) : Int), .int .u32 ((BitVec.toNat (S8.a q) : Nat) : Int), .int .u32 ((BitVec.toNat (S8.b q) : Nat) : Int), .int .u32 ((BitVec.toNat (S8.c q) : Nat) : Int), .int .u32 ((BitVec.toNat ((S8.d q) + (((((S8.h q) + (((rr (S8.e q) 6) ^^^ (rr (S8.e q) 11)) ^^^ (rr (S8.e q) 25))) + (((S8.e q) &&& (S8.f q)) ||| ((~~~(S8.e q)) &&& (S8.g q)))) + (List.getD roots u 0)) + (List.getD (GG s) u 0))) : Nat) : Int), .int .u32 ((BitVec.toNat (S8.e q) : Nat) : Int), .int .u32 ((BitVec.toNat (S8.f q) : Nat) : Int), .int .u32 ((BitVec.toNat (S8.g q) : Nat) : Int)] 31 (.int .u32 ((BitVec.toNat ((S8.d q) + (((((S8.h q) + (((rr (S8.e q) 6) ^^^ (rr (S8.e q) 11)) ^^^ (rr (S8.e q) 25))) + (((S8.e q) &&& (S8.f q)) ||| ((~~~(S8.e q)) &&& (S8.g q)))) + (List.getD roots u 0)) + (List.getD (GG s) u 0))) : Nat) : Int)) (by kernel_rfl) (by kernel_rfl) (by kernel_rfl) (by kernel_rfl) (by kernel_rfl) (by kernel_rfl) (of_decide_eq_true (by kernel_rfl)) (by kernel_rfl) (by kernel_rfl) ?_
      intro w23 H23; clear H22
      refine s_nil ?_
      refine g_reg0 [0, 1] (by kernel_rfl) ?_
      refine s_load H23 (some 182) 31 (.tmp 19) 0 b4 #[.int .u32 ((BitVec.toNat ((((((S8.h q) + (((rr (S8.e q) 6) ^^^ (rr (S8.e q) 11)) ^^^ (rr (S8.e q) 25))) + (((S8.e q) &&& (S8.f q)) ||| ((~~~(S8.e q)) &&& (S8.g q)))) + (List.getD roots u 0)) + (List.getD (GG s) u 0)) + ((((rr (S8.a q) 2) ^^^ (rr (S8.a q) 13)) ^^^ (rr (S8.a q) 22)) + ((((S8.a q) &&& (S8.b q)) ||| ((S8.a q) &&& (S8.c q))) ||| ((S8.b q) &&& (S8.c q))))) : Nat) : Int), .int .u32 ((BitVec.toNat (S8.a q) : Nat) : Int), .int .u32 ((BitVec.toNat (S8.b q) : Nat) : Int), .int .u32 ((BitVec.toNat (S8.c q) : Nat) : Int), .int .u32 ((BitVec.toNat ((S8.d q) + (((((S8.h q) + (((rr (S8.e q) 6) ^^^ (rr (S8.e q) 11)) ^^^ (rr (S8.e q) 25))) + (((S8.e q) &&& (S8.f q)) ||| ((~~~(S8.e q)) &&& (S8.g q)))) + (List.getD roots u 0)) + (List.getD (GG s) u 0))) : Nat) : Int), .int .u32 ((BitVec.toNat (S8.e q) : Nat) : Int), .int .u32 ((BitVec.toNat (S8.f q) : Nat) : Int), .int .u32 ((BitVec.toNat (S8.g q) : Nat) : Int)] 31 (0, 0) (by kernel_rfl) (by kernel_rfl) (by kernel_rfl) (by kernel_rfl) (by kernel_rfl) ?_
      refine s_store H23 1 [(b4, Obj.cells #[.int .u32 ((BitVec.toNat ((((((S8.h q) + (((rr (S8.e q) 6) ^^^ (rr (S8.e q) 11)) ^^^ (rr (S8.e q) 25))) + (((S8.e q) &&& (S8.f q)) ||| ((~~~(S8.e q)) &&& (S8.g q)))) + (List.getD roots u 0)) + (List.getD (GG s) u 0)) + ((((rr (S8.a q) 2) ^^^ (rr (S8.a q) 13)) ^^^ (rr (S8.a q) 22)) + ((((S8.a q) &&& (S8.b q)) ||| ((S8.a q) &&& (S8.c q))) ||| ((S8.b q) &&& (S8.c q))))) : Nat) : Int), .int .u32 ((BitVec.toNat (S8.a q) : Nat) : Int), .int .u32 ((BitVec.toNat (S8.b q) : Nat) : Int), .int .u32 ((BitVec.toNat (S8.c q) : Nat) : Int), .int .u32 ((BitVec.toNat ((S8.d q) + (((((S8.h q) + (((rr (S8.e q) 6) ^^^ (rr (S8.e q) 11)) ^^^ (rr (S8.e q) 25))) + (((S8.e q) &&& (S8.f q)) ||| ((~~~(S8.e q)) &&& (S8.g q)))) + (List.getD roots u 0)) + (List.getD (GG s) u 0))) : Nat) : Int), .int .u32 ((BitVec.toNat (S8.e q) : Nat) : Int), .int .u32 ((BitVec.toNat (S8.f q) : Nat) : Int), .int .u32 ((BitVec.toNat (S8.g q) : Nat) : Int)] 31 (0, 0)), (b3, Obj.cells #[.int .u32 ((BitVec.toNat ((((((S8.h q) + (((rr (S8.e q) 6) ^^^ (rr (S8.e q) 11)) ^^^ (rr (S8.e q) 25))) + (((S8.e q) &&& (S8.f q)) ||| ((~~~(S8.e q)) &&& (S8.g q)))) + (List.getD roots u 0)) + (List.getD (GG s) u 0)) + ((((rr (S8.a q) 2) ^^^ (rr (S8.a q) 13)) ^^^ (rr (S8.a q) 22)) + ((((S8.a q) &&& (S8.b q)) ||| ((S8.a q) &&& (S8.c q))) ||| ((S8.b q) &&& (S8.c q))))) : Nat) : Int), .int .u32 ((BitVec.toNat (S8.a q) : Nat) : Int), .int .u32 ((BitVec.toNat (S8.b q) : Nat) : Int), .int .u32 ((BitVec.toNat (S8.c q) : Nat) : Int), .int .u32 ((BitVec.toNat ((S8.d q) + (((((S8.h q) + (((rr (S8.e q) 6) ^^^ (rr (S8.e q) 11)) ^^^ (rr (S8.e q) 25))) + (((S8.e q) &&& (S8.f q)) ||| ((~~~(S8.e q)) &&& (S8.g q)))) + (List.getD roots u 0)) + (List.getD (GG s) u 0))) : Nat) : Int), .int .u32 ((BitVec.toNat (S8.e q) : Nat) : Int), .int .u32 ((BitVec.toNat (S8.f q) : Nat) : Int), .int .u32 ((BitVec.toNat (S8.g q) : Nat) : Int)] 31 (0, 0)), (b, Obj.cells cur 30 (0, 0)), (b1, Obj.cells (Value.cells (arr 8 h)) 31 (0, 0)), (b2, Obj.cells #[.int .u32 0, .int .u32 0, .int .u32 0, .int .u32 0, .int .u32 0, .int .u32 0, .int .u32 0, .int .u32 0] 31 (0, 0))] 31 (.tmp 12) (.tmp 182) b3 (0) (Value.cells (arr 8 (list8 q))) #[.int .u32 ((BitVec.toNat ((((((S8.h q) + (((rr (S8.e q) 6) ^^^ (rr (S8.e q) 11)) ^^^ (rr (S8.e q) 25))) + (((S8.e q) &&& (S8.f q)) ||| ((~~~(S8.e q)) &&& (S8.g q)))) + (List.getD roots u 0)) + (List.getD (GG s) u 0)) + ((((rr (S8.a q) 2) ^^^ (rr (S8.a q) 13)) ^^^ (rr (S8.a q) 22)) + ((((S8.a q) &&& (S8.b q)) ||| ((S8.a q) &&& (S8.c q))) ||| ((S8.b q) &&& (S8.c q))))) : Nat) : Int), .int .u32 ((BitVec.toNat (S8.a q) : Nat) : Int), .int .u32 ((BitVec.toNat (S8.b q) : Nat) : Int), .int .u32 ((BitVec.toNat (S8.c q) : Nat) : Int), .int .u32 ((BitVec.toNat ((S8.d q) + (((((S8.h q) + (((rr (S8.e q) 6) ^^^ (rr (S8.e q) 11)) ^^^ (rr (S8.e q) 25))) + (((S8.e q) &&& (S8.f q)) ||| ((~~~(S8.e q)) &&& (S8.g q)))) + (List.getD roots u 0)) + (List.getD (GG s) u 0))) : Nat) : Int), .int .u32 ((BitVec.toNat (S8.e q) : Nat) : Int), .int .u32 ((BitVec.toNat (S8.f q) : Nat) : Int), .int .u32 ((BitVec.toNat (S8.g q) : Nat) : Int)] 31 (.agg #[.int .u32 ((BitVec.toNat ((((((S8.h q) + (((rr (S8.e q) 6) ^^^ (rr (S8.e q) 11)) ^^^ (rr (S8.e q) 25))) + (((S8.e q) &&& (S8.f q)) ||| ((~~~(S8.e q)) &&& (S8.g q)))) + (List.getD roots u 0)) + (List.getD (GG s) u 0)) + ((((rr (S8.a q) 2) ^^^ (rr (S8.a q) 13)) ^^^ (rr (S8.a q) 22)) + ((((S8.a q) &&& (S8.b q)) ||| ((S8.a q) &&& (S8.c q))) ||| ((S8.b q) &&& (S8.c q))))) : Nat) : Int), .int .u32 ((BitVec.toNat (S8.a q) : Nat) : Int), .int .u32 ((BitVec.toNat (S8.b q) : Nat) : Int), .int .u32 ((BitVec.toNat (S8.c q) : Nat) : Int), .int .u32 ((BitVec.toNat ((S8.d q) + (((((S8.h q) + (((rr (S8.e q) 6) ^^^ (rr (S8.e q) 11)) ^^^ (rr (S8.e q) 25))) + (((S8.e q) &&& (S8.f q)) ||| ((~~~(S8.e q)) &&& (S8.g q)))) + (List.getD roots u 0)) + (List.getD (GG s) u 0))) : Nat) : Int), .int .u32 ((BitVec.toNat (S8.e q) : Nat) : Int), .int .u32 ((BitVec.toNat (S8.f q) : Nat) : Int), .int .u32 ((BitVec.toNat (S8.g q) : Nat) : Int)]) (by kernel_rfl) (by kernel_rfl) (by kernel_rfl) (by kernel_rfl) (by kernel_rfl) (by kernel_rfl) (of_decide_eq_true (by kernel_rfl)) (by kernel_rfl) (by kernel_rfl) ?_
      intro w24 H24; clear H23
      refine s_nil ?_
      show WP _ _ _ _ _ _
      refine g_reg0 [0, 1, 2] (by kernel_rfl) ?_
      refine s_val (some 95) (.int .i64 ((u : Nat) : Int)) (fun w => by kernel_rfl) (by kernel_rfl) ?_
      refine s_valE (some 96) (.int .i64 (IntKind.i64.wrap (((u : Nat) : Int) + 1))) (.int .i64 ((u + 1 : Nat) : Int)) (fun w => by kernel_rfl) (int_eq (wrapAdd_i64 (a := u) (b := 1) (by omega))) (by kernel_rfl) ?_
      refine s_val (some 13) (.int .i64 ((u + 1 : Nat) : Int)) (fun w => by kernel_rfl) (by kernel_rfl) ?_
      refine s_nil ?_
      have HS11 : St w.heap.size w w24 [(b4, Obj.cells #[.int .u32 ((BitVec.toNat ((((((S8.h q) + (((rr (S8.e q) 6) ^^^ (rr (S8.e q) 11)) ^^^ (rr (S8.e q) 25))) + (((S8.e q) &&& (S8.f q)) ||| ((~~~(S8.e q)) &&& (S8.g q)))) + (List.getD roots u 0)) + (List.getD (GG s) u 0)) + ((((rr (S8.a q) 2) ^^^ (rr (S8.a q) 13)) ^^^ (rr (S8.a q) 22)) + ((((S8.a q) &&& (S8.b q)) ||| ((S8.a q) &&& (S8.c q))) ||| ((S8.b q) &&& (S8.c q))))) : Nat) : Int), .int .u32 ((BitVec.toNat (S8.a q) : Nat) : Int), .int .u32 ((BitVec.toNat (S8.b q) : Nat) : Int), .int .u32 ((BitVec.toNat (S8.c q) : Nat) : Int), .int .u32 ((BitVec.toNat ((S8.d q) + (((((S8.h q) + (((rr (S8.e q) 6) ^^^ (rr (S8.e q) 11)) ^^^ (rr (S8.e q) 25))) + (((S8.e q) &&& (S8.f q)) ||| ((~~~(S8.e q)) &&& (S8.g q)))) + (List.getD roots u 0)) + (List.getD (GG s) u 0))) : Nat) : Int), .int .u32 ((BitVec.toNat (S8.e q) : Nat) : Int), .int .u32 ((BitVec.toNat (S8.f q) : Nat) : Int), .int .u32 ((BitVec.toNat (S8.g q) : Nat) : Int)] 31 (0, 0)), (b3, Obj.cells (Value.cells (arr 8 (list8 (stp q (nth roots u) (nth (GG s) u))))) 31 (0, 0)), (b, Obj.cells cur 30 (0, 0)), (b1, Obj.cells (Value.cells (arr 8 h)) 31 (0, 0)), (b2, Obj.cells #[.int .u32 0, .int .u32 0, .int .u32 0, .int .u32 0, .int .u32 0, .int .u32 0, .int .u32 0, .int .u32 0] 31 (0, 0))] := by rw [show (Value.cells (arr 8 (list8 (stp q (nth roots u) (nth (GG s) u))))) = #[.int .u32 ((BitVec.toNat ((((((S8.h q) + (((rr (S8.e q) 6) ^^^ (rr (S8.e q) 11)) ^^^ (rr (S8.e q) 25))) + (((S8.e q) &&& (S8.f q)) ||| ((~~~(S8.e q)) &&& (S8.g q)))) + (List.getD roots u 0)) + (List.getD (GG s) u 0)) + ((((rr (S8.a q) 2) ^^^ (rr (S8.a q) 13)) ^^^ (rr (S8.a q) 22)) + ((((S8.a q) &&& (S8.b q)) ||| ((S8.a q) &&& (S8.c q))) ||| ((S8.b q) &&& (S8.c q))))) : Nat) : Int), .int .u32 ((BitVec.toNat (S8.a q) : Nat) : Int), .int .u32 ((BitVec.toNat (S8.b q) : Nat) : Int), .int .u32 ((BitVec.toNat (S8.c q) : Nat) : Int), .int .u32 ((BitVec.toNat ((S8.d q) + (((((S8.h q) + (((rr (S8.e q) 6) ^^^ (rr (S8.e q) 11)) ^^^ (rr (S8.e q) 25))) + (((S8.e q) &&& (S8.f q)) ||| ((~~~(S8.e q)) &&& (S8.g q)))) + (List.getD roots u 0)) + (List.getD (GG s) u 0))) : Nat) : Int), .int .u32 ((BitVec.toNat (S8.e q) : Nat) : Int), .int .u32 ((BitVec.toNat (S8.f q) : Nat) : Int), .int .u32 ((BitVec.toNat (S8.g q) : Nat) : Int)] from by kernel_rfl]; exact H24
      have HD12 : St w.heap.size w w24 [(b3, Obj.cells (Value.cells (arr 8 (list8 (stp q (nth roots u) (nth (GG s) u))))) 31 (0, 0)), (b, Obj.cells cur 30 (0, 0)), (b1, Obj.cells (Value.cells (arr 8 h)) 31 (0, 0)), (b2, Obj.cells #[.int .u32 0, .int .u32 0, .int .u32 0, .int .u32 0, .int .u32 0, .int .u32 0, .int .u32 0, .int .u32 0] 31 (0, 0))] := HS11.sub (List.Sublist.cons _ (List.Sublist.cons_cons _ (List.Sublist.cons_cons _ (List.Sublist.cons_cons _ (List.Sublist.cons_cons _ List.Sublist.slnil)))))
      show ∃ m, _ ∧ _
      exact ⟨_, (by omega), (stp q (nth roots u) (nth (GG s) u)), (u + 1), rfl, (by omega), (by rw [← hq]; rfl), HD12, (Is.of ⟨(by kernel_rfl), (by kernel_rfl), (by kernel_rfl), (by kernel_rfl), (by kernel_rfl), (by kernel_rfl), (by kernel_rfl), (by kernel_rfl), (by kernel_rfl), (by kernel_rfl), trivial⟩)⟩
    · skip
      refine s_valE (some 94) (.bool (decide (((u : Nat) : Int) < 64))) (.bool false) (fun w => by kernel_rfl) (bool_eq (decide_eq_false (by omega))) (by kernel_rfl) ?_
      refine s_nil ?_
      refine g_cond_f (by kernel_rfl) (by kernel_rfl) ?_
      refine g_exit 4 (by kernel_rfl) ?_
      show WP _ _ _ _ _ _
      refine g_sreg [0, 1, 2] (by kernel_rfl) (by kernel_rfl) ?_
      refine s_val (some 183) (.agg #[.int .u32 0, .int .u32 0, .int .u32 0, .int .u32 0, .int .u32 0, .int .u32 0, .int .u32 0, .int .u32 0]) (fun w => by kernel_rfl) (by kernel_rfl) ?_
      refine s_alloc H10 (some 21) 31 (.agg #[.int .u32 0, .int .u32 0, .int .u32 0, .int .u32 0, .int .u32 0, .int .u32 0, .int .u32 0, .int .u32 0]) (by kernel_rfl) (by kernel_rfl) (by kernel_rfl) ?_
      intro b5 w25 H25; clear H10
      refine s_store H25 0 [(b5, Obj.cells #[.int .u32 0, .int .u32 0, .int .u32 0, .int .u32 0, .int .u32 0, .int .u32 0, .int .u32 0, .int .u32 0] 31 (0, 0)), (b3, Obj.cells (Value.cells (arr 8 (list8 q))) 31 (0, 0)), (b, Obj.cells cur 30 (0, 0)), (b1, Obj.cells (Value.cells (arr 8 h)) 31 (0, 0)), (b2, Obj.cells #[.int .u32 0, .int .u32 0, .int .u32 0, .int .u32 0, .int .u32 0, .int .u32 0, .int .u32 0, .int .u32 0] 31 (0, 0))] 31 (.tmp 21) (.tmp 183) b5 (0) #[.int .u32 0, .int .u32 0, .int .u32 0, .int .u32 0, .int .u32 0, .int .u32 0, .int .u32 0, .int .u32 0] #[.int .u32 0, .int .u32 0, .int .u32 0, .int .u32 0, .int .u32 0, .int .u32 0, .int .u32 0, .int .u32 0] 31 (.agg #[.int .u32 0, .int .u32 0, .int .u32 0, .int .u32 0, .int .u32 0, .int .u32 0, .int .u32 0, .int .u32 0]) (by kernel_rfl) (by kernel_rfl) (by kernel_rfl) (by kernel_rfl) (by kernel_rfl) (by kernel_rfl) (of_decide_eq_true (by kernel_rfl)) (by kernel_rfl) (by kernel_rfl) ?_
      intro w26 H26; clear H25
      refine s_nil ?_
      refine g_seq (by kernel_rfl) ?_
      refine g_sreg [0] (by kernel_rfl) (by kernel_rfl) ?_
      refine s_val (some 22) (.int .i64 0) (fun w => by kernel_rfl) (by kernel_rfl) ?_
      refine s_nil ?_
      refine g_block 8 (by kernel_rfl) ?_
      have HS13 : St w.heap.size w w26 [(b5, Obj.cells (Value.cells (arr 8 (accZ h (list8 q) 0))) 31 (0, 0)), (b3, Obj.cells (Value.cells (arr 8 (list8 q))) 31 (0, 0)), (b, Obj.cells cur 30 (0, 0)), (b1, Obj.cells (Value.cells (arr 8 h)) 31 (0, 0)), (b2, Obj.cells #[.int .u32 0, .int .u32 0, .int .u32 0, .int .u32 0, .int .u32 0, .int .u32 0, .int .u32 0, .int .u32 0] 31 (0, 0))] := by rw [show (Value.cells (arr 8 (accZ h (list8 q) 0))) = #[.int .u32 0, .int .u32 0, .int .u32 0, .int .u32 0, .int .u32 0, .int .u32 0, .int .u32 0, .int .u32 0] from by kernel_rfl]; exact H26
      have HD14 : St w.heap.size w w26 [(b5, Obj.cells (Value.cells (arr 8 (accZ h (list8 q) 0))) 31 (0, 0)), (b3, Obj.cells (Value.cells (arr 8 (list8 q))) 31 (0, 0)), (b1, Obj.cells (Value.cells (arr 8 h)) 31 (0, 0)), (b2, Obj.cells #[.int .u32 0, .int .u32 0, .int .u32 0, .int .u32 0, .int .u32 0, .int .u32 0, .int .u32 0, .int .u32 0] 31 (0, 0))] := HS13.sub (List.Sublist.cons_cons _ (List.Sublist.cons_cons _ (List.Sublist.cons _ (List.Sublist.cons_cons _ (List.Sublist.cons_cons _ List.Sublist.slnil)))))
      refine g_loop (by kernel_rfl) (fun mz ρ ww => ∃ (i : Nat), 8 - i = mz ∧ (i ≤ 8) ∧ St w.heap.size w ww [(b5, Obj.cells (Value.cells (arr 8 (accZ h (list8 q) i))) 31 (0, 0)), (b3, Obj.cells (Value.cells (arr 8 (list8 q))) 31 (0, 0)), (b1, Obj.cells (Value.cells (arr 8 h)) 31 (0, 0)), (b2, Obj.cells #[.int .u32 0, .int .u32 0, .int .u32 0, .int .u32 0, .int .u32 0, .int .u32 0, .int .u32 0, .int .u32 0] 31 (0, 0))] ∧ Is [(0, arr 8 h), (1, .string s), (2, .slice (some ⟨bk, 0, none⟩) nk ck), (3, .pointer (some ⟨b1, 0, none⟩)), (6, .pointer (some ⟨b2, 0, none⟩)), (7, .slice (some ⟨b, 0, none⟩) n cap), (8, .int .i64 ((t : Nat) : Int)), (12, .pointer (some ⟨b3, 0, none⟩)), (13, .int .i64 ((u : Nat) : Int)), (21, .pointer (some ⟨b5, 0, none⟩)), (22, .int .i64 ((i : Nat) : Int)), (25, .bool false), (94, .bool false)] ρ) (8 - 0) ⟨0, rfl, (by omega), HD14, (Is.of ⟨(by kernel_rfl), (by kernel_rfl), (by kernel_rfl), (by kernel_rfl), (by kernel_rfl), (by kernel_rfl), (by kernel_rfl), (by kernel_rfl), (by kernel_rfl), (by kernel_rfl), (by kernel_rfl), (by kernel_rfl), (by kernel_rfl), trivial⟩)⟩ ?_
      clear HD14
      rintro _ _ w27 ⟨i, rfl, hi, H27, _, rfl⟩
      refine g_seq (by kernel_rfl) ?_
      refine g_sreg [0, 1] (by kernel_rfl) (by kernel_rfl) ?_
      refine s_val (some 184) (.int .i64 ((i : Nat) : Int)) (fun w => by kernel_rfl) (by kernel_rfl) ?_
      by_cases hc15 : (i : Nat) < 8
      · skip
        refine s_valE (some 185) (.bool (decide (((i : Nat) : Int) < 8))) (.bool true) (fun w => by kernel_rfl) (bool_eq (decide_eq_true (by omega))) (by kernel_rfl) ?_
        refine s_nil ?_
        refine g_cond_t (by kernel_rfl) (by kernel_rfl) ?_
        refine g_skip (by kernel_rfl) ?_
        show WP _ _ _ _ _ _
        refine g_seq (by kernel_rfl) ?_
        refine g_block 9 (by kernel_rfl) ?_
        refine D2.g_draw0 [0, 1, 2, 3, 4, 5, 6, 7, 8, 9] [((some 188), fun _ => .int .i64 ((i : Nat) : Int)), ((some 189), fun _ => .int .i64 ((i : Nat) : Int)), ((some 190), fun _ => .pointer (some ⟨b1, 0 + i * 1, none⟩)), ((some 191), fun _ => .int .u32 ((BitVec.toNat (nth h i) : Nat) : Int)), ((some 192), fun _ => .int .i64 ((i : Nat) : Int)), ((some 193), fun _ => .pointer (some ⟨b3, 0 + i * 1, none⟩)), ((some 194), fun _ => .int .u32 ((BitVec.toNat (nth (list8 q) i) : Nat) : Int)), ((some 195), fun _ => .int .u32 ((BitVec.toNat ((nth h i) + (nth (list8 q) i)) : Nat) : Int)), ((some 196), fun _ => .pointer (some ⟨b5, 0 + i * 1, none⟩)), (none, fun _ => undef)] (D2.Pre w.heap.size w (fun L g => [(true, (bif L 9 then (b5, Obj.cells (Value.cells (arr 8 (accZ h (list8 q) (i + 1)))) 31 (0, 0)) else (b5, Obj.cells (Value.cells (arr 8 (accZ h (list8 q) i))) 31 (0, 0)))), (true, (b3, Obj.cells (Value.cells (arr 8 (list8 q))) 31 (0, 0))), (true, (b1, Obj.cells (Value.cells (arr 8 h)) 31 (0, 0))), (true, (b2, Obj.cells #[.int .u32 0, .int .u32 0, .int .u32 0, .int .u32 0, .int .u32 0, .int .u32 0, .int .u32 0, .int .u32 0] 31 (0, 0)))]) (fun L g => True)) (by kernel_rfl) (by kernel_rfl) (by kernel_rfl) ⟨D2.StE.of H27.drew _ (by kernel_rfl), trivial⟩ ⟨?_, ?_, ?_, ?_, ?_, ?_, ?_, ?_, ?_, ?_, trivial⟩ ?_
        · exact D2.gv_val (fun _ _ _ h => h) (fun g w => by kernel_rfl)
        · exact D2.gv_val (fun _ _ _ h => h) (fun g w => by kernel_rfl)
        · exact D2.gv_op (fun _ _ _ h => h) _ (fun g => by kernel_rfl) (fun g => (fun o w ho => idxA_run (kd := .i64) (t := 31) (n := 8) (size := 1) (by kernel_rfl) (x := (.tmp 3)) (y := (.tmp 189)) b1 0 i ho (by kernel_rfl) (by kernel_rfl) (by omega) w))
        · exact D2.gv_load1 30 (.tmp 190) 2 (fun g => b1) (fun g => 0 + i * 1) (fun g => (Value.cells (arr 8 h))) 31 (0, 0) (fun _ _ _ h => h) (fun g => by kernel_rfl) (fun g => by kernel_rfl) (fun L g hN => (by kernel_rfl)) (by kernel_rfl) (fun L g hN hF => by exact (arr_at (n := 8) h (k := i) (by omega) (by omega)))
        · exact D2.gv_val (fun _ _ _ h => h) (fun g w => by kernel_rfl)
        · exact D2.gv_op (fun _ _ _ h => h) _ (fun g => by kernel_rfl) (fun g => (fun o w ho => idxA_run (kd := .i64) (t := 31) (n := 8) (size := 1) (by kernel_rfl) (x := (.tmp 12)) (y := (.tmp 192)) b3 0 i ho (by kernel_rfl) (by kernel_rfl) (by omega) w))
        · exact D2.gv_load1 30 (.tmp 193) 1 (fun g => b3) (fun g => 0 + i * 1) (fun g => (Value.cells (arr 8 (list8 q)))) 31 (0, 0) (fun _ _ _ h => h) (fun g => by kernel_rfl) (fun g => by kernel_rfl) (fun L g hN => (by kernel_rfl)) (by kernel_rfl) (fun L g hN hF => by exact (arr_at (n := 8) (list8 q) (k := i) (by omega) (by omega)))
        · exact D2.gv_valE (fun _ _ _ h => h) (V' := .int .u32 (IntKind.u32.wrap ((((BitVec.toNat (nth h i) : Nat) : Int)) + (((BitVec.toNat (nth (list8 q) i) : Nat) : Int))))) (fun g w => by kernel_rfl) (bv_add_u32 (nth h i) (nth (list8 q) i))
        · exact D2.gv_op (fun _ _ _ h => h) _ (fun g => by kernel_rfl) (fun g => (fun o w ho => idxA_run (kd := .i64) (t := 31) (n := 8) (size := 1) (by kernel_rfl) (x := (.tmp 21)) (y := (.tmp 188)) b5 0 i ho (by kernel_rfl) (by kernel_rfl) (by omega) w))
        · exact D2.gv_store 0 30 (.tmp 196) (.tmp 195) (fun g => b5) (fun g => 0 + i * 1) (Value.cells (arr 8 (accZ h (list8 q) i))) (Value.cells (arr 8 (accZ h (list8 q) (i + 1)))) 31 (.int .u32 ((BitVec.toNat ((nth h i) + (nth (list8 q) i)) : Nat) : Int)) (fun g => by kernel_rfl) (fun g => by kernel_rfl) (fun g => by kernel_rfl) (by kernel_rfl) (by kernel_rfl) (fun g => (by show _ + 1 ≤ 8; omega)) (fun g => (arr_put (k := i) (x := (nth h i) + (nth (list8 q) i)) (by omega) (by omega) (fun j hj => nth_accZ h (list8 q) i j hj))) (fun L g hN => ⟨(by have hL9 : L 9 = false := hN.1; exact D2.ent_get' (p := true) (e := (bif L 9 then (b5, Obj.cells (Value.cells (arr 8 (accZ h (list8 q) (i + 1)))) 31 (0, 0)) else (b5, Obj.cells (Value.cells (arr 8 (accZ h (list8 q) i))) 31 (0, 0)))) (by kernel_rfl) (by rfl) (by simp only [hL9, cond_true, cond_false] <;> rfl)), (by kernel_rfl)⟩) (fun L g hN hF => hF)
        intro L0 G28 w28 hall HL; clear H27
        have H28 : St w.heap.size w w28 [(b5, Obj.cells (Value.cells (arr 8 (accZ h (list8 q) (i + 1)))) 31 (0, 0)), (b3, Obj.cells (Value.cells (arr 8 (list8 q))) 31 (0, 0)), (b1, Obj.cells (Value.cells (arr 8 h)) 31 (0, 0)), (b2, Obj.cells #[.int .u32 0, .int .u32 0, .int .u32 0, .int .u32 0, .int .u32 0, .int .u32 0, .int .u32 0, .int .u32 0] 31 (0, 0))] := by have e9 := hall 9 (Nat.le_of_ble_eq_true (by kernel_rfl)); have hS := D2.StE.st HL.1; simp only [e9, cond_true, D2.pres] at hS; exact hS
        clear HL hall
        show WP _ _ _ _ _ _
        refine g_reg0 [0, 1, 2] (by kernel_rfl) ?_
        refine s_val (some 186) (.int .i64 ((i : Nat) : Int)) (fun w => by kernel_rfl) (by kernel_rfl) ?_
        refine s_valE (some 187) (.int .i64 (IntKind.i64.wrap (((i : Nat) : Int) + 1))) (.int .i64 ((i + 1 : Nat) : Int)) (fun w => by kernel_rfl) (int_eq (wrapAdd_i64 (a := i) (b := 1) (by omega))) (by kernel_rfl) ?_
        refine s_val (some 22) (.int .i64 ((i + 1 : Nat) : Int)) (fun w => by kernel_rfl) (by kernel_rfl) ?_
        refine s_nil ?_
        show ∃ m, _ ∧ _
        exact ⟨_, (by omega), (i + 1), rfl, (by omega), H28, (Is.of ⟨(by kernel_rfl), (by kernel_rfl), (by kernel_rfl), (by kernel_rfl), (by kernel_rfl), (by kernel_rfl), (by kernel_rfl), (by kernel_rfl), (by kernel_rfl), (by kernel_rfl), (by kernel_rfl), (by kernel_rfl), (by kernel_rfl), trivial⟩)⟩
      · skip
        refine s_valE (some 185) (.bool (decide (((i : Nat) : Int) < 8))) (.bool false) (fun w => by kernel_rfl) (bool_eq (decide_eq_false (by omega))) (by kernel_rfl) ?_
        refine s_nil ?_
        refine g_cond_f (by kernel_rfl) (by kernel_rfl) ?_
        refine g_exit 8 (by kernel_rfl) ?_
        show WP _ _ _ _ _ _
        refine g_sreg [0, 1] (by kernel_rfl) (by kernel_rfl) ?_
        refine s_load H27 (some 197) 31 (.tmp 21) 0 b5 (Value.cells (arr 8 (accZ h (list8 q) i))) 31 (0, 0) (by kernel_rfl) (by kernel_rfl) (by kernel_rfl) (by kernel_rfl) (by kernel_rfl) ?_
        refine s_store H27 3 [(b5, Obj.cells (Value.cells (arr 8 (accZ h (list8 q) i))) 31 (0, 0)), (b3, Obj.cells (Value.cells (arr 8 (list8 q))) 31 (0, 0)), (b1, Obj.cells (Value.cells (arr 8 h)) 31 (0, 0)), (b2, Obj.cells (Value.cells (arr 8 (accZ h (list8 q) i))) 31 (0, 0))] 31 (.tmp 6) (.tmp 197) b2 (0) #[.int .u32 0, .int .u32 0, .int .u32 0, .int .u32 0, .int .u32 0, .int .u32 0, .int .u32 0, .int .u32 0] (Value.cells (arr 8 (accZ h (list8 q) i))) 31 (arr 8 (accZ h (list8 q) i)) (by kernel_rfl) (by kernel_rfl) (by kernel_rfl) (by kernel_rfl) (by kernel_rfl) (by kernel_rfl) (of_decide_eq_true (by kernel_rfl)) (by kernel_rfl) (by kernel_rfl) ?_
        intro w29 H29; clear H27
        refine s_nil ?_
        refine g_ret (by kernel_rfl) ?_
        show ∃ vs, Res _ _ _ _ vs ∧ _
        refine ⟨[arr 8 (accZ h (list8 q) i)], (.agg (b := b2) (Value.cells (arr 8 (accZ h (list8 q) i))) 31 (0, 0) (by kernel_rfl) (H29.get 3 (by kernel_rfl)) (by kernel_rfl) .nil), ?_, H29.below⟩
        obtain rfl : i = 8 := by omega
        obtain rfl : u = 64 := by omega
        subst hq
        exact arr_congr (accZ8 h s)
end Go.Proofs.YtjhldipeicpoeaaDoor
