/-
  What the laws ask: frames, scans, sizes.
-/
import Derived.Test.YthipcmpmfjeakaaProg
import Derived.Test.YthipcmpmfjeakaaCrcF
import Derived.Test.YthipcmpmfjeakaaTxt
import Derived.Test.YthipcmpmfjeakaaCrcTurn
namespace Go.Proofs.Ythipcmpmfjeakaa
open Go Go.RowKit Go.Proofs.Crc
set_option linter.unusedVariables false
theorem alive_eq : BitVec.toNat (crc (tl ⟨#[49, 50, 51, 52, 53, 54, 55, 56, 57]⟩)) = 3421780262 := by decide +kernel
theorem max0 (a : Int) : (if (0 : Int) > a then (0 : Int) else a) = ((Int.toNat a : Nat) : Int) := by split <;> omega
theorem sc_len {l : List UInt8} {rs : List ByteArray} {p : Nat} (h : Sc l rs p) : rs.length ≤ l.length := by
  have h1 := flat_ge rs
  have := congrArg List.length h.2.2.1
  rw [List.length_append] at this
  omega
theorem same_bb2 (l l2 : List ByteArray) (n n2 ba ca bb cb : Nat) (curA curB : Array Value) (hl : l = l2) (hn : n = List.length l) (hn2 : n2 = List.length l2) (hm : n ≤ 1000000) (hA : Rw 1 curA ca n (cellsS l)) (hB : Rw 1 curB cb n2 (cellsS l2)) :
    FnP Try.prog 16 #[.slice (some ⟨ba, 0, none⟩) n ca, .slice (some ⟨bb, 0, none⟩) n2 cb] (fun w => w.heap[ba]? = some (.cells curA 9 (0, 0)) ∧ w.heap[bb]? = some (.cells curB 9 (0, 0))) (.bool true) := by
  subst hl
  obtain rfl : n = n2 := by omega
  exact same_bb l n ba ca bb cb curA curB hn hm hA hB
theorem sc_one {s : ByteArray} (hr : IsR (tl s)) {m : List UInt8} (h : fst m = []) : Sc (frB (tl s) ++ m) [s] (s.size + 6) := by
  have := Sc.mk' [s] m (fun x hx => by obtain rfl := List.mem_singleton.1 hx; exact hr) h
  have e : flat [s] = frB (tl s) := by rw [flat_cons]; exact List.append_nil _
  rw [e, frB_len, tl_len] at this
  exact this
theorem sc_flat {l : List ByteArray} (h : ∀ s ∈ l, IsR (tl s)) {X : ByteArray} {m : List UInt8} (hX : tl X = flat l ++ m) (hm : fst m = []) : Sc (tl X) l (flat l).length := by
  rw [hX]; exact Sc.mk' l m h hm
def z7 : ByteArray := ⟨#[0, 0, 0, 0, 0, 0, 0]⟩
theorem tl_z7 : tl z7 = List.replicate 7 0 := rfl
theorem fst_nil : fst [] = [] := fst_short (by decide)
theorem isR_of {s : ByteArray} (h : 1 ≤ s.size ∧ s.size ≤ 4000) : IsR (tl s) := h

set_option maxRecDepth 100000 in
set_option maxHeartbeats 2000000 in
theorem alive_fn  : Fn Try.prog 11 #[] (.bool true) := by
  refine Fn.intro (c := codeOf Try.f11) [.tmp 0] 3 Try.func11 (by kernel_rfl) (by kernel_rfl) (by kernel_rfl) fun w => ?_
  have H0 := St.start w
  refine g_sreg [0] (by kernel_rfl) (by kernel_rfl) ?_
  refine s_val (some 0) (.bool false) (fun w => by kernel_rfl) (by kernel_rfl) ?_
  refine s_nil ?_
  refine g_sreg [0, 1, 2] (by kernel_rfl) (by kernel_rfl) ?_
  refine s_call H0 (some 1) 9 #[.string (⟨#[49, 50, 51, 52, 53, 54, 55, 56, 57]⟩)] (.int .u32 ((BitVec.toNat (crc (tl (⟨#[49, 50, 51, 52, 53, 54, 55, 56, 57]⟩))) : Nat) : Int)) (of_fn (⟨#[49, 50, 51, 52, 53, 54, 55, 56, 57]⟩) (by decide)) (fun w => by kernel_rfl) (by kernel_rfl) ?_
  intro w1 H1; clear H0
  refine s_valE (some 2) (.bool (((BitVec.toNat (crc (tl (⟨#[49, 50, 51, 52, 53, 54, 55, 56, 57]⟩))) : Nat) : Int) == 3421780262)) (.bool true) (fun w => by kernel_rfl) (bool_eq (beq_iff_eq.2 (by have h := alive_eq; omega))) (by kernel_rfl) ?_
  refine s_val (some 0) (.bool true) (fun w => by kernel_rfl) (by kernel_rfl) ?_
  refine s_nil ?_
  refine g_ret (by kernel_rfl) ?_
  show ∃ vs, Res _ _ _ _ vs ∧ _
  refine ⟨[.bool true], (.tmp (.bool true) (by kernel_rfl) .nil), ?_, H1.below⟩
  rfl

set_option maxRecDepth 100000 in
set_option maxHeartbeats 2000000 in
theorem crcFrames_fn (s : ByteArray) : Fn Try.prog 3 #[.string s] (.bool true) := by
  refine Fn.intro (c := codeOf Try.f3) [.tmp 2] 41 Try.func3 (by kernel_rfl) (by kernel_rfl) (by kernel_rfl) fun w => ?_
  have H0 := St.start w
  refine g_sreg [0] (by kernel_rfl) (by kernel_rfl) ?_
  refine s_val (some 2) (.bool false) (fun w => by kernel_rfl) (by kernel_rfl) ?_
  refine s_nil ?_
  refine g_sreg [0, 1, 2, 3, 4, 5] (by kernel_rfl) (by kernel_rfl) ?_
  refine s_val (some 5) (.string s) (fun w => by kernel_rfl) (by kernel_rfl) ?_
  refine s_val (some 6) (.string s) (fun w => by kernel_rfl) (by kernel_rfl) ?_
  refine s_val (some 7) (.int .i64 ((ByteArray.size s : Nat) : Int)) (fun w => by kernel_rfl) (by kernel_rfl) ?_
  refine s_valE (some 8) (.int .i64 (if (4100 : Int) < (((ByteArray.size s : Nat) : Int) : Int) then (4100 : Int) else (((ByteArray.size s : Nat) : Int) : Int))) (.int .i64 ((min (ByteArray.size s) 4100 : Nat) : Int)) (fun w => by kernel_rfl) (int_eq (minN (ByteArray.size s) 4100)) (by kernel_rfl) ?_
  refine s_op (some 9) _ (.string (ByteArray.extract s 0 (min (ByteArray.size s) 4100))) (by kernel_rfl) (by kernel_rfl) (fun o w ho => scut_run (t := 9) (kd := .i64) (by kernel_rfl) (x := (.tmp 5)) (y := (.tmp 8)) s (min (ByteArray.size s) 4100) ho (by kernel_rfl) (by kernel_rfl) (by omega) w) ?_
  refine s_val (some 0) (.string (ByteArray.extract s 0 (min (ByteArray.size s) 4100))) (fun w => by kernel_rfl) (by kernel_rfl) ?_
  refine s_nil ?_
  refine g_sreg [0, 1, 2, 3, 4, 5, 6] (by kernel_rfl) (by kernel_rfl) ?_
  have hS4100 : ByteArray.size (ByteArray.extract s 0 (min (ByteArray.size s) 4100)) ≤ 4100 := by rw [ext_size _ _ _ (Nat.min_le_left _ _)]; omega
  by_cases hx1 : 1 ≤ ByteArray.size (ByteArray.extract s 0 (min (ByteArray.size s) 4100)) ∧ ByteArray.size (ByteArray.extract s 0 (min (ByteArray.size s) 4100)) ≤ 4000
  · skip
    refine s_val (some 11) (.string (ByteArray.extract s 0 (min (ByteArray.size s) 4100))) (fun w => by kernel_rfl) (by kernel_rfl) ?_
    refine s_call H0 (some 12) 8 #[.string (ByteArray.extract s 0 (min (ByteArray.size s) 4100))] (.tuple #[.string (strB (frB (tl (ByteArray.extract s 0 (min (ByteArray.size s) 4100))))), .int .i64 0]) (frame_fn (ByteArray.extract s 0 (min (ByteArray.size s) 4100)) (by omega)) (fun w => by kernel_rfl) (by kernel_rfl) ?_
    intro w1 H1; clear H0
    refine s_val (some 10) (.tuple #[.string (strB (frB (tl (ByteArray.extract s 0 (min (ByteArray.size s) 4100))))), .int .i64 0]) (fun w => by kernel_rfl) (by kernel_rfl) ?_
    refine s_val (some 13) (.string (strB (frB (tl (ByteArray.extract s 0 (min (ByteArray.size s) 4100)))))) (fun w => by kernel_rfl) (by kernel_rfl) ?_
    refine s_val (some 14) (.int .i64 0) (fun w => by kernel_rfl) (by kernel_rfl) ?_
    refine s_val (some 3) (.string (strB (frB (tl (ByteArray.extract s 0 (min (ByteArray.size s) 4100)))))) (fun w => by kernel_rfl) (by kernel_rfl) ?_
    refine s_val (some 4) (.int .i64 0) (fun w => by kernel_rfl) (by kernel_rfl) ?_
    refine s_nil ?_
    refine g_seq (by kernel_rfl) ?_
    refine g_sreg [0, 1, 2, 3, 4, 5, 6, 7, 8] (by kernel_rfl) (by kernel_rfl) ?_
    refine s_val (some 15) (.string (ByteArray.extract s 0 (min (ByteArray.size s) 4100))) (fun w => by kernel_rfl) (by kernel_rfl) ?_
    refine s_call H1 (some 16) 9 #[.string (ByteArray.extract s 0 (min (ByteArray.size s) 4100))] (.int .u32 ((BitVec.toNat (crc (tl (ByteArray.extract s 0 (min (ByteArray.size s) 4100)))) : Nat) : Int)) (of_fn (ByteArray.extract s 0 (min (ByteArray.size s) 4100)) (by first | omega | (rw [ext_size _ _ _ (by omega)]; omega))) (fun w => by kernel_rfl) (by kernel_rfl) ?_
    intro w2 H2; clear H1
    refine s_val (some 17) (.string (ByteArray.extract s 0 (min (ByteArray.size s) 4100))) (fun w => by kernel_rfl) (by kernel_rfl) ?_
    refine s_call H2 (some 18) 10 #[.string (ByteArray.extract s 0 (min (ByteArray.size s) 4100))] (.int .u32 ((BitVec.toNat (crc (tl (ByteArray.extract s 0 (min (ByteArray.size s) 4100)))) : Nat) : Int)) (ofR_fn (ByteArray.extract s 0 (min (ByteArray.size s) 4100)) (by first | omega | (rw [ext_size _ _ _ (by omega)]; omega))) (fun w => by kernel_rfl) (by kernel_rfl) ?_
    intro w3 H3; clear H2
    refine s_valE (some 19) (.bool (!(((BitVec.toNat (crc (tl (ByteArray.extract s 0 (min (ByteArray.size s) 4100)))) : Nat) : Int) == ((BitVec.toNat (crc (tl (ByteArray.extract s 0 (min (ByteArray.size s) 4100)))) : Nat) : Int)))) (.bool false) (fun w => by kernel_rfl) (bool_eq (by rw [beq_iff_eq.2 (by omega)]; rfl)) (by kernel_rfl) ?_
    refine s_val (some 20) (.bool false) (fun w => by kernel_rfl) (by kernel_rfl) ?_
    refine s_call H3 (some 21) 11 #[] (.bool true) alive_fn (fun w => by kernel_rfl) (by kernel_rfl) ?_
    intro w4 H4; clear H3
    refine s_val (some 22) (.bool false) (fun w => by kernel_rfl) (by kernel_rfl) ?_
    refine s_val (some 23) (.bool false) (fun w => by kernel_rfl) (by kernel_rfl) ?_
    refine s_nil ?_
    refine g_cond_f (by kernel_rfl) (by kernel_rfl) ?_
    refine g_skip (by kernel_rfl) ?_
    show WP _ _ _ _ _ _
    refine g_seq (by kernel_rfl) ?_
    refine g_sreg [0, 1, 2] (by kernel_rfl) (by kernel_rfl) ?_
    refine s_val (some 24) (.string (ByteArray.extract s 0 (min (ByteArray.size s) 4100))) (fun w => by kernel_rfl) (by kernel_rfl) ?_
    refine s_call H4 (some 25) 12 #[.string (ByteArray.extract s 0 (min (ByteArray.size s) 4100))] (.bool true) (isRec_yes (ByteArray.extract s 0 (min (ByteArray.size s) 4100)) (by omega)) (fun w => by kernel_rfl) (by kernel_rfl) ?_
    intro w5 H5; clear H4
    refine s_val (some 26) (.bool false) (fun w => by kernel_rfl) (by kernel_rfl) ?_
    refine s_nil ?_
    refine g_cond_f (by kernel_rfl) (by kernel_rfl) ?_
    refine g_skip (by kernel_rfl) ?_
    show WP _ _ _ _ _ _
    refine g_sreg [0, 1, 2, 3, 4, 5, 6, 7, 8] (by kernel_rfl) (by kernel_rfl) ?_
    refine s_val (some 33) (.int .i64 0) (fun w => by kernel_rfl) (by kernel_rfl) ?_
    refine s_val (some 34) (.bool true) (fun w => by kernel_rfl) (by kernel_rfl) ?_
    refine s_val (some 35) (.bool true) (fun w => by kernel_rfl) (by kernel_rfl) ?_
    refine s_val (some 36) (.string (strB (frB (tl (ByteArray.extract s 0 (min (ByteArray.size s) 4100)))))) (fun w => by kernel_rfl) (by kernel_rfl) ?_
    refine s_val (some 37) (.string (ByteArray.extract s 0 (min (ByteArray.size s) 4100))) (fun w => by kernel_rfl) (by kernel_rfl) ?_
    refine s_call H5 (some 38) 13 #[.string (ByteArray.extract s 0 (min (ByteArray.size s) 4100))] (.string (strB (frB (tl (ByteArray.extract s 0 (min (ByteArray.size s) 4100)))))) (frameR_fn (ByteArray.extract s 0 (min (ByteArray.size s) 4100)) (by first | omega | (rw [ext_size _ _ _ (by omega)]; omega))) (fun w => by kernel_rfl) (by kernel_rfl) ?_
    intro w6 H6; clear H5
    refine s_valE (some 39) (.bool (ByteArray.toList (strB (frB (tl (ByteArray.extract s 0 (min (ByteArray.size s) 4100))))) == ByteArray.toList (strB (frB (tl (ByteArray.extract s 0 (min (ByteArray.size s) 4100))))))) (.bool true) (fun w => by kernel_rfl) (bool_eq (str_self (strB (frB (tl (ByteArray.extract s 0 (min (ByteArray.size s) 4100))))))) (by kernel_rfl) ?_
    refine s_val (some 40) (.bool true) (fun w => by kernel_rfl) (by kernel_rfl) ?_
    refine s_val (some 2) (.bool true) (fun w => by kernel_rfl) (by kernel_rfl) ?_
    refine s_nil ?_
    refine g_ret (by kernel_rfl) ?_
    show ∃ vs, Res _ _ _ _ vs ∧ _
    refine ⟨[.bool true], (.tmp (.bool true) (by kernel_rfl) .nil), ?_, H6.below⟩
    rfl
  · skip
    refine s_val (some 11) (.string (ByteArray.extract s 0 (min (ByteArray.size s) 4100))) (fun w => by kernel_rfl) (by kernel_rfl) ?_
    refine s_call H0 (some 12) 8 #[.string (ByteArray.extract s 0 (min (ByteArray.size s) 4100))] (.tuple #[.string (⟨#[]⟩), .int .i64 1]) (frameNo_fn (ByteArray.extract s 0 (min (ByteArray.size s) 4100)) (by omega)) (fun w => by kernel_rfl) (by kernel_rfl) ?_
    intro w7 H7; clear H0
    refine s_val (some 10) (.tuple #[.string (⟨#[]⟩), .int .i64 1]) (fun w => by kernel_rfl) (by kernel_rfl) ?_
    refine s_val (some 13) (.string (⟨#[]⟩)) (fun w => by kernel_rfl) (by kernel_rfl) ?_
    refine s_val (some 14) (.int .i64 1) (fun w => by kernel_rfl) (by kernel_rfl) ?_
    refine s_val (some 3) (.string (⟨#[]⟩)) (fun w => by kernel_rfl) (by kernel_rfl) ?_
    refine s_val (some 4) (.int .i64 1) (fun w => by kernel_rfl) (by kernel_rfl) ?_
    refine s_nil ?_
    refine g_seq (by kernel_rfl) ?_
    refine g_sreg [0, 1, 2, 3, 4, 5, 6, 7, 8] (by kernel_rfl) (by kernel_rfl) ?_
    refine s_val (some 15) (.string (ByteArray.extract s 0 (min (ByteArray.size s) 4100))) (fun w => by kernel_rfl) (by kernel_rfl) ?_
    refine s_call H7 (some 16) 9 #[.string (ByteArray.extract s 0 (min (ByteArray.size s) 4100))] (.int .u32 ((BitVec.toNat (crc (tl (ByteArray.extract s 0 (min (ByteArray.size s) 4100)))) : Nat) : Int)) (of_fn (ByteArray.extract s 0 (min (ByteArray.size s) 4100)) (by first | omega | (rw [ext_size _ _ _ (by omega)]; omega))) (fun w => by kernel_rfl) (by kernel_rfl) ?_
    intro w8 H8; clear H7
    refine s_val (some 17) (.string (ByteArray.extract s 0 (min (ByteArray.size s) 4100))) (fun w => by kernel_rfl) (by kernel_rfl) ?_
    refine s_call H8 (some 18) 10 #[.string (ByteArray.extract s 0 (min (ByteArray.size s) 4100))] (.int .u32 ((BitVec.toNat (crc (tl (ByteArray.extract s 0 (min (ByteArray.size s) 4100)))) : Nat) : Int)) (ofR_fn (ByteArray.extract s 0 (min (ByteArray.size s) 4100)) (by first | omega | (rw [ext_size _ _ _ (by omega)]; omega))) (fun w => by kernel_rfl) (by kernel_rfl) ?_
    intro w9 H9; clear H8
    refine s_valE (some 19) (.bool (!(((BitVec.toNat (crc (tl (ByteArray.extract s 0 (min (ByteArray.size s) 4100)))) : Nat) : Int) == ((BitVec.toNat (crc (tl (ByteArray.extract s 0 (min (ByteArray.size s) 4100)))) : Nat) : Int)))) (.bool false) (fun w => by kernel_rfl) (bool_eq (by rw [beq_iff_eq.2 (by omega)]; rfl)) (by kernel_rfl) ?_
    refine s_val (some 20) (.bool false) (fun w => by kernel_rfl) (by kernel_rfl) ?_
    refine s_call H9 (some 21) 11 #[] (.bool true) alive_fn (fun w => by kernel_rfl) (by kernel_rfl) ?_
    intro w10 H10; clear H9
    refine s_val (some 22) (.bool false) (fun w => by kernel_rfl) (by kernel_rfl) ?_
    refine s_val (some 23) (.bool false) (fun w => by kernel_rfl) (by kernel_rfl) ?_
    refine s_nil ?_
    refine g_cond_f (by kernel_rfl) (by kernel_rfl) ?_
    refine g_skip (by kernel_rfl) ?_
    show WP _ _ _ _ _ _
    refine g_seq (by kernel_rfl) ?_
    refine g_sreg [0, 1, 2] (by kernel_rfl) (by kernel_rfl) ?_
    refine s_val (some 24) (.string (ByteArray.extract s 0 (min (ByteArray.size s) 4100))) (fun w => by kernel_rfl) (by kernel_rfl) ?_
    refine s_call H10 (some 25) 12 #[.string (ByteArray.extract s 0 (min (ByteArray.size s) 4100))] (.bool false) (isRec_no (ByteArray.extract s 0 (min (ByteArray.size s) 4100)) (by omega)) (fun w => by kernel_rfl) (by kernel_rfl) ?_
    intro w11 H11; clear H10
    refine s_val (some 26) (.bool true) (fun w => by kernel_rfl) (by kernel_rfl) ?_
    refine s_nil ?_
    refine g_cond_t (by kernel_rfl) (by kernel_rfl) ?_
    refine g_sreg [0, 1, 2, 3, 4, 5, 6] (by kernel_rfl) (by kernel_rfl) ?_
    refine s_val (some 27) (.int .i64 1) (fun w => by kernel_rfl) (by kernel_rfl) ?_
    refine s_val (some 28) (.bool true) (fun w => by kernel_rfl) (by kernel_rfl) ?_
    refine s_val (some 29) (.bool true) (fun w => by kernel_rfl) (by kernel_rfl) ?_
    refine s_val (some 30) (.string (⟨#[]⟩)) (fun w => by kernel_rfl) (by kernel_rfl) ?_
    refine s_valE (some 31) (.bool (ByteArray.toList (⟨#[]⟩) == ByteArray.toList (⟨#[]⟩))) (.bool true) (fun w => by kernel_rfl) (bool_eq (str_self (⟨#[]⟩))) (by kernel_rfl) ?_
    refine s_val (some 32) (.bool true) (fun w => by kernel_rfl) (by kernel_rfl) ?_
    refine s_val (some 2) (.bool true) (fun w => by kernel_rfl) (by kernel_rfl) ?_
    refine s_nil ?_
    refine g_ret (by kernel_rfl) ?_
    show ∃ vs, Res _ _ _ _ vs ∧ _
    refine ⟨[.bool true], (.tmp (.bool true) (by kernel_rfl) .nil), ?_, H11.below⟩
    rfl

set_option maxRecDepth 100000 in
set_option maxHeartbeats 2000000 in
theorem crcScans_fn (s : ByteArray) : Fn Try.prog 4 #[.string s] (.bool true) := by
  refine Fn.intro (c := codeOf Try.f4) [.tmp 2] 33 Try.func4 (by kernel_rfl) (by kernel_rfl) (by kernel_rfl) fun w => ?_
  have H0 := St.start w
  refine g_sreg [0] (by kernel_rfl) (by kernel_rfl) ?_
  refine s_val (some 2) (.bool false) (fun w => by kernel_rfl) (by kernel_rfl) ?_
  refine s_nil ?_
  refine g_sreg [0, 1, 2, 3, 4, 5] (by kernel_rfl) (by kernel_rfl) ?_
  refine s_val (some 7) (.string s) (fun w => by kernel_rfl) (by kernel_rfl) ?_
  refine s_val (some 8) (.string s) (fun w => by kernel_rfl) (by kernel_rfl) ?_
  refine s_val (some 9) (.int .i64 ((ByteArray.size s : Nat) : Int)) (fun w => by kernel_rfl) (by kernel_rfl) ?_
  refine s_valE (some 10) (.int .i64 (if (9000 : Int) < (((ByteArray.size s : Nat) : Int) : Int) then (9000 : Int) else (((ByteArray.size s : Nat) : Int) : Int))) (.int .i64 ((min (ByteArray.size s) 9000 : Nat) : Int)) (fun w => by kernel_rfl) (int_eq (minN (ByteArray.size s) 9000)) (by kernel_rfl) ?_
  refine s_op (some 11) _ (.string (ByteArray.extract s 0 (min (ByteArray.size s) 9000))) (by kernel_rfl) (by kernel_rfl) (fun o w ho => scut_run (t := 9) (kd := .i64) (by kernel_rfl) (x := (.tmp 7)) (y := (.tmp 10)) s (min (ByteArray.size s) 9000) ho (by kernel_rfl) (by kernel_rfl) (by omega) w) ?_
  refine s_val (some 0) (.string (ByteArray.extract s 0 (min (ByteArray.size s) 9000))) (fun w => by kernel_rfl) (by kernel_rfl) ?_
  refine s_nil ?_
  refine g_sreg [0, 1, 2, 3, 4, 5, 6] (by kernel_rfl) (by kernel_rfl) ?_
  have hS9000 : ByteArray.size (ByteArray.extract s 0 (min (ByteArray.size s) 9000)) ≤ 9000 := by rw [ext_size _ _ _ (Nat.min_le_left _ _)]; omega
  refine s_val (some 13) (.string (ByteArray.extract s 0 (min (ByteArray.size s) 9000))) (fun w => by kernel_rfl) (by kernel_rfl) ?_
  refine s_callT H0 (some 14) 14 #[.string (ByteArray.extract s 0 (min (ByteArray.size s) 9000))] (fun _ => True) 9 (fun rsZ pZ => Sc (tl (ByteArray.extract s 0 (min (ByteArray.size s) 9000))) rsZ pZ) (scan_fn (ByteArray.extract s 0 (min (ByteArray.size s) 9000)) (by first | omega | (rw [ext_size _ _ _ (by omega)]; omega))) trivial (by kernel_rfl) (by kernel_rfl) ?_ ?_
  · skip
    intro p_1 w1 H1 hs_2; clear H0
    have hlep_1 := sc_len hs_2; rw [tl_len] at hlep_1
    refine s_val (some 12) (.tuple #[.slice none 0 0, .int .i64 ((p_1 : Nat) : Int)]) (fun w => by kernel_rfl) (by kernel_rfl) ?_
    refine s_val (some 15) (.slice none 0 0) (fun w => by kernel_rfl) (by kernel_rfl) ?_
    refine s_val (some 16) (.int .i64 ((p_1 : Nat) : Int)) (fun w => by kernel_rfl) (by kernel_rfl) ?_
    refine s_val (some 3) (.slice none 0 0) (fun w => by kernel_rfl) (by kernel_rfl) ?_
    refine s_val (some 4) (.int .i64 ((p_1 : Nat) : Int)) (fun w => by kernel_rfl) (by kernel_rfl) ?_
    refine s_nil ?_
    refine g_sreg [0, 1, 2, 3, 4, 5, 6] (by kernel_rfl) (by kernel_rfl) ?_
    refine s_val (some 18) (.string (ByteArray.extract s 0 (min (ByteArray.size s) 9000))) (fun w => by kernel_rfl) (by kernel_rfl) ?_
    refine s_callT H1 (some 19) 15 #[.string (ByteArray.extract s 0 (min (ByteArray.size s) 9000))] (fun _ => True) 9 (fun rsZ pZ => Sc (tl (ByteArray.extract s 0 (min (ByteArray.size s) 9000))) rsZ pZ) (scanR_fn (ByteArray.extract s 0 (min (ByteArray.size s) 9000)) (by first | omega | (rw [ext_size _ _ _ (by omega)]; omega))) trivial (by kernel_rfl) (by kernel_rfl) ?_ ?_
    · skip
      intro p_3 w2 H2 hs_4; clear H1
      obtain ⟨hl1, hp1⟩ := Sc.uniq hs_2 hs_4
      refine s_val (some 17) (.tuple #[.slice none 0 0, .int .i64 ((p_3 : Nat) : Int)]) (fun w => by kernel_rfl) (by kernel_rfl) ?_
      refine s_val (some 20) (.slice none 0 0) (fun w => by kernel_rfl) (by kernel_rfl) ?_
      refine s_val (some 21) (.int .i64 ((p_3 : Nat) : Int)) (fun w => by kernel_rfl) (by kernel_rfl) ?_
      refine s_val (some 5) (.slice none 0 0) (fun w => by kernel_rfl) (by kernel_rfl) ?_
      refine s_val (some 6) (.int .i64 ((p_3 : Nat) : Int)) (fun w => by kernel_rfl) (by kernel_rfl) ?_
      refine s_nil ?_
      refine g_sreg [0, 1, 2, 3, 4, 5, 6, 7, 8, 9, 10, 11] (by kernel_rfl) (by kernel_rfl) ?_
      refine s_call H2 (some 22) 11 #[] (.bool true) alive_fn (fun w => by kernel_rfl) (by kernel_rfl) ?_
      intro w3 H3; clear H2
      refine s_val (some 23) (.bool true) (fun w => by kernel_rfl) (by kernel_rfl) ?_
      refine s_val (some 24) (.slice none 0 0) (fun w => by kernel_rfl) (by kernel_rfl) ?_
      refine s_val (some 25) (.slice none 0 0) (fun w => by kernel_rfl) (by kernel_rfl) ?_
      refine s_call H3 (some 26) 16 #[.slice none 0 0, .slice none 0 0] (.bool true) same_nn (fun w => by kernel_rfl) (by kernel_rfl) ?_
      intro w4 H4; clear H3
      refine s_val (some 27) (.bool true) (fun w => by kernel_rfl) (by kernel_rfl) ?_
      refine s_val (some 28) (.bool true) (fun w => by kernel_rfl) (by kernel_rfl) ?_
      refine s_val (some 29) (.int .i64 ((p_1 : Nat) : Int)) (fun w => by kernel_rfl) (by kernel_rfl) ?_
      refine s_val (some 30) (.int .i64 ((p_3 : Nat) : Int)) (fun w => by kernel_rfl) (by kernel_rfl) ?_
      refine s_valE (some 31) (.bool (((p_1 : Nat) : Int) == ((p_3 : Nat) : Int))) (.bool true) (fun w => by kernel_rfl) (bool_eq (beq_iff_eq.2 (by omega))) (by kernel_rfl) ?_
      refine s_val (some 32) (.bool true) (fun w => by kernel_rfl) (by kernel_rfl) ?_
      refine s_val (some 2) (.bool true) (fun w => by kernel_rfl) (by kernel_rfl) ?_
      refine s_nil ?_
      refine g_ret (by kernel_rfl) ?_
      show ∃ vs, Res _ _ _ _ vs ∧ _
      refine ⟨[.bool true], (.tmp (.bool true) (by kernel_rfl) .nil), ?_, H4.below⟩
      rfl
    · skip
      intro b_5 cap_6 n_7 cur_8 rs_9 p_10 w5 H5 hs_11 hn_12 hr_13; clear H1
      obtain ⟨hl2, hp2⟩ := Sc.uniq hs_2 hs_11
      have hz2 := congrArg List.length hl2; simp only [List.length_nil] at hz2
      refine s_val (some 17) (.tuple #[.slice (some ⟨b_5, 0, none⟩) n_7 cap_6, .int .i64 ((p_10 : Nat) : Int)]) (fun w => by kernel_rfl) (by kernel_rfl) ?_
      refine s_val (some 20) (.slice (some ⟨b_5, 0, none⟩) n_7 cap_6) (fun w => by kernel_rfl) (by kernel_rfl) ?_
      refine s_val (some 21) (.int .i64 ((p_10 : Nat) : Int)) (fun w => by kernel_rfl) (by kernel_rfl) ?_
      refine s_val (some 5) (.slice (some ⟨b_5, 0, none⟩) n_7 cap_6) (fun w => by kernel_rfl) (by kernel_rfl) ?_
      refine s_val (some 6) (.int .i64 ((p_10 : Nat) : Int)) (fun w => by kernel_rfl) (by kernel_rfl) ?_
      refine s_nil ?_
      refine g_sreg [0, 1, 2, 3, 4, 5, 6, 7, 8, 9, 10, 11] (by kernel_rfl) (by kernel_rfl) ?_
      refine s_call H5 (some 22) 11 #[] (.bool true) alive_fn (fun w => by kernel_rfl) (by kernel_rfl) ?_
      intro w6 H6; clear H5
      refine s_val (some 23) (.bool true) (fun w => by kernel_rfl) (by kernel_rfl) ?_
      refine s_val (some 24) (.slice none 0 0) (fun w => by kernel_rfl) (by kernel_rfl) ?_
      refine s_val (some 25) (.slice (some ⟨b_5, 0, none⟩) n_7 cap_6) (fun w => by kernel_rfl) (by kernel_rfl) ?_
      refine s_callP H6 (some 26) 16 #[.slice none 0 0, .slice (some ⟨b_5, 0, none⟩) n_7 cap_6] (fun _ => True) (.bool true) (same_nb n_7 b_5 cap_6 (by omega)) trivial (fun w => by kernel_rfl) (by kernel_rfl) ?_
      intro w7 H7; clear H6
      refine s_val (some 27) (.bool true) (fun w => by kernel_rfl) (by kernel_rfl) ?_
      refine s_val (some 28) (.bool true) (fun w => by kernel_rfl) (by kernel_rfl) ?_
      refine s_val (some 29) (.int .i64 ((p_1 : Nat) : Int)) (fun w => by kernel_rfl) (by kernel_rfl) ?_
      refine s_val (some 30) (.int .i64 ((p_10 : Nat) : Int)) (fun w => by kernel_rfl) (by kernel_rfl) ?_
      refine s_valE (some 31) (.bool (((p_1 : Nat) : Int) == ((p_10 : Nat) : Int))) (.bool true) (fun w => by kernel_rfl) (bool_eq (beq_iff_eq.2 (by omega))) (by kernel_rfl) ?_
      refine s_val (some 32) (.bool true) (fun w => by kernel_rfl) (by kernel_rfl) ?_
      refine s_val (some 2) (.bool true) (fun w => by kernel_rfl) (by kernel_rfl) ?_
      refine s_nil ?_
      refine g_ret (by kernel_rfl) ?_
      show ∃ vs, Res _ _ _ _ vs ∧ _
      refine ⟨[.bool true], (.tmp (.bool true) (by kernel_rfl) .nil), ?_, H7.below⟩
      rfl
  · skip
    intro b_14 cap_15 n_16 cur_17 rs_18 p_19 w8 H8 hs_20 hn_21 hr_22; clear H0
    have hlep_19 := sc_len hs_20; rw [tl_len] at hlep_19
    refine s_val (some 12) (.tuple #[.slice (some ⟨b_14, 0, none⟩) n_16 cap_15, .int .i64 ((p_19 : Nat) : Int)]) (fun w => by kernel_rfl) (by kernel_rfl) ?_
    refine s_val (some 15) (.slice (some ⟨b_14, 0, none⟩) n_16 cap_15) (fun w => by kernel_rfl) (by kernel_rfl) ?_
    refine s_val (some 16) (.int .i64 ((p_19 : Nat) : Int)) (fun w => by kernel_rfl) (by kernel_rfl) ?_
    refine s_val (some 3) (.slice (some ⟨b_14, 0, none⟩) n_16 cap_15) (fun w => by kernel_rfl) (by kernel_rfl) ?_
    refine s_val (some 4) (.int .i64 ((p_19 : Nat) : Int)) (fun w => by kernel_rfl) (by kernel_rfl) ?_
    refine s_nil ?_
    refine g_sreg [0, 1, 2, 3, 4, 5, 6] (by kernel_rfl) (by kernel_rfl) ?_
    refine s_val (some 18) (.string (ByteArray.extract s 0 (min (ByteArray.size s) 9000))) (fun w => by kernel_rfl) (by kernel_rfl) ?_
    refine s_callT H8 (some 19) 15 #[.string (ByteArray.extract s 0 (min (ByteArray.size s) 9000))] (fun _ => True) 9 (fun rsZ pZ => Sc (tl (ByteArray.extract s 0 (min (ByteArray.size s) 9000))) rsZ pZ) (scanR_fn (ByteArray.extract s 0 (min (ByteArray.size s) 9000)) (by first | omega | (rw [ext_size _ _ _ (by omega)]; omega))) trivial (by kernel_rfl) (by kernel_rfl) ?_ ?_
    · skip
      intro p_23 w9 H9 hs_24; clear H8
      obtain ⟨hl3, hp3⟩ := Sc.uniq hs_20 hs_24
      have hz3 := congrArg List.length hl3; simp only [List.length_nil] at hz3
      refine s_val (some 17) (.tuple #[.slice none 0 0, .int .i64 ((p_23 : Nat) : Int)]) (fun w => by kernel_rfl) (by kernel_rfl) ?_
      refine s_val (some 20) (.slice none 0 0) (fun w => by kernel_rfl) (by kernel_rfl) ?_
      refine s_val (some 21) (.int .i64 ((p_23 : Nat) : Int)) (fun w => by kernel_rfl) (by kernel_rfl) ?_
      refine s_val (some 5) (.slice none 0 0) (fun w => by kernel_rfl) (by kernel_rfl) ?_
      refine s_val (some 6) (.int .i64 ((p_23 : Nat) : Int)) (fun w => by kernel_rfl) (by kernel_rfl) ?_
      refine s_nil ?_
      refine g_sreg [0, 1, 2, 3, 4, 5, 6, 7, 8, 9, 10, 11] (by kernel_rfl) (by kernel_rfl) ?_
      refine s_call H9 (some 22) 11 #[] (.bool true) alive_fn (fun w => by kernel_rfl) (by kernel_rfl) ?_
      intro w10 H10; clear H9
      refine s_val (some 23) (.bool true) (fun w => by kernel_rfl) (by kernel_rfl) ?_
      refine s_val (some 24) (.slice (some ⟨b_14, 0, none⟩) n_16 cap_15) (fun w => by kernel_rfl) (by kernel_rfl) ?_
      refine s_val (some 25) (.slice none 0 0) (fun w => by kernel_rfl) (by kernel_rfl) ?_
      refine s_callP H10 (some 26) 16 #[.slice (some ⟨b_14, 0, none⟩) n_16 cap_15, .slice none 0 0] (fun _ => True) (.bool true) (same_bn n_16 b_14 cap_15 (by omega)) trivial (fun w => by kernel_rfl) (by kernel_rfl) ?_
      intro w11 H11; clear H10
      refine s_val (some 27) (.bool true) (fun w => by kernel_rfl) (by kernel_rfl) ?_
      refine s_val (some 28) (.bool true) (fun w => by kernel_rfl) (by kernel_rfl) ?_
      refine s_val (some 29) (.int .i64 ((p_19 : Nat) : Int)) (fun w => by kernel_rfl) (by kernel_rfl) ?_
      refine s_val (some 30) (.int .i64 ((p_23 : Nat) : Int)) (fun w => by kernel_rfl) (by kernel_rfl) ?_
      refine s_valE (some 31) (.bool (((p_19 : Nat) : Int) == ((p_23 : Nat) : Int))) (.bool true) (fun w => by kernel_rfl) (bool_eq (beq_iff_eq.2 (by omega))) (by kernel_rfl) ?_
      refine s_val (some 32) (.bool true) (fun w => by kernel_rfl) (by kernel_rfl) ?_
      refine s_val (some 2) (.bool true) (fun w => by kernel_rfl) (by kernel_rfl) ?_
      refine s_nil ?_
      refine g_ret (by kernel_rfl) ?_
      show ∃ vs, Res _ _ _ _ vs ∧ _
      refine ⟨[.bool true], (.tmp (.bool true) (by kernel_rfl) .nil), ?_, H11.below⟩
      rfl
    · skip
      intro b_25 cap_26 n_27 cur_28 rs_29 p_30 w12 H12 hs_31 hn_32 hr_33; clear H8
      obtain ⟨hl4, hp4⟩ := Sc.uniq hs_20 hs_31
      refine s_val (some 17) (.tuple #[.slice (some ⟨b_25, 0, none⟩) n_27 cap_26, .int .i64 ((p_30 : Nat) : Int)]) (fun w => by kernel_rfl) (by kernel_rfl) ?_
      refine s_val (some 20) (.slice (some ⟨b_25, 0, none⟩) n_27 cap_26) (fun w => by kernel_rfl) (by kernel_rfl) ?_
      refine s_val (some 21) (.int .i64 ((p_30 : Nat) : Int)) (fun w => by kernel_rfl) (by kernel_rfl) ?_
      refine s_val (some 5) (.slice (some ⟨b_25, 0, none⟩) n_27 cap_26) (fun w => by kernel_rfl) (by kernel_rfl) ?_
      refine s_val (some 6) (.int .i64 ((p_30 : Nat) : Int)) (fun w => by kernel_rfl) (by kernel_rfl) ?_
      refine s_nil ?_
      refine g_sreg [0, 1, 2, 3, 4, 5, 6, 7, 8, 9, 10, 11] (by kernel_rfl) (by kernel_rfl) ?_
      refine s_call H12 (some 22) 11 #[] (.bool true) alive_fn (fun w => by kernel_rfl) (by kernel_rfl) ?_
      intro w13 H13; clear H12
      refine s_val (some 23) (.bool true) (fun w => by kernel_rfl) (by kernel_rfl) ?_
      refine s_val (some 24) (.slice (some ⟨b_14, 0, none⟩) n_16 cap_15) (fun w => by kernel_rfl) (by kernel_rfl) ?_
      refine s_val (some 25) (.slice (some ⟨b_25, 0, none⟩) n_27 cap_26) (fun w => by kernel_rfl) (by kernel_rfl) ?_
      refine s_callP H13 (some 26) 16 #[.slice (some ⟨b_14, 0, none⟩) n_16 cap_15, .slice (some ⟨b_25, 0, none⟩) n_27 cap_26] (fun w => w.heap[b_14]? = some (.cells cur_17 9 (0, 0)) ∧ w.heap[b_25]? = some (.cells cur_28 9 (0, 0))) (.bool true) (same_bb2 rs_18 rs_29 n_16 n_27 b_14 cap_15 b_25 cap_26 cur_17 cur_28 hl4 hn_21 hn_32 (by omega) hr_22 hr_33) (⟨(H13.get 1 (by kernel_rfl)), (H13.get 0 (by kernel_rfl))⟩) (fun w => by kernel_rfl) (by kernel_rfl) ?_
      intro w14 H14; clear H13
      refine s_val (some 27) (.bool true) (fun w => by kernel_rfl) (by kernel_rfl) ?_
      refine s_val (some 28) (.bool true) (fun w => by kernel_rfl) (by kernel_rfl) ?_
      refine s_val (some 29) (.int .i64 ((p_19 : Nat) : Int)) (fun w => by kernel_rfl) (by kernel_rfl) ?_
      refine s_val (some 30) (.int .i64 ((p_30 : Nat) : Int)) (fun w => by kernel_rfl) (by kernel_rfl) ?_
      refine s_valE (some 31) (.bool (((p_19 : Nat) : Int) == ((p_30 : Nat) : Int))) (.bool true) (fun w => by kernel_rfl) (bool_eq (beq_iff_eq.2 (by omega))) (by kernel_rfl) ?_
      refine s_val (some 32) (.bool true) (fun w => by kernel_rfl) (by kernel_rfl) ?_
      refine s_val (some 2) (.bool true) (fun w => by kernel_rfl) (by kernel_rfl) ?_
      refine s_nil ?_
      refine g_ret (by kernel_rfl) ?_
      show ∃ vs, Res _ _ _ _ vs ∧ _
      refine ⟨[.bool true], (.tmp (.bool true) (by kernel_rfl) .nil), ?_, H14.below⟩
      rfl

set_option maxRecDepth 100000 in
set_option maxHeartbeats 2000000 in
theorem crcSizes_fn (s : ByteArray) : Fn Try.prog 7 #[.string s] (.bool true) := by
  refine Fn.intro (c := codeOf Try.f7) [.tmp 2] 51 Try.func7 (by kernel_rfl) (by kernel_rfl) (by kernel_rfl) fun w => ?_
  have H0 := St.start w
  refine g_sreg [0] (by kernel_rfl) (by kernel_rfl) ?_
  refine s_val (some 2) (.bool false) (fun w => by kernel_rfl) (by kernel_rfl) ?_
  refine s_nil ?_
  refine g_sreg [0, 1, 2, 3, 4, 5] (by kernel_rfl) (by kernel_rfl) ?_
  refine s_val (some 7) (.string s) (fun w => by kernel_rfl) (by kernel_rfl) ?_
  refine s_val (some 8) (.string s) (fun w => by kernel_rfl) (by kernel_rfl) ?_
  refine s_val (some 9) (.int .i64 ((ByteArray.size s : Nat) : Int)) (fun w => by kernel_rfl) (by kernel_rfl) ?_
  refine s_valE (some 10) (.int .i64 (if (600 : Int) < (((ByteArray.size s : Nat) : Int) : Int) then (600 : Int) else (((ByteArray.size s : Nat) : Int) : Int))) (.int .i64 ((min (ByteArray.size s) 600 : Nat) : Int)) (fun w => by kernel_rfl) (int_eq (minN (ByteArray.size s) 600)) (by kernel_rfl) ?_
  refine s_op (some 11) _ (.string (ByteArray.extract s 0 (min (ByteArray.size s) 600))) (by kernel_rfl) (by kernel_rfl) (fun o w ho => scut_run (t := 9) (kd := .i64) (by kernel_rfl) (x := (.tmp 7)) (y := (.tmp 10)) s (min (ByteArray.size s) 600) ho (by kernel_rfl) (by kernel_rfl) (by omega) w) ?_
  refine s_val (some 0) (.string (ByteArray.extract s 0 (min (ByteArray.size s) 600))) (fun w => by kernel_rfl) (by kernel_rfl) ?_
  refine s_nil ?_
  refine g_sreg [0, 1, 2, 3, 4, 5, 6] (by kernel_rfl) (by kernel_rfl) ?_
  have hS600 : ByteArray.size (ByteArray.extract s 0 (min (ByteArray.size s) 600)) ≤ 600 := by rw [ext_size _ _ _ (Nat.min_le_left _ _)]; omega
  by_cases hx1 : 1 ≤ ByteArray.size (ByteArray.extract s 0 (min (ByteArray.size s) 600)) ∧ ByteArray.size (ByteArray.extract s 0 (min (ByteArray.size s) 600)) ≤ 4000
  · skip
    refine s_val (some 13) (.string (ByteArray.extract s 0 (min (ByteArray.size s) 600))) (fun w => by kernel_rfl) (by kernel_rfl) ?_
    refine s_call H0 (some 14) 8 #[.string (ByteArray.extract s 0 (min (ByteArray.size s) 600))] (.tuple #[.string (strB (frB (tl (ByteArray.extract s 0 (min (ByteArray.size s) 600))))), .int .i64 0]) (frame_fn (ByteArray.extract s 0 (min (ByteArray.size s) 600)) (by omega)) (fun w => by kernel_rfl) (by kernel_rfl) ?_
    intro w1 H1; clear H0
    refine s_val (some 12) (.tuple #[.string (strB (frB (tl (ByteArray.extract s 0 (min (ByteArray.size s) 600))))), .int .i64 0]) (fun w => by kernel_rfl) (by kernel_rfl) ?_
    refine s_val (some 15) (.string (strB (frB (tl (ByteArray.extract s 0 (min (ByteArray.size s) 600)))))) (fun w => by kernel_rfl) (by kernel_rfl) ?_
    refine s_val (some 16) (.int .i64 0) (fun w => by kernel_rfl) (by kernel_rfl) ?_
    refine s_val (some 3) (.string (strB (frB (tl (ByteArray.extract s 0 (min (ByteArray.size s) 600)))))) (fun w => by kernel_rfl) (by kernel_rfl) ?_
    refine s_val (some 4) (.int .i64 0) (fun w => by kernel_rfl) (by kernel_rfl) ?_
    refine s_nil ?_
    refine g_seq (by kernel_rfl) ?_
    refine g_sreg [0, 1] (by kernel_rfl) (by kernel_rfl) ?_
    refine s_val (some 17) (.int .i64 0) (fun w => by kernel_rfl) (by kernel_rfl) ?_
    refine s_val (some 18) (.bool false) (fun w => by kernel_rfl) (by kernel_rfl) ?_
    refine s_nil ?_
    refine g_cond_f (by kernel_rfl) (by kernel_rfl) ?_
    refine g_skip (by kernel_rfl) ?_
    show WP _ _ _ _ _ _
    refine g_sreg [0, 1, 2, 3, 4, 5, 6, 7] (by kernel_rfl) (by kernel_rfl) ?_
    refine s_val (some 25) (.string (strB (frB (tl (ByteArray.extract s 0 (min (ByteArray.size s) 600)))))) (fun w => by kernel_rfl) (by kernel_rfl) ?_
    have hfz : ByteArray.size (strB (frB (tl (ByteArray.extract s 0 (min (ByteArray.size s) 600))))) = ByteArray.size (ByteArray.extract s 0 (min (ByteArray.size s) 600)) + 6 := by rw [frB_size, tl_len]
    have hsum : ByteArray.size ((strB (frB (tl (ByteArray.extract s 0 (min (ByteArray.size s) 600))))) ++ z7) = ByteArray.size (strB (frB (tl (ByteArray.extract s 0 (min (ByteArray.size s) 600))))) + 7 := add_size _ _
    refine s_op (some 26) _ (.string ((strB (frB (tl (ByteArray.extract s 0 (min (ByteArray.size s) 600))))) ++ z7)) (by kernel_rfl) (by kernel_rfl) (fun o w ho => sadd_run (t := 9) (t' := 9) (x := (.tmp 25)) (y := (.const (.string (⟨#[0, 0, 0, 0, 0, 0, 0]⟩)))) (strB (frB (tl (ByteArray.extract s 0 (min (ByteArray.size s) 600))))) z7 w ho (by kernel_rfl) (by kernel_rfl) (by rw [hfz]; show _ + 7 ≤ _; omega)) ?_
    refine s_callT H1 (some 27) 14 #[.string ((strB (frB (tl (ByteArray.extract s 0 (min (ByteArray.size s) 600))))) ++ z7)] (fun _ => True) 9 (fun rsZ pZ => Sc (tl ((strB (frB (tl (ByteArray.extract s 0 (min (ByteArray.size s) 600))))) ++ z7)) rsZ pZ) (scan_fn ((strB (frB (tl (ByteArray.extract s 0 (min (ByteArray.size s) 600))))) ++ z7) (by omega)) trivial (by kernel_rfl) (by kernel_rfl) ?_ ?_
    · skip
      intro p_1 w2 H2 hs_2; clear H1
      obtain ⟨hl2, hp2⟩ := Sc.uniq hs_2 (by rw [tl_add, tl_strB, tl_z7]; exact sc_one (s := (ByteArray.extract s 0 (min (ByteArray.size s) 600))) (isR_of (by omega)) (fst_zeros 7))
      exact absurd hl2 (by simp)
    · skip
      intro b_3 cap_4 n_5 cur_6 rs_7 p_8 w3 H3 hs_9 hn_10 hr_11; clear H1
      obtain ⟨hl3, hp3⟩ := Sc.uniq hs_9 (by rw [tl_add, tl_strB, tl_z7]; exact sc_one (s := (ByteArray.extract s 0 (min (ByteArray.size s) 600))) (isR_of (by omega)) (fst_zeros 7))
      have hnl3 := congrArg List.length hl3; simp only [List.length_cons, List.length_nil] at hnl3
      refine s_val (some 24) (.tuple #[.slice (some ⟨b_3, 0, none⟩) n_5 cap_4, .int .i64 ((p_8 : Nat) : Int)]) (fun w => by kernel_rfl) (by kernel_rfl) ?_
      refine s_val (some 28) (.slice (some ⟨b_3, 0, none⟩) n_5 cap_4) (fun w => by kernel_rfl) (by kernel_rfl) ?_
      refine s_val (some 29) (.int .i64 ((p_8 : Nat) : Int)) (fun w => by kernel_rfl) (by kernel_rfl) ?_
      refine s_val (some 5) (.slice (some ⟨b_3, 0, none⟩) n_5 cap_4) (fun w => by kernel_rfl) (by kernel_rfl) ?_
      refine s_val (some 6) (.int .i64 ((p_8 : Nat) : Int)) (fun w => by kernel_rfl) (by kernel_rfl) ?_
      refine s_nil ?_
      refine g_sreg [0, 1, 2, 3, 4, 5, 6, 7, 8, 9, 10, 11, 12, 13, 14, 15, 16, 17, 18, 19, 20, 21] (by kernel_rfl) (by kernel_rfl) ?_
      refine s_call H3 (some 30) 11 #[] (.bool true) alive_fn (fun w => by kernel_rfl) (by kernel_rfl) ?_
      intro w4 H4; clear H3
      refine s_val (some 31) (.bool true) (fun w => by kernel_rfl) (by kernel_rfl) ?_
      refine s_val (some 32) (.string (strB (frB (tl (ByteArray.extract s 0 (min (ByteArray.size s) 600)))))) (fun w => by kernel_rfl) (by kernel_rfl) ?_
      refine s_val (some 33) (.int .i64 ((ByteArray.size (strB (frB (tl (ByteArray.extract s 0 (min (ByteArray.size s) 600))))) : Nat) : Int)) (fun w => by kernel_rfl) (by kernel_rfl) ?_
      refine s_val (some 34) (.string (ByteArray.extract s 0 (min (ByteArray.size s) 600))) (fun w => by kernel_rfl) (by kernel_rfl) ?_
      refine s_val (some 35) (.int .i64 ((ByteArray.size (ByteArray.extract s 0 (min (ByteArray.size s) 600)) : Nat) : Int)) (fun w => by kernel_rfl) (by kernel_rfl) ?_
      refine s_valE (some 36) (.int .i64 (IntKind.i64.wrap (((ByteArray.size (ByteArray.extract s 0 (min (ByteArray.size s) 600)) : Nat) : Int) + 6))) (.int .i64 (((ByteArray.size (ByteArray.extract s 0 (min (ByteArray.size s) 600))) + 6 : Nat) : Int)) (fun w => by kernel_rfl) (int_eq (wrapAdd_i64 (a := ByteArray.size (ByteArray.extract s 0 (min (ByteArray.size s) 600))) (b := 6) (by omega))) (by kernel_rfl) ?_
      refine s_valE (some 37) (.bool (((ByteArray.size (strB (frB (tl (ByteArray.extract s 0 (min (ByteArray.size s) 600))))) : Nat) : Int) == (((ByteArray.size (ByteArray.extract s 0 (min (ByteArray.size s) 600))) + 6 : Nat) : Int))) (.bool true) (fun w => by kernel_rfl) (bool_eq (beq_iff_eq.2 (by omega))) (by kernel_rfl) ?_
      refine s_val (some 38) (.bool true) (fun w => by kernel_rfl) (by kernel_rfl) ?_
      refine s_val (some 39) (.bool true) (fun w => by kernel_rfl) (by kernel_rfl) ?_
      refine s_val (some 40) (.int .i64 ((p_8 : Nat) : Int)) (fun w => by kernel_rfl) (by kernel_rfl) ?_
      refine s_val (some 41) (.string (strB (frB (tl (ByteArray.extract s 0 (min (ByteArray.size s) 600)))))) (fun w => by kernel_rfl) (by kernel_rfl) ?_
      refine s_val (some 42) (.int .i64 ((ByteArray.size (strB (frB (tl (ByteArray.extract s 0 (min (ByteArray.size s) 600))))) : Nat) : Int)) (fun w => by kernel_rfl) (by kernel_rfl) ?_
      refine s_valE (some 43) (.bool (((p_8 : Nat) : Int) == ((ByteArray.size (strB (frB (tl (ByteArray.extract s 0 (min (ByteArray.size s) 600))))) : Nat) : Int))) (.bool true) (fun w => by kernel_rfl) (bool_eq (beq_iff_eq.2 (by omega))) (by kernel_rfl) ?_
      refine s_val (some 44) (.bool true) (fun w => by kernel_rfl) (by kernel_rfl) ?_
      refine s_val (some 45) (.bool true) (fun w => by kernel_rfl) (by kernel_rfl) ?_
      refine s_val (some 46) (.slice (some ⟨b_3, 0, none⟩) n_5 cap_4) (fun w => by kernel_rfl) (by kernel_rfl) ?_
      refine s_val (some 47) (.string (ByteArray.extract s 0 (min (ByteArray.size s) 600))) (fun w => by kernel_rfl) (by kernel_rfl) ?_
      refine s_new H4 (some 48) (fun b => .slice (some ⟨b, 0, none⟩) 1 1) #[.string (ByteArray.extract s 0 (min (ByteArray.size s) 600))] 9 (fun w => by kernel_rfl) (by kernel_rfl) ?_
      intro b1 w5 H5; clear H4
      refine s_callP H5 (some 49) 16 #[.slice (some ⟨b_3, 0, none⟩) n_5 cap_4, .slice (some ⟨b1, 0, none⟩) 1 1] (fun w => w.heap[b_3]? = some (.cells cur_6 9 (0, 0)) ∧ w.heap[b1]? = some (.cells #[.string (ByteArray.extract s 0 (min (ByteArray.size s) 600))] 9 (0, 0))) (.bool true) (same_bb2 rs_7 ([(ByteArray.extract s 0 (min (ByteArray.size s) 600))]) n_5 1 b_3 cap_4 b1 1 cur_6 #[.string (ByteArray.extract s 0 (min (ByteArray.size s) 600))] hl3 hn_10 rfl (by omega) hr_11 (Rw.lit #[.string (ByteArray.extract s 0 (min (ByteArray.size s) 600))] 1 (by rfl) (by unfold maxLen; omega))) (⟨(H5.get 1 (by kernel_rfl)), (H5.get 0 (by kernel_rfl))⟩) (fun w => by kernel_rfl) (by kernel_rfl) ?_
      intro w6 H6; clear H5
      refine s_val (some 50) (.bool true) (fun w => by kernel_rfl) (by kernel_rfl) ?_
      refine s_val (some 2) (.bool true) (fun w => by kernel_rfl) (by kernel_rfl) ?_
      refine s_nil ?_
      refine g_ret (by kernel_rfl) ?_
      show ∃ vs, Res _ _ _ _ vs ∧ _
      refine ⟨[.bool true], (.tmp (.bool true) (by kernel_rfl) .nil), ?_, H6.below⟩
      rfl
  · skip
    refine s_val (some 13) (.string (ByteArray.extract s 0 (min (ByteArray.size s) 600))) (fun w => by kernel_rfl) (by kernel_rfl) ?_
    refine s_call H0 (some 14) 8 #[.string (ByteArray.extract s 0 (min (ByteArray.size s) 600))] (.tuple #[.string (⟨#[]⟩), .int .i64 1]) (frameNo_fn (ByteArray.extract s 0 (min (ByteArray.size s) 600)) (by omega)) (fun w => by kernel_rfl) (by kernel_rfl) ?_
    intro w7 H7; clear H0
    refine s_val (some 12) (.tuple #[.string (⟨#[]⟩), .int .i64 1]) (fun w => by kernel_rfl) (by kernel_rfl) ?_
    refine s_val (some 15) (.string (⟨#[]⟩)) (fun w => by kernel_rfl) (by kernel_rfl) ?_
    refine s_val (some 16) (.int .i64 1) (fun w => by kernel_rfl) (by kernel_rfl) ?_
    refine s_val (some 3) (.string (⟨#[]⟩)) (fun w => by kernel_rfl) (by kernel_rfl) ?_
    refine s_val (some 4) (.int .i64 1) (fun w => by kernel_rfl) (by kernel_rfl) ?_
    refine s_nil ?_
    refine g_seq (by kernel_rfl) ?_
    refine g_sreg [0, 1] (by kernel_rfl) (by kernel_rfl) ?_
    refine s_val (some 17) (.int .i64 1) (fun w => by kernel_rfl) (by kernel_rfl) ?_
    refine s_val (some 18) (.bool true) (fun w => by kernel_rfl) (by kernel_rfl) ?_
    refine s_nil ?_
    refine g_cond_t (by kernel_rfl) (by kernel_rfl) ?_
    refine g_sreg [0, 1, 2, 3, 4, 5] (by kernel_rfl) (by kernel_rfl) ?_
    refine s_call H7 (some 19) 11 #[] (.bool true) alive_fn (fun w => by kernel_rfl) (by kernel_rfl) ?_
    intro w8 H8; clear H7
    refine s_val (some 20) (.bool true) (fun w => by kernel_rfl) (by kernel_rfl) ?_
    refine s_val (some 21) (.string (ByteArray.extract s 0 (min (ByteArray.size s) 600))) (fun w => by kernel_rfl) (by kernel_rfl) ?_
    refine s_valE (some 22) (.bool (ByteArray.toList (ByteArray.extract s 0 (min (ByteArray.size s) 600)) == ByteArray.toList (⟨#[]⟩))) (.bool true) (fun w => by kernel_rfl) (bool_eq (str_same (ByteArray.extract s 0 (min (ByteArray.size s) 600)) (⟨#[]⟩) (tl_inj (List.eq_nil_of_length_eq_zero (by rw [tl_len]; omega))))) (by kernel_rfl) ?_
    refine s_val (some 23) (.bool true) (fun w => by kernel_rfl) (by kernel_rfl) ?_
    refine s_val (some 2) (.bool true) (fun w => by kernel_rfl) (by kernel_rfl) ?_
    refine s_nil ?_
    refine g_ret (by kernel_rfl) ?_
    show ∃ vs, Res _ _ _ _ vs ∧ _
    refine ⟨[.bool true], (.tmp (.bool true) (by kernel_rfl) .nil), ?_, H8.below⟩
    rfl
end Go.Proofs.Ythipcmpmfjeakaa
