/-
  A sum; what the law asks first.
-/
import Derived.Test.YtddhadddpllbcaaDoorProg
import Derived.Test.YtddhadddpllbcaaDoorStr
import Derived.Test.YtddhadddpllbcaaDoorKecM
import Derived.Test.YtddhadddpllbcaaDoorKecO
import Derived.Test.YtddhadddpllbcaaDoorKecE
namespace Go.Proofs.YtddhadddpllbcaaDoor
open Go Go.RowKit Go.Proofs.Kec
set_option linter.unusedVariables false
theorem sum_size (l : List UInt8) : ByteArray.size (strB (sumB l)) = 32 := sumB_len l
theorem alive_eq : (ByteArray.toList (ByteArray.extract (strB (sumB (tl ⟨#[]⟩))) 0 4) == ByteArray.toList ⟨#[197, 210, 70, 1]⟩) = true := by
  have h : ByteArray.extract (strB (sumB (tl ⟨#[]⟩))) 0 4 = ⟨#[197, 210, 70, 1]⟩ := by
    rw [← strB_tl (ByteArray.extract _ _ _), tl_extract, tl_strB, List.drop_zero]
    rw [show sumB (tl ⟨#[]⟩) = sumB [] from rfl, sumB_nil]; rfl
  rw [h]; exact str_self _

set_option maxRecDepth 100000 in
set_option maxHeartbeats 2000000 in
theorem sum_fn (s : ByteArray) (hs : ByteArray.size s < 4611686018427387904) : FnP Tryd.prog 8 #[.string s] (Marks) (.string (strB (sumB (tl s)))) := by
  refine FnP.intro (c := codeOf Tryd.f8) [.tmp 2] 6 Tryd.func8 (by kernel_rfl) (by kernel_rfl) (by kernel_rfl) fun w hpre => ?_
  have H0 := St.start w
  refine g_sreg [0] (by kernel_rfl) (by kernel_rfl) ?_
  refine s_val (some 2) (.string (⟨#[]⟩)) (fun w => by kernel_rfl) (by kernel_rfl) ?_
  refine s_nil ?_
  refine g_sreg [0, 1, 2, 3] (by kernel_rfl) (by kernel_rfl) ?_
  refine s_val (some 3) (.string s) (fun w => by kernel_rfl) (by kernel_rfl) ?_
  refine s_new H0 (some 4) (fun b => .slice (some ⟨b, 0, none⟩) 1 1) #[.string s] 9 (fun w => by kernel_rfl) (by kernel_rfl) ?_
  intro b1 w1 H1; clear H0
  refine s_callP H1 (some 5) 12 #[.slice (some ⟨b1, 0, none⟩) 1 1] (fun w => Marks w ∧ w.heap[b1]? = some (.cells #[.string s] 9 (0, 0))) (.string (strB (sumB (tl s)))) (of_fn1 b1 s (by first | assumption | decide | omega)) (⟨(Marks.old H1 rfl hpre), (H1.get 0 (by kernel_rfl))⟩) (fun w => by kernel_rfl) (by kernel_rfl) ?_
  intro w2 H2; clear H1
  refine s_val (some 2) (.string (strB (sumB (tl s)))) (fun w => by kernel_rfl) (by kernel_rfl) ?_
  refine s_nil ?_
  refine g_ret (by kernel_rfl) ?_
  show ∃ vs, Res _ _ _ _ vs ∧ _
  refine ⟨[.string (strB (sumB (tl s)))], (.tmp (.string (strB (sumB (tl s)))) (by kernel_rfl) .nil), ?_, H2.below⟩
  rfl

set_option maxRecDepth 100000 in
set_option maxHeartbeats 2000000 in
theorem alive_fn  : FnP Tryd.prog 7 #[] (Marks) (.bool true) := by
  refine FnP.intro (c := codeOf Tryd.f7) [.tmp 0] 11 Tryd.func7 (by kernel_rfl) (by kernel_rfl) (by kernel_rfl) fun w hpre => ?_
  have H0 := St.start w
  refine g_sreg [0] (by kernel_rfl) (by kernel_rfl) ?_
  refine s_val (some 0) (.bool false) (fun w => by kernel_rfl) (by kernel_rfl) ?_
  refine s_nil ?_
  refine g_sreg [0, 1] (by kernel_rfl) (by kernel_rfl) ?_
  refine s_callP H0 (some 2) 8 #[.string (⟨#[]⟩)] (Marks) (.string (strB (sumB (tl (⟨#[]⟩))))) (sum_fn (⟨#[]⟩) (by first | assumption | decide | omega)) (Marks.old H0 rfl hpre) (fun w => by kernel_rfl) (by kernel_rfl) ?_
  intro w1 H1; clear H0
  refine s_val (some 1) (.string (strB (sumB (tl (⟨#[]⟩))))) (fun w => by kernel_rfl) (by kernel_rfl) ?_
  refine s_nil ?_
  refine g_sreg [0, 1, 2, 3, 4, 5, 6, 7, 8] (by kernel_rfl) (by kernel_rfl) ?_
  have hz := sum_size (tl ⟨#[]⟩)
  refine s_val (some 3) (.string (strB (sumB (tl (⟨#[]⟩))))) (fun w => by kernel_rfl) (by kernel_rfl) ?_
  refine s_val (some 4) (.int .i64 ((ByteArray.size (strB (sumB (tl (⟨#[]⟩)))) : Nat) : Int)) (fun w => by kernel_rfl) (by kernel_rfl) ?_
  refine s_valE (some 5) (.bool (((ByteArray.size (strB (sumB (tl (⟨#[]⟩)))) : Nat) : Int) == 32)) (.bool true) (fun w => by kernel_rfl) (bool_eq (beq_iff_eq.2 (by rw [sum_size]; rfl))) (by kernel_rfl) ?_
  refine s_val (some 6) (.bool true) (fun w => by kernel_rfl) (by kernel_rfl) ?_
  refine s_val (some 7) (.string (strB (sumB (tl (⟨#[]⟩))))) (fun w => by kernel_rfl) (by kernel_rfl) ?_
  refine s_op (some 8) _ (.string (ByteArray.extract (strB (sumB (tl (⟨#[]⟩)))) 0 4)) (by kernel_rfl) (by kernel_rfl) (fun o w ho => scut_run (t := 9) (kd := .i64) (by kernel_rfl) (x := (.tmp 7)) (y := (.const (.int .i64 4))) (strB (sumB (tl (⟨#[]⟩)))) 4 ho (by kernel_rfl) (by kernel_rfl) (by omega) w) ?_
  refine s_valE (some 9) (.bool (ByteArray.toList (ByteArray.extract (strB (sumB (tl (⟨#[]⟩)))) 0 4) == ByteArray.toList (⟨#[197, 210, 70, 1]⟩))) (.bool true) (fun w => by kernel_rfl) (bool_eq alive_eq) (by kernel_rfl) ?_
  refine s_val (some 10) (.bool true) (fun w => by kernel_rfl) (by kernel_rfl) ?_
  refine s_val (some 0) (.bool true) (fun w => by kernel_rfl) (by kernel_rfl) ?_
  refine s_nil ?_
  refine g_ret (by kernel_rfl) ?_
  show ∃ vs, Res _ _ _ _ vs ∧ _
  refine ⟨[.bool true], (.tmp (.bool true) (by kernel_rfl) .nil), ?_, H1.below⟩
  rfl
end Go.Proofs.YtddhadddpllbcaaDoor
