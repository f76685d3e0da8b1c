/-
  Texts of the proof, part 3.
-/
import Derived.Test.YtdgoaaaagpeaaaaDoorProg
import Derived.Recover
import Derived.Test.YtdgoaaaagpeaaaaDoorRows
import Derived.LaidLaws
import Derived.LaidHandle
import Derived.MakeChecks
import Derived.WalkKit
import Derived.Test.YtdgoaaaagpeaaaaDoorRR1
import Derived.Test.YtdgoaaaagpeaaaaDoorRR2

namespace Go.Proofs.YtdgoaaaagpeaaaaDoor
open Go Go.RowKit
set_option linter.unusedVariables false
theorem wrapN_u8 {a : Nat} (h : a ≤ 255) : IntKind.u8.wrap (a : Int) = (a : Int) := by rw [IntKind.wrap_u8]; omega
abbrev dc (t : ByteArray) : Obj := .cells #[.string t] 66 (0, 0)
def chF : List PanicEntry := [{ v := .iface 26 (.int .i64 4), recovered := false }]
/-- A call that takes from the decoder in block bd, or ends by a panic. -/
def FnX (P : Program) (f : Nat) (args : Array Value) (bd : Nat) (t : ByteArray) (ok : ByteArray → Value → List (Nat × Obj) → Prop) (bad : Prop) : Prop :=
  ∀ (B : Nat) (w0 w : World) (L : List (Nat × Obj)), St B w0 w ((bd, dc t) :: L) → Calls P f args w fun e w' =>
    (∃ v u T, e = .returned v ∧ ok u v T ∧ St B w0 w' ((bd, dc u) :: (T ++ L))) ∨ (e = .panicked chF ∧ bad ∧ St B w0 w' L)
abbrev outX (P : Program) (rs : List ResultVar) (B : Nat) (w0 : World) (bd : Nat) (L : List (Nat × Obj)) (ok : ByteArray → Value → List (Nat × Obj) → Prop) (bad : Prop) : Exit → Env → World → Prop :=
  endsX P rs (fun v w' => ∃ u T, ok u v T ∧ St B w0 w' ((bd, dc u) :: (T ++ L))) (fun ch w' => ch = chF ∧ bad ∧ St B w0 w' L)
theorem FnX.intro {P : Program} {f : Nat} {fn : Func} {c : Code} (rs : List ResultVar) (N : Nat) {args : Array Value} {bd : Nat} {t : ByteArray} {ok : ByteArray → Value → List (Nat × Obj) → Prop} {bad : Prop} (hf : P.funcs[f]? = some fn) (hb : fn.body = some c) (hr : fn.results.toList = rs) (hn : args.size + (fn.ntmps - args.size) = N)
    (h : ∀ B w0 w L, St B w0 w ((bd, dc t) :: L) → WP P N c (outX P rs B w0 bd L ok bad) (ini args) w) : FnX P f args bd t ok bad := fun B w0 w L HS =>
  (calls_introX hf hb hr hn (h B w0 w L HS)).mono fun e w' q => by
    rcases q with ⟨v, he, u, T, h1, h2⟩ | ⟨ch, he, h0, h1, h2⟩
    · exact .inl ⟨v, u, T, he, h1, h2⟩
    · exact .inr ⟨by rw [he, h0], h1, h2⟩
section
variable {P : Program} {N : Nat} {ops : Array Oper} {Q : Exit → Env → World → Prop} {K : Env → World → Prop} {ρ : Env} {w w0 : World} {i B : Nat} {r : List Nat} {l : List (Nat × Obj)}
theorem x_callX {bd : Nat} {t : ByteArray} {L : List (Nat × Obj)} (HS : St B w0 w l) (hp : ((bd, dc t) :: L).Perm l) (d : Option Nat) (f : Nat) (args : Array Value) {ok : ByteArray → Value → List (Nat × Obj) → Prop} {bad : Prop} (hc : FnX P f args bd t ok bad)
    (h : opv P ops i ρ w = some (d, true, .ok (.enter f args) w)) (hd : dOK d N = true)
    (kp : ∀ w', bad → St B w0 w' L → Q (.panic chF) ρ w')
    (kk : ∀ v u T w', ok u v T → St B w0 w' ((bd, dc u) :: (T ++ L)) → WPsX P N ops Q K r (updO ρ d v) w') : WPsX P N ops Q K (i :: r) ρ w :=
  x_call d f args _ (hc B w0 w L (HS.perm hp)) h hd fun e w' q => by
    rcases q with ⟨v, u, T, he, h1, h2⟩ | ⟨he, h1, h2⟩
    · exact .inl ⟨v, he, kk v u T w' h1 h2⟩
    · exact .inr ⟨chF, he, kp w' h1 h2⟩
/-- The region ends here. -/
theorem x_end (l1 : List Nat) (h : WPs P N ops K l1 ρ w) : WPsX P N ops Q K l1 ρ w := x_seg l1 (l2 := []) (by simp) h
end
set_option maxRecDepth 100000 in
set_option maxHeartbeats 2000000 in
theorem take_x (bd m : Nat) (t : ByteArray) (ht : t.size ≤ 100000) : FnX Tryd.prog 49 #[.pointer (some ⟨bd, 0, none⟩), .int .u64 ((m : Nat) : Int)] bd t (fun u v T => m ≤ t.size ∧ v = .string (t.extract 0 m) ∧ u = t.extract m t.size ∧ T = []) (t.size < m) := by
  refine FnX.intro (c := codeOf Tryd.f49) [.tmp 4] 31 Tryd.func49 kr kr kr fun B w0 w L H0 => ?_
  refine rS [.v] H0 kr fun gs1 w1 H1 => ?_
  refine g_seq kr ?_
  by_cases hm : m ≤ t.size
  · refine rS [.v, .v, .v, .v, .l 0, .v, .e (v := .int .u64 (IntKind.u64.wrap (((ByteArray.size t : Nat) : Int)))) (v' := .int .u64 ((ByteArray.size t : Nat) : Int)) (int_eq (wrapN_u64 (a := ByteArray.size t) (by omega))), .e (v := .bool (decide (((ByteArray.size t : Nat) : Int) < ((m : Nat) : Int)))) (v' := .bool false) (bool_eq (decide_eq_false (by omega)))] H1 kr fun gs2 w2 H2 => ?_
    refine g_cond_f kr kr ?_
    refine g_skip kr ?_
    show WP _ _ _ _ _ _
    refine rS [.v, .v, .v, .l 0, .v, .o (ins := [((.tmp 18), .string t), ((.tmp 19), .int .u64 ((m : Nat) : Int))]) (v := .string (ByteArray.extract t 0 m)) (fun ρ o w ho hi => scut_run (t := 9) (kd := .u64) kr (x := (.tmp 18)) (y := (.tmp 19)) t m ho hi.1 hi.2.1 (by omega) w), .v] H2 kr fun gs3 w3 H3 => ?_
    refine rS [.v, .v, .v, .v, .l 0, .v, .o (ins := [((.tmp 25), .string t), ((.tmp 26), .int .u64 ((m : Nat) : Int))]) (v := .string (ByteArray.extract t m (ByteArray.size t))) (fun ρ o w ho hi => scut3_run (t := 9) (kz := .u64) kr (x := (.tmp 25)) (z := (.tmp 26)) t m ho hi.1 hi.2.1 (by omega) w), .v, .v, .s 0] H3 kr fun gs4 w4 H4 => ?_
    refine rS [.v, .v] H4 kr fun gs5 w5 H5 => ?_
    refine g_ret kr ?_
    show ∃ vs, Res _ _ _ _ vs ∧ _
    exact ⟨[.string (t.extract 0 m)], (.tmp (.string (t.extract 0 m)) kr .nil), _, [], ⟨hm, rfl, rfl, rfl⟩, H5.as kr⟩
  · refine rS [.v, .v, .v, .v, .l 0, .v, .e (v := .int .u64 (IntKind.u64.wrap (((ByteArray.size t : Nat) : Int)))) (v' := .int .u64 ((ByteArray.size t : Nat) : Int)) (int_eq (wrapN_u64 (a := ByteArray.size t) (by omega))), .e (v := .bool (decide (((ByteArray.size t : Nat) : Int) < ((m : Nat) : Int)))) (v' := .bool true) (bool_eq (decide_eq_true (by omega)))] H1 kr fun gs2 w2 H2 => ?_
    refine g_cond_t kr kr ?_
    refine x_reg0 [0, 1] kr ?_
    refine x_seg [0] (l2 := [1]) rfl ?_
    refine rp [.v] H2 kr fun gs3 w3 H3 => ?_
    show WPs _ _ _ _ [] _ _
    refine s_nil ?_
    refine x_panic none (.iface 26 (.int .i64 4)) kr ?_
    have H4 : St B w0 w3 ((bd, dc t) :: L) := H3.as kr
    exact ⟨rfl, by omega, H4.sub (List.sublist_cons_self ..)⟩
set_option maxRecDepth 100000 in
set_option maxHeartbeats 2000000 in
theorem count_x (bd f : Nat) (t : ByteArray) (hf : f < 64) (ht : t.size ≤ 100000) : FnX Tryd.prog 51 #[.pointer (some ⟨bd, 0, none⟩), .int .u8 ((f : Nat) : Int)] bd t (fun u v T => ∃ n, cntS f t = some (n, u) ∧ v = .int .u64 ((n : Nat) : Int) ∧ T = []) (cntS f t = none) := by
  refine FnX.intro (c := codeOf Tryd.f51) [.tmp 4] 24 Tryd.func51 kr kr kr fun B w0 w L H0 => ?_
  refine rS [.v] H0 kr fun gs1 w1 H1 => ?_
  refine g_seq kr ?_
  by_cases hm : f ≤ 55
  · refine rS [.v, .e (v := .bool (decide (((f : Nat) : Int) ≤ 55))) (v' := .bool true) (bool_eq (decide_eq_true (by omega)))] H1 kr fun gs2 w2 H2 => ?_
    refine g_cond_t kr kr ?_
    refine rS [.v, .e (v := .int .u64 (IntKind.u64.wrap (((f : Nat) : Int)))) (v' := .int .u64 ((f : Nat) : Int)) (int_eq (wrapN_u64 (a := f) (by omega))), .v] H2 kr fun gs3 w3 H3 => ?_
    refine g_ret kr ?_
    show ∃ vs, Res _ _ _ _ vs ∧ _
    exact ⟨[.int .u64 ((f : Nat) : Int)], (.tmp (.int .u64 ((f : Nat) : Int)) kr .nil), t, [], ⟨f, by unfold cntS; rw [if_pos hm], rfl, rfl⟩, H3.as kr⟩
  · refine rS [.v, .e (v := .bool (decide (((f : Nat) : Int) ≤ 55))) (v' := .bool false) (bool_eq (decide_eq_false (by omega)))] H1 kr fun gs2 w2 H2 => ?_
    refine g_cond_f kr kr ?_
    refine g_skip kr ?_
    show WP _ _ _ _ _ _
    refine x_sreg [0, 1, 2, 3, 4, 5, 6, 7, 8, 9, 10] kr kr ?_
    refine x_seg [0, 1, 2, 3] (l2 := [4, 5, 6, 7, 8, 9, 10]) rfl ?_
    refine rp [.v, .v, .e (v := .int .u8 (IntKind.u8.wrap (((f : Nat) : Int) - 55))) (v' := .int .u8 (((f - 55 : Nat) : Nat) : Int)) (int_eq (by rw [show ((f : Nat) : Int) - 55 = ((f - 55 : Nat) : Int) by omega]; exact wrapN_u8 (by omega))), .e (v := .int .u64 (IntKind.u64.wrap (((f - 55 : Nat) : Int)))) (v' := .int .u64 ((f - 55 : Nat) : Int)) (int_eq (wrapN_u64 (a := f - 55) (by omega)))] H2 kr fun gs3 w3 H3 => ?_
    show WPs _ _ _ _ [] _ _
    refine s_nil ?_
    have H4 : St B w0 w3 ((bd, dc t) :: L) := H3.as kr
    refine x_callX H4 (List.Perm.refl _) (some 16) 49 #[.pointer (some ⟨bd, 0, none⟩), .int .u64 ((f - 55 : Nat) : Int)] (take_x bd (f - 55) t ht) kr kr (fun w' hb HS => ?_) ?_
    · exact ⟨rfl, by unfold cntS; rw [if_neg hm, if_pos hb], HS⟩
    rintro _ _ _ w4 ⟨hle, rfl, rfl, rfl⟩ H5
    refine x_end _ ?_
    refine rp [.c (number_fn (t.extract 0 (f - 55)))] H5 kr fun gs4 w5 H6 => ?_
    show WPs _ _ _ _ [6, 7, 8, 9, 10] _ _
    refine s_now 17 (v := numT (numV (t.extract 0 (f - 55)))) (v' := .tuple #[.int .u64 (((numV (t.extract 0 (f - 55))).1 : Nat) : Int), .bool (numV (t.extract 0 (f - 55))).2]) rfl kr ?_
    refine rp [.v, .v, .v, .v, .v] H6 kr fun gs5 w6 H7 => ?_
    show WPs _ _ _ _ [] _ _
    refine s_nil ?_
    show WP _ _ _ _ _ _
    refine g_seq kr ?_
    by_cases hn : (numV (t.extract 0 (f - 55))).1 ≤ 55
    · refine rS [.v, .e (v := .bool (decide ((((numV (t.extract 0 (f - 55))).1 : Nat) : Int) ≤ 55))) (v' := .bool true) (bool_eq (decide_eq_true (by omega)))] H7 kr fun gs6 w7 H8 => ?_
      refine g_cond_t kr kr ?_
      refine x_reg0 [0, 1] kr ?_
      refine x_seg [0] (l2 := [1]) rfl ?_
      refine rp [.v] H8 kr fun gs7 w8 H9 => ?_
      show WPs _ _ _ _ [] _ _
      refine s_nil ?_
      refine x_panic none (.iface 26 (.int .i64 4)) kr ?_
      have H10 : St B w0 w8 ((bd, dc (t.extract (f - 55) t.size)) :: L) := H9.as kr
      exact ⟨rfl, by unfold cntS; rw [if_neg hm, if_neg (by omega), if_pos hn], H10.sub (List.sublist_cons_self ..)⟩
    · refine rS [.v, .e (v := .bool (decide ((((numV (t.extract 0 (f - 55))).1 : Nat) : Int) ≤ 55))) (v' := .bool false) (bool_eq (decide_eq_false (by omega)))] H7 kr fun gs6 w7 H8 => ?_
      refine g_cond_f kr kr ?_
      refine g_skip kr ?_
      show WP _ _ _ _ _ _
      refine rS [.v, .v] H8 kr fun gs7 w8 H9 => ?_
      refine g_ret kr ?_
      show ∃ vs, Res _ _ _ _ vs ∧ _
      exact ⟨[.int .u64 (((numV (t.extract 0 (f - 55))).1 : Nat) : Int)], (.tmp _ kr .nil), t.extract (f - 55) t.size, [], ⟨_, by unfold cntS; rw [if_neg hm, if_neg (by omega), if_neg hn], rfl, rfl⟩, H9.as kr⟩
end Go.Proofs.YtdgoaaaagpeaaaaDoor

namespace Go.Proofs.YtdgoaaaagpeaaaaDoor
open Go Go.RowKit
set_option linter.unusedVariables false
def FnY (P : Program) (f : Nat) (args : Array Value) (ok : Value → List (Nat × Obj) → Prop) (bad : Prop) : Prop :=
  ∀ (B : Nat) (w0 w : World) (L : List (Nat × Obj)), St B w0 w L → Calls P f args w fun e w' =>
    (∃ v T, e = .returned v ∧ ok v T ∧ St B w0 w' (T ++ L)) ∨ (e = .panicked chF ∧ bad ∧ St B w0 w' L)
abbrev outY (P : Program) (rs : List ResultVar) (B : Nat) (w0 : World) (L : List (Nat × Obj)) (ok : Value → List (Nat × Obj) → Prop) (bad : Prop) : Exit → Env → World → Prop :=
  endsX P rs (fun v w' => ∃ T, ok v T ∧ St B w0 w' (T ++ L)) (fun ch w' => ch = chF ∧ bad ∧ St B w0 w' L)
theorem FnY.intro {P : Program} {f : Nat} {fn : Func} {c : Code} (rs : List ResultVar) (N : Nat) {args : Array Value} {ok : Value → List (Nat × Obj) → Prop} {bad : Prop} (hf : P.funcs[f]? = some fn) (hb : fn.body = some c) (hr : fn.results.toList = rs) (hn : args.size + (fn.ntmps - args.size) = N)
    (h : ∀ B w0 w L, St B w0 w L → WP P N c (outY P rs B w0 L ok bad) (ini args) w) : FnY P f args ok bad := fun B w0 w L HS =>
  (calls_introX hf hb hr hn (h B w0 w L HS)).mono fun e w' q => by
    rcases q with ⟨v, he, T, h1, h2⟩ | ⟨ch, he, h0, h1, h2⟩
    · exact .inl ⟨v, T, he, h1, h2⟩
    · exact .inr ⟨by rw [he, h0], h1, h2⟩
theorem x_callY {P : Program} {N : Nat} {ops : Array Oper} {Q : Exit → Env → World → Prop} {K : Env → World → Prop} {ρ : Env} {w w0 : World} {i B : Nat} {r : List Nat} {l : List (Nat × Obj)} (HS : St B w0 w l) (d : Option Nat) (f : Nat) (args : Array Value) {ok : Value → List (Nat × Obj) → Prop} {bad : Prop} (hc : FnY P f args ok bad)
    (h : opv P ops i ρ w = some (d, true, .ok (.enter f args) w)) (hd : dOK d N = true)
    (kp : ∀ w', bad → St B w0 w' l → Q (.panic chF) ρ w')
    (kk : ∀ v T w', ok v T → St B w0 w' (T ++ l) → WPsX P N ops Q K r (updO ρ d v) w') : WPsX P N ops Q K (i :: r) ρ w :=
  x_call d f args _ (hc B w0 w l HS) h hd fun e w' q => by
    rcases q with ⟨v, T, he, h1, h2⟩ | ⟨he, h1, h2⟩
    · exact .inl ⟨v, he, kk v T w' h1 h2⟩
    · exact .inr ⟨chF, he, kp w' h1 h2⟩
def okItem (t : ByteArray) (u : ByteArray) (v : Value) (T : List (Nat × Obj)) : Prop := ∃ (l : Bool) (s : ByteArray) (p : Option Addr) (n c : Nat) (k : Fo), v = .agg #[.bool l, .string s, .slice p n c] ∧ itIs t l s k u ∧ SlIn T p n k ∧ s.size ≤ t.size
def ItemC (bd : Nat) (t : ByteArray) : Prop := FnX Tryd.prog 44 #[.pointer (some ⟨bd, 0, none⟩)] bd t (okItem t) (itBad t)
def okList (t : ByteArray) (v : Value) (T : List (Nat × Obj)) : Prop := ∃ (p : Option Addr) (n c : Nat) (k : Fo), v = .agg #[.bool true, .string ⟨#[]⟩, .slice p n c] ∧ tl t = wrF k ∧ pureF k = true ∧ SlIn T p n k
def ListC (t : ByteArray) : Prop := FnY Tryd.prog 52 #[.string t] (okList t) (liBad t)
theorem SlIn.none (T : List (Nat × Obj)) : SlIn T none 0 .nil := ⟨rfl, by omega, .inl rfl⟩
theorem first_by {t : ByteArray} (h : t.size ≠ 0) : by_ (t.extract 0 1) 0 = by_ t 0 := by
  obtain ⟨l, e⟩ := by0_eq h
  unfold by_
  rw [tl_extract, e]; rfl
set_option maxRecDepth 100000 in
set_option maxHeartbeats 2000000 in
theorem item_step (bd : Nat) (t : ByteArray) (ht : t.size ≤ 100000) (hl : ∀ s : ByteArray, s.size < t.size → ListC s) : ItemC bd t := by
  refine FnX.intro (c := codeOf Tryd.f44) [.cell 2 24] 36 Tryd.func44 kr kr kr fun B w0 w L H0 => ?_
  refine g_sreg [0] kr kr ?_
  refine s_alloc H0 (some 2) 24 (.agg #[.bool false, .string ⟨#[]⟩, .slice none 0 0]) kr kr kr ?_
  intro b1 w1 H1
  refine s_nil ?_
  refine x_sreg [0, 1, 2] kr kr ?_
  refine x_seg [0] (l2 := [1, 2]) rfl ?_
  refine rp [.v] H1 kr fun gs2 w2 H2 => ?_
  show WPs _ _ _ _ [] _ _
  refine s_nil ?_
  have H3 : St B w0 w2 ((b1, .cells #[.bool false, .string ⟨#[]⟩, .slice none 0 0] 24 (0, 0)) :: (bd, dc t) :: L) := H2.as kr
  refine x_callX H3 (List.Perm.swap _ _ _) (some 6) 49 #[.pointer (some ⟨bd, 0, none⟩), .int .u64 ((1 : Nat) : Int)] (take_x bd 1 t ht) kr kr (fun w' hb HS => ?_) ?_
  · exact ⟨rfl, bad_empty hb, HS.sub (List.sublist_cons_self ..)⟩
  rintro _ _ _ w3 ⟨hle, rfl, rfl, rfl⟩ H4
  have h0 : t.size ≠ 0 := by omega
  have hb := first_by h0
  have hlt := by_lt t 0
  have hz1 : (t.extract 0 1).size = 1 := by rw [ext_size t 0 1 (by omega) (by omega)]
  have hzt : (t.extract 1 t.size).size = t.size - 1 := by rw [ext_size t 1 _ (Nat.le_refl _) (by omega)]
  have hfs := first_single h0
  refine x_end _ ?_
  refine rp [.v] H4 kr fun gs3 w4 H5 => ?_
  show WPs _ _ _ _ [] _ _
  refine s_nil ?_
  show WP _ _ _ _ _ _
  refine g_block 0 kr ?_
  refine rS [.v, .c (single_fn (t.extract 0 1)), .v] H5 kr fun gs4 w5 H6 => ?_
  by_cases h128 : by_ t 0 < 128
  · have hs1 : single (t.extract 0 1) = true := by rw [hfs]; exact decide_eq_true h128
    refine g_now 15 (v := .bool (single (t.extract 0 1))) (v' := .bool true) (bool_eq hs1) kr ?_
    refine g_cond_t kr kr ?_
    refine rS [.v, .c (textOf_fn (t.extract 0 1) (by omega)), .s 1] H6 kr fun gs5 w6 H7 => ?_
    have H8 : St B w0 w6 ((bd, dc (t.extract 1 t.size)) :: (b1, .cells #[.bool false, .string (t.extract 0 1), .slice none 0 0] 24 (0, 0)) :: L) := H7.as kr
    refine g_ret kr ?_
    show ∃ vs, Res _ _ _ _ vs ∧ _
    exact ⟨[.agg #[.bool false, .string (t.extract 0 1), .slice none 0 0]], (.agg (b := b1) (#[.bool false, .string (t.extract 0 1), .slice none 0 0]) 24 (0, 0) kr (H8.get 1 kr) kr .nil), _, [], ⟨_, _, _, _, _, _, rfl, is_single h0 h128, SlIn.none _, by omega⟩, H8.sub (List.Sublist.cons_cons _ (List.Sublist.cons _ (List.Sublist.refl _)))⟩
  · have hs1 : single (t.extract 0 1) = false := by rw [hfs]; exact decide_eq_false h128
    refine g_now 15 (v := .bool (single (t.extract 0 1))) (v' := .bool false) (bool_eq hs1) kr ?_
    refine g_cond_f kr kr ?_
    by_cases h192 : by_ t 0 < 192
    · refine rS [.v, .o (ins := [((.tmp 21), .string (t.extract 0 1)), ((.const (.int .i64 0)), .int .i64 0)]) (v := .int .u8 ((by_ (t.extract 0 1) 0 : Nat) : Int)) (fun ρ o w ho hi => sindex_run (t := 9) (kd := .i64) kr (x := (.tmp 21)) (y := (.const (.int .i64 0))) (t.extract 0 1) 0 ho hi.1 hi.2.1 (by omega) w), .e (v := .bool (decide (((by_ (t.extract 0 1) 0 : Nat) : Int) < 192))) (v' := .bool true) (bool_eq (decide_eq_true (by omega))), .v] H6 kr fun gs5 w6 H7 => ?_
      refine g_cond_t kr kr ?_
      refine x_sreg [0, 1, 2, 3, 4, 5, 6, 7] kr kr ?_
      refine x_seg [0, 1, 2, 3, 4] (l2 := [5, 6, 7]) rfl ?_
      refine rp [.v, .v, .v, .o (ins := [((.tmp 26), .string (t.extract 0 1)), ((.const (.int .i64 0)), .int .i64 0)]) (v := .int .u8 ((by_ (t.extract 0 1) 0 : Nat) : Int)) (fun ρ o w ho hi => sindex_run (t := 9) (kd := .i64) kr (x := (.tmp 26)) (y := (.const (.int .i64 0))) (t.extract 0 1) 0 ho hi.1 hi.2.1 (by omega) w), .e (v := .int .u8 (IntKind.u8.wrap (((by_ (t.extract 0 1) 0 : Nat) : Int) - 128))) (v' := .int .u8 ((by_ t 0 - 128 : Nat) : Int)) (int_eq (by rw [show ((by_ (t.extract 0 1) 0 : Nat) : Int) - 128 = ((by_ t 0 - 128 : Nat) : Int) by omega]; exact wrapN_u8 (by omega)))] H7 kr fun gs6 w7 H8 => ?_
      show WPs _ _ _ _ [] _ _
      refine s_nil ?_
      have H9 : St B w0 w7 ((bd, dc (t.extract 1 t.size)) :: (b1, .cells #[.bool false, .string ⟨#[]⟩, .slice none 0 0] 24 (0, 0)) :: L) := H8.as kr
      refine x_callX H9 (List.Perm.refl _) (some 29) 51 #[.pointer (some ⟨bd, 0, none⟩), .int .u8 ((by_ t 0 - 128 : Nat) : Int)] (count_x bd (by_ t 0 - 128) (t.extract 1 t.size) (by omega) (by omega)) kr kr (fun w' hb HS => ?_) ?_
      · exact ⟨rfl, bad_count false ht h0 (by omega) (by simp; omega) hb, HS.sub (List.sublist_cons_self ..)⟩
      rintro _ u _ w8 ⟨n, hc, rfl, rfl⟩ H10
      have hu := (cnt_sound hc (by omega) 0).2.2
      refine x_callX (L := (b1, .cells #[.bool false, .string ⟨#[]⟩, .slice none 0 0] 24 (0, 0)) :: L) H10 (List.Perm.refl _) (some 30) 49 #[.pointer (some ⟨bd, 0, none⟩), .int .u64 ((n : Nat) : Int)] (take_x bd n u (by omega)) kr kr (fun w' hb HS => ?_) ?_
      · exact ⟨rfl, bad_take false ht h0 (by omega) (by simp; omega) hc hb, HS.sub (List.sublist_cons_self ..)⟩
      rintro _ _ _ w9 ⟨hnu, rfl, rfl, rfl⟩ H11
      have hzn : (u.extract 0 n).size = n := by rw [ext_size u 0 n hnu (by omega)]; omega
      refine x_end _ ?_
      refine rp [.v] H11 kr fun gs7 w10 H12 => ?_
      show WPs _ _ _ _ [] _ _
      refine s_nil ?_
      show WP _ _ _ _ _ _
      refine g_seq kr ?_
      refine rS [.v, .c (single_fn (u.extract 0 n))] H12 kr fun gs8 w11 H13 => ?_
      rcases Bool.eq_false_or_eq_true (single (u.extract 0 n)) with hs2 | hs2
      · refine g_now 32 (v := .bool (single (u.extract 0 n))) (v' := .bool true) (bool_eq hs2) kr ?_
        refine g_cond_t kr kr ?_
        refine x_reg0 [0, 1] kr ?_
        refine x_seg [0] (l2 := [1]) rfl ?_
        refine rp [.v] H13 kr fun gs9 w12 H14 => ?_
        show WPs _ _ _ _ [] _ _
        refine s_nil ?_
        refine x_panic none (.iface 26 (.int .i64 4)) kr ?_
        have H15 : St B w0 w12 ((bd, dc (u.extract n u.size)) :: (b1, .cells #[.bool false, .string ⟨#[]⟩, .slice none 0 0] 24 (0, 0)) :: L) := H14.as kr
        exact ⟨rfl, bad_one ht h0 (by omega) h192 hc hs2, H15.sub (List.Sublist.cons _ (List.sublist_cons_self ..))⟩
      · refine g_now 32 (v := .bool (single (u.extract 0 n))) (v' := .bool false) (bool_eq hs2) kr ?_
        refine g_cond_f kr kr ?_
        refine g_skip kr ?_
        show WP _ _ _ _ _ _
        refine rS [.v, .c (textOf_fn (u.extract 0 n) (by omega)), .s 1] H13 kr fun gs9 w12 H14 => ?_
        have H15 : St B w0 w12 ((bd, dc (u.extract n u.size)) :: (b1, .cells #[.bool false, .string (u.extract 0 n), .slice none 0 0] 24 (0, 0)) :: L) := H14.as kr
        refine g_ret kr ?_
        show ∃ vs, Res _ _ _ _ vs ∧ _
        exact ⟨[.agg #[.bool false, .string (u.extract 0 n), .slice none 0 0]], (.agg (b := b1) (#[.bool false, .string (u.extract 0 n), .slice none 0 0]) 24 (0, 0) kr (H15.get 1 kr) kr .nil), _, [], ⟨_, _, _, _, _, _, rfl, is_text h0 (by omega) h192 hc hnu hs2, SlIn.none _, by omega⟩, H15.sub (List.Sublist.cons_cons _ (List.Sublist.cons _ (List.Sublist.refl _)))⟩
    · refine rS [.v, .o (ins := [((.tmp 21), .string (t.extract 0 1)), ((.const (.int .i64 0)), .int .i64 0)]) (v := .int .u8 ((by_ (t.extract 0 1) 0 : Nat) : Int)) (fun ρ o w ho hi => sindex_run (t := 9) (kd := .i64) kr (x := (.tmp 21)) (y := (.const (.int .i64 0))) (t.extract 0 1) 0 ho hi.1 hi.2.1 (by omega) w), .e (v := .bool (decide (((by_ (t.extract 0 1) 0 : Nat) : Int) < 192))) (v' := .bool false) (bool_eq (decide_eq_false (by omega))), .v] H6 kr fun gs5 w6 H7 => ?_
      refine g_cond_f kr kr ?_
      refine x_sreg [0, 1, 2, 3, 4, 5, 6, 7, 8] kr kr ?_
      refine x_seg [0, 1, 2, 3, 4] (l2 := [5, 6, 7, 8]) rfl ?_
      refine rp [.v, .v, .v, .o (ins := [((.tmp 9), .string (t.extract 0 1)), ((.const (.int .i64 0)), .int .i64 0)]) (v := .int .u8 ((by_ (t.extract 0 1) 0 : Nat) : Int)) (fun ρ o w ho hi => sindex_run (t := 9) (kd := .i64) kr (x := (.tmp 9)) (y := (.const (.int .i64 0))) (t.extract 0 1) 0 ho hi.1 hi.2.1 (by omega) w), .e (v := .int .u8 (IntKind.u8.wrap (((by_ (t.extract 0 1) 0 : Nat) : Int) - 192))) (v' := .int .u8 ((by_ t 0 - 192 : Nat) : Int)) (int_eq (by rw [show ((by_ (t.extract 0 1) 0 : Nat) : Int) - 192 = ((by_ t 0 - 192 : Nat) : Int) by omega]; exact wrapN_u8 (by omega)))] H7 kr fun gs6 w7 H8 => ?_
      show WPs _ _ _ _ [] _ _
      refine s_nil ?_
      have H9 : St B w0 w7 ((bd, dc (t.extract 1 t.size)) :: (b1, .cells #[.bool false, .string ⟨#[]⟩, .slice none 0 0] 24 (0, 0)) :: L) := H8.as kr
      refine x_callX H9 (List.Perm.refl _) (some 12) 51 #[.pointer (some ⟨bd, 0, none⟩), .int .u8 ((by_ t 0 - 192 : Nat) : Int)] (count_x bd (by_ t 0 - 192) (t.extract 1 t.size) (by omega) (by omega)) kr kr (fun w' hb HS => ?_) ?_
      · exact ⟨rfl, bad_count true ht h0 (by omega) (by simp; omega) hb, HS.sub (List.sublist_cons_self ..)⟩
      rintro _ u _ w8 ⟨n, hc, rfl, rfl⟩ H10
      have hu := (cnt_sound hc (by omega) 0).2.2
      refine x_callX (L := (b1, .cells #[.bool false, .string ⟨#[]⟩, .slice none 0 0] 24 (0, 0)) :: L) H10 (List.Perm.refl _) (some 13) 49 #[.pointer (some ⟨bd, 0, none⟩), .int .u64 ((n : Nat) : Int)] (take_x bd n u (by omega)) kr kr (fun w' hb HS => ?_) ?_
      · exact ⟨rfl, bad_take true ht h0 (by omega) (by simp; omega) hc hb, HS.sub (List.sublist_cons_self ..)⟩
      rintro _ _ _ w9 ⟨hnu, rfl, rfl, rfl⟩ H11
      have hzn : (u.extract 0 n).size = n := by rw [ext_size u 0 n hnu (by omega)]; omega
      have H12 : St B w0 w9 ((bd, dc (u.extract n u.size)) :: (b1, .cells #[.bool false, .string ⟨#[]⟩, .slice none 0 0] 24 (0, 0)) :: L) := H11.as kr
      refine x_callY H12 (some 14) 52 #[.string (u.extract 0 n)] (hl (u.extract 0 n) (by omega)) kr kr (fun w' hb HS => ?_) ?_
      · exact ⟨rfl, bad_list ht h0 (by omega) hc hb, HS.sub (List.Sublist.cons _ (List.sublist_cons_self ..))⟩
      rintro _ T w10 ⟨p, n3, c3, k, rfl, hk, hpk, hsl⟩ H13
      have H14 : St B w0 w10 ((b1, .cells #[.bool false, .string ⟨#[]⟩, .slice none 0 0] 24 (0, 0)) :: (bd, dc (u.extract n u.size)) :: (T ++ L)) := H13.perm (by
        refine (List.Perm.swap _ _ _).trans ?_
        refine List.Perm.symm ?_
        refine (List.perm_middle).trans (List.Perm.cons _ ?_)
        exact List.perm_middle)
      refine x_end _ ?_
      refine rp [.s 0] H14 kr fun gs7 w11 H15 => ?_
      show WPs _ _ _ _ [] _ _
      refine s_nil ?_
      show WP _ _ _ _ _ _
      have H16 : St B w0 w11 ((b1, .cells #[.bool true, .string ⟨#[]⟩, .slice p n3 c3] 24 (0, 0)) :: (bd, dc (u.extract n u.size)) :: (T ++ L)) := H15.as kr
      refine g_ret kr ?_
      show ∃ vs, Res _ _ _ _ vs ∧ _
      exact ⟨[.agg #[.bool true, .string ⟨#[]⟩, .slice p n3 c3]], (.agg (b := b1) (#[.bool true, .string ⟨#[]⟩, .slice p n3 c3]) 24 (0, 0) kr (H16.get 0 kr) kr .nil), _, T, ⟨_, _, _, _, _, _, rfl, is_list h0 (by omega) hc hnu hpk hk, hsl, Nat.zero_le _⟩, H16.sub (List.sublist_cons_self ..)⟩
end Go.Proofs.YtdgoaaaagpeaaaaDoor

namespace Go.Proofs.YtdgoaaaagpeaaaaDoor.D2
open Go Go.RowKit
set_option linter.unusedVariables false
def RunsX (P : Program) (Bad : List PanicEntry → World → Prop) (S : Value → World → Prop) : Result Next → Prop
  | .ok (.value v) w' => S v w'
  | .ok .skip w' => S undef w'
  | .ok (.enter f args) w' => Calls P f args w' fun e w'' => (∃ v, e = .returned v ∧ S v w'') ∨ (∃ ch, e = .panicked ch ∧ Bad ch w'')
  | _ => False
theorem RunsX.of {P : Program} {Bad : List PanicEntry → World → Prop} {S : Value → World → Prop} {r : Result Next} (h : Runs P S r) : RunsX P Bad S r := by
  cases r with
  | halt a w => exact h
  | ok n w =>
    cases n with
    | enter f args => exact Calls.mono (h : Calls P f args w _) fun e w'' q => .inl q
    | _ => exact h
/-- Operation i gives slot d a value as f says, in every world as pre says of those that have run; and leaves what pre says of them and it. -/
def GivesX (P : Program) (Bad : List PanicEntry → World → Prop) (ops : Array Oper) (R : (Nat → Gh) → Env) (pre : (Nat → Bool) → (Nat → Gh) → World → Prop) (i : Nat) (d : Option Nat) (f : Gh → Value) : Prop :=
  ∀ L g w, pre L g w → L i = false → (∀ o, ops[i]? = some o → ∀ e ∈ o.after, Region.binds .any e = true → L e.on = true) → Closed ops L → ∃ o, ops[i]? = some o ∧ o.dst = d ∧
    ((Region.wanted o (nyield ops (R g)) = false ∧ f (g i) = undef ∧ pre (put1 L i) g w) ∨ (Region.wanted o (nyield ops (R g)) = true ∧ RunsX P Bad (fun v w' => ∃ b, v = f b ∧ pre (put1 L i) (setN g i b) w') ((execOp (ev (R g)) o).run P w)))
def GivesAllX (P : Program) (Bad : List PanicEntry → World → Prop) (ops : Array Oper) (R : Nat → (Nat → Gh) → Env) (pre : (Nat → Bool) → (Nat → Gh) → World → Prop) : List (Option Nat × (Gh → Value)) → Nat → Prop
  | [], _ => True
  | (d, f) :: r, i => GivesX P Bad ops (R i) pre i d f ∧ GivesAllX P Bad ops R pre r (i + 1)
/-- The slots alone. -/
theorem GivesAllX.get {P : Program} {Bad : List PanicEntry → World → Prop} {ops : Array Oper} {R : Nat → (Nat → Gh) → Env} {pre : (Nat → Bool) → (Nat → Gh) → World → Prop} : ∀ {l : List (Option Nat × (Gh → Value))} {k : Nat}, GivesAllX P Bad ops R pre l k → ∀ {i : Nat} {d : Option Nat} {f : Gh → Value}, l[i]? = some (d, f) → GivesX P Bad ops (R (k + i)) pre (k + i) d f
  | [], _, _, _, _, _, h => by simp at h
  | (d, V) :: r, k, ⟨h, hr⟩, 0, _, _, hi => by simp at hi; obtain ⟨rfl, rfl⟩ := hi; exact h
  | (d, V) :: r, k, ⟨h, hr⟩, i + 1, _, _, hi => by
    have := hr.get (i := i) (by simpa using hi)
    rwa [show k + 1 + i = k + (i + 1) by omega] at this
section
variable {P : Program} {N : Nat} {ops : Array Oper} {Q : Exit → Env → World → Prop} {K : Env → World → Prop} {ρ : Env} {w : World} {vs : List (Option Nat × (Gh → Value))} {pre : (Nat → Bool) → (Nat → Gh) → World → Prop} {Bad : List PanicEntry → World → Prop}
theorem draw_stepX (hok : drawOK ops (vs.map (·.1)) N = true) (hg : GivesAllX P Bad ops (fun i => fin_ (vs.take i) ρ) pre vs 0) {i : Nat} {L : Array Bool} (hi : i ∈ Region.ready .any ops L)
    {a : Act} {ρ' : Env} {g : Nat → Gh} (ha : Rep a ρ' N) (hm : Mid ρ vs g (ran L) ρ') (hL : L.size = ops.size) (hcl : Closed ops (ran L)) (hp : pre (ran L) g w)
    {QQ : Exit → Act → World → Prop} {KK : Act → World → Prop} (hQ : ∀ ch a' ρ'' w', Rep a' ρ'' N → Bad ch w' → QQ (.panic ch) a' w') (hK : ∀ a' ρ'' g' w', Rep a' ρ'' N → Mid ρ vs g' (put1 (ran L) i) ρ'' → Closed ops (put1 (ran L) i) → pre (put1 (ran L) i) g' w' → KK a' w') :
    wpOp P ops QQ i KK a w := by
  simp only [drawOK, Bool.and_eq_true, List.all_eq_true, beq_iff_eq] at hok
  obtain ⟨⟨⟨hsz, hnd⟩, hN⟩, hops⟩ := hok
  obtain ⟨hun, o, ho, hready⟩ := mem_ready.1 hi
  have hilt : i < ops.size := (Array.getElem?_eq_some_iff.1 ho).1
  have hoi : opOK ops (vs.map (·.1)) i o = true := hops (o, i) (by
    rw [List.mem_iff_getElem?]
    refine ⟨i, ?_⟩
    rw [List.getElem?_zipIdx]
    simp [ho])
  simp only [opOK, Bool.and_eq_true] at hoi
  obtain ⟨⟨⟨⟨hdst, hsel⟩, hback⟩, hreads⟩, hguard⟩ := hoi
  have hivs : i < vs.length := by rw [List.length_map] at hsz; omega
  obtain ⟨⟨d, f⟩, hv⟩ : ∃ p, vs[i]? = some p := ⟨_, List.getElem?_eq_getElem hivs⟩
  have hd : o.dst = d := by
    have := eq_of_beq hdst
    simpa [hv] using this
  have hdN : ∀ k, d = some k → k < N := dOK_lt (hN d (List.mem_map.2 ⟨(d, f), List.mem_of_getElem? hv, rfl⟩))
  have hunL : ran L i = false := by
    have hlt : i < L.size := by omega
    unfold ran; simpa [hlt] using hun
  have hcl' : Closed ops (put1 (ran L) i) := by
    intro j oj hj hoj e he hb
    rcases put1_or hj with rfl | hj
    · rw [ho] at hoj; obtain rfl := Option.some.inj hoj
      exact put1_of (hready e he hb)
    · exact put1_of (hcl j oj hj hoj e he hb)
  have hnd' : nodupO ((vs.take i).map (·.1)) = true := by rw [List.map_take]; exact nodupO_take hnd i
  -- what the operation reads is as it was given before it
  have lookB : ∀ t j, j < i → ran L j = true → (vs.map (·.1))[j]? = some (some t) → ρ' t = fin_ (vs.take i) ρ g t := by
    intro t j hji hLj hdt
    rw [List.getElem?_map] at hdt
    cases hve : vs[j]? with
    | none => rw [hve] at hdt; cases hdt
    | some p =>
      obtain ⟨d1, f1⟩ := p
      rw [hve] at hdt
      simp at hdt; subst hdt
      have hvt : (vs.take i)[j]? = some (some t, f1) := by rw [List.getElem?_take, if_pos hji, hve]
      rw [fin_in hnd' hvt]
      exact (hm t).1 j f1 hLj hve
  have lookA : ∀ t, (∀ j : Nat, (vs.map (·.1))[j]? = some (some t) → ran L j = false) → (∀ j : Nat, j < i → (vs.map (·.1))[j]? ≠ some (some t)) → ρ' t = fin_ (vs.take i) ρ g t := by
    intro t hno hnb
    have hnot : some t ∉ (vs.take i).map (·.1) := fun hmem => by
      obtain ⟨j, hj⟩ := List.mem_iff_getElem?.1 hmem
      rw [List.map_take, List.getElem?_take] at hj
      split at hj
      · rename_i hji; exact hnb j hji hj
      · cases hj
    rw [fin_out hnot]
    exact (hm t).2 fun j hj heq => by rw [hno j heq] at hj; cases hj
  have hbk : ∀ e ∈ o.after.toList, Region.binds .any e = true → e.on < i := fun e he hb => by
    have := List.all_eq_true.1 hback e he
    rw [hb] at this
    simp only [Bool.not_true, Bool.false_or] at this
    exact Nat.le_of_ble_eq_true this
  have hops' : ∀ x ∈ o.op.operands, ev ρ' x = ev (fin_ (vs.take i) ρ g) x := by
    intro x hx
    cases x with
    | tmp t =>
      have hmem : t ∈ opTmps o := List.mem_filterMap.2 ⟨.tmp t, by simpa using hx, rfl⟩
      have := List.all_eq_true.1 hreads t hmem
      simp only [Bool.or_eq_true, Bool.not_eq_true'] at this
      rcases this with (hc | hb) | hlater
      · have hnot : ∀ j : Nat, (vs.map (·.1))[j]? ≠ some (some t) := fun j hj => by
          have h1 : some t ∈ vs.map (·.1) := List.mem_of_getElem? hj
          rw [← Bool.not_eq_true, List.contains_iff_mem] at hc
          exact hc h1
        exact lookA t (fun j hj => absurd hj (hnot j)) (fun j _ => hnot j)
      · simp only [List.any_eq_true, Bool.and_eq_true, beq_iff_eq] at hb
        obtain ⟨e, he, hbi, hdt⟩ := hb
        exact lookB t e.on (hbk e he hbi) (hready e (by simpa using he) hbi) hdt
      · have hl : ∀ (j : Nat) oj, ops[j]? = some oj → (vs.map (·.1))[j]? = some (some t) → ¬ j < i ∧ ∃ e ∈ oj.after.toList, Region.binds .any e = true ∧ e.on = i := fun j oj hoj hdj => by
          have h1 := List.all_eq_true.1 hlater (oj, j) (by
            rw [List.mem_iff_getElem?]
            refine ⟨j, ?_⟩
            rw [List.getElem?_zipIdx]
            simp [hoj])
          simp only [hdj, beq_self_eq_true, Bool.not_true, Bool.false_or, Bool.and_eq_true, List.any_eq_true, Bool.not_eq_true'] at h1
          obtain ⟨h2, e, he, hb, hon⟩ := h1
          refine ⟨fun hlt => ?_, e, he, hb, Nat.eq_of_beq_eq_true hon⟩
          have h3 : Nat.blt j i = true := Nat.ble_eq_true_of_le hlt
          rw [h3] at h2; cases h2
        have hsome : ∀ j : Nat, (vs.map (·.1))[j]? = some (some t) → ∃ oj, ops[j]? = some oj := fun j hj => by
          have h1 : j < (vs.map (·.1)).length := (List.getElem?_eq_some_iff.1 hj).1
          exact ⟨_, Array.getElem?_eq_getElem (by omega)⟩
        refine lookA t (fun j hj => ?_) (fun j hji hj => ?_)
        · obtain ⟨oj, hoj⟩ := hsome j hj
          obtain ⟨_, e, he, hb, hon⟩ := hl j oj hoj hj
          cases hLj : ran L j with
          | false => rfl
          | true =>
            have := hcl j oj hLj hoj e (by simpa using he) hb
            rw [hon, hunL] at this; cases this
        · obtain ⟨oj, hoj⟩ := hsome j hj
          exact (hl j oj hoj hj).1 hji
    | _ => rfl
  have hexec : execOp (ev ρ') o = execOp (ev (fin_ (vs.take i) ρ g)) o := execOp_congr o (fun cs b he => by simp [notSelect, he] at hsel) hops'
  have hwant : Region.wanted o (nyield ops ρ') = Region.wanted o (nyield ops (fin_ (vs.take i) ρ g)) := by
    unfold Region.wanted
    cases hgd : o.guard with
    | none => rfl
    | some gd =>
      obtain ⟨j, b⟩ := gd
      have : nyield ops ρ' j = nyield ops (fin_ (vs.take i) ρ g) j := by
        unfold nyield
        cases hj : (ops[j]?).bind (·.dst) with
        | none => rfl
        | some t =>
          simp only [hgd, List.any_eq_true, Bool.and_eq_true, beq_iff_eq] at hguard
          obtain ⟨e, he, hb, hon⟩ := hguard
          have hjds : (vs.map (·.1))[j]? = some (some t) := by
            cases hoj : ops[j]? with
            | none => simp [hoj] at hj
            | some oj =>
              have hjj : opOK ops (vs.map (·.1)) j oj = true := hops (oj, j) (by
                rw [List.mem_iff_getElem?]
                refine ⟨j, ?_⟩
                rw [List.getElem?_zipIdx]
                simp [hoj])
              simp only [opOK, Bool.and_eq_true, beq_iff_eq] at hjj
              have := hjj.1.1.1.1
              simp [hoj] at hj
              rw [← this, hj]
          have hlk := lookB t j (hon ▸ hbk e he hb) (hon ▸ hready e (by simpa using he) hb) hjds
          simp only [hlk]
      simp only [this]
  have hmid : ∀ b, Mid ρ vs (setN g i b) (put1 (ran L) i) (updO ρ' d (f b)) := by
    intro b t
    have hds : (vs.map (·.1))[i]? = some d := by simp [hv]
    by_cases htd : d = some t
    · subst htd
      have e : updO ρ' (some t) (f b) t = f b := by
        show (bif Nat.beq t t then f b else _) = f b
        rw [Nat.beq_refl]; rfl
      refine ⟨fun j f1 hj hvj => ?_, fun hn => absurd hds (hn i (put1_self _ _))⟩
      have hji : j = i := nodupO_inj hnd (by rw [List.getElem?_map, hvj]; rfl) hds
      subst hji
      rw [hv] at hvj
      obtain rfl : f1 = f := by simpa using hvj.symm
      rw [e]
      unfold setN; rw [Nat.beq_refl]; rfl
    · have e : updO ρ' d (f b) t = ρ' t := by
        cases d with
        | none => rfl
        | some k =>
          have hne : Nat.beq t k = false := by
            cases hb : Nat.beq t k with
            | false => rfl
            | true => exact absurd (by rw [Nat.eq_of_beq_eq_true hb]) htd
          show (bif Nat.beq t k then f b else ρ' t) = ρ' t
          rw [hne]; rfl
      rw [e]
      refine ⟨fun j f1 hj hvj => ?_, fun hn => (hm t).2 fun j hj => hn j (put1_of hj)⟩
      have hji : j ≠ i := by
        rintro rfl
        rw [hv] at hvj
        have : d = some t := by simpa using congrArg (Option.map (·.1)) hvj
        exact htd this
      have hLj : ran L j = true := (put1_or hj).resolve_left hji
      have hN' : setN g i b j = g j := by
        unfold setN
        cases hb : Nat.beq j i with
        | false => rfl
        | true => exact absurd (Nat.eq_of_beq_eq_true hb) hji
      rw [hN']
      exact (hm t).1 j f1 hLj hvj
  have hgi := GivesAllX.get hg hv
  rw [Nat.zero_add] at hgi
  obtain ⟨o', ho', hd', hrun⟩ := hgi (ran L) g w hp hunL (fun o1 ho1 e he hb => by
      rw [ho] at ho1; obtain rfl := Option.some.inj ho1; exact hready e he hb) hcl
  have : o' = o := by rw [ho] at ho'; exact (Option.some.inj ho').symm
  subst this
  have hput : ∀ v, Rep (a.put o'.dst v) (updO ρ' d v) N := fun v => by
    have := ha.put o'.dst (fun k hk => hdN k (by rw [← hd, hk])) v
    rwa [hd] at this ⊢
  unfold wpOp
  simp only [ho, wanted_eq ha, hwant]
  rcases hrun with ⟨hwf, hV, hp'⟩ | ⟨hwt, hR⟩
  · simp only [hwf, Bool.false_eq_true, if_false]
    refine hK _ _ g _ (hput undef) ?_ hcl' hp'
    have := hmid (g i)
    rwa [setN_self, hV] at this
  · simp only [hwt, if_true]
    refine .inl ?_
    unfold Oper.wp
    rw [ha.eval, hexec]
    generalize (execOp (ev (fin_ (vs.take i) ρ g)) o').run P w = r at hR
    cases r with
    | halt h w' => exact hR.elim
    | ok n w' =>
      cases n with
      | value v => obtain ⟨b, rfl, hb⟩ := hR; exact hK _ _ _ _ (hput _) (hmid b) hcl' hb
      | skip => obtain ⟨b, hu, hb⟩ := hR; exact hK _ _ _ _ (by have := hput undef; rwa [hu] at this ⊢) (hmid b) hcl' hb
      | enter f' args =>
        refine Calls.mono hR fun e w'' he => ?_
        rcases he with ⟨v, rfl, b, rfl, hb⟩ | ⟨ch, rfl, hb⟩
        · exact hK _ _ _ _ (hput _) (hmid b) hcl' hb
        · exact hQ ch _ _ _ ha hb
      | _ => exact hR.elim
theorem draw_anyX (hB : ∀ ch ρ w, Bad ch w → Q (.panic ch) ρ w) (hok : drawOK ops (vs.map (·.1)) N = true) (hg : GivesAllX P Bad ops (fun i => fin_ (vs.take i) ρ) pre vs 0)
    (hfin : ∀ L g w', (∀ i, i < ops.size → L i = true) → pre L g w' → Q .normal (fin_ vs ρ g) w') :
    ∀ (fuel : Nat) (L : Array Bool), L.size = ops.size → (L.toList.countP (! ·)) ≤ fuel → ∀ (a : Act) (ρ' : Env) (g : Nat → Gh) (w : World), Rep a ρ' N → Mid ρ vs g (ran L) ρ' → Closed ops (ran L) → pre (ran L) g w →
      wpAny P .any ops (lift N Q) fuel L a w := by
  have hdone : ∀ (L : Array Bool), L.size = ops.size → Region.ready .any ops L = [] → ∀ (a : Act) (ρ' : Env) (g : Nat → Gh) (w : World), Rep a ρ' N → Mid ρ vs g (ran L) ρ' → pre (ran L) g w → lift N Q .normal a w := by
    intro L hL hr a ρ' g w ha hm hp
    have hok' := hok
    simp only [drawOK, Bool.and_eq_true, List.all_eq_true, beq_iff_eq] at hok'
    obtain ⟨⟨⟨hsz, hnd⟩, hN⟩, hops⟩ := hok'
    have hall : ∀ i, i < ops.size → ran L i = true := by
      intro i
      induction i using Nat.strongRecOn with
      | _ i ih =>
        intro hi
        cases hb : ran L i with
        | true => rfl
        | false =>
          have hmem : i ∈ Region.ready .any ops L := by
            refine mem_ready.2 ⟨?_, ops[i], Array.getElem?_eq_getElem hi, fun e he hbd => ?_⟩
            · have hlt : i < L.size := by omega
              unfold ran at hb
              simp [hlt] at hb ⊢; exact hb
            · have hoi : opOK ops (vs.map (·.1)) i ops[i] = true := hops (ops[i], i) (by
                rw [List.mem_iff_getElem?]
                refine ⟨i, ?_⟩
                rw [List.getElem?_zipIdx]
                simp [hi])
              simp only [opOK, Bool.and_eq_true] at hoi
              have := List.all_eq_true.1 hoi.1.1.2 e (by simpa using he)
              rw [hbd] at this
              have hlt : e.on < i := Nat.le_of_ble_eq_true this
              exact ih e.on hlt (by omega)
          rw [hr] at hmem; cases hmem
    have heq : ρ' = fin_ vs ρ g := by
      funext t
      by_cases ht : some t ∈ vs.map (·.1)
      · obtain ⟨i, hi, hit⟩ := List.getElem_of_mem ht
        have hi' : i < vs.length := by simpa using hi
        obtain ⟨⟨d, f⟩, hv⟩ : ∃ p, vs[i]? = some p := ⟨_, List.getElem?_eq_getElem hi'⟩
        have hd : d = some t := by
          rw [List.getElem_map] at hit
          rw [List.getElem?_eq_getElem hi'] at hv
          rw [Option.some.inj hv] at hit
          exact hit
        subst hd
        rw [fin_in hnd hv]
        exact (hm t).1 i f (hall i (by rw [hsz]; exact hi)) hv
      · rw [fin_out ht]
        exact (hm t).2 fun j hj heq => ht (List.mem_of_getElem? heq)
    exact ⟨_, ha, heq ▸ hfin (ran L) g w hall hp⟩
  intro fuel
  induction fuel with
  | zero =>
    intro L hL hc a ρ' g w ha hm hcl hp
    have hr : Region.ready .any ops L = [] := by
      cases hr : Region.ready .any ops L with
      | nil => rfl
      | cons i r =>
        have hi : i ∈ Region.ready .any ops L := by rw [hr]; exact List.mem_cons_self
        obtain ⟨hun, o, ho, _⟩ := mem_ready.1 hi
        have hlt : i < L.size := by rw [hL]; exact (Array.getElem?_eq_some_iff.1 ho).1
        have : L.toList.countP (! ·) = 0 := by omega
        rw [List.countP_eq_zero] at this
        have h1 := this L[i] (by simp)
        simp [hlt] at hun h1
        rw [hun] at h1; cases h1
    exact ⟨hr, hdone L hL hr a ρ' g w ha hm hp⟩
  | succ fuel ih =>
    intro L hL hc a ρ' g w ha hm hcl hp
    refine ⟨fun hr => hdone L hL hr a ρ' g w ha hm hp, fun i hi => ?_⟩
    obtain ⟨hun, o, ho, _⟩ := mem_ready.1 hi
    have hlt : i < L.size := by rw [hL]; exact (Array.getElem?_eq_some_iff.1 ho).1
    refine draw_stepX hok hg hi ha hm hL hcl hp (fun ch a' ρ'' w' ha' hb => ⟨ρ'', ha', hB ch ρ'' w' hb⟩) fun a' ρ'' g' w' ha' hm' hcl' hp' => ih (L.setIfInBounds i true) (by simpa using hL) ?_ a' ρ'' g' w' ha' (by rw [ran_set hlt]; exact hm') (by rw [ran_set hlt]; exact hcl') (by rw [ran_set hlt]; exact hp')
    have hf : L[i] = false := by simpa [hlt] using hun
    have hc2 : (L.setIfInBounds i true).toList.countP (! ·) + 1 = L.toList.countP (! ·) := by
      rw [Array.toList_setIfInBounds]
      have hl : i < L.toList.length := by simpa using hlt
      have hfl : L.toList[i] = false := by simpa using hf
      have hpos : 0 < L.toList.countP (! ·) := List.countP_pos_iff.2 ⟨_, List.getElem_mem hl, by rw [hfl]; rfl⟩
      have hset := List.countP_set (p := fun b : Bool => !b) (l := L.toList) (i := i) (a := true) hl
      rw [hfl] at hset
      simp only [Bool.not_true, Bool.false_eq_true, if_false, Bool.not_false, if_true] at hset
      omega
    omega
theorem WP.drawX {id : Nat} (hB : ∀ ch ρ w, Bad ch w → Q (.panic ch) ρ w) (hm : P.follows .mixedOrders = true) (hok : drawOK ops (vs.map (·.1)) N = true) (hp : pre (fun _ => false) (fun _ => default) w.drew) (hg : GivesAllX P Bad ops (fun i => fin_ (vs.take i) ρ) pre vs 0)
    (hfin : ∀ L g w', (∀ i, i < ops.size → L i = true) → pre L g w' → Q .normal (fin_ vs ρ g) w') : WP P N (.region id ops true) Q ρ w := fun a ha =>
  have hno : ran (Array.replicate ops.size false) = fun _ => false := funext fun i => by
    show (Array.replicate ops.size false).getD i false = false
    simp only [Array.getD_eq_getD_getElem?, Array.getElem?_replicate]; split <;> rfl
  wp_region_any hm (draw_anyX hB hok hg hfin ops.size _ (by simp) (by have := @List.countP_le_length Bool (! ·) (List.replicate ops.size false); simpa using this) a ρ (fun _ => default) _ ha
    (fun t => ⟨fun i f hi _ => (by rw [hno] at hi; cases hi), fun _ => rfl⟩) (fun j o hj => (by rw [hno] at hj; cases hj)) (by rw [hno]; exact hp))
theorem g_draw0X {c : Code} (hB : ∀ ch ρ w, Bad ch w → Q (.panic ch) ρ w) (l : List Nat) (vs : List (Option Nat × (Gh → Value))) (pre : (Nat → Bool) → (Nat → Gh) → World → Prop) (hc : regOf c = some (l, true)) (hm : P.follows .mixedOrders = true) (hok : drawOK (opsOf c) (vs.map (·.1)) N = true) (hp : pre (fun _ => false) (fun _ => default) w.drew)
    (hg : GivesAllX P Bad (opsOf c) (fun i => fin_ (vs.take i) ρ) pre vs 0) (hfin : ∀ L g w', (∀ i, i < (opsOf c).size → L i = true) → pre L g w' → Q .normal (fin_ vs ρ g) w') : WP P N c Q ρ w := by
  obtain ⟨id, he, hl⟩ := regOf_eq hc
  rw [he]; exact WP.drawX hB hm hok hp hg hfin
end
theorem GivesX.of {P : Program} {Bad : List PanicEntry → World → Prop} {ops : Array Oper} {R : (Nat → Gh) → Env} {pre : (Nat → Bool) → (Nat → Gh) → World → Prop} {i : Nat} {d : Option Nat} {f : Gh → Value} (h : Gives P ops R pre i d f) : GivesX P Bad ops R pre i d f := fun L g w h1 h2 h3 h4 => by
  obtain ⟨o, ho, hd, q⟩ := h L g w h1 h2 h3 h4
  exact ⟨o, ho, hd, q.imp id fun ⟨a, b⟩ => ⟨a, RunsX.of b⟩⟩
end Go.Proofs.YtdgoaaaagpeaaaaDoor.D2

namespace Go.Proofs.YtdgoaaaagpeaaaaDoor
open Go Go.RowKit
set_option linter.unusedVariables false
abbrev xc (x : X3) : Array Value := #[.bool x.l, .string x.s, .slice x.p x.n x.c]
theorem xc_cells (x : X3) : (xc x).toList = cells3 [x] := rfl
section
variable {P : Program} {ρ : Env} {w w0 : World} {B : Nat} {l : List (Nat × Obj)}
theorem app_run_own (HS : St B w0 w l) {t e bytes : Nat} {s x : Operand} {o : Oper} {j k b bx n cap c : Nat} {cur : Array Value} {L : List X3} {y : X3} (ht : sliceOf P t = some (e, 3, bytes)) (ho : o.op = appendOp t s x)
    (hs : ev ρ s = .slice (some ⟨b, 0, none⟩) n cap) (hj : l[j]? = some (b, .cells cur e (0, 0))) (hr : Rw 3 cur cap n (cells3 L)) (hx : ev ρ x = .slice (some ⟨bx, 0, none⟩) 1 c) (hk : l[k]? = some (bx, .cells (xc y) e (0, 0)))
    (hb : (n + 1) * bytes ≤ 140737488355328) (hm : n + 1 ≤ maxLen) : ∃ b' cap' cur' w', (execOp (ev ρ) o).run P w = .ok (.value (.slice (some ⟨b', 0, none⟩) (n + 1) cap')) w' ∧ St B w0 w' (l.set j (b', .cells cur' e (0, 0))) ∧ Rw 3 cur' cap' (n + 1) (cells3 (L ++ [y])) := by
  obtain ⟨it, z, hu, hi, hz, hsz, hby, hzs, h0⟩ := sliceOf_spec ht
  have hnews : ∀ q u, (cells3 [y])[q]? = some u → w.cell? ((⟨bx, 0, none⟩ : Addr).add q) = some u := fun q u hq => by
    rw [← xc_cells, Array.getElem?_toList] at hq
    rw [addr_add, Nat.zero_add]
    simp [World.cell?, HS.get k hk, hq]
  obtain ⟨v', w', hrun, hown, hgr, hnil, hblk⟩ := run_append_own_at (P := P) w B t o.type e it z 3 bytes hu hi hz hsz hby hzs h0 _ n (cells3 L) (hr.owns (HS.ge j hj) (HS.get j hj)) ⟨bx, 0, none⟩ 1 c (cells3 [y]) (cells3_len [y]) hnews (cells3_one [y]) hm hb HS.le
  have hown' := hown
  rcases hown'.2 with ⟨hv, _⟩ | ⟨g, cap', cur', rfl, hbg, hg, hnc, hcm, hcs, htk⟩
  · exact absurd (hnil.1 hv).1 (by simp)
  · have hgb : g = b ∨ g = w.heap.size := by
      rcases hblk with hq | hq
      · left; injection hq
      · right; injection hq
    refine ⟨g, cap', cur', w', ?_, HS.grown j hj hgr hgb hg, ?_⟩
    · unfold execOp
      simp only [ho, appendOp, resolve, invoke, builtin, Sem.run_bind, Sem.run_pure, Result.andThen_ok, List.map_toArray, List.map_cons, List.map_nil, hs, hx, hrun]
    · rw [cells3_append]; exact ⟨hown.1, hnc, hcm, htk, hcs⟩
theorem app_run_nil (HS : St B w0 w l) {t e bytes : Nat} {s x : Operand} {o : Oper} {k bx c : Nat} {y : X3} (ht : sliceOf P t = some (e, 3, bytes)) (ho : o.op = appendOp t s x)
    (hs : ev ρ s = .slice none 0 0) (hx : ev ρ x = .slice (some ⟨bx, 0, none⟩) 1 c) (hk : l[k]? = some (bx, .cells (xc y) e (0, 0)))
    (hb : (0 + 1) * bytes ≤ 140737488355328) : ∃ b' cap' cur' w', (execOp (ev ρ) o).run P w = .ok (.value (.slice (some ⟨b', 0, none⟩) 1 cap')) w' ∧ St B w0 w' ((b', .cells cur' e (0, 0)) :: l) ∧ Rw 3 cur' cap' 1 (cells3 [y]) := by
  obtain ⟨it, z, hu, hi, hz, hsz, hby, hzs, h0⟩ := sliceOf_spec ht
  have hnews : ∀ q u, (cells3 [y])[q]? = some u → w.cell? ((⟨bx, 0, none⟩ : Addr).add q) = some u := fun q u hq => by
    rw [← xc_cells, Array.getElem?_toList] at hq
    rw [addr_add, Nat.zero_add]
    simp [World.cell?, HS.get k hk, hq]
  obtain ⟨v', w', hrun, hown, hgr, hnil, hblk⟩ := run_append_own_at (P := P) w B t o.type e it z 3 bytes hu hi hz hsz hby hzs h0 (.slice none 0 0) 0 [] (World.ownsRow_nil w B e 3) ⟨bx, 0, none⟩ 1 c (cells3 [y]) (cells3_len [y]) hnews (cells3_one [y]) (by unfold maxLen; omega) hb HS.le
  have hown' := hown
  rcases hown'.2 with ⟨hv, _⟩ | ⟨g, cap', cur', rfl, hbg, hg, hnc, hcm, hcs, htk⟩
  · exact absurd (hnil.1 hv).2 (by simp)
  · have hgb : g = w.heap.size := by
      rcases hblk with hq | hq
      · simp [Value.ownBlock] at hq
      · injection hq
    have hbel : Below w.heap.size w w' := (Below.refl _ w).grown hgr (Nat.le_refl _) (fun k hk => by simp [Value.ownBlock] at hk)
    have HS' := HS.add hbel (by omega) hg
    rw [Nat.zero_add] at hnc htk
    refine ⟨g, cap', cur', w', ?_, HS', ⟨by rw [cells3_len]; rfl, hnc, hcm, htk, hcs⟩⟩
    unfold execOp
    simp only [ho, appendOp, resolve, invoke, builtin, Sem.run_bind, Sem.run_pure, Result.andThen_ok, List.map_toArray, List.map_cons, List.map_nil, hs, hx, hrun]
end
abbrev xo (v : Value) : Obj := .cells #[.bool true, .string ⟨#[]⟩, v] 24 (0, 0)
abbrev r0 : Obj := .cells #[.bool false, .string ⟨#[]⟩, .slice none 0 0] 24 (0, 0)
def okX (t u : ByteArray) (x : X3) (T : List (Nat × Obj)) : Prop := itIs t x.l x.s x.k u ∧ SlIn T x.p x.n x.k ∧ x.s.size ≤ t.size
def RowSt (p : Option Addr) (n c : Nat) (row : List (Nat × Obj)) (L : List X3) : Prop := (p = none ∧ n = 0 ∧ c = 0 ∧ row = [] ∧ L = []) ∨ ∃ b cur, p = some ⟨b, 0, none⟩ ∧ row = [(b, .cells cur 24 (0, 0))] ∧ Rw 3 cur c n (cells3 L)
/-- Where the round stands, by what of it has run. -/
def PreL (B : Nat) (w0 : World) (t : ByteArray) (b2 b3 b4 : Nat) (p : Option Addr) (n c : Nat) (row : List (Nat × Obj)) (M : List X3) (L0 : List (Nat × Obj)) : (Nat → Bool) → (Nat → D2.Gh) → World → Prop := fun L g w =>
  bif L 4 then ∃ u T x, okX t u x T ∧ Rw 3 (g 4).cur (g 4).cap (n + 1) (cells3 (M ++ [x])) ∧ St B w0 w ((b4, dc u) :: (b3, xo (bif L 6 then .slice (some ⟨(g 4).b, 0, none⟩) (n + 1) (g 4).cap else .slice p n c)) :: (b2, r0) :: ((g 4).b, .cells (g 4).cur 24 (0, 0)) :: (T ++ L0))
  else bif L 3 then ∃ u T x, okX t u x T ∧ St B w0 w (((g 3).b, .cells (xc x) 24 (0, 0)) :: (b4, dc u) :: (b3, xo (.slice p n c)) :: (b2, r0) :: (row ++ (T ++ L0)))
  else bif L 2 then ∃ u T x, okX t u x T ∧ (g 2).cur = xc x ∧ St B w0 w ((b4, dc u) :: (b3, xo (.slice p n c)) :: (b2, r0) :: (row ++ (T ++ L0)))
  else St B w0 w ((b4, dc t) :: (b3, xo (.slice p n c)) :: (b2, r0) :: (row ++ L0))
section
variable {B : Nat} {w0 : World} {t : ByteArray} {b2 b3 b4 : Nat} {p : Option Addr} {n c : Nat} {row : List (Nat × Obj)} {M : List X3} {L0 : List (Nat × Obj)} {L : Nat → Bool} {g : Nat → D2.Gh} {w : World}
theorem PreL.keep {i : Nat} {y : D2.Gh} (hi : Nat.beq 2 i = false) (h3 : Nat.beq 3 i = false) (h4 : Nat.beq 4 i = false) (h6 : Nat.beq 6 i = false) (h : PreL B w0 t b2 b3 b4 p n c row M L0 L g w) : PreL B w0 t b2 b3 b4 p n c row M L0 (D2.put1 L i) (D2.setN g i y) w := by
  have e2 : D2.put1 L i 2 = L 2 := by unfold D2.put1; rw [hi]; rfl
  have e3 : D2.put1 L i 3 = L 3 := by unfold D2.put1; rw [h3]; rfl
  have e4 : D2.put1 L i 4 = L 4 := by unfold D2.put1; rw [h4]; rfl
  have e6 : D2.put1 L i 6 = L 6 := by unfold D2.put1; rw [h6]; rfl
  have g2 : D2.setN g i y 2 = g 2 := by unfold D2.setN; rw [hi]; rfl
  have g3 : D2.setN g i y 3 = g 3 := by unfold D2.setN; rw [h3]; rfl
  have g4 : D2.setN g i y 4 = g 4 := by unfold D2.setN; rw [h4]; rfl
  unfold PreL at h ⊢
  rw [e2, e3, e4, e6, g2, g3, g4]; exact h
theorem PreL.x (h4 : L 4 = false) (h : PreL B w0 t b2 b3 b4 p n c row M L0 L g w) : ∃ l, St B w0 w l ∧ (b3, xo (.slice p n c)) ∈ l := by
  unfold PreL at h; rw [h4] at h
  cases h3 : L 3 with
  | true => rw [h3] at h; obtain ⟨u, T, x, _, h⟩ := h; exact ⟨_, h, by simp⟩
  | false =>
    rw [h3] at h
    cases h2 : L 2 with
    | true => rw [h2] at h; obtain ⟨u, T, x, _, _, h⟩ := h; exact ⟨_, h, by simp⟩
    | false => rw [h2] at h; exact ⟨_, h, by simp⟩
end
end Go.Proofs.YtdgoaaaagpeaaaaDoor

namespace Go.Proofs.YtdgoaaaagpeaaaaDoor
open Go Go.RowKit
set_option linter.unusedVariables false
theorem wrF_snoc (x : X3) : ∀ M : List X3, wrF (toFo (M ++ [x])) = wrF (toFo M) ++ wr1 x.l x.s (szF x.k) (wrF x.k)
  | [] => by simp [toFo, wrF]
  | m :: M => by simp only [List.cons_append, toFo, wrF, wrF_snoc x M, List.append_assoc]
theorem pureF_snoc (x : X3) (hm : mixed x.l x.s x.k.len = false) (hp : pureF x.k = true) : ∀ M : List X3, pureF (toFo M) = true → pureF (toFo (M ++ [x])) = true
  | [], _ => by simp [toFo, pureF, hm, hp]
  | m :: M, h => by
    simp only [toFo, pureF, Bool.and_eq_true] at h
    simp only [List.cons_append, toFo, pureF, Bool.and_eq_true]
    exact ⟨h.1, pureF_snoc x hm hp M h.2⟩
theorem AllIn.mono {T T' : List (Nat × Obj)} {M : List X3} (h : AllIn T M) (hs : ∀ e ∈ T, e ∈ T') : AllIn T' M := fun x hx => ⟨(h x hx).1.mono hs, (h x hx).2⟩
theorem AllIn.snoc {T : List (Nat × Obj)} {M : List X3} {x : X3} (h : AllIn T M) (hx : SlIn T x.p x.n x.k) (hz : x.s.size ≤ 140737488355328) : AllIn T (M ++ [x]) := fun y hy => by
  rcases List.mem_append.1 hy with q | q
  · exact h y q
  · obtain rfl := List.mem_singleton.1 q
    exact ⟨hx, hz⟩
theorem load_at {P : Program} {ρ : Env} {w : World} {b off : Nat} {C : Array Value} {T t : TypeId} {fz : Nat × Nat} {x : Operand} {v : Value} (hh : w.heap[b]? = some (.cells C T fz)) (ht : oneCell P t = true) (hx : ev ρ x = .pointer (some ⟨b, off, none⟩)) (hv : C[off]? = some v) (o : Oper) (ho : o.op = .load t x) :
    (execOp (ev ρ) o).run P w = .ok (.value v) w := by
  have := load_one (P := P) (w := w) ht hh hv
  simp [execOp, ho, Instr.loadAt, Instr.sureAddr, hx, this]
theorem store_at {P : Program} {ρ : Env} {w : World} {b off : Nat} {C C' : Array Value} {T t : TypeId} {x y : Operand} {v : Value} (hh : w.heap[b]? = some (.cells C T (0, 0))) (hi : (P.info? t).map (·.size) = some v.cells.size) (h1 : v.cells.all (·.oneCell') = true) (hs : off + v.cells.size ≤ C.size)
    (hC : (C.toList.take off ++ v.cells.toList ++ C.toList.drop (off + v.cells.size)).toArray = C') (hx : ev ρ x = .pointer (some ⟨b, off, none⟩)) (hy : ev ρ y = v) (o : Oper) (ho : o.op = .store t x y) : (execOp (ev ρ) o).run P w = .ok .skip (w.setRow b C') := by
  have := store_agg (P := P) (w := w) hi h1 hh hs
  rw [hC] at this
  simp [execOp, ho, Instr.storeAt, Instr.sureAddr, hx, hy, this]
/-- What stays true round by round. -/
structure LiInv (t t' : ByteArray) (p : Option Addr) (n c : Nat) (row : List (Nat × Obj)) (M : List X3) (T : List (Nat × Obj)) : Prop where
  row : RowSt p n c row M
  size : n + t'.size ≤ t.size
  all : tl t = wrF (toFo M) ++ tl t'
  pur : pureF (toFo M) = true
  inn : AllIn T M
  rest : ∀ k, pureF k = true → tl t = wrF k → ∃ k', pureF k' = true ∧ tl t' = wrF k'
theorem LiInv.bad {t t' : ByteArray} {p : Option Addr} {n c : Nat} {row : List (Nat × Obj)} {M : List X3} {T : List (Nat × Obj)} (h : LiInv t t' p n c row M T) (h0 : t'.size ≠ 0) (hb : itBad t') : liBad t := fun k hp he => by
  obtain ⟨k', hp', he'⟩ := h.rest k hp he
  cases k' with
  | nil => have := congrArg List.length he'; rw [tl_len] at this; simp [wrF] at this; exact h0 (by rw [this]; rfl)
  | cons l s k r =>
    simp only [pureF, Bool.and_eq_true, Bool.not_eq_true'] at hp'
    exact hb l s k (wrF r) hp'.1.1 hp'.1.2 he'
theorem LiInv.next {t t' u : ByteArray} {p : Option Addr} {n c : Nat} {row : List (Nat × Obj)} {M : List X3} {T T2 : List (Nat × Obj)} {x : X3} {b cap : Nat} {cur : Array Value} (ht : t.size ≤ 100000) (h : LiInv t t' p n c row M T) (hx : okX t' u x T2) (hr : Rw 3 cur cap (n + 1) (cells3 (M ++ [x]))) :
    u.size < t'.size ∧ LiInv t u (some ⟨b, 0, none⟩) (n + 1) cap [(b, .cells cur 24 (0, 0))] (M ++ [x]) (T2 ++ T) := by
  obtain ⟨⟨hm, hp, hi⟩, hs, hz⟩ := hx
  have hlen := congrArg List.length hi
  have h1 := (wr1_len hm hp rfl).1
  rw [tl_len, List.length_append, tl_len] at hlen
  have hsz := h.size
  refine ⟨by omega, .inr ⟨b, cur, rfl, rfl, hr⟩, by omega, ?_, pureF_snoc x hm hp M h.pur, ?_, ?_⟩
  · rw [h.all, hi, wrF_snoc, List.append_assoc]
  · exact (h.inn.mono fun e he => List.mem_append_right _ he).snoc (hs.mono fun e he => List.mem_append_left _ he) (by omega)
  · intro k hpk hk
    obtain ⟨k', hp', he'⟩ := h.rest k hpk hk
    exact li_next (by omega) ⟨hm, hp, hi⟩ hp' he'
theorem LiInv.done {t t' : ByteArray} {p : Option Addr} {n c : Nat} {row : List (Nat × Obj)} {M : List X3} {T : List (Nat × Obj)} (ht : t.size ≤ 100000) (h : LiInv t t' p n c row M T) (h0 : t' = ⟨#[]⟩) : okList t (.agg #[.bool true, .string ⟨#[]⟩, .slice p n c]) (row ++ T) := by
  have hsz := h.size
  refine ⟨p, n, c, toFo M, rfl, ?_, h.pur, ?_⟩
  · rw [h.all, h0]; exact List.append_nil _
  · rcases h.row with ⟨rfl, rfl, rfl, rfl, rfl⟩ | ⟨b, cur, rfl, rfl, hr⟩
    · exact SlIn.none _
    · exact hr.slIn (b := b) (ty := 24) (fz := (0, 0)) (by simp) (h.inn.mono fun e he => List.mem_append_right _ he) (by omega)
set_option maxRecDepth 100000 in
set_option maxHeartbeats 2000000 in
theorem list_step (t : ByteArray) (ht : t.size ≤ 100000) (hi : ∀ (bd : Nat) (u : ByteArray), u.size ≤ t.size → ItemC bd u) : ListC t := by
  refine FnY.intro (c := codeOf Tryd.f52) [.cell 2 24] 18 Tryd.func52 kr kr kr fun B w0 w L H0 => ?_
  refine g_sreg [0] kr kr ?_
  refine s_alloc H0 (some 2) 24 (.agg #[.bool false, .string ⟨#[]⟩, .slice none 0 0]) kr kr kr ?_
  intro b2 w1 H1
  refine s_nil ?_
  refine g_sreg [0, 1, 2, 3, 4, 5, 6] kr kr ?_
  refine s_val (some 5) (.agg #[.bool true, .string ⟨#[]⟩, .slice none 0 0]) (fun w => by kernel_rfl) kr ?_
  refine s_val (some 6) (.string t) (fun w => by kernel_rfl) kr ?_
  refine s_val (some 7) (.agg #[.string t]) (fun w => by kernel_rfl) kr ?_
  refine s_alloc H1 (some 3) 24 (.agg #[.bool false, .string ⟨#[]⟩, .slice none 0 0]) kr kr kr ?_
  intro b3 w2 H2
  refine s_alloc H2 (some 4) 66 (.agg #[.string ⟨#[]⟩]) kr kr kr ?_
  intro b4 w3 H3
  refine rp [.s 1, .s 0] H3 kr fun gs4 w4 H4 => ?_
  show WPs _ _ _ _ [] _ _
  refine s_nil ?_
  have H5 : St B w0 w4 ((b4, dc t) :: (b3, xo (.slice none 0 0)) :: (b2, r0) :: ([] ++ ([] ++ L))) := H4.as kr
  refine g_seq kr ?_
  refine g_block 0 kr ?_
  refine g_loop kr (fun mz ρ ww => ∃ (t' : ByteArray) (p : Option Addr) (n c : Nat) (row : List (Nat × Obj)) (M : List X3) (T : List (Nat × Obj)), t'.size = mz ∧ LiInv t t' p n c row M T ∧ St B w0 ww ((b4, dc t') :: (b3, xo (.slice p n c)) :: (b2, r0) :: (row ++ (T ++ L))) ∧ Is [(0, .string t), (2, .pointer (some ⟨b2, 0, none⟩)), (3, .pointer (some ⟨b3, 0, none⟩)), (4, .pointer (some ⟨b4, 0, none⟩))] ρ) t.size ⟨t, none, 0, 0, [], [], [], rfl, ⟨.inl ⟨rfl, rfl, rfl, rfl, rfl⟩, by omega, rfl, rfl, (fun _ h => nomatch h), fun k hp he => ⟨k, hp, he⟩⟩, H5, (Is.of ⟨kr, kr, kr, kr, trivial⟩)⟩ ?_
  rintro _ _ w5 ⟨t', p, n, c, row, M, T, rfl, hI, H6, _, rfl⟩
  have hsz := hI.size
  by_cases h0 : t' = ⟨#[]⟩
  · refine g_seq kr ?_
    refine rS [.v, .l 0, .e (v := .bool (!(ByteArray.toList t' == ByteArray.toList (⟨#[]⟩)))) (v' := .bool false) (bool_eq (by rw [str_same t' (⟨#[]⟩) h0]; rfl))] H6 kr fun gs5 w6 H7 => ?_
    refine g_cond_f kr kr ?_
    refine g_exit 0 kr ?_
    show WP _ _ _ _ _ _
    refine rS [.l 1, .s 2] H7 kr fun gs6 w7 H8 => ?_
    have H9 : St B w0 w7 ((b4, dc t') :: (b3, xo (.slice p n c)) :: (b2, xo (.slice p n c)) :: (row ++ (T ++ L))) := H8.as kr
    refine g_ret kr ?_
    show ∃ vs, Res _ _ _ _ vs ∧ _
    refine ⟨[.agg #[.bool true, .string ⟨#[]⟩, .slice p n c]], (.agg (b := b2) (#[.bool true, .string ⟨#[]⟩, .slice p n c]) 24 (0, 0) kr (H9.get 2 kr) kr .nil), row ++ T, hI.done ht h0, ?_⟩
    rw [List.append_assoc]
    exact H9.sub (List.Sublist.cons _ (List.Sublist.cons _ (List.sublist_cons_self ..)))
  · have hz := size_ne h0
    refine g_seq kr ?_
    refine rS [.v, .l 0, .e (v := .bool (!(ByteArray.toList t' == ByteArray.toList (⟨#[]⟩)))) (v' := .bool true) (bool_eq (by rw [str_other t' (⟨#[]⟩) h0]; rfl))] H6 kr fun gs5 w6 H7 => ?_
    refine g_cond_t kr kr ?_
    refine g_skip kr ?_
    show WP _ _ _ _ _ _
    refine g_block 1 kr ?_
    have H8 : St B w0 w6 ((b4, dc t') :: (b3, xo (.slice p n c)) :: (b2, r0) :: (row ++ (T ++ L))) := H7.as kr
    refine D2.g_draw0X (Bad := fun ch w' => ch = chF ∧ liBad t ∧ St B w0 w' L) (fun ch ρ w h => h) [0, 1, 2, 3, 4, 5, 6] [(some 11, fun _ => .pointer (some ⟨b3, 2, none⟩)), (some 12, fun _ => .slice p n c), (some 13, fun y => .agg y.cur), (some 14, fun y => .slice (some ⟨y.b, 0, none⟩) 1 1), (some 15, fun y => .slice (some ⟨y.b, 0, none⟩) (n + 1) y.cap), (some 16, fun _ => .pointer (some ⟨b3, 2, none⟩)), (none, fun _ => undef)] (PreL B w0 t' b2 b3 b4 p n c row M (T ++ L)) kr kr kr H8.drew ⟨?_, ?_, ?_, ?_, ?_, ?_, ?_, trivial⟩ ?_
    · exact .of (D2.gv_val (fun L g w h => by have := h.keep (i := 0) (y := g 0) rfl rfl rfl rfl; rwa [D2.setN_self] at this) (fun g w => by kernel_rfl))
    · refine .of (D2.gives_of fun L g w hp hN => ?_)
      obtain ⟨o, ho, hd, hw, hop⟩ := opk_some (show opk _ 1 _ = some (some 12, true, .load 22 (.tmp 11)) by kernel_rfl)
      obtain ⟨l, HS, hm⟩ := hp.x (hN.post 4 kr)
      refine ⟨o, ho, hd, .inr ⟨hw, ?_⟩⟩
      rw [load_at (off := 2) (v := .slice p n c) (HS.own _ hm).2 kr kr kr o hop]
      exact ⟨g 1, rfl, hp.keep rfl rfl rfl rfl⟩
    · intro L1 g w hp hn hr hc
      have hN : D2.Now _ 2 L1 := ⟨hn, hr, hc⟩
      have h3 := hN.post 3 kr
      have h4 := hc.no 3 4 kr h3
      obtain ⟨o, ho, hd, hw, hrun⟩ := opv_some (show opv _ _ 2 _ w = some (some 13, true, .ok (.enter 44 #[.pointer (some ⟨b4, 0, none⟩)]) w) by kernel_rfl)
      refine ⟨o, ho, hd, .inr ⟨hw, ?_⟩⟩
      rw [hrun]
      unfold PreL at hp
      rw [h4, h3, hn] at hp
      refine (hi b4 t' (by omega) B w0 w _ hp).mono fun e w' q => ?_
      rcases q with ⟨v, u, T2, rfl, ⟨l, s, p1, n1, c1, k, rfl, q1, q2, q3⟩, HS⟩ | ⟨rfl, hb, HS⟩
      · refine .inl ⟨_, rfl, { cur := #[.bool l, .string s, .slice p1 n1 c1] }, rfl, ?_⟩
        unfold PreL
        rw [show D2.put1 L1 2 4 = false from h4, show D2.put1 L1 2 3 = false from h3, show D2.put1 L1 2 2 = true from rfl]
        exact ⟨u, T2, ⟨l, s, p1, n1, c1, k⟩, ⟨q1, q2, q3⟩, rfl, HS.perm (List.Perm.cons _ (List.perm_append_comm_assoc ((b3, xo (.slice p n c)) :: (b2, r0) :: row) T2 (T ++ L)))⟩
      · exact .inr ⟨chF, rfl, rfl, hI.bad hz hb, HS.sub (List.Sublist.cons _ (List.Sublist.cons _ ((List.sublist_append_right _ _).trans (List.sublist_append_right _ _))))⟩
    · refine .of (D2.gives_of fun L1 g w hp hN => ?_)
      have h2 := hN.bef 2 kr
      have h4 := hN.post 4 kr
      unfold PreL at hp
      rw [h4, hN.1, h2] at hp
      obtain ⟨u, T2, x, hx, hcur, HS⟩ := hp
      obtain ⟨o, ho, hd, hw, hrun⟩ := opv_some (show opv _ _ 3 (setAll [(11, .pointer (some ⟨b3, 2, none⟩)), (12, .slice p n c), (13, .agg (g 2).cur)] _) w = some (some 14, true, .ok (.value (.slice (some ⟨w.heap.size, 0, none⟩) 1 1)) (w.alloc (.cells (xc x) 24))) by rw [hcur]; kernel_rfl)
      refine ⟨o, ho, hd, .inr ⟨hw, ?_⟩⟩
      refine (congrArg (D2.Runs _ _) hrun).mpr ?_
      refine ⟨{ b := w.heap.size }, rfl, ?_⟩
      unfold PreL
      rw [show D2.put1 L1 3 4 = false from h4, show D2.put1 L1 3 3 = true from rfl]
      exact ⟨u, T2, x, hx, HS.alloc _⟩
    · refine .of (D2.gives_of fun L1 g w hp hN => ?_)
      have h3 := hN.bef 3 kr
      have h6 := hN.post 6 kr
      unfold PreL at hp
      rw [hN.1, h3] at hp
      obtain ⟨u, T2, x, hx, HS⟩ := hp
      obtain ⟨o, ho, hd, hw, hop⟩ := opk_some (show opk _ 4 _ = some (some 15, true, appendOp 22 (.tmp 12) (.tmp 14)) by kernel_rfl)
      refine ⟨o, ho, hd, .inr ⟨hw, ?_⟩⟩
      rcases hI.row with ⟨rfl, rfl, rfl, rfl, rfl⟩ | ⟨b, cur, rfl, rfl, hrw⟩
      · obtain ⟨b', cap', cur', w', hrun, HS', hr'⟩ := app_run_nil HS (t := 22) (e := 24) (bytes := 48) (k := 0) (bx := (g 3).b) (c := 1) (y := x) kr hop kr kr rfl (by omega)
        rw [hrun]
        refine ⟨{ b := b', cap := cap', cur := cur' }, rfl, ?_⟩
        unfold PreL
        rw [show D2.put1 L1 4 4 = true from rfl, show D2.put1 L1 4 6 = false from h6]
        refine ⟨u, T2, x, hx, hr', ?_⟩
        exact (HS'.sub (List.Sublist.cons_cons _ (List.sublist_cons_self ..))).perm (List.perm_middle (l₁ := [(b4, dc u), (b3, xo (.slice none 0 0)), (b2, r0)]))
      · obtain ⟨b', cap', cur', w', hrun, HS', hr'⟩ := app_run_own HS (t := 22) (e := 24) (bytes := 48) (j := 4) (k := 0) (bx := (g 3).b) (c := 1) (y := x) kr hop kr rfl hrw kr rfl (by omega) (by unfold maxLen; omega)
        rw [hrun]
        refine ⟨{ b := b', cap := cap', cur := cur' }, rfl, ?_⟩
        unfold PreL
        rw [show D2.put1 L1 4 4 = true from rfl, show D2.put1 L1 4 6 = false from h6]
        exact ⟨u, T2, x, hx, hr', HS'.sub (List.sublist_cons_self ..)⟩
    · exact .of (D2.gv_val (fun L g w h => by have := h.keep (i := 5) (y := g 5) rfl rfl rfl rfl; rwa [D2.setN_self] at this) (fun g w => by kernel_rfl))
    · refine .of (D2.gives_of fun L1 g w hp hN => ?_)
      have h4 := hN.bef 4 kr
      unfold PreL at hp
      rw [h4, hN.1] at hp
      obtain ⟨u, T2, x, hx, hr', HS⟩ := hp
      obtain ⟨o, ho, hd, hw, hop⟩ := opk_some (show opk _ 6 _ = some (none, true, .store 22 (.tmp 16) (.tmp 15)) by kernel_rfl)
      refine ⟨o, ho, hd, .inr ⟨hw, ?_⟩⟩
      rw [store_at (t := 22) (off := 2) (b := b3) (C := #[.bool true, .string ⟨#[]⟩, .slice p n c]) (T := 24) (v := .slice (some ⟨(g 4).b, 0, none⟩) (n + 1) (g 4).cap) (C' := #[.bool true, .string ⟨#[]⟩, .slice (some ⟨(g 4).b, 0, none⟩) (n + 1) (g 4).cap]) (HS.get 1 kr) kr kr (of_decide_eq_true kr) kr kr kr o hop]
      refine ⟨default, rfl, ?_⟩
      unfold PreL
      rw [show D2.put1 L1 6 4 = true from h4, show D2.put1 L1 6 6 = true from rfl]
      exact ⟨u, T2, x, hx, hr', HS.store 1 (C := #[.bool true, .string ⟨#[]⟩, .slice p n c]) kr⟩
    · intro L1 g w' hall hp
      unfold PreL at hp
      rw [hall 4 (Nat.le_of_ble_eq_true kr), hall 6 (Nat.le_of_ble_eq_true kr)] at hp
      obtain ⟨u, T2, x, hx, hr', HS⟩ := hp
      obtain ⟨hlt, hI'⟩ := hI.next (b := (g 4).b) ht hx hr'
      show ∃ m, _ ∧ _
      refine ⟨_, hlt, u, _, _, _, _, _, _, rfl, hI', ?_, (Is.of ⟨kr, kr, kr, kr, trivial⟩)⟩
      rw [List.append_assoc]
      exact HS
theorem read_all (m : Nat) : (∀ (t : ByteArray), t.size ≤ m → m ≤ 100000 → (∀ bd, ItemC bd t) ∧ ListC t) := by
  induction m with
  | zero =>
    intro t h hm
    have hi : ∀ (bd : Nat) (u : ByteArray), u.size ≤ t.size → ItemC bd u := fun bd u hu => item_step bd u (by omega) fun s hs => by omega
    exact ⟨fun bd => hi bd t (Nat.le_refl _), list_step t (by omega) hi⟩
  | succ m ih =>
    intro t h hm
    have hi : ∀ (bd : Nat) (u : ByteArray), u.size ≤ t.size → ItemC bd u := fun bd u hu => item_step bd u (by omega) fun s hs => (ih s (by omega) (by omega)).2
    exact ⟨fun bd => hi bd t (Nat.le_refl _), list_step t (by omega) hi⟩
theorem item_x (bd : Nat) (t : ByteArray) (ht : t.size ≤ 100000) : ItemC bd t := (read_all 100000 t ht (Nat.le_refl _)).1 bd
end Go.Proofs.YtdgoaaaagpeaaaaDoor

namespace Go.Proofs.YtdgoaaaagpeaaaaDoor
open Go Go.RowKit
set_option linter.unusedVariables false
structure RepD (ds : List Deferred) (a : Act) (ρ : Env) (N : Nat) : Prop where
  defers : a.defers = ds
  rep : Rep { a with defers := [] } ρ N
def liftD (ds : List Deferred) (N : Nat) (Q : Exit → Env → World → Prop) : Exit → Act → World → Prop := fun e a w => ∃ ρ, RepD ds a ρ N ∧ Q e ρ w
theorem put_defers (a : Act) (d : Option Nat) (v : Value) : (a.put d v).defers = a.defers := by cases d <;> rfl
theorem put_nod (a : Act) (d : Option Nat) (v : Value) : { a.put d v with defers := [] } = ({ a with defers := [] } : Act).put d v := by cases d <;> rfl
theorem eval_nod (a : Act) : ({ a with defers := [] } : Act).eval = a.eval := by funext x; cases x <;> rfl
section
variable {P : Program} {N : Nat} {ops : Array Oper} {Q : Exit → Env → World → Prop} {K : Env → World → Prop} {ρ : Env} {w : World} {i : Nat} {ds : List Deferred}
theorem letsD (h : LetsOut (lift N Q)) : LetsOut (liftD ds N Q) := by
  obtain ⟨a, w, ρ, hr, hq⟩ := h
  exact ⟨{ a with defers := ds }, w, ρ, ⟨rfl, ⟨rfl, hr.size, hr.at_⟩⟩, hq⟩
theorem wpOp_defers {a : Act} (ha : a.defers = ds) (h : wpOp P ops (lift N Q) i (fun a' w' => ∃ ρ', Rep a' ρ' N ∧ K ρ' w') { a with defers := [] } w) : wpOp P ops (liftD ds N Q) i (fun a' w' => ∃ ρ', RepD ds a' ρ' N ∧ K ρ' w') a w := by
  unfold wpOp at h ⊢
  have hnext : ∀ (d : Option Nat) (v : Value) (w' : World), (∃ ρ', Rep (({ a with defers := [] } : Act).put d v) ρ' N ∧ K ρ' w') → ∃ ρ', RepD ds (a.put d v) ρ' N ∧ K ρ' w' := fun d v w' ⟨ρ', hr, hk⟩ => ⟨ρ', ⟨by rw [put_defers, ha], by rw [put_nod]; exact hr⟩, hk⟩
  cases ho : ops[i]? with
  | none =>
    simp only [ho] at h ⊢
    obtain ⟨ρ', hr, hk⟩ := h
    exact ⟨ρ', ⟨ha, hr⟩, hk⟩
  | some o =>
    simp only [ho] at h ⊢
    split
    · rename_i hw
      rw [if_pos hw] at h
      rcases h with h | ⟨h1, h2⟩
      · left
        unfold Oper.wp at h ⊢
        rw [eval_nod] at h
        generalize (execOp a.eval o).run P w = r at h
        cases r with
        | ok n w' =>
          cases n with
          | value v => exact hnext _ _ _ h
          | skip => exact hnext _ _ _ h
          | defer d =>
            obtain ⟨ρ', hr, _⟩ := h
            have := hr.defers
            rw [put_defers] at this; cases this
          | enter f args =>
            refine Calls.mono h fun e w'' q => ?_
            cases e with
            | returned v => exact hnext _ _ _ q
            | panicked ch =>
              obtain ⟨ρ', hr, hq⟩ := q
              exact ⟨ρ', ⟨ha, hr⟩, hq⟩
            | outgrown => exact letsD q
          | row row args => exact Rows.mono h fun v w'' q => hnext _ _ _ q
          | _ => exact (h : False).elim
        | halt hh w' =>
          cases hh with
          | panic v =>
            obtain ⟨ρ', hr, hq⟩ := h
            exact ⟨ρ', ⟨ha, hr⟩, hq⟩
          | _ => exact (h : False).elim
      · right
        refine ⟨?_, letsD h2⟩
        unfold Oper.asks at h1 ⊢
        rw [eval_nod] at h1
        exact h1
    · rename_i hw
      rw [if_neg hw] at h
      exact hnext _ _ _ h
theorem WPsX.soundD : ∀ (l : List Nat) (ρ : Env) (w : World), WPsX P N ops Q (Q .normal) l ρ w → ∀ a, RepD ds a ρ N → wpOps P ops (liftD ds N Q) l a w
  | [], ρ, w, h, a, ha => ⟨ρ, ha, h⟩
  | i :: r, ρ, w, h, a, ha => by
    rw [wpOps_cons]
    exact wpOp_mono (fun a' w' ⟨ρ', hr, h'⟩ => WPsX.soundD r ρ' w' h' a' hr) (wpOp_defers ha.defers (h _ ha.rep))
def WPD (ds : List Deferred) (P : Program) (N : Nat) (c : Code) (Q : Exit → Env → World → Prop) (ρ : Env) (w : World) : Prop := ∀ a, RepD ds a ρ N → c.wp P (liftD ds N Q) a w
variable {c : Code}
theorem d_seq (hc : isSeq c = true) (h : WPD ds P N (seqL c) (nx (WPD ds P N (seqR c) Q) Q) ρ w) : WPD ds P N c Q ρ w := fun a ha => by
  rw [isSeq_eq hc]
  exact wp_seq (Go.wp_mono (h a ha) fun e a' w' ⟨r, hr, q⟩ => by
    cases e <;> first | exact q a' hr | exact ⟨r, hr, q⟩)
theorem d_reg (l : List Nat) (hc : regOf c = some (l, false)) (h : WPsX P N (opsOf c) Q (Q .normal) l ρ w) : WPD ds P N c Q ρ w := fun a ha => by
  obtain ⟨id, he, hl⟩ := regOf_eq hc
  rw [he]
  exact wp_region (by rw [hl]; exact WPsX.soundD l ρ w h a ha)
theorem d_sreg (l : List Nat) (hc : isSeq c = true) (hr : regOf (seqL c) = some (l, false)) (h : WPsX P N (opsOf (seqL c)) (nx (WPD ds P N (seqR c) Q) Q) (WPD ds P N (seqR c) Q) l ρ w) : WPD ds P N c Q ρ w :=
  d_seq hc (d_reg l hr h)
theorem d_skip (hc : isSkip c = true) (h : Q .normal ρ w) : WPD ds P N c Q ρ w := fun a ha => by rw [isSkip_eq hc]; exact wp_skip ⟨ρ, ha, h⟩
end
end Go.Proofs.YtdgoaaaagpeaaaaDoor

namespace Go.Proofs.YtdgoaaaagpeaaaaDoor
open Go Go.RowKit
set_option linter.unusedVariables false
section
variable {P : Program} {N : Nat} {ops : Array Oper} {ρ : Env} {w w' : World} {i : Nat} {ds : List Deferred} {c : Code} {rest : List Nat} {a : Act} {cs : List Frame}
theorem d_cond_t {Q : Exit → Env → World → Prop} (hc : isCond c = true) (hx : ev ρ (condX c) = .bool true) (ht : WPD ds P N (condT c) Q ρ w) : WPD ds P N c Q ρ w := fun a ha => by
  rw [isCond_eq hc]; exact wp_cond_true (by rw [← eval_nod, ha.rep.eval]; exact hx) (ht a ha)
theorem d_cond_f {Q : Exit → Env → World → Prop} (hc : isCond c = true) (hx : ev ρ (condX c) = .bool false) (ht : WPD ds P N (condE c) Q ρ w) : WPD ds P N c Q ρ w := fun a ha => by
  rw [isCond_eq hc]; exact wp_cond_false (by rw [← eval_nod, ha.rep.eval]; exact hx) (ht a ha)
theorem d_ret {Q : Exit → Env → World → Prop} (hc : isRet c = true) (h : Q .ret ρ w) : WPD ds P N c Q ρ w := fun a ha => by rw [isRet_eq hc]; exact wp_ret ⟨ρ, ha, h⟩
variable {Q : Exit → Act → List Frame → World → Prop}
theorem opsS_none {d : Option Nat} (ha : Rep a ρ N) (hn : recoverD cs = none) (h : opv P ops i ρ w = some (d, true, .ok .recover w')) (k : wpOpsS P ops Q rest (a.put d .nilIface) cs w') : wpOpsS P ops Q (i :: rest) a cs w := by
  obtain ⟨o, ho, rfl, hw, hr⟩ := opv_some h
  have h1 : Region.wanted o (yielded ops a.tmps) = true := by rw [wanted_eq ha]; exact hw
  rw [← ha.eval] at hr
  simp only [wpOpsS, ho, h1, if_true, hr, hn]; exact k
theorem opsS_some {d : Option Nat} {v : Value} {cs' : List Frame} (ha : Rep a ρ N) (hn : recoverD cs = some (v, cs')) (h : opv P ops i ρ w = some (d, true, .ok .recover w')) (k : wpOpsS P ops Q rest (a.put d v) cs' w') : wpOpsS P ops Q (i :: rest) a cs w := by
  obtain ⟨o, ho, rfl, hw, hr⟩ := opv_some h
  have h1 : Region.wanted o (yielded ops a.tmps) = true := by rw [wanted_eq ha]; exact hw
  rw [← ha.eval] at hr
  simp only [wpOpsS, ho, h1, if_true, hr, hn]; exact k
theorem opsS_value {d : Option Nat} {v : Value} (ha : Rep a ρ N) (h : opv P ops i ρ w = some (d, true, .ok (.value v) w')) (k : wpOpsS P ops Q rest (a.put d v) cs w') : wpOpsS P ops Q (i :: rest) a cs w := by
  obtain ⟨o, ho, rfl, hw, hr⟩ := opv_some h
  have h1 : Region.wanted o (yielded ops a.tmps) = true := by rw [wanted_eq ha]; exact hw
  rw [← ha.eval] at hr
  simp only [wpOpsS, ho, h1, if_true, hr, Oper.upon]; exact k
end
def chR : FrameMode := .panicking [{ v := .iface 26 (.int .i64 4), recovered := true }]
theorem act_rep (args : Array Value) (n N : Nat) (hn : args.size + n = N) : Rep { tmps := args ++ Array.replicate n undef, defers := [] } (ini args) N := by
  refine ⟨rfl, by simp [hn], fun t => ?_⟩
  unfold ini
  rw [getD_eq_get?, getD_eq_get?, Array.getElem?_append]
  split
  · rfl
  · rename_i hge
    rw [Array.getElem?_eq_none (Nat.le_of_not_lt hge)]
    cases he : (Array.replicate n undef)[t - args.size]? with
    | none => rfl
    | some v =>
      have := Array.mem_of_getElem? he
      simp at this
      simp [this]
abbrev dargs (b2 b3 : Nat) : Array Value := #[.pointer (some ⟨b2, 0, none⟩), .pointer (some ⟨b3, 0, none⟩)]
set_option maxRecDepth 100000 in
set_option maxHeartbeats 2000000 in
theorem closure_calm (b2 b3 : Nat) (w : World) : CallsD Tryd.prog 43 (dargs b2 b3) .returning w fun e u' w' => e = .returned (.tuple #[]) ∧ u' = .returning ∧ w' = w := by
  refine callsD_of_wpS (f := 43) (c := codeOf Tryd.f43) (P := Tryd.prog) Tryd.func43 kr fun c0 cs hm => ?_
  have ha := act_rep (dargs b2 b3) 3 5 rfl
  have hc : codeOf Tryd.f43 = .seq (seqL (codeOf Tryd.f43)) (seqR (codeOf Tryd.f43)) := kr
  have hr : recoverD (c0 :: cs) = none := by simp [recoverD, hm]
  rw [hc]
  refine wpS_seq ?_
  have hreg : seqL (codeOf Tryd.f43) = .region 0 (opsOf (seqL (codeOf Tryd.f43))) false := kr
  rw [hreg]
  refine wpS_region ?_
  rw [show List.range (opsOf (seqL (codeOf Tryd.f43))).size = [0, 1] by kernel_rfl]
  show wpOpsS _ _ _ [0, 1] { tmps := dargs b2 b3 ++ Array.replicate 3 undef, defers := [] } _ _
  refine opsS_none (ρ := ini (dargs b2 b3)) (d := some 2) (w' := w) ha hr kr ?_
  have ha2 := ha.put (some 2) (dOK_lt (by rfl)) .nilIface
  refine opsS_value (d := some 3) (v := .bool false) (w' := w) ha2 kr ?_
  have ha3 := ha2.put (some 3) (dOK_lt (by rfl)) (.bool false)
  show (seqR (codeOf Tryd.f43)).wpS _ _ _ _ _
  have hcond : seqR (codeOf Tryd.f43) = .cond (condX (seqR (codeOf Tryd.f43))) (condT (seqR (codeOf Tryd.f43))) (condE (seqR (codeOf Tryd.f43))) := kr
  rw [hcond]
  refine wpS_cond (t := false) (by rw [ha3.eval]; kernel_rfl) ?_
  refine wpS_of_wp ?_
  have hsk : condE (seqR (codeOf Tryd.f43)) = .skip := kr
  rw [if_neg (by decide), hsk]
  refine wp_skip ?_
  exact ⟨ha3.defers, c0.mode, rfl, .tuple #[], by kernel_rfl, rfl, hm, rfl⟩
set_option maxRecDepth 100000 in
set_option maxHeartbeats 2000000 in
theorem closure_catch (b2 b3 : Nat) (x1 x2 x3 y : Value) {B : Nat} {w0 w : World} {L : List (Nat × Obj)} (H : St B w0 w ((b2, .cells #[x1, x2, x3] 24 (0, 0)) :: (b3, .cells #[y] 26 (0, 0)) :: L)) :
    CallsD Tryd.prog 43 (dargs b2 b3) (.panicking chF) w fun e u' w' => e = .returned (.tuple #[]) ∧ u' = chR ∧ St B w0 w' ((b2, .cells #[.bool false, .string ⟨#[]⟩, .slice none 0 0] 24 (0, 0)) :: (b3, .cells #[.int .i64 4] 26 (0, 0)) :: L) := by
  refine callsD_of_wpS (f := 43) (c := codeOf Tryd.f43) (P := Tryd.prog) Tryd.func43 kr fun c0 cs hm => ?_
  have ha := act_rep (dargs b2 b3) 3 5 rfl
  have hc : codeOf Tryd.f43 = .seq (seqL (codeOf Tryd.f43)) (seqR (codeOf Tryd.f43)) := kr
  have hr : recoverD (c0 :: cs) = some (.iface 26 (.int .i64 4), { c0 with mode := chR } :: cs) := by simp [recoverD, hm, chF, chR]
  rw [hc]
  refine wpS_seq ?_
  have hreg : seqL (codeOf Tryd.f43) = .region 0 (opsOf (seqL (codeOf Tryd.f43))) false := kr
  rw [hreg]
  refine wpS_region ?_
  rw [show List.range (opsOf (seqL (codeOf Tryd.f43))).size = [0, 1] by kernel_rfl]
  show wpOpsS _ _ _ [0, 1] { tmps := dargs b2 b3 ++ Array.replicate 3 undef, defers := [] } _ _
  refine opsS_some (ρ := ini (dargs b2 b3)) (d := some 2) (w' := w) ha hr kr ?_
  have ha2 := ha.put (some 2) (dOK_lt (by rfl)) (.iface 26 (.int .i64 4))
  refine opsS_value (d := some 3) (v := .bool true) (w' := w) ha2 kr ?_
  have ha3 := ha2.put (some 3) (dOK_lt (by rfl)) (.bool true)
  show (seqR (codeOf Tryd.f43)).wpS _ _ _ _ _
  have hcond : seqR (codeOf Tryd.f43) = .cond (condX (seqR (codeOf Tryd.f43))) (condT (seqR (codeOf Tryd.f43))) (condE (seqR (codeOf Tryd.f43))) := kr
  rw [hcond]
  refine wpS_cond (t := true) (by rw [ha3.eval]; kernel_rfl) ?_
  refine wpS_of_wp ?_
  rw [if_pos rfl]
  have hw : WP Tryd.prog 5 (condT (seqR (codeOf Tryd.f43))) (fun e ρ w' => match e with | .normal => St B w0 w' ((b2, .cells #[.bool false, .string ⟨#[]⟩, .slice none 0 0] 24 (0, 0)) :: (b3, .cells #[.int .i64 4] 26 (0, 0)) :: L) | _ => False) _ w := rL (ρ := updO (updO (ini (dargs b2 b3)) (some 2) (.iface 26 (.int .i64 4))) (some 3) (.bool true)) [.v, .s 0, .s 1] H kr fun gs w' H' => H'.as kr
  refine Go.wp_mono (hw _ ha3) ?_
  rintro e a' w' ⟨ρ', hrep, hq⟩
  cases e with
  | normal => exact ⟨hrep.defers, chR, rfl, .tuple #[], by kernel_rfl, rfl, rfl, hq⟩
  | _ => exact (hq : False).elim
def okRead (t : ByteArray) (v : Value) (T : List (Nat × Obj)) : Prop :=
  (∃ (l : Bool) (s : ByteArray) (p : Option Addr) (n c : Nat) (k : Fo), v = .tuple #[.agg #[.bool l, .string s, .slice p n c], .int .i64 0] ∧ itIs t l s k ⟨#[]⟩ ∧ SlIn T p n k ∧ s.size ≤ t.size) ∨
  (v = .tuple #[.agg #[.bool false, .string ⟨#[]⟩, .slice none 0 0], .int .i64 4] ∧ T = [] ∧ ∀ (l : Bool) (s : ByteArray) (k : Fo), mixed l s k.len = false → pureF k = true → tl t ≠ wr1 l s (szF k) (wrF k))
def FnZ (P : Program) (f : Nat) (args : Array Value) (ok : Value → List (Nat × Obj) → Prop) : Prop :=
  ∀ (B : Nat) (w0 w : World) (L : List (Nat × Obj)), St B w0 w L → Calls P f args w fun e w' => ∃ v T, e = .returned v ∧ ok v T ∧ St B w0 w' (T ++ L)
/-- How the rest of read ends, behind the defer. -/
def rdEnd (t : ByteArray) (B : Nat) (w0 : World) (b2 b3 : Nat) (L : List (Nat × Obj)) : Exit → Env → World → Prop
  | .ret, ρ, w => ρ 2 = .pointer (some ⟨b2, 0, none⟩) ∧ ρ 3 = .pointer (some ⟨b3, 0, none⟩) ∧ ∃ (l : Bool) (s : ByteArray) (p : Option Addr) (n c : Nat) (k : Fo) (T : List (Nat × Obj)), itIs t l s k ⟨#[]⟩ ∧ SlIn T p n k ∧ s.size ≤ t.size ∧ St B w0 w ((b2, .cells #[.bool l, .string s, .slice p n c] 24 (0, 0)) :: (b3, .cells #[.int .i64 0] 26 (0, 0)) :: (T ++ L))
  | .panic ch, ρ, w => ρ 2 = .pointer (some ⟨b2, 0, none⟩) ∧ ρ 3 = .pointer (some ⟨b3, 0, none⟩) ∧ ch = chF ∧ (∀ (l : Bool) (s : ByteArray) (k : Fo), mixed l s k.len = false → pureF k = true → tl t ≠ wr1 l s (szF k) (wrF k)) ∧ ∃ x1 x2 x3 y, St B w0 w ((b2, .cells #[x1, x2, x3] 24 (0, 0)) :: (b3, .cells #[y] 26 (0, 0)) :: L)
  | _, _, _ => False
theorem whole_bad {t : ByteArray} (h : itBad t) (l : Bool) (s : ByteArray) (k : Fo) (hm : mixed l s k.len = false) (hp : pureF k = true) : tl t ≠ wr1 l s (szF k) (wrF k) := fun e => h l s k [] hm hp (by rw [e, List.append_nil])
/-- Two items stand nowhere. -/
theorem whole_other {t u : ByteArray} {l l' : Bool} {s s' : ByteArray} {k k' : Fo} (ht : t.size ≤ 100000) (h : itIs t l s k u) (hu : ¬ u = ⟨#[]⟩) (hm : mixed l' s' k'.len = false) (hp : pureF k' = true) : tl t ≠ wr1 l' s' (szF k') (wrF k') := fun e => by
  obtain ⟨r, hr, he⟩ := li_next (k' := .cons l' s' k' .nil) ht h (by simp only [pureF, hm, hp]; rfl) (by rw [e]; simp only [wrF, List.append_nil])
  obtain ⟨hm1, hp1, hi⟩ := h
  have hlen := congrArg List.length hi
  have hlen2 := congrArg List.length e
  rw [tl_len, List.length_append, wr1_sz hm1 (pure_len hp1)] at hlen
  rw [tl_len, wr1_sz hm (pure_len hp)] at hlen2
  have hpay : ∀ (l : Bool) (s : ByteArray) (k : Fo), sz1 l s (szF k) ≤ 100000 → mixed l s k.len = false → s.size + szF k ≤ 100000 := fun l s k h hm => by
    unfold sz1 at h
    split at h
    · rename_i q
      have h1 := single_size q
      have h2 := len_zero (mixed_single hm q)
      rw [h2]; simp only [szF]; omega
    · omega
  have hx := hpay l s k (by omega) hm1
  have hy := hpay l' s' k' (by omega) hm
  have e2 : wr1 l s (szF k) (wrF k) ++ tl u = wr1 l' s' (szF k') (wrF k') ++ [] := by rw [List.append_nil, ← e, hi]
  obtain ⟨_, _, _, hX⟩ := wr1_inj hm1 hm (pure_len hp1).symm (pure_len hp).symm (by omega) (by omega) (fun q => wrF_inj k k' hp1 hp (by rw [pure_len hp1]; omega) q) e2
  exact hu (tl_inj hX)
set_option maxRecDepth 100000 in
set_option maxHeartbeats 2000000 in
theorem read_rest (t : ByteArray) (ht : t.size ≤ 100000) (ds : List Deferred) {B : Nat} {w0 w : World} {L : List (Nat × Obj)} (b2 b3 : Nat) (ρ0 : Env) (H0 : St B w0 w ((b2, .cells #[.bool false, .string ⟨#[]⟩, .slice none 0 0] 24 (0, 0)) :: (b3, .cells #[.int .i64 0] 26 (0, 0)) :: L)) :
    WPD ds Tryd.prog 14 (seqR (seqR (codeOf Tryd.f31))) (rdEnd t B w0 b2 b3 L) (setAll [(0, .string t), (2, .pointer (some ⟨b2, 0, none⟩)), (3, .pointer (some ⟨b3, 0, none⟩))] ρ0) w := by
  refine d_sreg [0, 1, 2, 3] kr kr ?_
  refine x_end _ ?_
  refine s_val (some 6) (.string t) (fun w => by kernel_rfl) kr ?_
  refine s_val (some 7) (.agg #[.string t]) (fun w => by kernel_rfl) kr ?_
  refine s_alloc H0 (some 4) 66 (.agg #[.string ⟨#[]⟩]) kr kr kr ?_
  intro b4 w1 H1
  refine rp [.s 0] H1 kr fun gs1 w2 H2 => ?_
  show WPs _ _ _ _ [] _ _
  refine s_nil ?_
  have H3 : St B w0 w2 ((b4, dc t) :: (b2, .cells #[.bool false, .string ⟨#[]⟩, .slice none 0 0] 24 (0, 0)) :: (b3, .cells #[.int .i64 0] 26 (0, 0)) :: L) := H2.as kr
  show WPD _ _ _ _ _ _ _
  refine d_sreg [0, 1] kr kr ?_
  refine x_callX H3 (List.Perm.refl _) (some 8) 44 #[.pointer (some ⟨b4, 0, none⟩)] (item_x b4 t ht) kr kr (fun w' hb HS => ?_) ?_
  · exact ⟨by kernel_rfl, by kernel_rfl, rfl, whole_bad hb, _, _, _, _, HS⟩
  rintro _ u T w3 ⟨l, s, p, n, c, k, rfl, hi, hs, hz⟩ H4
  have H5 : St B w0 w3 ((b4, dc u) :: (b2, .cells #[.bool false, .string ⟨#[]⟩, .slice none 0 0] 24 (0, 0)) :: (b3, .cells #[.int .i64 0] 26 (0, 0)) :: (T ++ L)) := H4.perm (List.Perm.cons _ (List.perm_append_comm_assoc [(b2, _), (b3, _)] T L))
  refine x_end _ ?_
  refine rp [.s 1] H5 kr fun gs2 w4 H6 => ?_
  show WPs _ _ _ _ [] _ _
  refine s_nil ?_
  show WPD _ _ _ _ _ _ _
  refine d_seq kr ?_
  by_cases hu : u = ⟨#[]⟩
  · refine d_sreg [0, 1, 2] kr kr ?_
    refine x_end _ ?_
    refine rp [.v, .l 0, .e (v := .bool (!(ByteArray.toList u == ByteArray.toList (⟨#[]⟩)))) (v' := .bool false) (bool_eq (by rw [str_same u (⟨#[]⟩) hu]; rfl))] H6 kr fun gs3 w5 H7 => ?_
    show WPs _ _ _ _ [] _ _
    refine s_nil ?_
    show WPD _ _ _ _ _ _ _
    refine d_cond_f kr kr ?_
    refine d_skip kr ?_
    show WPD _ _ _ _ _ _ _
    refine d_sreg [0, 1, 2] kr kr ?_
    refine x_end _ ?_
    refine rp [.l 1, .s 1, .s 2] H7 kr fun gs4 w6 H8 => ?_
    show WPs _ _ _ _ [] _ _
    refine s_nil ?_
    show WPD _ _ _ _ _ _ _
    refine d_ret kr ?_
    have H9 : St B w0 w6 ((b4, dc u) :: (b2, .cells #[.bool l, .string s, .slice p n c] 24 (0, 0)) :: (b3, .cells #[.int .i64 0] 26 (0, 0)) :: (T ++ L)) := H8.as kr
    subst hu
    exact ⟨by kernel_rfl, by kernel_rfl, l, s, p, n, c, k, T, hi, hs, hz, H9.sub (List.sublist_cons_self ..)⟩
  · refine d_sreg [0, 1, 2] kr kr ?_
    refine x_end _ ?_
    refine rp [.v, .l 0, .e (v := .bool (!(ByteArray.toList u == ByteArray.toList (⟨#[]⟩)))) (v' := .bool true) (bool_eq (by rw [str_other u (⟨#[]⟩) hu]; rfl))] H6 kr fun gs3 w5 H7 => ?_
    show WPs _ _ _ _ [] _ _
    refine s_nil ?_
    show WPD _ _ _ _ _ _ _
    refine d_cond_t kr kr ?_
    refine d_reg [0, 1] kr ?_
    refine x_seg [0] (l2 := [1]) rfl ?_
    refine rp [.v] H7 kr fun gs4 w6 H8 => ?_
    show WPs _ _ _ _ [] _ _
    refine s_nil ?_
    refine x_panic none (.iface 26 (.int .i64 4)) kr ?_
    have H9 : St B w0 w6 ((b4, dc u) :: (b2, .cells #[.bool l, .string s, .slice p n c] 24 (0, 0)) :: (b3, .cells #[.int .i64 0] 26 (0, 0)) :: (T ++ L)) := H8.as kr
    exact ⟨by kernel_rfl, by kernel_rfl, rfl, fun l' s' k' hm hp => whole_other ht hi hu hm hp, _, _, _, _, H9.sub (List.Sublist.cons _ (List.Sublist.cons_cons _ (List.Sublist.cons_cons _ (List.sublist_append_right _ _))))⟩
end Go.Proofs.YtdgoaaaagpeaaaaDoor

namespace Go.Proofs.YtdgoaaaagpeaaaaDoor
open Go Go.RowKit
set_option linter.unusedVariables false
section
variable {P : Program} {N : Nat} {ops : Array Oper} {ρ : Env} {w w' : World} {i : Nat} {rest : List Nat} {a : Act} {Q : Exit → Act → World → Prop}
theorem ops_value {d : Option Nat} {v : Value} (ha : Rep a ρ N) (h : opv P ops i ρ w = some (d, true, .ok (.value v) w')) (k : wpOps P ops Q rest (a.put d v) w') : wpOps P ops Q (i :: rest) a w := by
  obtain ⟨o, ho, rfl, hw, hr⟩ := opv_some h
  have h1 : Region.wanted o (yielded ops a.tmps) = true := by rw [wanted_eq ha]; exact hw
  rw [← ha.eval] at hr
  rw [wpOps_cons]
  unfold wpOp
  simp only [ho, h1, if_true]
  left
  unfold Oper.wp
  rw [hr]; exact k
theorem ops_defer {d : Option Nat} {dd : Deferred} (ha : Rep a ρ N) (h : opv P ops i ρ w = some (d, true, .ok (.defer dd) w')) (k : wpOps P ops Q rest ({ a with defers := dd :: a.defers }.put d undef) w') : wpOps P ops Q (i :: rest) a w := by
  obtain ⟨o, ho, rfl, hw, hr⟩ := opv_some h
  have h1 : Region.wanted o (yielded ops a.tmps) = true := by rw [wanted_eq ha]; exact hw
  rw [← ha.eval] at hr
  rw [wpOps_cons]
  unfold wpOp
  simp only [ho, h1, if_true]
  left
  unfold Oper.wp
  rw [hr]; exact k
end
def ddv (b2 b3 : Nat) : Deferred := { target := .fn (.func 43) (dargs b2 b3), args := #[] }
set_option maxRecDepth 100000 in
set_option maxHeartbeats 2000000 in
theorem read_z (t : ByteArray) (ht : t.size ≤ 100000) : FnZ Tryd.prog 31 #[.string t] (okRead t) := fun B w0 w L HS => by
  refine calls_of_wp_defers (f := 31) (fn := Tryd.f31) (c := codeOf Tryd.f31) Tryd.func31 kr ?_
  have ha := act_rep #[.string t] 13 14 rfl
  show (codeOf Tryd.f31).wp _ _ { tmps := #[.string t] ++ Array.replicate 13 undef, defers := [] } w
  rw [show codeOf Tryd.f31 = .seq (seqL (codeOf Tryd.f31)) (seqR (codeOf Tryd.f31)) by kernel_rfl]
  refine wp_seq ?_
  have h0 : WP Tryd.prog 14 (seqL (codeOf Tryd.f31)) (fun e ρ w' => match e with | .normal => ∃ b2 b3, ρ = updO (updO (ini #[.string t]) (some 2) (.pointer (some ⟨b2, 0, none⟩))) (some 3) (.pointer (some ⟨b3, 0, none⟩)) ∧ St B w0 w' ((b3, .cells #[.int .i64 0] 26 (0, 0)) :: (b2, .cells #[.bool false, .string ⟨#[]⟩, .slice none 0 0] 24 (0, 0)) :: L) | _ => False) (ini #[.string t]) w := by
    refine g_reg0 [0, 1] kr ?_
    refine s_alloc HS (some 2) 24 (.agg #[.bool false, .string ⟨#[]⟩, .slice none 0 0]) kr kr kr ?_
    intro b2 w1 H1
    refine s_alloc H1 (some 3) 26 (.int .i64 0) kr kr kr ?_
    intro b3 w2 H2
    refine s_nil ?_
    exact ⟨b2, b3, rfl, H2⟩
  refine Go.wp_mono (h0 _ ha) ?_
  rintro e a1 w1 ⟨ρ1, hr1, hq⟩
  cases e with
  | normal =>
    obtain ⟨b2, b3, rfl, H1⟩ := hq
    show (seqR (codeOf Tryd.f31)).wp _ _ a1 w1
    rw [show seqR (codeOf Tryd.f31) = .seq (seqL (seqR (codeOf Tryd.f31))) (seqR (seqR (codeOf Tryd.f31))) by kernel_rfl]
    refine wp_seq ?_
    rw [show seqL (seqR (codeOf Tryd.f31)) = .region 1 (opsOf (seqL (seqR (codeOf Tryd.f31)))) false by kernel_rfl]
    refine wp_region ?_
    rw [show List.range (opsOf (seqL (seqR (codeOf Tryd.f31)))).size = [0, 1] by kernel_rfl]
    refine ops_value (d := some 5) (v := .func (.func 43) #[] (dargs b2 b3)) (w' := w1) hr1 kr ?_
    have hr2 := hr1.put (some 5) (dOK_lt (by rfl)) (.func (.func 43) #[] (dargs b2 b3))
    refine ops_defer (d := none) (dd := ddv b2 b3) (w' := w1) hr2 kr ?_
    show (seqR (seqR (codeOf Tryd.f31))).wp _ _ { a1.put (some 5) (.func (.func 43) #[] (dargs b2 b3)) with defers := ddv b2 b3 :: (a1.put (some 5) (.func (.func 43) #[] (dargs b2 b3))).defers } w1
    have hds : (a1.put (some 5) (.func (.func 43) #[] (dargs b2 b3))).defers = [] := hr2.defers
    rw [hds]
    have hD : RepD [ddv b2 b3] { a1.put (some 5) (.func (.func 43) #[] (dargs b2 b3)) with defers := [ddv b2 b3] } (setAll [(0, .string t), (2, .pointer (some ⟨b2, 0, none⟩)), (3, .pointer (some ⟨b3, 0, none⟩))] (updO (updO (updO (ini #[.string t]) (some 2) (.pointer (some ⟨b2, 0, none⟩))) (some 3) (.pointer (some ⟨b3, 0, none⟩))) (some 5) (.func (.func 43) #[] (dargs b2 b3)))) 14 := by
      refine ⟨rfl, ?_⟩
      have hS : Holds (updO (updO (updO (ini #[.string t]) (some 2) (.pointer (some ⟨b2, 0, none⟩))) (some 3) (.pointer (some ⟨b3, 0, none⟩))) (some 5) (.func (.func 43) #[] (dargs b2 b3))) [(0, .string t), (2, .pointer (some ⟨b2, 0, none⟩)), (3, .pointer (some ⟨b3, 0, none⟩))] := ⟨kr, kr, kr, trivial⟩
      rw [setAll_self hS]
      exact ⟨rfl, hr2.size, hr2.at_⟩
    have H2 := H1.perm (List.Perm.swap _ _ _)
    refine Go.wp_mono (read_rest t ht [ddv b2 b3] b2 b3 _ H2 _ hD) ?_
    rintro e a2 w2 ⟨ρ2, hr3, hq⟩
    cases e with
    | ret =>
      obtain ⟨h2, h3, l, s, p, n, c, k, T, hi, hs, hz, H3⟩ := hq
      show Leaves _ _ a2.tmps _ a2.defers _ _
      rw [hr3.defers]
      refine leaves_cons (f := 43) (args := dargs b2 b3) (by simp) kr ?_
      refine (closure_calm b2 b3 w2).mono ?_
      rintro e u' w' ⟨rfl, rfl, rfl⟩
      have hR : Res Tryd.prog w' ρ2 [.cell 2 24, .cell 3 26] [.agg #[.bool l, .string s, .slice p n c], .int .i64 0] :=
        .agg (b := b2) (#[.bool l, .string s, .slice p n c]) 24 (0, 0) h2 (H3.get 0 rfl) kr (.one (b := b3) (.int .i64 0) (#[.int .i64 0]) 26 (0, 0) h3 (H3.get 1 rfl) kr rfl .nil)
      have hres := Res.run (fn := Tryd.f31) hr3.rep (show Res Tryd.prog w' ρ2 Tryd.f31.results.toList _ from hR)
      refine ⟨_, hres, _, T, rfl, .inl ⟨l, s, p, n, c, k, rfl, hi, hs, hz⟩, H3.sub (List.Sublist.cons _ (List.sublist_cons_self ..))⟩
    | panic ch =>
      obtain ⟨h2, h3, rfl, hb, x1, x2, x3, y, H3⟩ := hq
      show Leaves _ _ a2.tmps _ a2.defers _ _
      rw [hr3.defers]
      refine leaves_cons (f := 43) (args := dargs b2 b3) (by simp) kr ?_
      refine (closure_catch b2 b3 x1 x2 x3 y H3).mono ?_
      rintro e u' w' ⟨rfl, rfl, H4⟩
      have hR : Res Tryd.prog w' ρ2 [.cell 2 24, .cell 3 26] [.agg #[.bool false, .string ⟨#[]⟩, .slice none 0 0], .int .i64 4] :=
        .agg (b := b2) (#[.bool false, .string ⟨#[]⟩, .slice none 0 0]) 24 (0, 0) h2 (H4.get 0 rfl) kr (.one (b := b3) (.int .i64 4) (#[.int .i64 4]) 26 (0, 0) h3 (H4.get 1 rfl) kr rfl .nil)
      have hres := Res.run (fn := Tryd.f31) hr3.rep (show Res Tryd.prog w' ρ2 Tryd.f31.results.toList _ from hR)
      refine ⟨_, hres, _, [], rfl, .inr ⟨rfl, rfl, hb⟩, H4.sub (List.Sublist.cons _ (List.sublist_cons_self ..))⟩
    | _ => exact (hq : False).elim
  | _ => exact (hq : False).elim
end Go.Proofs.YtdgoaaaagpeaaaaDoor

namespace Go.Proofs.YtdgoaaaagpeaaaaDoor
open Go Go.RowKit
set_option linter.unusedVariables false
theorem cnt_le : ∀ {k : Fo}, pureF k = true → k.cnt ≤ szF k
  | .nil, _ => Nat.le_refl _
  | .cons l s k r, h => by
    simp only [pureF, Bool.and_eq_true, Bool.not_eq_true'] at h
    have h1 := cnt_le h.1.2
    have h2 := cnt_le h.2
    have h3 := sz_pos l s (szF k)
    simp only [Fo.cnt, szF]
    unfold sz1 at *
    split
    · rename_i q
      have h4 := len_zero (mixed_single h.1.1 q)
      rw [h4]; simp only [Fo.cnt]; omega
    · have := hd_len (frm l) (s.size + szF k); omega
theorem itIs.sz {t u : ByteArray} {l : Bool} {s : ByteArray} {k : Fo} (h : itIs t l s k u) : szF k ≤ t.size ∧ k.cnt ≤ t.size := by
  obtain ⟨hm, hp, hi⟩ := h
  have hlen := congrArg List.length hi
  rw [tl_len, List.length_append, wr1_sz hm (pure_len hp)] at hlen
  have hc := cnt_le hp
  have : szF k ≤ sz1 l s (szF k) := by
    unfold sz1
    split
    · rename_i q
      have h4 := len_zero (mixed_single hm q)
      rw [h4]; simp only [szF]; omega
    · omega
  omega
section
variable {P : Program} {N : Nat} {ops : Array Oper} {K : Env → World → Prop} {ρ : Env} {w w0 : World} {i B : Nat} {r : List Nat} {l : List (Nat × Obj)}
theorem s_callZ (HS : St B w0 w l) (d : Option Nat) (f : Nat) (args : Array Value) {ok : Value → List (Nat × Obj) → Prop} (hc : FnZ P f args ok)
    (h : opv P ops i ρ w = some (d, true, .ok (.enter f args) w)) (hd : dOK d N = true)
    (kk : ∀ v T w', ok v T → St B w0 w' (T ++ l) → WPs P N ops K r (updO ρ d v) w') : WPs P N ops K (i :: r) ρ w := by
  obtain ⟨o, ho, rfl, hw, hr⟩ := opv_some h
  refine WPo.run ho hw fun a ha => ?_
  rw [hr, Oper.upon_enter]
  refine (hc B w0 w l HS).mono ?_
  rintro _ w' ⟨v, T, rfl, h1, h2⟩
  exact ⟨_, ha.put _ (dOK_lt hd) v, kk v T w' h1 h2⟩
end
theorem FnZ.intro {P : Program} {f : Nat} {fn : Func} {c : Code} (rs : List ResultVar) (N : Nat) {args : Array Value} {ok : Value → List (Nat × Obj) → Prop} (hf : P.funcs[f]? = some fn) (hb : fn.body = some c) (hr : fn.results.toList = rs) (hn : args.size + (fn.ntmps - args.size) = N)
    (h : ∀ B w0 w L, St B w0 w L → WP P N c (ends P rs fun v w' => ∃ T, ok v T ∧ St B w0 w' (T ++ L)) (ini args) w) : FnZ P f args ok := fun B w0 w L HS =>
  (calls_intro hf hb hr hn (h B w0 w L HS)).mono fun e w' ⟨v, he, T, h1, h2⟩ => ⟨v, T, he, h1, h2⟩
def erV (n : Int) : Value := .tuple #[.agg #[.bool false, .string ⟨#[]⟩, .slice none 0 0], .int .i64 n]
def noItem (t : ByteArray) : Prop := ∀ (l : Bool) (s : ByteArray) (k : Fo), mixed l s k.len = false → pureF k = true → tl t ≠ wr1 l s (szF k) (wrF k)
def okDec (t : ByteArray) (v : Value) (T : List (Nat × Obj)) : Prop :=
  (4000 < t.size ∧ v = erV 2 ∧ T = []) ∨ (t.size ≤ 4000 ∧ (
    (∃ (l : Bool) (s : ByteArray) (p : Option Addr) (n c : Nat) (k : Fo), v = .tuple #[.agg #[.bool l, .string s, .slice p n c], .int .i64 0] ∧ itIs t l s k ⟨#[]⟩ ∧ SlIn T p n k ∧ s.size ≤ t.size ∧ dp1 l (dpF k) ≤ 8) ∨
    (∃ (l : Bool) (s : ByteArray) (k : Fo), itIs t l s k ⟨#[]⟩ ∧ 8 < dp1 l (dpF k) ∧ v = erV 5 ∧ T = []) ∨
    (noItem t ∧ v = erV 4 ∧ T = [])))
set_option maxRecDepth 100000 in
set_option maxHeartbeats 2000000 in
theorem decode_z (t : ByteArray) (ht : t.size ≤ 140737488355328) : FnZ Tryd.prog 15 #[.string t] (okDec t) := by
  refine FnZ.intro (c := codeOf Tryd.f15) [.cell 2 24, .tmp 3] 21 Tryd.func15 kr kr kr fun B w0 w L H0 => ?_
  refine g_sreg [0, 1] kr kr ?_
  refine s_alloc H0 (some 2) 24 (.agg #[.bool false, .string ⟨#[]⟩, .slice none 0 0]) kr kr kr ?_
  intro b1 w1 H1
  refine s_val (some 3) (.int .i64 0) (fun w => by kernel_rfl) kr ?_
  refine s_nil ?_
  refine g_seq kr ?_
  by_cases h4 : t.size ≤ 4000
  · refine rS [.v, .v, .e (v := .bool (decide ((4000 : Int) < ((ByteArray.size t : Nat) : Int)))) (v' := .bool false) (bool_eq (decide_eq_false (by omega)))] H1 kr fun gs1 w2 H2 => ?_
    refine g_cond_f kr kr ?_
    refine g_skip kr ?_
    show WP _ _ _ _ _ _
    refine g_sreg [0, 1, 2, 3, 4, 5, 6, 7] kr kr ?_
    refine rp [.v] H2 kr fun gs2 w3 H3 => ?_
    show WPs _ _ _ _ [1, 2, 3, 4, 5, 6, 7] _ _
    have H4 : St B w0 w3 ((b1, r0) :: L) := H3.as kr
    refine s_callZ H4 (some 12) 31 #[.string t] (read_z t (by omega)) kr kr ?_
    rintro _ T w4 (⟨l, s, p, n, c, k, rfl, hi, hs, hz⟩ | ⟨rfl, rfl, hb⟩) H5
    · have H6 : St B w0 w4 ((b1, r0) :: (T ++ L)) := H5.perm List.perm_middle.symm
      have hsz := hi.sz
      refine rp [.v, .v, .v] H6 kr fun gs3 w5 H7 => ?_
      show WPs _ _ _ _ [5, 6, 7] _ _
      refine s_alloc H7 (some 4) 24 (.agg #[.bool false, .string ⟨#[]⟩, .slice none 0 0]) kr kr kr ?_
      intro b2 w6 H8
      refine rp [.s 0, .v] H8 kr fun gs4 w7 H9 => ?_
      show WPs _ _ _ _ [] _ _
      refine s_nil ?_
      have H10 : St B w0 w7 ((b2, .cells #[.bool l, .string s, .slice p n c] 24 (0, 0)) :: (b1, r0) :: (T ++ L)) := H9.as kr
      show WP _ _ _ _ _ _
      refine g_seq kr ?_
      refine g_sreg [0, 1, 2] kr kr ?_
      refine rp [.l 0] H10 kr fun gs5 w8 H11 => ?_
      show WPs _ _ _ _ [1, 2] _ _
      have H12 : St B w0 w8 ((b2, .cells #[.bool l, .string s, .slice p n c] 24 (0, 0)) :: (b1, r0) :: (T ++ L)) := H11.as kr
      have hS := hs.at H12 (fun e he => by simp [he])
      refine s_callP H12 (some 16) 24 #[.agg #[.bool l, .string s, .slice p n c]] (fun w => SlAt w.heap.size w p n k) (.int .i64 ((dp1 l (dpF k) : Nat) : Int)) (depth_fn l s p n c k (by omega) (by omega)) hS (fun w => by kernel_rfl) kr ?_
      intro w9 H13
      by_cases h8 : dp1 l (dpF k) ≤ 8
      · refine rp [.e (v := .bool (decide (8 < ((dp1 l (dpF k) : Nat) : Int)))) (v' := .bool false) (bool_eq (decide_eq_false (by omega)))] H13 kr fun gs6 w10 H14 => ?_
        show WPs _ _ _ _ [] _ _
        refine s_nil ?_
        refine g_cond_f kr kr ?_
        refine g_skip kr ?_
        show WP _ _ _ _ _ _
        refine rS [.l 0, .v, .s 1, .v] H14 kr fun gs7 w11 H15 => ?_
        have H16 : St B w0 w11 ((b2, .cells #[.bool l, .string s, .slice p n c] 24 (0, 0)) :: (b1, .cells #[.bool l, .string s, .slice p n c] 24 (0, 0)) :: (T ++ L)) := H15.as kr
        refine g_ret kr ?_
        show ∃ vs, Res _ _ _ _ vs ∧ _
        exact ⟨[.agg #[.bool l, .string s, .slice p n c], .int .i64 0], (.agg (b := b1) (#[.bool l, .string s, .slice p n c]) 24 (0, 0) kr (H16.get 1 kr) kr (.tmp (.int .i64 0) kr .nil)), T, .inr ⟨h4, .inl ⟨l, s, p, n, c, k, rfl, hi, hs, hz, h8⟩⟩, H16.sub (List.Sublist.cons _ (List.sublist_cons_self ..))⟩
      · refine rp [.e (v := .bool (decide (8 < ((dp1 l (dpF k) : Nat) : Int)))) (v' := .bool true) (bool_eq (decide_eq_true (by omega)))] H13 kr fun gs6 w10 H14 => ?_
        show WPs _ _ _ _ [] _ _
        refine s_nil ?_
        refine g_cond_t kr kr ?_
        refine rS [.v, .s 1, .v] H14 kr fun gs7 w11 H15 => ?_
        have H16 : St B w0 w11 ((b2, .cells #[.bool l, .string s, .slice p n c] 24 (0, 0)) :: (b1, r0) :: (T ++ L)) := H15.as kr
        refine g_ret kr ?_
        show ∃ vs, Res _ _ _ _ vs ∧ _
        exact ⟨[.agg #[.bool false, .string ⟨#[]⟩, .slice none 0 0], .int .i64 5], (.agg (b := b1) (#[.bool false, .string ⟨#[]⟩, .slice none 0 0]) 24 (0, 0) kr (H16.get 1 kr) kr (.tmp (.int .i64 5) kr .nil)), [], .inr ⟨h4, .inr (.inl ⟨l, s, k, hi, by omega, rfl, rfl⟩)⟩, H16.sub (List.Sublist.cons _ (List.Sublist.cons _ (List.sublist_append_right _ _)))⟩
    · have H6 : St B w0 w4 ((b1, r0) :: L) := H5.as kr
      refine rp [.v, .v, .v] H6 kr fun gs3 w5 H7 => ?_
      show WPs _ _ _ _ [5, 6, 7] _ _
      refine s_alloc H7 (some 4) 24 (.agg #[.bool false, .string ⟨#[]⟩, .slice none 0 0]) kr kr kr ?_
      intro b2 w6 H8
      refine rp [.s 0, .v] H8 kr fun gs4 w7 H9 => ?_
      show WPs _ _ _ _ [] _ _
      refine s_nil ?_
      have H10 : St B w0 w7 ((b2, r0) :: (b1, r0) :: L) := H9.as kr
      show WP _ _ _ _ _ _
      refine g_seq kr ?_
      refine g_sreg [0, 1, 2] kr kr ?_
      refine rp [.l 0] H10 kr fun gs5 w8 H11 => ?_
      show WPs _ _ _ _ [1, 2] _ _
      refine s_callP H11 (some 16) 24 #[.agg #[.bool false, .string ⟨#[]⟩, .slice none 0 0]] (fun w => SlAt w.heap.size w none 0 .nil) (.int .i64 ((dp1 false (dpF .nil) : Nat) : Int)) (depth_fn false ⟨#[]⟩ none 0 0 .nil (by decide) (by decide)) (SlAt.nil ..) (fun w => by kernel_rfl) kr ?_
      intro w9 H13
      refine rp [.e (v := .bool (decide (8 < ((dp1 false (dpF .nil) : Nat) : Int)))) (v' := .bool false) (bool_eq (by decide))] H13 kr fun gs6 w10 H14 => ?_
      show WPs _ _ _ _ [] _ _
      refine s_nil ?_
      refine g_cond_f kr kr ?_
      refine g_skip kr ?_
      show WP _ _ _ _ _ _
      refine rS [.l 0, .v, .s 1, .v] H14 kr fun gs7 w11 H15 => ?_
      have H16 : St B w0 w11 ((b2, r0) :: (b1, r0) :: L) := H15.as kr
      refine g_ret kr ?_
      show ∃ vs, Res _ _ _ _ vs ∧ _
      exact ⟨[.agg #[.bool false, .string ⟨#[]⟩, .slice none 0 0], .int .i64 4], (.agg (b := b1) (#[.bool false, .string ⟨#[]⟩, .slice none 0 0]) 24 (0, 0) kr (H16.get 1 kr) kr (.tmp (.int .i64 4) kr .nil)), [], .inr ⟨h4, .inr (.inr ⟨hb, rfl, rfl⟩)⟩, H16.sub (List.Sublist.cons _ (List.sublist_cons_self ..))⟩
  · refine rS [.v, .v, .e (v := .bool (decide ((4000 : Int) < ((ByteArray.size t : Nat) : Int)))) (v' := .bool true) (bool_eq (decide_eq_true (by omega)))] H1 kr fun gs1 w2 H2 => ?_
    refine g_cond_t kr kr ?_
    refine rS [.v, .s 0, .v] H2 kr fun gs2 w3 H3 => ?_
    have H4 : St B w0 w3 ((b1, r0) :: L) := H3.as kr
    refine g_ret kr ?_
    show ∃ vs, Res _ _ _ _ vs ∧ _
    exact ⟨[.agg #[.bool false, .string ⟨#[]⟩, .slice none 0 0], .int .i64 2], (.agg (b := b1) (#[.bool false, .string ⟨#[]⟩, .slice none 0 0]) 24 (0, 0) kr (H4.get 0 kr) kr (.tmp (.int .i64 2) kr .nil)), [], .inl ⟨by omega, rfl, rfl⟩, H4.sub (List.sublist_cons_self ..)⟩
end Go.Proofs.YtdgoaaaagpeaaaaDoor

namespace Go.Proofs.YtdgoaaaagpeaaaaDoor
open Go Go.RowKit
set_option linter.unusedVariables false
def rc (b : Nat) : Nat := if 192 ≤ b then b - 64 else b
def rsz (t : ByteArray) : Option (Nat × Nat) :=
  if rc (by_ t 0) < 128 then some (0, 1) else if rc (by_ t 0) ≤ 183 then some (1, rc (by_ t 0) - 128)
  else if 3 < rc (by_ t 0) - 183 ∨ t.size < 1 + (rc (by_ t 0) - 183) then none
  else some (1 + (rc (by_ t 0) - 183), val ((tl (t.extract 1 t.size)).take (rc (by_ t 0) - 183)))
def rszV : Option (Nat × Nat) → Value
  | none => .tuple #[.int .i64 (-1), .int .i64 0]
  | some (a, b) => .tuple #[.int .i64 ((a : Nat) : Int), .int .i64 ((b : Nat) : Int)]
theorem rc_lt (t : ByteArray) : rc (by_ t 0) < 192 := by have := by_lt t 0; unfold rc; split <;> omega
theorem dgI_small : ∀ (m : Nat) {n : Nat}, n < 65536 → (dgI (m + 2) n).length ≤ 2 := fun m n h => by
  unfold dgI
  split
  · simp
  · rw [List.length_append]
    have : (dgI (m + 1) (n / 256)).length ≤ 1 := by
      unfold dgI
      split
      · simp
      · rw [List.length_append]
        have h0 : n / 256 / 256 = 0 := by omega
        rw [h0]
        have : dgI m 0 = [] := by cases m with
          | zero => rfl
          | succ m => unfold dgI; rw [if_pos rfl]
        rw [this]; simp
    simp only [List.length_singleton]; omega
theorem dg_small {n : Nat} (h : n < 65536) : (dg n).length ≤ 2 := dgI_small 6 h
/-- An item that stands there: its head is told. -/
theorem rsz_of {t : ByteArray} {l : Bool} {s : ByteArray} {k : Fo} {X : List UInt8} (ht : t.size ≤ 4100) (hm : mixed l s k.len = false) (hp : pureF k = true) (h : tl t = wr1 l s (szF k) (wrF k) ++ X) :
    t.size ≠ 0 ∧ ((single s = true ∧ by_ t 0 < 128 ∧ rsz t = some (0, 1)) ∨ (single s = false ∧ 128 ≤ by_ t 0 ∧ (l = true ↔ 192 ≤ by_ t 0) ∧ rsz t = some ((hd (frm l) (s.size + szF k)).length, s.size + szF k))) := by
  obtain ⟨h0, hi⟩ := it_inv (by omega) hm hp h
  have hlt := by_lt t 0
  refine ⟨h0, ?_⟩
  rcases hi with ⟨h1, h2⟩ | ⟨h1, h2, h3, u, hc, hu⟩
  · left
    refine ⟨h2, h1, ?_⟩
    unfold rsz rc
    rw [if_neg (show ¬ 192 ≤ by_ t 0 by omega), if_pos h1]
  · right
    refine ⟨h1, h2, h3, ?_⟩
    have hrc : rc (by_ t 0) = 128 + (by_ t 0 - frm l) ∧ by_ t 0 - frm l < 64 := by
      unfold rc
      rcases frm_cases l with ⟨q, e⟩ | ⟨q, e⟩
      · have := h3.1 q; rw [if_pos this, e]; omega
      · have : ¬ 192 ≤ by_ t 0 := fun hh => by have := h3.2 hh; rw [q] at this; cases this
        rw [if_neg this, e]; omega
    have hN : s.size + szF k ≤ 4100 := by
      have hlen := congrArg List.length h
      rw [tl_len, List.length_append, wr1_sz hm (pure_len hp)] at hlen
      unfold sz1 at hlen; rw [if_neg (by rw [h1]; decide)] at hlen; omega
    have hz1 : (t.extract 1 t.size).size = t.size - 1 := by rw [ext_size t 1 _ (Nat.le_refl _) (by omega)]
    generalize hf : by_ t 0 - frm l = f at *
    unfold cntS at hc
    unfold rsz hd
    rw [hrc.1]
    split at hc
    · rename_i h5
      injection hc with hc; injection hc with e1 e2
      rw [if_neg (by omega), if_pos (by omega), if_pos (by omega), ← e1]
      rw [show 128 + f - 128 = f by omega]; rfl
    · rename_i h5
      split at hc
      · cases hc
      · rename_i h6
        split at hc
        · cases hc
        · rename_i h7
          injection hc with hc; injection hc with e1 e2
          have hz : ((t.extract 1 t.size).extract 0 (f - 55)).size = f - 55 := by rw [ext_size _ 0 _ (by omega) (by omega)]; omega
          have hts : tl ((t.extract 1 t.size).extract 0 (f - 55)) = (tl (t.extract 1 t.size)).take (f - 55) := by rw [tl_extract, List.drop_zero]
          generalize (t.extract 1 t.size).extract 0 (f - 55) = s1 at *
          have hp1 : prefB s1 = false := by
            cases hp : prefB s1 with
            | false => rfl
            | true => exfalso; apply h7; unfold numV; rw [if_pos (Or.inr hp)]; exact Nat.zero_le _
          have hv : (numV s1).1 = val (tl s1) := by unfold numV; rw [if_neg (by rw [hp1]; simp; omega)]
          have hd1 : dg (s.size + szF k) = tl s1 := by rw [← e1, hv, ← tl_strB (dg (val (tl s1))), (dg_same (by omega)).2 hp1]
          have hlen : (dg (s.size + szF k)).length = f - 55 := by rw [hd1, tl_len, hz]
          have hsm := dg_small (show s.size + szF k < 65536 by omega)
          rw [if_neg (by omega), if_neg (by omega), if_neg (by omega), if_neg (by omega), List.length_cons, hlen, show 128 + f - 183 = f - 55 by omega, ← hts, ← hv, e1, Nat.add_comm]
set_option maxRecDepth 100000 in
set_option maxHeartbeats 2000000 in
theorem rsize_tail (t : ByteArray) (ht : t.size ≤ 100000) (h0 : t.size ≠ 0) (c : Nat) (hc : c = rc (by_ t 0)) {B : Nat} {w0 w : World} (ρ0 : Env) (H0 : St B w0 w []) : WP Tryd.prog 48 (seqR (seqR (seqR (codeOf Tryd.f45)))) (ends Tryd.prog [.tmp 2, .tmp 3] fun v' w' => v' = rszV (rsz t) ∧ Below B w0 w') (setAll [(0, .string t), (4, .int .i64 ((c : Nat) : Int))] ρ0) w := by
  have hlt := rc_lt t
  refine g_seq kr ?_
  by_cases h1 : c < 128
  · refine rS [.v, .e (v := .bool (decide (((c : Nat) : Int) < 128))) (v' := .bool true) (bool_eq (decide_eq_true (by omega)))] H0 kr fun gs1 w1 H1 => ?_
    refine g_cond_t kr kr ?_
    refine rS [.v, .v] H1 kr fun gs2 w2 H2 => ?_
    refine g_ret kr ?_
    show ∃ vs, Res _ _ _ _ vs ∧ _
    refine ⟨[.int .i64 0, .int .i64 1], (.tmp (.int .i64 0) kr (.tmp (.int .i64 1) kr .nil)), ?_, H2.below⟩
    unfold rsz; rw [if_pos (by omega)]; rfl
  · refine rS [.v, .e (v := .bool (decide (((c : Nat) : Int) < 128))) (v' := .bool false) (bool_eq (decide_eq_false (by omega)))] H0 kr fun gs1 w1 H1 => ?_
    refine g_cond_f kr kr ?_
    refine g_skip kr ?_
    show WP _ _ _ _ _ _
    refine g_seq kr ?_
    by_cases h2 : c ≤ 183
    · refine rS [.v, .e (v := .bool (decide (((c : Nat) : Int) ≤ 183))) (v' := .bool true) (bool_eq (decide_eq_true (by omega)))] H1 kr fun gs2 w2 H2 => ?_
      refine g_cond_t kr kr ?_
      refine rS [.v, .e (v := .int .i64 (IntKind.i64.wrap (((c : Nat) : Int) - 128))) (v' := .int .i64 ((c - 128 : Nat) : Int)) (int_eq (by rw [show ((c : Nat) : Int) - 128 = ((c - 128 : Nat) : Int) by omega]; exact wrapN_i64 (by omega))), .v, .v] H2 kr fun gs3 w3 H3 => ?_
      refine g_ret kr ?_
      show ∃ vs, Res _ _ _ _ vs ∧ _
      refine ⟨[.int .i64 1, .int .i64 ((c - 128 : Nat) : Int)], (.tmp (.int .i64 1) kr (.tmp (.int .i64 ((c - 128 : Nat) : Int)) kr .nil)), ?_, H3.below⟩
      unfold rsz; rw [if_neg (by omega), if_pos (by omega), ← hc]; rfl
    · refine rS [.v, .e (v := .bool (decide (((c : Nat) : Int) ≤ 183))) (v' := .bool false) (bool_eq (decide_eq_false (by omega)))] H1 kr fun gs2 w2 H2 => ?_
      refine g_cond_f kr kr ?_
      refine g_skip kr ?_
      show WP _ _ _ _ _ _
      obtain ⟨k, hk⟩ : ∃ k, k = c - 183 := ⟨_, rfl⟩
      refine rS [.v] H2 kr fun gs3 w3 H3 => ?_
      refine rS [.v, .e (v := .int .i64 (IntKind.i64.wrap (((c : Nat) : Int) - 183))) (v' := .int .i64 ((k : Nat) : Int)) (int_eq (by rw [show ((c : Nat) : Int) - 183 = ((k : Nat) : Int) by omega]; exact wrapN_i64 (by omega))), .v] H3 kr fun gs4 w4 H4 => ?_
      refine g_seq kr ?_
      by_cases h3 : 3 < k
      · refine rS [.v, .e (v := .bool (decide ((3 : Int) < ((k : Nat) : Int)))) (v' := .bool true) (bool_eq (decide_eq_true (by omega))), .v, .n, .n, .n, .n, .n, .v] H4 kr fun gs5 w5 H5 => ?_
        refine g_cond_t kr kr ?_
        refine rS [.v, .v] H5 kr fun gs6 w6 H6 => ?_
        refine g_ret kr ?_
        show ∃ vs, Res _ _ _ _ vs ∧ _
        refine ⟨[.int .i64 (-1), .int .i64 0], (.tmp (.int .i64 (-1)) kr (.tmp (.int .i64 0) kr .nil)), ?_, H6.below⟩
        unfold rsz; rw [if_neg (by omega), if_neg (by omega), if_pos (by omega)]; rfl
      · by_cases h4 : t.size < 1 + k
        · refine rS [.v, .e (v := .bool (decide ((3 : Int) < ((k : Nat) : Int)))) (v' := .bool false) (bool_eq (decide_eq_false (by omega))), .v, .v, .v, .v, .e (v := .int .i64 (IntKind.i64.wrap (1 + ((k : Nat) : Int)))) (v' := .int .i64 ((1 + k : Nat) : Int)) (int_eq (wrapAdd_i64 (a := 1) (b := k) (by omega))), .e (v := .bool (decide (((ByteArray.size t : Nat) : Int) < ((1 + k : Nat) : Int)))) (v' := .bool true) (bool_eq (decide_eq_true (by omega))), .v] H4 kr fun gs5 w5 H5 => ?_
          refine g_cond_t kr kr ?_
          refine rS [.v, .v] H5 kr fun gs6 w6 H6 => ?_
          refine g_ret kr ?_
          show ∃ vs, Res _ _ _ _ vs ∧ _
          refine ⟨[.int .i64 (-1), .int .i64 0], (.tmp (.int .i64 (-1)) kr (.tmp (.int .i64 0) kr .nil)), ?_, H6.below⟩
          unfold rsz; rw [if_neg (by omega), if_neg (by omega), if_pos (by omega)]; rfl
        · refine rS [.v, .e (v := .bool (decide ((3 : Int) < ((k : Nat) : Int)))) (v' := .bool false) (bool_eq (decide_eq_false (by omega))), .v, .v, .v, .v, .e (v := .int .i64 (IntKind.i64.wrap (1 + ((k : Nat) : Int)))) (v' := .int .i64 ((1 + k : Nat) : Int)) (int_eq (wrapAdd_i64 (a := 1) (b := k) (by omega))), .e (v := .bool (decide (((ByteArray.size t : Nat) : Int) < ((1 + k : Nat) : Int)))) (v' := .bool false) (bool_eq (decide_eq_false (by omega))), .v] H4 kr fun gs5 w5 H5 => ?_
          refine g_cond_f kr kr ?_
          refine g_skip kr ?_
          show WP _ _ _ _ _ _
          refine g_seq kr ?_
          refine rS [.v] H5 kr fun gs6 w6 H6 => ?_
          refine g_block 0 kr ?_
          have hvl : ∀ i, i ≤ 3 → val ((tl (t.extract 1 t.size)).take i) < 16777216 := fun i hi => by
            have h9 := val_lt ((tl (t.extract 1 t.size)).take i)
            have h8 : ((tl (t.extract 1 t.size)).take i).length ≤ 3 := by rw [List.length_take]; omega
            exact Nat.lt_of_lt_of_le h9 (Nat.le_trans (Nat.pow_le_pow_right (by decide) h8) (by decide))
          refine g_loop kr (fun mz ρ ww => ∃ (i : Nat), k - i = mz ∧ i ≤ k ∧ St B w0 ww [] ∧ Is [(0, .string t), (5, .int .i64 ((val ((tl (t.extract 1 t.size)).take i) : Nat) : Int)), (6, .int .i64 ((k : Nat) : Int)), (7, .int .i64 ((i : Nat) : Int))] ρ) (k - 0) ⟨0, rfl, by omega, H6, (Is.of ⟨kr, kr, kr, kr, trivial⟩)⟩ ?_
          rintro _ _ w7 ⟨i, rfl, hik, H7, _, rfl⟩
          refine g_seq kr ?_
          by_cases hi : i < k
          · refine rS [.v, .v, .e (v := .bool (decide (((i : Nat) : Int) < ((k : Nat) : Int)))) (v' := .bool true) (bool_eq (decide_eq_true (by omega)))] H7 kr fun gs7 w8 H8 => ?_
            refine g_cond_t kr kr ?_
            refine g_skip kr ?_
            show WP _ _ _ _ _ _
            refine g_seq kr ?_
            refine g_block 1 kr ?_
            have hv1 := hvl i (by omega)
            have hv2 := hvl (i + 1) (by omega)
            have hz1 : (t.extract 1 t.size).size = t.size - 1 := by rw [ext_size t 1 _ (Nat.le_refl _) (by omega)]
            have hnx := val_next (t.extract 1 t.size) i (by omega)
            have hby : by_ (t.extract 1 t.size) i = by_ t (1 + i) := by
              unfold by_
              rw [tl_cut1, List.getD_eq_getElem?_getD, List.getD_eq_getElem?_getD, List.getElem?_drop]
            have hbl := by_lt t (1 + i)
            rw [hby] at hnx
            generalize val ((tl (t.extract 1 t.size)).take i) = n at *
            refine rL [.v, .e (v := .int .i64 (IntKind.i64.wrap (256 * ((n : Nat) : Int)))) (v' := .int .i64 ((256 * n : Nat) : Int)) (int_eq (by rw [show (256 : Int) * ((n : Nat) : Int) = ((256 * n : Nat) : Int) by omega]; exact wrapN_i64 (by omega))), .v, .v, .e (v := .int .i64 (IntKind.i64.wrap (1 + ((i : Nat) : Int)))) (v' := .int .i64 ((1 + i : Nat) : Int)) (int_eq (wrapAdd_i64 (a := 1) (b := i) (by omega))), .o (ins := [((.tmp 39), .string t), ((.tmp 41), .int .i64 ((1 + i : Nat) : Int))]) (v := .int .u8 ((by_ t (1 + i) : Nat) : Int)) (fun ρ o w ho hi => sindex_run (t := 9) (kd := .i64) kr (x := (.tmp 39)) (y := (.tmp 41)) t (1 + i) ho hi.1 hi.2.1 (by omega) w), .e (v := .int .i64 (IntKind.i64.wrap ((by_ t (1 + i) : Nat) : Int))) (v' := .int .i64 ((by_ t (1 + i) : Nat) : Int)) (int_eq (wrapN_i64 (by omega))), .e (v := .int .i64 (IntKind.i64.wrap (((256 * n : Nat) : Int) + ((by_ t (1 + i) : Nat) : Int)))) (v' := .int .i64 ((val ((tl (t.extract 1 t.size)).take (i + 1)) : Nat) : Int)) (int_eq (by rw [show ((256 * n : Nat) : Int) + ((by_ t (1 + i) : Nat) : Int) = ((val ((tl (t.extract 1 t.size)).take (i + 1)) : Nat) : Int) by rw [hnx]; omega]; exact wrapN_i64 (by omega))), .v] H8 kr fun gs8 w9 H9 => ?_
            show WP _ _ _ _ _ _
            refine rL [.v, .e (v := .int .i64 (IntKind.i64.wrap (((i : Nat) : Int) + 1))) (v' := .int .i64 ((i + 1 : Nat) : Int)) (int_eq (wrapAdd_i64 (a := i) (b := 1) (by omega))), .v] H9 kr fun gs9 w10 H10 => ?_
            show ∃ m, _ ∧ _
            exact ⟨_, (by omega), i + 1, rfl, by omega, H10, (Is.of ⟨kr, kr, kr, kr, trivial⟩)⟩
          · obtain rfl : i = k := by omega
            refine rS [.v, .v, .e (v := .bool (decide (((i : Nat) : Int) < ((i : Nat) : Int)))) (v' := .bool false) (bool_eq (decide_eq_false (by omega)))] H7 kr fun gs7 w8 H8 => ?_
            refine g_cond_f kr kr ?_
            refine g_exit 0 kr ?_
            show WP _ _ _ _ _ _
            refine rS [.v, .e (v := .int .i64 (IntKind.i64.wrap (1 + ((i : Nat) : Int)))) (v' := .int .i64 ((1 + i : Nat) : Int)) (int_eq (wrapAdd_i64 (a := 1) (b := i) (by omega))), .v, .v, .v] H8 kr fun gs8 w9 H9 => ?_
            refine g_ret kr ?_
            show ∃ vs, Res _ _ _ _ vs ∧ _
            refine ⟨[.int .i64 ((1 + i : Nat) : Int), .int .i64 ((val ((tl (t.extract 1 t.size)).take i) : Nat) : Int)], (.tmp _ kr (.tmp _ kr .nil)), ?_, H9.below⟩
            unfold rsz; rw [if_neg (by omega), if_neg (by omega), if_neg (by omega), ← hc, ← hk]; rfl
set_option maxRecDepth 100000 in
set_option maxHeartbeats 2000000 in
theorem rsize_fn (t : ByteArray) (ht : t.size ≤ 100000) (h0 : t.size ≠ 0) : Fn Tryd.prog 45 #[.string t] (rszV (rsz t)) := by
  refine Fn.intro (c := codeOf Tryd.f45) [.tmp 2, .tmp 3] 48 Tryd.func45 kr kr kr fun w => ?_
  have H0 := St.start w
  have hlt := by_lt t 0
  refine rS [.v, .v] H0 kr fun gs1 w1 H1 => ?_
  refine rS [.v, .o (ins := [((.tmp 8), .string t), ((.const (.int .i64 0)), .int .i64 0)]) (v := .int .u8 ((by_ t 0 : Nat) : Int)) (fun ρ o w ho hi => sindex_run (t := 9) (kd := .i64) kr (x := (.tmp 8)) (y := (.const (.int .i64 0))) t 0 ho hi.1 hi.2.1 (by omega) w), .e (v := .int .i64 (IntKind.i64.wrap ((by_ t 0 : Nat) : Int))) (v' := .int .i64 ((by_ t 0 : Nat) : Int)) (int_eq (wrapN_i64 (by omega))), .v] H1 kr fun gs2 w2 H2 => ?_
  refine g_seq kr ?_
  by_cases hb : 192 ≤ by_ t 0
  · refine rS [.v, .e (v := .bool (decide (((192 : Int)) ≤ ((by_ t 0 : Nat) : Int)))) (v' := .bool true) (bool_eq (decide_eq_true (by omega)))] H2 kr fun gs3 w3 H3 => ?_
    refine g_cond_t kr kr ?_
    refine rL [.v, .e (v := .int .i64 (IntKind.i64.wrap (((by_ t 0 : Nat) : Int) - 64))) (v' := .int .i64 ((rc (by_ t 0) : Nat) : Int)) (int_eq (by rw [show ((by_ t 0 : Nat) : Int) - 64 = ((rc (by_ t 0) : Nat) : Int) by unfold rc; rw [if_pos hb]; omega]; exact wrapN_i64 (by have := rc_lt t; omega))), .v] H3 kr fun gs4 w4 H4 => ?_
    show WP _ _ _ _ _ _
    refine g_keep [0, 4] fun ρ1 => ?_
    exact rsize_tail t ht h0 (rc (by_ t 0)) rfl ρ1 H4
  · refine rS [.v, .e (v := .bool (decide (((192 : Int)) ≤ ((by_ t 0 : Nat) : Int)))) (v' := .bool false) (bool_eq (decide_eq_false (by omega)))] H2 kr fun gs3 w3 H3 => ?_
    refine g_cond_f kr kr ?_
    refine g_skip kr ?_
    show WP _ _ _ _ _ _
    refine g_keep [0, 4] fun ρ1 => ?_
    exact rsize_tail t ht h0 (by_ t 0) (by unfold rc; rw [if_neg hb]) ρ1 H3
end Go.Proofs.YtdgoaaaagpeaaaaDoor

namespace Go.Proofs.YtdgoaaaagpeaaaaDoor
open Go Go.RowKit
set_option linter.unusedVariables false
def zeroI : Value := .agg #[.bool false, .string ⟨#[]⟩, .slice none 0 0]
/-- What is read is the item that stands there, if one does. -/
def isIt (t : ByteArray) (l : Bool) (s : ByteArray) (k : Fo) (m : Nat) : Prop := ∀ (l' : Bool) (s' : ByteArray) (k' : Fo) (X : List UInt8), mixed l' s' k'.len = false → pureF k' = true → tl t = wr1 l' s' (szF k') (wrF k') ++ X → l' = l ∧ s' = s ∧ k' = k ∧ m = (wr1 l' s' (szF k') (wrF k')).length
structure RdI (t : ByteArray) (l : Bool) (s : ByteArray) (p : Option Addr) (n : Nat) (k : Fo) (m : Nat) (T : List (Nat × Obj)) : Prop where
  mix : mixed l s k.len = false
  pur : pureF k = true
  inn : SlIn T p n k
  ssz : s.size ≤ m
  one : 1 ≤ m
  le : m ≤ t.size
  cnt : 1 + k.cnt ≤ m
  wt : 9 + s.size + wtF k ≤ 10 * m
  is : isIt t l s k m
def okR (t : ByteArray) (v : Value) (T : List (Nat × Obj)) : Prop :=
  (v = .tuple #[zeroI, .int .i64 0, .bool false] ∧ T = [] ∧ itBad t) ∨
  (∃ (l : Bool) (s : ByteArray) (p : Option Addr) (n c : Nat) (k : Fo) (m : Nat), v = .tuple #[.agg #[.bool l, .string s, .slice p n c], .int .i64 ((m : Nat) : Int), .bool true] ∧ RdI t l s p n k m T)
theorem rsz_pos {t : ByteArray} {a b : Nat} (h : rsz t = some (a, b)) : 1 ≤ a + b ∧ (192 ≤ by_ t 0 → 1 ≤ a) ∧ a ≤ 4 ∧ b ≤ 100000000 := by
  have hlt := by_lt t 0
  have hrl := rc_lt t
  unfold rsz at h
  have hrc : 192 ≤ by_ t 0 → 128 ≤ rc (by_ t 0) := fun q => by unfold rc; rw [if_pos q]; omega
  split at h
  · injection h with h; injection h with e1 e2
    exact ⟨by omega, fun q => by have := hrc q; omega, by omega, by omega⟩
  · split at h
    · injection h with h; injection h with e1 e2
      exact ⟨by omega, fun q => by omega, by omega, by omega⟩
    · split at h
      · cases h
      · rename_i h3
        injection h with h; injection h with e1 e2
        have h9 := val_lt ((tl (t.extract 1 t.size)).take (rc (by_ t 0) - 183))
        have h8 : ((tl (t.extract 1 t.size)).take (rc (by_ t 0) - 183)).length ≤ 3 := by rw [List.length_take]; omega
        have h7 := Nat.lt_of_lt_of_le h9 (Nat.le_trans (Nat.pow_le_pow_right (by decide) h8) (by decide : 256 ^ 3 ≤ 16777216))
        exact ⟨by omega, fun q => by omega, by omega, by omega⟩
theorem rsz_len {t : ByteArray} {l : Bool} {s : ByteArray} {k : Fo} {X : List UInt8} (ht : t.size ≤ 4100) (hm : mixed l s k.len = false) (hp : pureF k = true) (h : tl t = wr1 l s (szF k) (wrF k) ++ X) {a b : Nat} (hr : rsz t = some (a, b)) : a + b = (wr1 l s (szF k) (wrF k)).length ∧ a + b ≤ t.size := by
  obtain ⟨h0, h1⟩ := rsz_of ht hm hp h
  have hlen := congrArg List.length h
  rw [tl_len, List.length_append] at hlen
  have hw := wr1_sz hm (pure_len hp)
  rcases h1 with ⟨q1, q2, q3⟩ | ⟨q1, q2, _, q3⟩
  · rw [hr] at q3; injection q3 with q3; injection q3 with e1 e2
    unfold sz1 at hw; rw [if_pos q1] at hw; omega
  · rw [hr] at q3; injection q3 with q3; injection q3 with e1 e2
    unfold sz1 at hw; rw [if_neg (by rw [q1]; decide)] at hw; omega
theorem bad_none {t : ByteArray} (ht : t.size ≤ 4100) (h : rsz t = none) : itBad t := fun l s k X hm hp he => by
  obtain ⟨_, ⟨_, _, q⟩ | ⟨_, _, _, q⟩⟩ := rsz_of ht hm hp he <;> rw [h] at q <;> cases q
theorem bad_long {t : ByteArray} {a b : Nat} (ht : t.size ≤ 4100) (h : rsz t = some (a, b)) (hl : t.size < a + b) : itBad t := fun l s k X hm hp he => by
  have := (rsz_len ht hm hp he h).2; omega
theorem ext_cut {t : ByteArray} {A M Y : List UInt8} {a b : Nat} (h : tl t = A ++ (M ++ Y)) (ha : a = A.length) (hb : b = M.length) : tl (t.extract a (a + b)) = M := by
  subst ha; subst hb
  rw [tl_extract, List.drop_take, h, List.drop_left, Nat.add_sub_cancel_left, List.take_left]
theorem text_is {t : ByteArray} {a b : Nat} (ht : t.size ≤ 4100) (h0 : t.size ≠ 0) (h : rsz t = some (a, b)) (hl : a + b ≤ t.size) (hb : by_ t 0 < 192) : RdI t false (t.extract a (a + b)) none 0 .nil (a + b) [] := by
  have hp := rsz_pos h
  have hz : (t.extract a (a + b)).size = b := by rw [ext_size t a _ hl (by omega)]; omega
  refine ⟨by simp [mixed, Fo.len], rfl, SlIn.none _, by omega, hp.1, hl, by simp only [Fo.cnt]; omega, by simp only [wtF]; omega, ?_⟩
  intro l' s' k' X hm hp' he
  have hlen := (rsz_len ht hm hp' he h).1
  obtain ⟨_, ⟨q1, q2, q3⟩ | ⟨q1, q2, q4, q3⟩⟩ := rsz_of ht hm hp' he
  · have hk := len_zero (mixed_single hm q1)
    have hl0 : l' = false := by
      rcases mixed_parts hm with ⟨_, q⟩ | ⟨q, _⟩
      · rw [q] at q1; exact absurd q1 (by decide)
      · exact q
    rw [h] at q3; injection q3 with q3; injection q3 with e1 e2
    have hs1 := single_size q1
    subst hk
    refine ⟨hl0, ?_, rfl, hlen⟩
    unfold wr1 at he; rw [if_pos q1] at he
    simp only [wrF, List.nil_append, List.append_nil] at he
    have h9 := ext_cut (t := t) (A := []) (M := tl s') (Y := X) (a := a) (b := b) (by rw [he]; rfl) (by rw [e1]; rfl) (by rw [tl_len, e2, hs1])
    exact (tl_inj h9).symm
  · obtain ⟨hl0, _⟩ := frm_text l' q4 hb
    subst hl0
    rcases mixed_parts hm with ⟨q, _⟩ | ⟨_, q⟩
    · cases q
    · subst q
      rw [h] at q3; injection q3 with q3; injection q3 with e1 e2
      refine ⟨rfl, ?_, rfl, hlen⟩
      unfold wr1 at he; rw [if_neg (by rw [q1]; decide)] at he
      simp only [wrF, List.append_nil, List.append_assoc] at he
      have h9 := ext_cut (t := t) (a := a) (b := b) he e1 (by rw [tl_len, e2]; simp [szF])
      exact (tl_inj h9).symm
theorem list_is {t : ByteArray} {a b : Nat} {l' : Bool} {s' : ByteArray} {k' : Fo} {X : List UInt8} (ht : t.size ≤ 4100) (h : rsz t = some (a, b)) (hb : 192 ≤ by_ t 0) (hm : mixed l' s' k'.len = false) (hp : pureF k' = true) (he : tl t = wr1 l' s' (szF k') (wrF k') ++ X) :
    l' = true ∧ s' = ⟨#[]⟩ ∧ tl (t.extract a (a + b)) = wrF k' ∧ a + b = (wr1 l' s' (szF k') (wrF k')).length := by
  have hlen := (rsz_len ht hm hp he h).1
  obtain ⟨_, ⟨q1, q2, q3⟩ | ⟨q1, q2, q4, q3⟩⟩ := rsz_of ht hm hp he
  · omega
  · obtain ⟨hl0, _⟩ := frm_list l' q4 hb
    subst hl0
    rcases mixed_parts hm with ⟨_, q⟩ | ⟨q, _⟩
    · subst q
      rw [h] at q3; injection q3 with q3; injection q3 with e1 e2
      refine ⟨rfl, rfl, ?_, hlen⟩
      unfold wr1 at he; rw [if_neg (by rw [q1]; decide)] at he
      have he2 : tl t = hd (frm true) (ByteArray.size ⟨#[]⟩ + szF k') ++ (wrF k' ++ X) := by
        rw [he]; show _ ++ ([] ++ wrF k') ++ X = _; simp only [List.nil_append, List.append_assoc]
      have h0 : ByteArray.size ⟨#[]⟩ = 0 := rfl
      exact ext_cut (t := t) (a := a) (b := b) he2 e1 (by rw [e2, pure_len hp]; omega)
    · cases q
/-- A row, and what comes behind it. -/
def appF : List X3 → Fo → Fo
  | [], r => r
  | x :: M, r => .cons x.l x.s x.k (appF M r)
theorem appF_snoc (x : X3) (r : Fo) : ∀ M : List X3, appF (M ++ [x]) r = appF M (.cons x.l x.s x.k r)
  | [] => rfl
  | m :: M => by simp only [List.cons_append, appF, appF_snoc x r M]
theorem appF_nil : ∀ M : List X3, appF M .nil = toFo M
  | [] => rfl
  | m :: M => by simp only [appF, toFo, appF_nil M]
theorem cnt_snoc (x : X3) : ∀ M : List X3, (toFo (M ++ [x])).cnt = (toFo M).cnt + (1 + x.k.cnt)
  | [] => by simp [toFo, Fo.cnt]
  | m :: M => by simp only [List.cons_append, toFo, Fo.cnt, cnt_snoc x M]; omega
theorem wt_snoc (x : X3) : ∀ M : List X3, wtF (toFo (M ++ [x])) = wtF (toFo M) + (9 + x.s.size + wtF x.k)
  | [] => by simp [toFo, wtF]
  | m :: M => by simp only [List.cons_append, toFo, wtF, wt_snoc x M]; omega
structure RdL (t : ByteArray) (a b j : Nat) (p : Option Addr) (n c : Nat) (row : List (Nat × Obj)) (M : List X3) (T : List (Nat × Obj)) : Prop where
  row : RowSt p n c row M
  lo : a ≤ j
  hi : j ≤ a + b
  num : n ≤ (toFo M).cnt
  cnt : (toFo M).cnt ≤ j - a
  wt : wtF (toFo M) ≤ 10 * (j - a)
  pur : pureF (toFo M) = true
  inn : AllIn T M
  rest : ∀ k', pureF k' = true → tl (t.extract a (a + b)) = wrF k' → ∃ r, pureF r = true ∧ tl (t.extract j (a + b)) = wrF r ∧ k' = appF M r
section
variable {t : ByteArray} {a b j : Nat} {p : Option Addr} {n c : Nat} {row : List (Nat × Obj)} {M : List X3} {T : List (Nat × Obj)}
theorem RdL.start : RdL t a b a none 0 0 [] [] [] := ⟨.inl ⟨rfl, rfl, rfl, rfl, rfl⟩, Nat.le_refl _, Nat.le_add_right .., Nat.zero_le _, Nat.zero_le _, Nat.zero_le _, rfl, (fun _ h => nomatch h), fun k' hp he => ⟨k', hp, he, rfl⟩⟩
theorem RdL.bad (h : RdL t a b j p n c row M T) (ht : t.size ≤ 4100) (hr : rsz t = some (a, b)) (hl : a + b ≤ t.size) (hb : 192 ≤ by_ t 0) (hj : j < a + b) (hbad : itBad (t.extract j (a + b))) : itBad t := fun l' s' k' X hm hp he => by
  obtain ⟨_, _, q, _⟩ := list_is ht hr hb hm hp he
  obtain ⟨r, hpr, hr', _⟩ := h.rest k' hp q
  cases r with
  | nil =>
    have := congrArg List.length hr'
    rw [tl_len, ext_size t j _ hl (by omega)] at this
    simp only [wrF, List.length_nil] at this; omega
  | cons l s k r =>
    simp only [pureF, Bool.and_eq_true, Bool.not_eq_true'] at hpr
    exact hbad l s k (wrF r) hpr.1.1 hpr.1.2 hr'
theorem RdL.next (h : RdL t a b j p n c row M T) (hl : a + b ≤ t.size) (ht : t.size ≤ 4100) (hj : j < a + b) {x : X3} {m : Nat} {T2 : List (Nat × Obj)} (hx : RdI (t.extract j (a + b)) x.l x.s x.p x.n x.k m T2) {b' cap : Nat} {cur : Array Value} (hrw : Rw 3 cur cap (n + 1) (cells3 (M ++ [x]))) :
    RdL t a b (j + m) (some ⟨b', 0, none⟩) (n + 1) cap [(b', .cells cur 24 (0, 0))] (M ++ [x]) (T2 ++ T) := by
  have hz : (t.extract j (a + b)).size = a + b - j := ext_size t j _ hl (by omega)
  have hle := hx.le
  have h1 := hx.one; have h2 := hx.cnt; have h3 := hx.wt; have h4 := h.lo; have h5 := h.num; have h6 := h.cnt; have h7 := h.wt; have h8 := hx.ssz
  refine ⟨.inr ⟨b', cur, rfl, rfl, hrw⟩, by omega, by omega, by rw [cnt_snoc]; omega, by rw [cnt_snoc]; omega, by rw [wt_snoc]; omega, pureF_snoc x hx.mix hx.pur M h.pur, (h.inn.mono fun e he => List.mem_append_right _ he).snoc (hx.inn.mono fun e he => List.mem_append_left _ he) (by omega), ?_⟩
  intro k' hp he
  obtain ⟨r, hpr, hr', hk⟩ := h.rest k' hp he
  cases r with
  | nil =>
    have := congrArg List.length hr'
    rw [tl_len, hz] at this
    simp only [wrF, List.length_nil] at this; omega
  | cons l s k r =>
    simp only [pureF, Bool.and_eq_true, Bool.not_eq_true'] at hpr
    obtain ⟨e1, e2, e3, e4⟩ := hx.is l s k (wrF r) hpr.1.1 hpr.1.2 hr'
    subst e1; subst e2; subst e3
    refine ⟨r, hpr.2, ?_, by rw [hk, appF_snoc]⟩
    have e5 : t.extract (j + m) (a + b) = (t.extract j (a + b)).extract m (t.extract j (a + b)).size := by
      apply tl_inj
      rw [tl_extract, tl_extract, tl_extract, List.take_of_length_le (l := ((tl t).take (a + b)).drop j) (by rw [hz, List.length_drop, List.length_take, tl_len]; omega), List.drop_drop]
    rw [e5]
    exact (cut_eq (t := t.extract j (a + b)) (by simpa only [wrF] using hr') e4).2.1
theorem RdL.done (h : RdL t a b j p n c row M T) (ht : t.size ≤ 4100) (hr : rsz t = some (a, b)) (hl : a + b ≤ t.size) (hb : 192 ≤ by_ t 0) (hj : ¬ j < a + b) : RdI t true ⟨#[]⟩ p n (toFo M) (a + b) (row ++ T) := by
  have hp := rsz_pos hr
  have h4 := h.lo; have h5 := h.hi; have h6 := h.cnt; have h7 := h.wt; have h1 := hp.2.1 hb; have h8 := h.num
  have hz0 : ByteArray.size ⟨#[]⟩ = 0 := rfl
  refine ⟨rfl, h.pur, ?_, by omega, by omega, hl, by omega, by omega, ?_⟩
  · rcases h.row with ⟨rfl, rfl, rfl, rfl, rfl⟩ | ⟨b', cur, rfl, rfl, hrw⟩
    · exact SlIn.none _
    · exact hrw.slIn (b := b') (ty := 24) (fz := (0, 0)) (by simp) (h.inn.mono fun e he => List.mem_append_right _ he) (by omega)
  · intro l' s' k' X hm hp' he
    obtain ⟨e1, e2, q, e3⟩ := list_is ht hr hb hm hp' he
    obtain ⟨r, hpr, hr', hk⟩ := h.rest k' hp' q
    have hrn : r = .nil := by
      cases r with
      | nil => rfl
      | cons l s k r =>
        simp only [pureF, Bool.and_eq_true, Bool.not_eq_true'] at hpr
        have h9 := (wr1_len hpr.1.1 hpr.1.2 rfl).1
        have := congrArg List.length hr'
        rw [tl_len, ext_size t j _ hl (by omega)] at this
        simp only [wrF, List.length_append] at this; omega
    subst hrn
    exact ⟨e1, e2, by rw [hk, appF_nil], e3⟩
end
end Go.Proofs.YtdgoaaaagpeaaaaDoor

namespace Go.Proofs.YtdgoaaaagpeaaaaDoor
open Go Go.RowKit
set_option linter.unusedVariables false
section
variable {P : Program} {N : Nat} {ops : Array Oper} {K : Env → World → Prop} {ρ : Env} {w w0 : World} {i B : Nat} {r : List Nat} {l : List (Nat × Obj)}
theorem s_newh (HS : St B w0 w l) (d : Option Nat) (V : Nat → Value) (C : Array Value) (T : TypeId) (h : opv P ops i ρ w = some (d, true, .ok (.value (V w.heap.size)) (w.alloc (.cells C T (0, 0))))) (hd : dOK d N = true)
    (kk : ∀ b w', St B w0 w' ((b, .cells C T (0, 0)) :: l) → WPs P N ops K r (updO ρ d (V b)) w') : WPs P N ops K (i :: r) ρ w := by
  obtain ⟨o, ho, rfl, hw, hr⟩ := opv_some h
  refine WPo.run ho hw fun a ha => ?_
  rw [hr, Oper.upon_value]
  exact ⟨_, ha.put _ (dOK_lt hd) _, kk w.heap.size _ (HS.alloc _)⟩
theorem s_appRow {nb n c : Nat} {p : Option Addr} {row Z : List (Nat × Obj)} {M : List X3} {y : X3} {A B' C' : Nat × Obj} (HS : St B w0 w ((nb, .cells (xc y) 24 (0, 0)) :: A :: B' :: C' :: (row ++ Z))) (hrow : RowSt p n c row M) (d : Option Nat) (s x : Operand) (bytes : Nat) (ht : sliceOf P 22 = some (24, 3, bytes))
    (h : opk ops i ρ = some (d, true, appendOp 22 s x)) (hd : dOK d N = true) (hs : ev ρ s = .slice p n c) (hx : ev ρ x = .slice (some ⟨nb, 0, none⟩) 1 1) (hb : (n + 1) * bytes ≤ 140737488355328) (hm : n + 1 ≤ maxLen)
    (kk : ∀ b' cap' cur' w', St B w0 w' (A :: B' :: C' :: (b', .cells cur' 24 (0, 0)) :: Z) → Rw 3 cur' cap' (n + 1) (cells3 (M ++ [y])) → WPs P N ops K r (updO ρ d (.slice (some ⟨b', 0, none⟩) (n + 1) cap')) w') : WPs P N ops K (i :: r) ρ w := by
  obtain ⟨o, ho, rfl, hw, hop⟩ := opk_some h
  rcases hrow with ⟨rfl, rfl, rfl, rfl, rfl⟩ | ⟨b, cur, rfl, rfl, hrw⟩
  · obtain ⟨b', cap', cur', w', hrun, HS', hr'⟩ := app_run_nil HS (t := 22) (e := 24) (bytes := bytes) (k := 0) (bx := nb) (c := 1) (y := y) ht hop hs hx rfl hb
    refine WPo.run ho hw fun a ha => ?_
    rw [hrun, Oper.upon_value]
    exact ⟨_, ha.put _ (dOK_lt hd) _, kk b' cap' cur' w' ((HS'.sub (List.Sublist.cons_cons _ (List.sublist_cons_self ..))).perm (List.perm_middle (l₁ := [A, B', C']))) hr'⟩
  · obtain ⟨b', cap', cur', w', hrun, HS', hr'⟩ := app_run_own HS (t := 22) (e := 24) (bytes := bytes) (j := 4) (k := 0) (bx := nb) (c := 1) (y := y) ht hop hs rfl hrw hx rfl hb hm
    refine WPo.run ho hw fun a ha => ?_
    rw [hrun, Oper.upon_value]
    exact ⟨_, ha.put _ (dOK_lt hd) _, kk b' cap' cur' w' (HS'.sub (List.sublist_cons_self ..)) hr'⟩
end
/-- The ends of Read that tell none. -/
theorem rread_no {B : Nat} {w0 w : World} {L Z : List (Nat × Obj)} {b2 : Nat} {ρ : Env} {t : ByteArray} (H : St B w0 w ((b2, r0) :: Z)) (hZ : L.Sublist Z) (hb : itBad t) (h2 : ρ 2 = .pointer (some ⟨b2, 0, none⟩)) (h3 : ρ 3 = .int .i64 0) (h4 : ρ 4 = .bool false) :
    ∃ vs, Res Tryd.prog w ρ [.cell 2 24, .tmp 3, .tmp 4] vs ∧ ∃ T, okR t (pack vs) T ∧ St B w0 w (T ++ L) :=
  ⟨[zeroI, .int .i64 0, .bool false], .agg (b := b2) (#[.bool false, .string ⟨#[]⟩, .slice none 0 0]) 24 (0, 0) h2 (H.get 0 rfl) kr (.tmp _ h3 (.tmp _ h4 .nil)), [], .inl ⟨rfl, rfl, hb⟩, H.sub (List.Sublist.cons _ hZ)⟩
set_option maxRecDepth 100000 in
set_option maxHeartbeats 2000000 in
theorem rread_list (t : ByteArray) (ht : t.size ≤ 4100) (ih : ∀ u : ByteArray, u.size < t.size → FnZ Tryd.prog 32 #[.string u] (okR u)) (a b : Nat) (hr : rsz t = some (a, b)) (hl : a + b ≤ t.size) (hb : 192 ≤ by_ t 0) {B : Nat} {w0 w : World} {L : List (Nat × Obj)} (b2 : Nat) (ρ0 : Env) (H0 : St B w0 w ((b2, r0) :: L)) :
    WP Tryd.prog 78 (seqR (seqR (seqR (seqR (seqR (codeOf Tryd.f32)))))) (ends Tryd.prog [.cell 2 24, .tmp 3, .tmp 4] fun v w' => ∃ T, okR t v T ∧ St B w0 w' (T ++ L)) (setAll [(0, .string t), (2, .pointer (some ⟨b2, 0, none⟩)), (3, .int .i64 0), (4, .bool false), (5, .int .i64 ((a : Nat) : Int)), (6, .int .i64 ((b : Nat) : Int))] ρ0) w := by
  have hps := rsz_pos hr
  refine g_sreg [0, 1, 2] kr kr ?_
  refine s_val (some 44) (.agg #[.bool true, .string ⟨#[]⟩, .slice none 0 0]) (fun w => by kernel_rfl) kr ?_
  refine s_alloc H0 (some 7) 24 (.agg #[.bool false, .string ⟨#[]⟩, .slice none 0 0]) kr kr kr ?_
  intro b7 w1 H1
  refine rp [.s 0] H1 kr fun gs1 w2 H2 => ?_
  show WPs _ _ _ _ [] _ _
  refine s_nil ?_
  show WP _ _ _ _ _ _
  refine rS [.v, .v] H2 kr fun gs2 w3 H3 => ?_
  have H4 : St B w0 w3 ((b7, xo (.slice none 0 0)) :: (b2, r0) :: ([] ++ ([] ++ L))) := H3.as kr
  refine g_seq kr ?_
  refine g_block 0 kr ?_
  refine g_loop kr (fun mz ρ ww => ∃ (j : Nat) (p : Option Addr) (n c : Nat) (row : List (Nat × Obj)) (M : List X3) (T : List (Nat × Obj)), a + b - j = mz ∧ RdL t a b j p n c row M T ∧ St B w0 ww ((b7, xo (.slice p n c)) :: (b2, r0) :: (row ++ (T ++ L))) ∧ Is [(0, .string t), (2, .pointer (some ⟨b2, 0, none⟩)), (3, .int .i64 0), (4, .bool false), (5, .int .i64 ((a : Nat) : Int)), (6, .int .i64 ((b : Nat) : Int)), (7, .pointer (some ⟨b7, 0, none⟩)), (8, .int .i64 ((j : Nat) : Int))] ρ) (a + b - a) ⟨a, none, 0, 0, [], [], [], rfl, RdL.start, H4, (Is.of ⟨kr, kr, kr, kr, kr, kr, kr, kr, trivial⟩)⟩ ?_
  rintro _ _ w5 ⟨j, p, n, c, row, M, T, rfl, hI, H6, _, rfl⟩
  have hlo := hI.lo; have hhi := hI.hi; have hnum := hI.num; have hcnt := hI.cnt
  refine g_seq kr ?_
  by_cases hj : j < a + b
  · refine rS [.v, .v, .v, .e (v := .int .i64 (IntKind.i64.wrap (((a : Nat) : Int) + ((b : Nat) : Int)))) (v' := .int .i64 ((a + b : Nat) : Int)) (int_eq (wrapAdd_i64 (a := a) (b := b) (by omega))), .e (v := .bool (decide (((j : Nat) : Int) < ((a + b : Nat) : Int)))) (v' := .bool true) (bool_eq (decide_eq_true (by omega)))] H6 kr fun gs5 w6 H7 => ?_
    refine g_cond_t kr kr ?_
    refine g_skip kr ?_
    show WP _ _ _ _ _ _
    refine g_block 1 kr ?_
    have hz : (t.extract j (a + b)).size = a + b - j := ext_size t j _ hl (by omega)
    refine g_sreg [0, 1, 2, 3, 4, 5, 6, 7, 8, 9, 10, 11, 12, 13, 14] kr kr ?_
    refine rp [.v, .v, .v, .v, .e (v := .int .i64 (IntKind.i64.wrap (((a : Nat) : Int) + ((b : Nat) : Int)))) (v' := .int .i64 ((a + b : Nat) : Int)) (int_eq (wrapAdd_i64 (a := a) (b := b) (by omega))), .o (ins := [((.tmp 52), .string t), ((.tmp 53), .int .i64 ((j : Nat) : Int)), ((.tmp 56), .int .i64 ((a + b : Nat) : Int))]) (v := .string (ByteArray.extract t j (a + b))) (fun ρ o w ho hi => scut2_run (t := 9) (kd := .i64) (kz := .i64) kr (x := (.tmp 52)) (y := (.tmp 56)) (z := (.tmp 53)) t j (a + b) ho hi.1 hi.2.2.1 hi.2.1 (by omega) (by omega) w)] H7 kr fun gs6 w7 H8 => ?_
    show WPs _ _ _ _ [6, 7, 8, 9, 10, 11, 12, 13, 14] _ _
    have H9 : St B w0 w7 ((b7, xo (.slice p n c)) :: (b2, r0) :: (row ++ (T ++ L))) := H8.as kr
    refine s_callZ H9 (some 58) 32 #[.string (t.extract j (a + b))] (ih (t.extract j (a + b)) (by have := hps.2.1 hb; omega)) kr kr ?_
    rintro _ T2 w8 (⟨rfl, rfl, hbad⟩ | ⟨l, s, q, n1, c1, k, m, rfl, hx⟩) H10
    · refine rp [.v, .v, .v, .v] H10 kr fun gs7 w9 H11 => ?_
      show WPs _ _ _ _ [11, 12, 13, 14] _ _
      refine s_alloc H11 (some 9) 24 (.agg #[.bool false, .string ⟨#[]⟩, .slice none 0 0]) kr kr kr ?_
      intro b9 w10 H12
      refine rp [.s 0, .v, .v] H12 kr fun gs8 w11 H13 => ?_
      show WPs _ _ _ _ [] _ _
      refine s_nil ?_
      show WP _ _ _ _ _ _
      refine g_seq kr ?_
      refine rS [.v, .v] H13 kr fun gs9 w12 H14 => ?_
      refine g_cond_t kr kr ?_
      have H15 : St B w0 w12 ((b9, r0) :: (b7, xo (.slice p n c)) :: (b2, r0) :: (row ++ (T ++ L))) := H14.as kr
      refine rS [.v, .s 2, .v, .v] H15 kr fun gs10 w13 H16 => ?_
      have H17 : St B w0 w13 ((b9, r0) :: (b7, xo (.slice p n c)) :: (b2, r0) :: (row ++ (T ++ L))) := H16.as kr
      refine g_ret kr ?_
      show ∃ vs, Res _ _ _ _ vs ∧ _
      exact rread_no (H17.sub (List.Sublist.cons _ (List.sublist_cons_self ..))) ((List.sublist_append_right _ _).trans (List.sublist_append_right _ _)) (hI.bad ht hr hl hb hj hbad) kr kr kr
    · have hm := hx.le
      refine rp [.v, .v, .v, .v] H10 kr fun gs7 w9 H11 => ?_
      show WPs _ _ _ _ [11, 12, 13, 14] _ _
      refine s_alloc H11 (some 9) 24 (.agg #[.bool false, .string ⟨#[]⟩, .slice none 0 0]) kr kr kr ?_
      intro b9 w10 H12
      refine rp [.s 0, .v, .v] H12 kr fun gs8 w11 H13 => ?_
      show WPs _ _ _ _ [] _ _
      refine s_nil ?_
      show WP _ _ _ _ _ _
      refine g_seq kr ?_
      refine rS [.v, .v] H13 kr fun gs9 w12 H14 => ?_
      refine g_cond_f kr kr ?_
      refine g_skip kr ?_
      show WP _ _ _ _ _ _
      have H15 : St B w0 w12 ((b9, .cells #[.bool l, .string s, .slice q n1 c1] 24 (0, 0)) :: (T2 ++ ((b7, xo (.slice p n c)) :: (b2, r0) :: (row ++ (T ++ L))))) := H14.as kr
      have H16 : St B w0 w12 ((b9, .cells #[.bool l, .string s, .slice q n1 c1] 24 (0, 0)) :: (b7, xo (.slice p n c)) :: (b2, r0) :: (row ++ (T2 ++ (T ++ L)))) := H15.perm (List.Perm.cons _ (List.perm_append_comm_assoc ((b7, xo (.slice p n c)) :: (b2, r0) :: row) T2 (T ++ L)))
      refine g_sreg [0, 1, 2, 3, 4, 5, 6] kr kr ?_
      refine rp [.v, .l 1, .l 0] H16 kr fun gs10 w13 H17 => ?_
      show WPs _ _ _ _ [3, 4, 5, 6] _ _
      refine s_newh H17 (some 68) (fun b => .slice (some ⟨b, 0, none⟩) 1 1) (xc ⟨l, s, q, n1, c1, k⟩) 24 kr kr ?_
      intro nb w14 H18
      refine s_appRow (y := ⟨l, s, q, n1, c1, k⟩) (p := p) (n := n) (c := c) (row := row) (Z := T2 ++ (T ++ L)) H18 hI.row (some 69) (.tmp 66) (.tmp 68) 48 kr kr kr kr kr (by omega) (by unfold maxLen; omega) ?_
      intro b' cap' cur' w15 H19 hrw
      refine rp [.v, .s 1] H19 kr fun gs11 w16 H20 => ?_
      show WPs _ _ _ _ [] _ _
      refine s_nil ?_
      show WP _ _ _ _ _ _
      refine rL [.v, .v, .e (v := .int .i64 (IntKind.i64.wrap (((j : Nat) : Int) + ((m : Nat) : Int)))) (v' := .int .i64 ((j + m : Nat) : Int)) (int_eq (wrapAdd_i64 (a := j) (b := m) (by omega))), .v] H20 kr fun gs12 w17 H21 => ?_
      have hN := hI.next hl ht hj (x := ⟨l, s, q, n1, c1, k⟩) hx (b' := b') hrw
      have H22 : St B w0 w17 ((b9, .cells #[.bool l, .string s, .slice q n1 c1] 24 (0, 0)) :: (b7, xo (.slice (some ⟨b', 0, none⟩) (n + 1) cap')) :: (b2, r0) :: ([(b', .cells cur' 24 (0, 0))] ++ (T2 ++ (T ++ L)))) := H21.as kr
      have h1 := hx.one
      show ∃ m, _ ∧ _
      refine ⟨a + b - (j + m), (by omega), j + m, _, _, _, _, _, _, rfl, hN, ?_, (Is.of ⟨kr, kr, kr, kr, kr, kr, kr, kr, trivial⟩)⟩
      rw [List.append_assoc]
      exact H22.sub (List.sublist_cons_self ..)
  · refine rS [.v, .v, .v, .e (v := .int .i64 (IntKind.i64.wrap (((a : Nat) : Int) + ((b : Nat) : Int)))) (v' := .int .i64 ((a + b : Nat) : Int)) (int_eq (wrapAdd_i64 (a := a) (b := b) (by omega))), .e (v := .bool (decide (((j : Nat) : Int) < ((a + b : Nat) : Int)))) (v' := .bool false) (bool_eq (decide_eq_false (by omega)))] H6 kr fun gs5 w6 H7 => ?_
    refine g_cond_f kr kr ?_
    refine g_exit 0 kr ?_
    show WP _ _ _ _ _ _
    refine rS [.l 0, .v, .v, .e (v := .int .i64 (IntKind.i64.wrap (((a : Nat) : Int) + ((b : Nat) : Int)))) (v' := .int .i64 ((a + b : Nat) : Int)) (int_eq (wrapAdd_i64 (a := a) (b := b) (by omega))), .s 1, .v, .v] H7 kr fun gs6 w7 H8 => ?_
    have H9 : St B w0 w7 ((b7, xo (.slice p n c)) :: (b2, xo (.slice p n c)) :: (row ++ (T ++ L))) := H8.as kr
    refine g_ret kr ?_
    show ∃ vs, Res _ _ _ _ vs ∧ _
    refine ⟨[.agg #[.bool true, .string ⟨#[]⟩, .slice p n c], .int .i64 ((a + b : Nat) : Int), .bool true], (.agg (b := b2) (#[.bool true, .string ⟨#[]⟩, .slice p n c]) 24 (0, 0) kr (H9.get 1 kr) kr (.tmp _ kr (.tmp _ kr .nil))), row ++ T, .inr ⟨_, _, _, _, _, _, _, rfl, hI.done ht hr hl hb hj⟩, ?_⟩
    rw [List.append_assoc]
    exact H9.sub (List.Sublist.cons _ (List.sublist_cons_self ..))
end Go.Proofs.YtdgoaaaagpeaaaaDoor

namespace Go.Proofs.YtdgoaaaagpeaaaaDoor
open Go Go.RowKit
set_option linter.unusedVariables false
end Go.Proofs.YtdgoaaaagpeaaaaDoor

namespace Go.Proofs.YtdgoaaaagpeaaaaDoor
open Go Go.RowKit
set_option linter.unusedVariables false
end Go.Proofs.YtdgoaaaagpeaaaaDoor

namespace Go.Proofs.YtdgoaaaagpeaaaaDoor
open Go Go.RowKit
set_option linter.unusedVariables false
end Go.Proofs.YtdgoaaaagpeaaaaDoor

namespace Go.Proofs.YtdgoaaaagpeaaaaDoor
open Go Go.RowKit
set_option linter.unusedVariables false
end Go.Proofs.YtdgoaaaagpeaaaaDoor

namespace Go.Proofs.YtdgoaaaagpeaaaaDoor
open Go Go.RowKit
set_option linter.unusedVariables false
def pu1 (l : Bool) (s : ByteArray) (k : Fo) : Bool := !mixed l s k.len && pureF k
def dq1 (l : Bool) (d : Nat) : Nat := if l then d + 1 else d
def dqF : Fo → Nat
  | .nil => 0
  | .cons l s k r => max (dq1 l (dqF k)) (dqF r)
theorem dqF_le : ∀ k : Fo, dqF k ≤ k.cnt
  | .nil => Nat.le_refl _
  | .cons l s k r => by
    have h1 := dqF_le k; have h2 := dqF_le r
    simp only [dqF, Fo.cnt, dq1]; split <;> omega
theorem dq_dp : ∀ {k : Fo}, pureF k = true → dqF k = dpF k
  | .nil, _ => rfl
  | .cons l s k r, h => by
    simp only [pureF, Bool.and_eq_true, Bool.not_eq_true'] at h
    simp only [dqF, dpF]
    rw [dq_dp h.1.2, dq_dp h.2]
    congr 1
    rcases mixed_parts h.1.1 with ⟨rfl, _⟩ | ⟨rfl, rfl⟩
    · unfold dq1 dp1; simp; omega
    · rfl
theorem dq1_dp1 {l : Bool} {s : ByteArray} {k : Fo} (hm : mixed l s k.len = false) (hp : pureF k = true) : dq1 l (dqF k) = dp1 l (dpF k) := by
  rw [dq_dp hp]
  rcases mixed_parts hm with ⟨rfl, _⟩ | ⟨rfl, rfl⟩
  · unfold dq1 dp1; simp; omega
  · rfl
theorem pure_cons {l : Bool} {s : ByteArray} {k r : Fo} (h : pureF (.cons l s k r) = true) : mixed l s k.len = false ∧ pureF k = true ∧ pureF r = true := by
  simp only [pureF, Bool.and_eq_true, Bool.not_eq_true'] at h; exact ⟨h.1.1, h.1.2, h.2⟩
theorem hd2_small {f n : Nat} (h : n < 56) (hf : f ≤ 192) : strOfNums [((BitVec.toNat (BitVec.ofNat 8 (f + n)) : Nat) : Int)] = strB (hd f n) := by
  unfold hd; rw [if_pos (by omega)]
  show (⟨#[UInt8.ofNat (Int.toNat _)]⟩ : ByteArray) = ⟨#[UInt8.ofNat (f + n)]⟩
  rw [Int.toNat_natCast, BitVec.toNat_ofNat, show (f + n) % 2 ^ 8 = f + n by omega]
theorem hd2_big {f n : Nat} (h : ¬ n < 56) (hf : f ≤ 192) : strOfNums [((BitVec.toNat (BitVec.ofNat 8 (f + 55 + ByteArray.size (strB (dg n)))) : Nat) : Int)] ++ strB (dg n) = strB (hd f n) := by
  have hl := dg_len n
  have e : UInt8.ofNat (Int.toNat ((BitVec.toNat (BitVec.ofNat 8 (f + 55 + ByteArray.size (strB (dg n)))) : Nat) : Int)) = UInt8.ofNat (f + 55 + (dg n).length) := by
    rw [Int.toNat_natCast, BitVec.toNat_ofNat, strB_size, show (f + 55 + (dg n).length) % 2 ^ 8 = f + 55 + (dg n).length by omega]
  apply tl_inj
  rw [tl_add]
  show [UInt8.ofNat _] ++ dg n = hd f n
  unfold hd; rw [if_neg (by omega), e]; rfl
theorem rw_list {l : Bool} {s : ByteArray} {k : Fo} {a : ByteArray} (hl : l = true) (hm : mixed l s k.len = false) (hp : pureF k = true) (ha : wrF k = tl a) : strB (hd 192 (ByteArray.size a)) ++ a = strB (wr1 l s (szF k) (wrF k)) := by
  rcases mixed_parts hm with ⟨_, hs⟩ | ⟨h, _⟩
  · subst hl hs
    have hz : szF k = ByteArray.size a := by rw [← pure_len hp, ha, tl_len]
    apply tl_inj
    rw [tl_add, tl_strB, tl_strB]
    unfold wr1
    rw [if_neg (by decide), ha, hz]
    show _ = hd 192 (0 + _) ++ ([] ++ tl a)
    rw [Nat.zero_add, List.nil_append]
  · rw [hl] at h; cases h
theorem rw_one {l : Bool} {s : ByteArray} {k : Fo} (hl : l = false) (hm : mixed l s k.len = false) (h : s.size = 1) (h2 : by_ s 0 < 128) : s = strB (wr1 l s (szF k) (wrF k)) := by
  rcases mixed_parts hm with ⟨q, _⟩ | ⟨_, hk⟩
  · rw [hl] at q; cases q
  · subst hk
    unfold wr1; rw [if_pos (by unfold single; simp [h, h2])]
    show s = strB ([] ++ (tl s ++ [])); rw [List.nil_append, List.append_nil]; exact (strB_tl s).symm
theorem rw_text {l : Bool} {s : ByteArray} {k : Fo} (hl : l = false) (hm : mixed l s k.len = false) (h : ¬ (s.size = 1 ∧ by_ s 0 < 128)) : strB (hd 128 (ByteArray.size s)) ++ s = strB (wr1 l s (szF k) (wrF k)) := by
  rcases mixed_parts hm with ⟨q, _⟩ | ⟨_, hk⟩
  · rw [hl] at q; cases q
  · subst hl hk
    apply tl_inj
    rw [tl_add, tl_strB, tl_strB]
    unfold wr1; rw [if_neg (by unfold single; simpa using h)]
    show _ = hd 128 (s.size + 0) ++ (tl s ++ [])
    rw [List.append_nil, Nat.add_zero]
section
variable {l : Bool} {s : ByteArray} {k : Fo}
end
end Go.Proofs.YtdgoaaaagpeaaaaDoor

namespace Go.Proofs.YtdgoaaaagpeaaaaDoor
open Go Go.RowKit
set_option linter.unusedVariables false
set_option maxRecDepth 100000 in
set_option maxHeartbeats 2000000 in
theorem rdepth_step (m : Nat) (ih : ∀ (l : Bool) (s : ByteArray) (p : Option Addr) (n c : Nat) (k : Fo), s.size ≤ 140737488355328 → k.cnt ≤ 1000000 → k.cnt < m → FnP Tryd.prog 29 #[.agg #[.bool l, .string s, .slice p n c]] (fun w => SlAt w.heap.size w p n k) (.int .i64 ((dq1 l (dqF k) : Nat) : Int))) (l : Bool) (s : ByteArray) (p : Option Addr) (n c : Nat) (k : Fo) (hs : s.size ≤ 140737488355328) (hk6 : k.cnt ≤ 1000000) (hkm : k.cnt < m + 1) : FnP Tryd.prog 29 #[.agg #[.bool l, .string s, .slice p n c]] (fun w => SlAt w.heap.size w p n k) (.int .i64 ((dq1 l (dqF k) : Nat) : Int)) := by
  refine FnP.intro (c := codeOf Tryd.f29) [.tmp 2] 26 Tryd.func29 kr kr kr fun w hpre => ?_
  have H0 := St.start w
  have hn := hpre.1
  have hnm := hpre.2.1
  have hdk := dqF_le k
  refine rS [.b, .v] H0 kr fun gs1 w1 H1 => ?_
  clear H0
  refine rS [.v] H1 kr fun gs2 w2 H2 => ?_
  clear H1
  refine g_seq kr ?_
  refine rS [.v, .l 0, .v, .v] H2 kr fun gs3 w3 H3 => ?_
  clear H2
  refine g_block 0 kr ?_
  have HL1 : St w.heap.size w w3 [((gs1 0).b, Obj.cells #[.bool l, .string s, .slice p n c] 24 (0, 0))] := H3.as kr
  clear H3
  refine g_loop kr (fun mz ρ ww => ∃ (i : Nat) (r : Fo) (d : Nat), n - i = mz ∧ (FoR w.heap.size w p i r) ∧ (i + Fo.len r = n) ∧ (Fo.cnt r ≤ Fo.cnt k) ∧ (dqF k = max d (dqF r)) ∧ St w.heap.size w ww [((gs1 0).b, Obj.cells #[.bool l, .string s, .slice p n c] 24 (0, 0))] ∧ Is [(0, .agg #[.bool l, .string s, .slice p n c]), (1, .pointer (some ⟨(gs1 0).b, 0, none⟩)), (2, .int .i64 0), (3, .int .i64 ((d : Nat) : Int)), (8, .slice p n c), (9, .int .i64 ((n : Nat) : Int)), (10, .int .i64 ((i : Nat) : Int))] ρ) (n - 0) ⟨0, k, 0, rfl, (SlAt.start hpre), (by have hn0 := (hpre).1; omega), (Nat.le_refl _), (by omega), HL1, (Is.of ⟨kr, kr, kr, kr, kr, kr, kr, trivial⟩)⟩ ?_
  clear HL1
  rintro _ _ w4 ⟨i, r, d, rfl, hR, hN, hcn, hd, H4, _, rfl⟩
  by_cases hc2 : (i : Nat) < n
  · skip
    refine rS [.e (v := .bool (decide (((i : Nat) : Int) < ((n : Nat) : Int)))) (v' := .bool true) (bool_eq (decide_eq_true (by omega)))] H4 kr fun gs5 w5 H5 => ?_
    clear H4
    refine g_seq kr ?_
    refine g_cond_t kr kr ?_
    refine g_skip kr ?_
    show WP _ _ _ _ _ _
    refine g_seq kr ?_
    refine g_block 1 kr ?_
    obtain ⟨l1, s1, k1, r1, b1, off1, C1, T1, fz1, p1, n1, c1, hr1, hp1, hb1, hh1, hs1, hx1, hz1, hk1, hR1, hN1⟩ := FoR.open hR hN (by omega)
    refine rS [.o (ins := [((.tmp 8), .slice p n c), ((.tmp 10), .int .i64 ((i : Nat) : Int))]) (v := .pointer (some ⟨b1, off1 + i * 3, none⟩)) (fun ρ o w ho hi => idxO_run (kd := .i64) (t := 22) (e := 24) (bytes := 48) kr (x := (.tmp 8)) (y := (.tmp 10)) b1 off1 n c i hp1 ho hi.1 hi.2.1 (by omega) w), .fp (off := off1 + i * 3) (n := 3) (W := #[.bool l1, .string s1, .slice p1 n1 c1]) hh1 hb1 hs1 hx1, .a, .s 1] H5 kr fun gs6 w6 H6 => ?_
    clear H5
    have hcn1 := hcn
    rw [hr1] at hcn1
    simp only [Fo.cnt] at hcn1
    refine rS [.l 1, .cp (pre := fun w => SlAt w.heap.size w p1 n1 k1) (ih l1 s1 p1 n1 c1 k1 hz1 (by omega) (by omega)) [] (fun w hb hd => (SlAt.call hk1 hb)), .v] H6 kr fun gs7 w7 H7 => ?_
    clear H6
    refine g_sreg [0, 1, 2] kr kr ?_
    refine rp [.v, .v] H7 kr fun gs8 w8 H8 => ?_
    show WPs _ _ _ _ [2] _ _
    clear H7
    by_cases hc3 : (dq1 l1 (dqF k1) : Nat) > d
    · skip
      refine rp [.e (v := .bool (decide (((d : Nat) : Int) < ((dq1 l1 (dqF k1) : Nat) : Int)))) (v' := .bool true) (bool_eq (decide_eq_true (by omega)))] H8 kr fun gs9 w9 H9 => ?_
      show WPs _ _ _ _ [] _ _
      clear H8
      refine s_nil ?_
      refine g_keep [0, 1, 2, 3, 5, 6, 8, 9, 10, 11, 18] fun ρ1 => ?_
      have HK4 := H9.keep
      clear H9
      refine g_cond_t kr kr ?_
      refine rL [.v, .v] HK4 kr fun gs10 w10 H10 => ?_
      clear HK4
      show WP _ _ _ _ _ _
      refine rL [.e (v := .int .i64 (IntKind.i64.wrap (((i : Nat) : Int) + 1))) (v' := .int .i64 ((i + 1 : Nat) : Int)) (int_eq (wrapAdd_i64 (a := i) (b := 1) (by omega))), .v] H10 kr fun gs11 w11 H11 => ?_
      clear H10
      have HL5 : St w.heap.size w w11 [((gs1 0).b, Obj.cells #[.bool l, .string s, .slice p n c] 24 (0, 0)), ((gs6 2).b, Obj.cells #[.bool l1, .string s1, .slice p1 n1 c1] 24 (0, 0))] := H11.as kr
      clear H11
      have HD6 : St w.heap.size w w11 [((gs1 0).b, Obj.cells #[.bool l, .string s, .slice p n c] 24 (0, 0))] := HL5.sub (List.Sublist.cons_cons _ (List.Sublist.cons _ List.Sublist.slnil))
      show ∃ m, _ ∧ _
      exact ⟨_, (by omega), (i + 1), r1, (dq1 l1 (dqF k1)), rfl, hR1, hN1, (by omega), (by rw [hd, hr1]; simp only [dqF]; omega), HD6, (Is.of ⟨kr, kr, kr, kr, kr, kr, kr, trivial⟩)⟩
    · skip
      refine rp [.e (v := .bool (decide (((d : Nat) : Int) < ((dq1 l1 (dqF k1) : Nat) : Int)))) (v' := .bool false) (bool_eq (decide_eq_false (by omega)))] H8 kr fun gs12 w12 H12 => ?_
      show WPs _ _ _ _ [] _ _
      clear H8
      refine s_nil ?_
      refine g_keep [0, 1, 2, 3, 5, 6, 8, 9, 10, 11, 18] fun ρ2 => ?_
      have HK7 := H12.keep
      clear H12
      refine g_cond_f kr kr ?_
      refine g_skip kr ?_
      show WP _ _ _ _ _ _
      refine rL [.e (v := .int .i64 (IntKind.i64.wrap (((i : Nat) : Int) + 1))) (v' := .int .i64 ((i + 1 : Nat) : Int)) (int_eq (wrapAdd_i64 (a := i) (b := 1) (by omega))), .v] HK7 kr fun gs13 w13 H13 => ?_
      clear HK7
      have HL8 : St w.heap.size w w13 [((gs1 0).b, Obj.cells #[.bool l, .string s, .slice p n c] 24 (0, 0)), ((gs6 2).b, Obj.cells #[.bool l1, .string s1, .slice p1 n1 c1] 24 (0, 0))] := H13.as kr
      clear H13
      have HD9 : St w.heap.size w w13 [((gs1 0).b, Obj.cells #[.bool l, .string s, .slice p n c] 24 (0, 0))] := HL8.sub (List.Sublist.cons_cons _ (List.Sublist.cons _ List.Sublist.slnil))
      show ∃ m, _ ∧ _
      exact ⟨_, (by omega), (i + 1), r1, (d), rfl, hR1, hN1, (by omega), (by rw [hd, hr1]; simp only [dqF]; omega), HD9, (Is.of ⟨kr, kr, kr, kr, kr, kr, kr, trivial⟩)⟩
  · skip
    refine rS [.e (v := .bool (decide (((i : Nat) : Int) < ((n : Nat) : Int)))) (v' := .bool false) (bool_eq (decide_eq_false (by omega)))] H4 kr fun gs14 w14 H14 => ?_
    clear H4
    refine g_seq kr ?_
    refine g_cond_f kr kr ?_
    refine g_exit 0 kr ?_
    show WP _ _ _ _ _ _
    refine g_seq kr ?_
    refine rS [.v, .l 0] H14 kr fun gs15 w15 H15 => ?_
    clear H14
    rcases (Bool.eq_false_or_eq_true (l)).symm with hq1 | hq1
    · skip
      refine g_now 22 (v := .bool l) (v' := .bool false) (bool_eq hq1) kr ?_
      refine g_cond_f kr kr ?_
      refine g_skip kr ?_
      show WP _ _ _ _ _ _
      refine rS [.v, .v] H15 kr fun gs16 w16 H16 => ?_
      clear H15
      refine g_ret kr ?_
      show ∃ vs, Res _ _ _ _ vs ∧ _
      refine ⟨[.int .i64 ((d : Nat) : Int)], (.tmp (.int .i64 ((d : Nat) : Int)) kr .nil), ?_, H16.below⟩
      refine int_eq ?_
      rw [hq1, hd, FoR.done hN (by omega)]; show _ = ((max d 0 : Nat) : Int); omega
    · skip
      refine g_now 22 (v := .bool l) (v' := .bool true) (bool_eq hq1) kr ?_
      refine g_cond_t kr kr ?_
      refine rL [.v, .e (v := .int .i64 (IntKind.i64.wrap (((d : Nat) : Int) + 1))) (v' := .int .i64 ((d + 1 : Nat) : Int)) (int_eq (wrapAdd_i64 (a := d) (b := 1) (by omega))), .v] H15 kr fun gs17 w17 H17 => ?_
      clear H15
      show WP _ _ _ _ _ _
      refine rS [.v, .v] H17 kr fun gs18 w18 H18 => ?_
      clear H17
      refine g_ret kr ?_
      show ∃ vs, Res _ _ _ _ vs ∧ _
      refine ⟨[.int .i64 ((d + 1 : Nat) : Int)], (.tmp (.int .i64 ((d + 1 : Nat) : Int)) kr .nil), ?_, H18.below⟩
      refine int_eq ?_
      rw [hq1, hd, FoR.done hN (by omega)]; show _ = ((max d 0 + 1 : Nat) : Int); omega
theorem rdepth_fn (l : Bool) (s : ByteArray) (p : Option Addr) (n c : Nat) (k : Fo) (hs : s.size ≤ 140737488355328) (hk6 : k.cnt ≤ 1000000) : FnP Tryd.prog 29 #[.agg #[.bool l, .string s, .slice p n c]] (fun w => SlAt w.heap.size w p n k) (.int .i64 ((dq1 l (dqF k) : Nat) : Int)) := by
  have key : ∀ (m : Nat) (l : Bool) (s : ByteArray) (p : Option Addr) (n c : Nat) (k : Fo), s.size ≤ 140737488355328 → k.cnt ≤ 1000000 → k.cnt < m → FnP Tryd.prog 29 #[.agg #[.bool l, .string s, .slice p n c]] (fun w => SlAt w.heap.size w p n k) (.int .i64 ((dq1 l (dqF k) : Nat) : Int)) := by
    intro m
    induction m with
    | zero => intros; omega
    | succ m ih => intro l s p n c k hs hk6 hkm; exact rdepth_step m ih l s p n c k hs hk6 hkm
  exact key (k.cnt + 1) l s p n c k hs hk6 (by omega)
set_option maxRecDepth 100000 in
set_option maxHeartbeats 2000000 in
theorem rhead_fn (f m : Nat) (hf : f ≤ 192) (hm : m < 9223372036854775807) : Fn Tryd.prog 42 #[.int .i64 ((f : Nat) : Int), .int .i64 ((m : Nat) : Int)] (.string (strB (hd f m))) := by
  refine Fn.intro (c := codeOf Tryd.f42) [.tmp 4] 27 Tryd.func42 kr kr kr fun w => ?_
  have H0 := St.start w
  refine rS [.v] H0 kr fun gs1 w1 H1 => ?_
  clear H0
  refine g_seq kr ?_
  refine g_sreg [0, 1] kr kr ?_
  refine rp [.v] H1 kr fun gs2 w2 H2 => ?_
  show WPs _ _ _ _ [1] _ _
  clear H1
  by_cases hc1 : (m : Nat) < 56
  · skip
    refine rp [.e (v := .bool (decide (((m : Nat) : Int) < 56))) (v' := .bool true) (bool_eq (decide_eq_true (by omega)))] H2 kr fun gs3 w3 H3 => ?_
    show WPs _ _ _ _ [] _ _
    clear H2
    refine s_nil ?_
    refine g_cond_t kr kr ?_
    refine rS [.v, .v, .e (v := .int .i64 (IntKind.i64.wrap (((f : Nat) : Int) + ((m : Nat) : Int)))) (v' := .int .i64 ((f + m : Nat) : Int)) (int_eq (wrapAdd_i64 (a := f) (b := m) (by omega))), .e (v := .int .u8 (IntKind.u8.wrap (((f + m : Nat) : Int)))) (v' := .int .u8 ((BitVec.toNat (BitVec.ofNat 8 (f + m)) : Nat) : Int)) (bv_ofNat_u8 (f + m)), .nw (fun b => .slice (some ⟨b, 0, none⟩) 1 1) #[.int .u8 ((BitVec.toNat (BitVec.ofNat 8 (f + m)) : Nat) : Int)] 5, .w fun nn => .x (op := .convert 46 9 (.tmp 12)) (ins := [((.tmp 12), .slice (some ⟨(nn 0), 0, none⟩) 1 1)]) [(0, ((nn 0), Obj.cells #[.int .u8 ((BitVec.toNat (BitVec.ofNat 8 (f + m)) : Nat) : Int)] 5 (0, 0)))] (bytesX (t := 46) (t' := 9) (e := 5) [((BitVec.toNat (BitVec.ofNat 8 (f + m)) : Nat) : Int)] kr kr kr (Rw.lit #[.int .u8 ((BitVec.toNat (BitVec.ofNat 8 (f + m)) : Nat) : Int)] 1 (by rfl) (by unfold maxLen; omega))), .v] H3 kr fun gs4 w4 H4 => ?_
    clear H3
    refine g_ret kr ?_
    show ∃ vs, Res _ _ _ _ vs ∧ _
    refine ⟨[.string (strOfNums ([((BitVec.toNat (BitVec.ofNat 8 (f + m)) : Nat) : Int)]))], (.tmp (.string (strOfNums ([((BitVec.toNat (BitVec.ofNat 8 (f + m)) : Nat) : Int)]))) kr .nil), ?_, H4.below⟩
    exact congrArg Value.string (hd2_small (by omega) (by omega))
  · skip
    refine rp [.e (v := .bool (decide (((m : Nat) : Int) < 56))) (v' := .bool false) (bool_eq (decide_eq_false (by omega)))] H2 kr fun gs5 w5 H5 => ?_
    show WPs _ _ _ _ [] _ _
    clear H2
    refine s_nil ?_
    refine g_cond_f kr kr ?_
    refine g_skip kr ?_
    show WP _ _ _ _ _ _
    refine rS [.v, .e (v := .int .u64 (IntKind.u64.wrap (((m : Nat) : Int)))) (v' := .int .u64 ((m : Nat) : Int)) (int_eq (wrapN_u64 (a := m) (by omega))), .c (rdigits_fn m (by omega)), .v] H5 kr fun gs6 w6 H6 => ?_
    clear H5
    have hdm := dg_len m
    have hdz : ByteArray.size (strB (dg m)) ≤ 8 := by rw [strB_size]; exact hdm
    refine rS [.v, .e (v := .int .i64 (IntKind.i64.wrap (((f : Nat) : Int) + 55))) (v' := .int .i64 ((f + 55 : Nat) : Int)) (int_eq (wrapAdd_i64 (a := f) (b := 55) (by omega))), .v, .v, .e (v := .int .i64 (IntKind.i64.wrap (((f + 55 : Nat) : Int) + ((ByteArray.size (strB (dg m)) : Nat) : Int)))) (v' := .int .i64 (((f + 55) + (ByteArray.size (strB (dg m))) : Nat) : Int)) (int_eq (wrapAdd_i64 (a := f + 55) (b := ByteArray.size (strB (dg m))) (by omega))), .e (v := .int .u8 (IntKind.u8.wrap ((((f + 55) + (ByteArray.size (strB (dg m))) : Nat) : Int)))) (v' := .int .u8 ((BitVec.toNat (BitVec.ofNat 8 ((f + 55) + (ByteArray.size (strB (dg m))))) : Nat) : Int)) (bv_ofNat_u8 ((f + 55) + (ByteArray.size (strB (dg m))))), .nw (fun b => .slice (some ⟨b, 0, none⟩) 1 1) #[.int .u8 ((BitVec.toNat (BitVec.ofNat 8 ((f + 55) + (ByteArray.size (strB (dg m))))) : Nat) : Int)] 5, .w fun nn => .x (op := .convert 46 9 (.tmp 23)) (ins := [((.tmp 23), .slice (some ⟨(nn 0), 0, none⟩) 1 1)]) [(0, ((nn 0), Obj.cells #[.int .u8 ((BitVec.toNat (BitVec.ofNat 8 ((f + 55) + (ByteArray.size (strB (dg m))))) : Nat) : Int)] 5 (0, 0)))] (bytesX (t := 46) (t' := 9) (e := 5) [((BitVec.toNat (BitVec.ofNat 8 ((f + 55) + (ByteArray.size (strB (dg m))))) : Nat) : Int)] kr kr kr (Rw.lit #[.int .u8 ((BitVec.toNat (BitVec.ofNat 8 ((f + 55) + (ByteArray.size (strB (dg m))))) : Nat) : Int)] 1 (by rfl) (by unfold maxLen; omega))), .v, .o (ins := [((.tmp 24), .string (strOfNums ([((BitVec.toNat (BitVec.ofNat 8 ((f + 55) + (ByteArray.size (strB (dg m))))) : Nat) : Int)]))), ((.tmp 25), .string (strB (dg m)))]) (v := .string ((strOfNums ([((BitVec.toNat (BitVec.ofNat 8 ((f + 55) + (ByteArray.size (strB (dg m))))) : Nat) : Int)])) ++ (strB (dg m)))) (fun ρ o w ho hi => sadd_run (t := 9) (t' := 9) (x := (.tmp 24)) (y := (.tmp 25)) (strOfNums ([((BitVec.toNat (BitVec.ofNat 8 ((f + 55) + (ByteArray.size (strB (dg m))))) : Nat) : Int)])) (strB (dg m)) w ho hi.1 hi.2.1 (by rw [strOfNums_size, strB_size]; have := dg_len m; show 1 + _ ≤ _; omega)), .v] H6 kr fun gs7 w7 H7 => ?_
    clear H6
    refine g_ret kr ?_
    show ∃ vs, Res _ _ _ _ vs ∧ _
    refine ⟨[.string ((strOfNums ([((BitVec.toNat (BitVec.ofNat 8 ((f + 55) + (ByteArray.size (strB (dg m))))) : Nat) : Int)])) ++ (strB (dg m)))], (.tmp (.string ((strOfNums ([((BitVec.toNat (BitVec.ofNat 8 ((f + 55) + (ByteArray.size (strB (dg m))))) : Nat) : Int)])) ++ (strB (dg m)))) kr .nil), ?_, H7.below⟩
    exact congrArg Value.string (hd2_big (by omega) (by omega))
set_option maxRecDepth 100000 in
set_option maxHeartbeats 2000000 in
theorem rwrite_step (m : Nat) (ih : ∀ (l : Bool) (s : ByteArray) (p : Option Addr) (n c : Nat) (k : Fo), s.size ≤ 140737488355328 → mixed l s k.len = false → pureF k = true → ByteArray.size s + wtF k ≤ 4611686018427387904 → k.cnt < m → FnP Tryd.prog 30 #[.agg #[.bool l, .string s, .slice p n c]] (fun w => SlAt w.heap.size w p n k) (.string (strB (wr1 l s (szF k) (wrF k))))) (l : Bool) (s : ByteArray) (p : Option Addr) (n c : Nat) (k : Fo) (hs : s.size ≤ 140737488355328) (hp1 : mixed l s k.len = false) (hp2 : pureF k = true) (hw : ByteArray.size s + wtF k ≤ 4611686018427387904) (hkm : k.cnt < m + 1) : FnP Tryd.prog 30 #[.agg #[.bool l, .string s, .slice p n c]] (fun w => SlAt w.heap.size w p n k) (.string (strB (wr1 l s (szF k) (wrF k)))) := by
  refine FnP.intro (c := codeOf Tryd.f30) [.tmp 2] 44 Tryd.func30 kr kr kr fun w hpre => ?_
  have H0 := St.start w
  have hn := hpre.1
  have hnm := hpre.2.1
  refine rS [.b, .v] H0 kr fun gs1 w1 H1 => ?_
  clear H0
  refine g_seq kr ?_
  refine rS [.v, .l 0] H1 kr fun gs2 w2 H2 => ?_
  clear H1
  rcases (Bool.eq_false_or_eq_true (l)).symm with hq1 | hq1
  · skip
    refine g_now 7 (v := .bool l) (v' := .bool false) (bool_eq hq1) kr ?_
    refine g_cond_f kr kr ?_
    refine g_skip kr ?_
    show WP _ _ _ _ _ _
    refine g_seq kr ?_
    refine g_sreg [0, 1, 2, 3, 4, 5, 6, 7, 8, 9] kr kr ?_
    refine rp [.v, .l 0, .v] H2 kr fun gs3 w3 H3 => ?_
    show WPs _ _ _ _ [3, 4, 5, 6, 7, 8, 9] _ _
    clear H2
    by_cases hc1 : (ByteArray.size s : Nat) = 1
    · skip
      refine rp [.e (v := .bool (((ByteArray.size s : Nat) : Int) == 1)) (v' := .bool true) (bool_eq (beq_iff_eq.2 (by omega))), .v, .v, .l 0, .o (ins := [((.tmp 31), .string s), ((.const (.int .i64 0)), .int .i64 0)]) (v := .int .u8 ((by_ s 0 : Nat) : Int)) (fun ρ o w ho hi => sindex_run (t := 9) (kd := .i64) kr (x := (.tmp 31)) (y := (.const (.int .i64 0))) s 0 ho hi.1 hi.2.1 (by omega) w)] H3 kr fun gs4 w4 H4 => ?_
      show WPs _ _ _ _ [8, 9] _ _
      clear H3
      by_cases hc2 : (by_ s 0 : Nat) < 128
      · skip
        refine rp [.e (v := .bool (decide (((by_ s 0 : Nat) : Int) < 128))) (v' := .bool true) (bool_eq (decide_eq_true (by omega))), .v] H4 kr fun gs5 w5 H5 => ?_
        show WPs _ _ _ _ [] _ _
        clear H4
        refine s_nil ?_
        refine g_cond_t kr kr ?_
        refine rS [.v, .l 0, .v] H5 kr fun gs6 w6 H6 => ?_
        clear H5
        refine g_ret kr ?_
        show ∃ vs, Res _ _ _ _ vs ∧ _
        refine ⟨[.string s], (.tmp (.string s) kr .nil), ?_, H6.below⟩
        exact congrArg Value.string (rw_one hq1 hp1 (by omega) (by omega))
      · skip
        refine rp [.e (v := .bool (decide (((by_ s 0 : Nat) : Int) < 128))) (v' := .bool false) (bool_eq (decide_eq_false (by omega))), .v] H4 kr fun gs7 w7 H7 => ?_
        show WPs _ _ _ _ [] _ _
        clear H4
        refine s_nil ?_
        refine g_cond_f kr kr ?_
        refine g_skip kr ?_
        show WP _ _ _ _ _ _
        have hhl := hd_len 128 (ByteArray.size s)
        have hhs : ByteArray.size (strB (hd 128 (ByteArray.size s))) ≤ 9 := hhl.2
        refine dS [.v, .l 0, .v, .c (rhead_fn 128 (ByteArray.size s) (by omega) (by omega)), .v, .l 0, .o (ins := [((.tmp 40), .string (strB (hd 128 (ByteArray.size s)))), ((.tmp 42), .string s)]) (v := .string ((strB (hd 128 (ByteArray.size s))) ++ s)) (fun ρ o w ho hi => sadd_run (t := 9) (t' := 9) (x := (.tmp 40)) (y := (.tmp 42)) (strB (hd 128 (ByteArray.size s))) s w ho hi.1 hi.2.1 (by omega)), .v] H7 kr fun w8 H8 => ?_
        clear H7
        refine g_ret kr ?_
        show ∃ vs, Res _ _ _ _ vs ∧ _
        refine ⟨[.string ((strB (hd 128 (ByteArray.size s))) ++ s)], (.tmp (.string ((strB (hd 128 (ByteArray.size s))) ++ s)) kr .nil), ?_, H8.below⟩
        exact congrArg Value.string (rw_text hq1 hp1 (by omega))
    · skip
      refine rp [.e (v := .bool (((ByteArray.size s : Nat) : Int) == 1)) (v' := .bool false) (bool_eq (beq_eq_false_iff_ne.2 (by omega))), .v, .n, .n, .n, .n, .v] H3 kr fun gs9 w9 H9 => ?_
      show WPs _ _ _ _ [] _ _
      clear H3
      refine s_nil ?_
      refine g_cond_f kr kr ?_
      refine g_skip kr ?_
      show WP _ _ _ _ _ _
      have hhl := hd_len 128 (ByteArray.size s)
      have hhs : ByteArray.size (strB (hd 128 (ByteArray.size s))) ≤ 9 := hhl.2
      refine dS [.v, .l 0, .v, .c (rhead_fn 128 (ByteArray.size s) (by omega) (by omega)), .v, .l 0, .o (ins := [((.tmp 40), .string (strB (hd 128 (ByteArray.size s)))), ((.tmp 42), .string s)]) (v := .string ((strB (hd 128 (ByteArray.size s))) ++ s)) (fun ρ o w ho hi => sadd_run (t := 9) (t' := 9) (x := (.tmp 40)) (y := (.tmp 42)) (strB (hd 128 (ByteArray.size s))) s w ho hi.1 hi.2.1 (by omega)), .v] H9 kr fun w10 H10 => ?_
      clear H9
      refine g_ret kr ?_
      show ∃ vs, Res _ _ _ _ vs ∧ _
      refine ⟨[.string ((strB (hd 128 (ByteArray.size s))) ++ s)], (.tmp (.string ((strB (hd 128 (ByteArray.size s))) ++ s)) kr .nil), ?_, H10.below⟩
      exact congrArg Value.string (rw_text hq1 hp1 (by omega))
  · skip
    refine g_now 7 (v := .bool l) (v' := .bool true) (bool_eq hq1) kr ?_
    refine g_cond_t kr kr ?_
    refine rS [.v] H2 kr fun gs11 w11 H11 => ?_
    clear H2
    refine g_seq kr ?_
    refine rS [.v, .l 0, .v, .v] H11 kr fun gs12 w12 H12 => ?_
    clear H11
    refine g_block 0 kr ?_
    have HL3 : St w.heap.size w w12 [((gs1 0).b, Obj.cells #[.bool l, .string s, .slice p n c] 24 (0, 0))] := H12.as kr
    clear H12
    have HD4 : St w.heap.size w w12 [] := HL3.sub (List.Sublist.cons _ List.Sublist.slnil)
    refine g_loop kr (fun mz ρ ww => ∃ (i : Nat) (r : Fo) (az : ByteArray), n - i = mz ∧ (FoR w.heap.size w p i r) ∧ (i + Fo.len r = n) ∧ (Fo.cnt r ≤ Fo.cnt k) ∧ (ByteArray.size az + wtF r ≤ 4611686018427387904) ∧ (pureF r = true) ∧ (wrF k = tl az ++ wrF r) ∧ St w.heap.size w ww [] ∧ Is [(0, .agg #[.bool l, .string s, .slice p n c]), (1, .pointer (some ⟨(gs1 0).b, 0, none⟩)), (2, .string (⟨#[]⟩)), (3, .string az), (7, .bool true), (9, .slice p n c), (10, .int .i64 ((n : Nat) : Int)), (11, .int .i64 ((i : Nat) : Int))] ρ) (n - 0) ⟨0, k, (⟨#[]⟩ : ByteArray), rfl, (SlAt.start hpre), (by have hn0 := (hpre).1; omega), (Nat.le_refl _), (by show 0 + _ ≤ _; omega), hp2, rfl, HD4, (Is.of ⟨kr, kr, kr, kr, kr, kr, kr, kr, trivial⟩)⟩ ?_
    clear HD4
    rintro _ _ w13 ⟨i, r, az, rfl, hR, hN, hcn, hwt, hpr, hall, H13, _, rfl⟩
    by_cases hc5 : (i : Nat) < n
    · skip
      refine rS [.e (v := .bool (decide (((i : Nat) : Int) < ((n : Nat) : Int)))) (v' := .bool true) (bool_eq (decide_eq_true (by omega)))] H13 kr fun gs14 w14 H14 => ?_
      clear H13
      refine g_seq kr ?_
      refine g_cond_t kr kr ?_
      refine g_skip kr ?_
      show WP _ _ _ _ _ _
      refine g_seq kr ?_
      refine g_block 1 kr ?_
      obtain ⟨l1, s1, k1, r1, b1, off1, C1, T1, fz1, p1, n1, c1, hr1, hp1, hb1, hh1, hs1, hx1, hz1, hk1, hR1, hN1⟩ := FoR.open hR hN (by omega)
      refine rS [.o (ins := [((.tmp 9), .slice p n c), ((.tmp 11), .int .i64 ((i : Nat) : Int))]) (v := .pointer (some ⟨b1, off1 + i * 3, none⟩)) (fun ρ o w ho hi => idxO_run (kd := .i64) (t := 22) (e := 24) (bytes := 48) kr (x := (.tmp 9)) (y := (.tmp 11)) b1 off1 n c i hp1 ho hi.1 hi.2.1 (by omega) w), .fp (off := off1 + i * 3) (n := 3) (W := #[.bool l1, .string s1, .slice p1 n1 c1]) hh1 hb1 hs1 hx1, .a, .s 0] H14 kr fun gs15 w15 H15 => ?_
      clear H14
      have hcn1 := hcn
      rw [hr1] at hcn1
      simp only [Fo.cnt] at hcn1
      have hwt1 := hwt
      rw [hr1] at hwt1
      simp only [wtF] at hwt1
      have hpq1 := pure_cons (show pureF (.cons l1 s1 k1 r1) = true by rw [← hr1]; exact hpr)
      have hwl1 : ByteArray.size (strB (wr1 l1 s1 (szF k1) (wrF k1))) ≤ 9 + ByteArray.size s1 + wtF k1 := by have h9 := wrF_len (.cons l1 s1 k1 .nil); simp only [wrF, wtF, List.append_nil, Nat.add_zero] at h9; exact h9
      refine rL [.v, .l 0, .cp (pre := fun w => SlAt w.heap.size w p1 n1 k1) (ih l1 s1 p1 n1 c1 k1 hz1 hpq1.1 hpq1.2.1 (by omega) (by omega)) [] (fun w hb hd => (SlAt.call hk1 hb)), .o (ins := [((.tmp 15), .string az), ((.tmp 17), .string (strB (wr1 l1 s1 (szF k1) (wrF k1))))]) (v := .string (az ++ (strB (wr1 l1 s1 (szF k1) (wrF k1))))) (fun ρ o w ho hi => sadd_run (t := 9) (t' := 9) (x := (.tmp 15)) (y := (.tmp 17)) az (strB (wr1 l1 s1 (szF k1) (wrF k1))) w ho hi.1 hi.2.1 (by omega)), .v] H15 kr fun gs16 w16 H16 => ?_
      clear H15
      show WP _ _ _ _ _ _
      refine g_keep [0, 1, 2, 3, 5, 7, 9, 10, 11, 12] fun ρ1 => ?_
      have HK6 := H16.keep
      clear H16
      refine rL [.e (v := .int .i64 (IntKind.i64.wrap (((i : Nat) : Int) + 1))) (v' := .int .i64 ((i + 1 : Nat) : Int)) (int_eq (wrapAdd_i64 (a := i) (b := 1) (by omega))), .v] HK6 kr fun gs17 w17 H17 => ?_
      clear HK6
      have HL7 : St w.heap.size w w17 [((gs15 2).b, Obj.cells #[.bool l1, .string s1, .slice p1 n1 c1] 24 (0, 0))] := H17.as kr
      clear H17
      have HD8 : St w.heap.size w w17 [] := HL7.sub (List.Sublist.cons _ List.Sublist.slnil)
      show ∃ m, _ ∧ _
      exact ⟨_, (by omega), (i + 1), r1, ((az ++ (strB (wr1 l1 s1 (szF k1) (wrF k1))))), rfl, hR1, hN1, (by omega), (by rw [ByteArray.size_append]; omega), hpq1.2.2, (by rw [hall, hr1, tl_add, tl_strB]; simp only [wrF, List.append_assoc]), HD8, (Is.of ⟨kr, kr, kr, kr, kr, kr, kr, kr, trivial⟩)⟩
    · skip
      refine rS [.e (v := .bool (decide (((i : Nat) : Int) < ((n : Nat) : Int)))) (v' := .bool false) (bool_eq (decide_eq_false (by omega)))] H13 kr fun gs18 w18 H18 => ?_
      clear H13
      refine g_seq kr ?_
      refine g_cond_f kr kr ?_
      refine g_exit 0 kr ?_
      show WP _ _ _ _ _ _
      have hdn := FoR.done hN (by omega)
      rw [hdn] at hall
      have hal : wrF k = tl az := by rw [hall]; exact List.append_nil _
      refine rS [.v, .v, .c (rhead_fn 192 (ByteArray.size az) (by omega) (by omega)), .v, .o (ins := [((.tmp 22), .string (strB (hd 192 (ByteArray.size az)))), ((.tmp 23), .string az)]) (v := .string ((strB (hd 192 (ByteArray.size az))) ++ az)) (fun ρ o w ho hi => sadd_run (t := 9) (t' := 9) (x := (.tmp 22)) (y := (.tmp 23)) (strB (hd 192 (ByteArray.size az))) az w ho hi.1 hi.2.1 (by have h9 := (hd_len 192 (ByteArray.size az)).2; have h8 : ByteArray.size (strB (hd 192 (ByteArray.size az))) ≤ 9 := h9; omega)), .v] H18 kr fun gs19 w19 H19 => ?_
      clear H18
      refine g_ret kr ?_
      show ∃ vs, Res _ _ _ _ vs ∧ _
      refine ⟨[.string ((strB (hd 192 (ByteArray.size az))) ++ az)], (.tmp (.string ((strB (hd 192 (ByteArray.size az))) ++ az)) kr .nil), ?_, H19.below⟩
      exact congrArg Value.string (rw_list hq1 hp1 hp2 hal)
theorem rwrite_fn (l : Bool) (s : ByteArray) (p : Option Addr) (n c : Nat) (k : Fo) (hs : s.size ≤ 140737488355328) (hp1 : mixed l s k.len = false) (hp2 : pureF k = true) (hw : ByteArray.size s + wtF k ≤ 4611686018427387904) : FnP Tryd.prog 30 #[.agg #[.bool l, .string s, .slice p n c]] (fun w => SlAt w.heap.size w p n k) (.string (strB (wr1 l s (szF k) (wrF k)))) := by
  have key : ∀ (m : Nat) (l : Bool) (s : ByteArray) (p : Option Addr) (n c : Nat) (k : Fo), s.size ≤ 140737488355328 → mixed l s k.len = false → pureF k = true → ByteArray.size s + wtF k ≤ 4611686018427387904 → k.cnt < m → FnP Tryd.prog 30 #[.agg #[.bool l, .string s, .slice p n c]] (fun w => SlAt w.heap.size w p n k) (.string (strB (wr1 l s (szF k) (wrF k)))) := by
    intro m
    induction m with
    | zero => intros; omega
    | succ m ih => intro l s p n c k hs hp1 hp2 hw hkm; exact rwrite_step m ih l s p n c k hs hp1 hp2 hw hkm
  exact key (k.cnt + 1) l s p n c k hs hp1 hp2 hw (by omega)
end Go.Proofs.YtdgoaaaagpeaaaaDoor

namespace Go.Proofs.YtdgoaaaagpeaaaaDoor
open Go Go.RowKit
set_option linter.unusedVariables false
set_option maxRecDepth 100000 in
set_option maxHeartbeats 2000000 in
theorem rread_step (t : ByteArray) (ht : t.size ≤ 4100) (ih : ∀ u : ByteArray, u.size < t.size → FnZ Tryd.prog 32 #[.string u] (okR u)) : FnZ Tryd.prog 32 #[.string t] (okR t) := by
  refine FnZ.intro (c := codeOf Tryd.f32) [.cell 2 24, .tmp 3, .tmp 4] 78 Tryd.func32 kr kr kr fun B w0 w L H0 => ?_
  refine g_sreg [0, 1, 2] kr kr ?_
  refine s_alloc H0 (some 2) 24 (.agg #[.bool false, .string ⟨#[]⟩, .slice none 0 0]) kr kr kr ?_
  intro b2 w1 H1
  refine rp [.v, .v] H1 kr fun gs1 w2 H2 => ?_
  show WPs _ _ _ _ [] _ _
  refine s_nil ?_
  show WP _ _ _ _ _ _
  refine g_seq kr ?_
  by_cases h0 : t = ⟨#[]⟩
  · refine rS [.v, .e (v := .bool (ByteArray.toList t == ByteArray.toList (⟨#[]⟩))) (v' := .bool true) (bool_eq (str_same t (⟨#[]⟩) h0))] H2 kr fun gs2 w3 H3 => ?_
    refine g_cond_t kr kr ?_
    refine rS [.v, .s 0, .v, .v] H3 kr fun gs3 w4 H4 => ?_
    have H5 : St B w0 w4 ((b2, r0) :: L) := H4.as kr
    refine g_ret kr ?_
    show ∃ vs, Res _ _ _ _ vs ∧ _
    exact rread_no H5 (List.Sublist.refl _) (bad_empty (by rw [h0]; decide)) kr kr kr
  · have hz := size_ne h0
    refine rS [.v, .e (v := .bool (ByteArray.toList t == ByteArray.toList (⟨#[]⟩))) (v' := .bool false) (bool_eq (str_other t (⟨#[]⟩) h0))] H2 kr fun gs2 w3 H3 => ?_
    refine g_cond_f kr kr ?_
    refine g_skip kr ?_
    show WP _ _ _ _ _ _
    refine g_sreg [0, 1, 2, 3, 4, 5, 6] kr kr ?_
    refine rp [.v, .c (rsize_fn t (by omega) hz)] H3 kr fun gs3 w4 H4 => ?_
    show WPs _ _ _ _ [2, 3, 4, 5, 6] _ _
    rcases opt_cases (rsz t) with hr | ⟨⟨a, b⟩, hr⟩
    · refine s_now 17 (v := rszV (rsz t)) (v' := .tuple #[.int .i64 (-1), .int .i64 0]) (by rw [hr]; rfl) kr ?_
      refine rp [.v, .v, .v, .v, .v] H4 kr fun gs4 w5 H5 => ?_
      show WPs _ _ _ _ [] _ _
      refine s_nil ?_
      show WP _ _ _ _ _ _
      refine g_seq kr ?_
      refine rS [.v, .v, .v, .n, .n, .n, .n, .n, .n, .v] H5 kr fun gs5 w6 H6 => ?_
      refine g_cond_t kr kr ?_
      refine rS [.v, .s 0, .v, .v] H6 kr fun gs6 w7 H7 => ?_
      have H8 : St B w0 w7 ((b2, r0) :: L) := H7.as kr
      refine g_ret kr ?_
      show ∃ vs, Res _ _ _ _ vs ∧ _
      exact rread_no H8 (List.Sublist.refl _) (bad_none ht hr) kr kr kr
    · have hps := rsz_pos hr
      refine s_now 17 (v := rszV (rsz t)) (v' := .tuple #[.int .i64 ((a : Nat) : Int), .int .i64 ((b : Nat) : Int)]) (by rw [hr]; rfl) kr ?_
      refine rp [.v, .v, .v, .v, .v] H4 kr fun gs4 w5 H5 => ?_
      show WPs _ _ _ _ [] _ _
      refine s_nil ?_
      show WP _ _ _ _ _ _
      refine g_seq kr ?_
      by_cases hl : a + b ≤ t.size
      · refine rS [.v, .e (v := .bool (decide (((a : Nat) : Int) < 0))) (v' := .bool false) (bool_eq (decide_eq_false (by omega))), .v, .v, .v, .e (v := .int .i64 (IntKind.i64.wrap (((a : Nat) : Int) + ((b : Nat) : Int)))) (v' := .int .i64 ((a + b : Nat) : Int)) (int_eq (wrapAdd_i64 (a := a) (b := b) (by omega))), .v, .v, .e (v := .bool (decide (((ByteArray.size t : Nat) : Int) < ((a + b : Nat) : Int)))) (v' := .bool false) (bool_eq (decide_eq_false (by omega))), .v] H5 kr fun gs5 w6 H6 => ?_
        refine g_cond_f kr kr ?_
        refine g_skip kr ?_
        show WP _ _ _ _ _ _
        refine g_seq kr ?_
        by_cases hb : by_ t 0 < 192
        · refine rS [.v, .o (ins := [((.tmp 31), .string t), ((.const (.int .i64 0)), .int .i64 0)]) (v := .int .u8 ((by_ t 0 : Nat) : Int)) (fun ρ o w ho hi => sindex_run (t := 9) (kd := .i64) kr (x := (.tmp 31)) (y := (.const (.int .i64 0))) t 0 ho hi.1 hi.2.1 (by omega) w), .e (v := .bool (decide (((by_ t 0 : Nat) : Int) < 192))) (v' := .bool true) (bool_eq (decide_eq_true (by omega)))] H6 kr fun gs6 w7 H7 => ?_
          refine g_cond_t kr kr ?_
          refine rS [.v, .v, .v, .v, .e (v := .int .i64 (IntKind.i64.wrap (((a : Nat) : Int) + ((b : Nat) : Int)))) (v' := .int .i64 ((a + b : Nat) : Int)) (int_eq (wrapAdd_i64 (a := a) (b := b) (by omega))), .o (ins := [((.tmp 34), .string t), ((.tmp 35), .int .i64 ((a : Nat) : Int)), ((.tmp 38), .int .i64 ((a + b : Nat) : Int))]) (v := .string (ByteArray.extract t a (a + b))) (fun ρ o w ho hi => scut2_run (t := 9) (kd := .i64) (kz := .i64) kr (x := (.tmp 34)) (y := (.tmp 38)) (z := (.tmp 35)) t a (a + b) ho hi.1 hi.2.2.1 hi.2.1 (by omega) (by omega) w), .v, .v, .v, .e (v := .int .i64 (IntKind.i64.wrap (((a : Nat) : Int) + ((b : Nat) : Int)))) (v' := .int .i64 ((a + b : Nat) : Int)) (int_eq (wrapAdd_i64 (a := a) (b := b) (by omega))), .s 0, .v, .v] H7 kr fun gs7 w8 H8 => ?_
          have H9 : St B w0 w8 ((b2, .cells #[.bool false, .string (t.extract a (a + b)), .slice none 0 0] 24 (0, 0)) :: L) := H8.as kr
          refine g_ret kr ?_
          show ∃ vs, Res _ _ _ _ vs ∧ _
          exact ⟨[.agg #[.bool false, .string (t.extract a (a + b)), .slice none 0 0], .int .i64 ((a + b : Nat) : Int), .bool true], (.agg (b := b2) (#[.bool false, .string (t.extract a (a + b)), .slice none 0 0]) 24 (0, 0) kr (H9.get 0 kr) kr (.tmp _ kr (.tmp _ kr .nil))), [], .inr ⟨_, _, _, _, _, _, _, rfl, text_is ht hz hr hl hb⟩, H9.sub (List.sublist_cons_self ..)⟩
        · refine rS [.v, .o (ins := [((.tmp 31), .string t), ((.const (.int .i64 0)), .int .i64 0)]) (v := .int .u8 ((by_ t 0 : Nat) : Int)) (fun ρ o w ho hi => sindex_run (t := 9) (kd := .i64) kr (x := (.tmp 31)) (y := (.const (.int .i64 0))) t 0 ho hi.1 hi.2.1 (by omega) w), .e (v := .bool (decide (((by_ t 0 : Nat) : Int) < 192))) (v' := .bool false) (bool_eq (decide_eq_false (by omega)))] H6 kr fun gs6 w7 H7 => ?_
          refine g_cond_f kr kr ?_
          refine g_skip kr ?_
          show WP _ _ _ _ _ _
          refine g_keep [0, 2, 3, 4, 5, 6] fun ρ1 => ?_
          exact rread_list t ht ih a b hr hl (by omega) b2 ρ1 H7
      · refine rS [.v, .e (v := .bool (decide (((a : Nat) : Int) < 0))) (v' := .bool false) (bool_eq (decide_eq_false (by omega))), .v, .v, .v, .e (v := .int .i64 (IntKind.i64.wrap (((a : Nat) : Int) + ((b : Nat) : Int)))) (v' := .int .i64 ((a + b : Nat) : Int)) (int_eq (wrapAdd_i64 (a := a) (b := b) (by omega))), .v, .v, .e (v := .bool (decide (((ByteArray.size t : Nat) : Int) < ((a + b : Nat) : Int)))) (v' := .bool true) (bool_eq (decide_eq_true (by omega))), .v] H5 kr fun gs5 w6 H6 => ?_
        refine g_cond_t kr kr ?_
        refine rS [.v, .s 0, .v, .v] H6 kr fun gs6 w7 H7 => ?_
        have H8 : St B w0 w7 ((b2, r0) :: L) := H7.as kr
        refine g_ret kr ?_
        show ∃ vs, Res _ _ _ _ vs ∧ _
        exact rread_no H8 (List.Sublist.refl _) (bad_long ht hr (by omega)) kr kr kr
theorem rread_z : ∀ (m : Nat) (t : ByteArray), t.size < m → t.size ≤ 4100 → FnZ Tryd.prog 32 #[.string t] (okR t)
  | 0, t, h, _ => by omega
  | m + 1, t, h, ht => rread_step t ht fun u hu => rread_z m u (by omega) (by omega)
/-- What both ways to read give. -/
def decR (t : ByteArray) (v : Value) (T : List (Nat × Obj)) : Prop := ∃ (l : Bool) (s : ByteArray) (p : Option Addr) (n c : Nat) (k : Fo) (e : Nat), v = .tuple #[.agg #[.bool l, .string s, .slice p n c], .int .i64 ((e : Nat) : Int)] ∧ SlIn T p n k ∧ s.size ≤ 100000 ∧
  ((e = 0 ∧ t.size ≤ 4000 ∧ itIs t l s k ⟨#[]⟩ ∧ dp1 l (dpF k) ≤ 8) ∨
   (l = false ∧ s = ⟨#[]⟩ ∧ k = .nil ∧ ((e = 2 ∧ 4000 < t.size) ∨ (e = 4 ∧ t.size ≤ 4000 ∧ noItem t) ∨ (e = 5 ∧ t.size ≤ 4000 ∧ ∃ (l1 : Bool) (s1 : ByteArray) (k1 : Fo), itIs t l1 s1 k1 ⟨#[]⟩ ∧ 8 < dp1 l1 (dpF k1)))))
theorem okDec.dec {t : ByteArray} {v : Value} {T : List (Nat × Obj)} (h : okDec t v T) : decR t v T := by
  rcases h with ⟨h4, rfl, rfl⟩ | ⟨h4, ⟨l, s, p, n, c, k, rfl, h1, h2, h3, h5⟩ | ⟨l, s, k, h1, h2, rfl, rfl⟩ | ⟨hb, rfl, rfl⟩⟩
  · exact ⟨false, ⟨#[]⟩, none, 0, 0, .nil, 2, rfl, SlIn.none _, Nat.zero_le _, .inr ⟨rfl, rfl, rfl, .inl ⟨rfl, h4⟩⟩⟩
  · exact ⟨l, s, p, n, c, k, 0, rfl, h2, by omega, .inl ⟨rfl, h4, h1, h5⟩⟩
  · exact ⟨false, ⟨#[]⟩, none, 0, 0, .nil, 5, rfl, SlIn.none _, Nat.zero_le _, .inr ⟨rfl, rfl, rfl, .inr (.inr ⟨rfl, h4, l, s, k, h1, h2⟩)⟩⟩
  · exact ⟨false, ⟨#[]⟩, none, 0, 0, .nil, 4, rfl, SlIn.none _, Nat.zero_le _, .inr ⟨rfl, rfl, rfl, .inr (.inl ⟨rfl, h4, hb⟩)⟩⟩
theorem decR.zero {t : ByteArray} {e : Nat} (h : (e = 2 ∧ 4000 < t.size) ∨ (e = 4 ∧ t.size ≤ 4000 ∧ noItem t) ∨ (e = 5 ∧ t.size ≤ 4000 ∧ ∃ (l1 : Bool) (s1 : ByteArray) (k1 : Fo), itIs t l1 s1 k1 ⟨#[]⟩ ∧ 8 < dp1 l1 (dpF k1))) : decR t (.tuple #[.agg #[.bool false, .string ⟨#[]⟩, .slice none 0 0], .int .i64 ((e : Nat) : Int)]) [] :=
  ⟨false, ⟨#[]⟩, none, 0, 0, .nil, e, rfl, SlIn.none _, Nat.zero_le _, .inr ⟨rfl, rfl, rfl, h⟩⟩
theorem itIs.inj {t : ByteArray} {l l' : Bool} {s s' : ByteArray} {k k' : Fo} (ht : t.size ≤ 4000) (h : itIs t l s k ⟨#[]⟩) (h' : itIs t l' s' k' ⟨#[]⟩) : l = l' ∧ s = s' ∧ k = k' := by
  obtain ⟨hm, hp, hi⟩ := h
  obtain ⟨hm2, hp2, hi2⟩ := h'
  have hlen := congrArg List.length hi
  have hlen2 := congrArg List.length hi2
  rw [tl_len, List.length_append, wr1_sz hm (pure_len hp)] at hlen
  rw [tl_len, List.length_append, wr1_sz hm2 (pure_len hp2)] at hlen2
  have h1 := sz1_pay hm (show sz1 l s (szF k) ≤ 4000 by omega)
  have h2 := sz1_pay hm2 (show sz1 l' s' (szF k') ≤ 4000 by omega)
  obtain ⟨a, b, c, _⟩ := wr1_inj hm hm2 (pure_len hp).symm (pure_len hp2).symm (by omega) (by omega) (fun q => wrF_inj k k' hp hp2 (by rw [pure_len hp]; omega) q) (hi.symm.trans hi2)
  exact ⟨a, b, c⟩
/-- Both give the same. -/
theorem decR.same {t : ByteArray} {l l' : Bool} {s s' : ByteArray} {k k' : Fo} {e e' : Nat}
    (h : (e = 0 ∧ t.size ≤ 4000 ∧ itIs t l s k ⟨#[]⟩ ∧ dp1 l (dpF k) ≤ 8) ∨ (l = false ∧ s = ⟨#[]⟩ ∧ k = .nil ∧ ((e = 2 ∧ 4000 < t.size) ∨ (e = 4 ∧ t.size ≤ 4000 ∧ noItem t) ∨ (e = 5 ∧ t.size ≤ 4000 ∧ ∃ (l1 : Bool) (s1 : ByteArray) (k1 : Fo), itIs t l1 s1 k1 ⟨#[]⟩ ∧ 8 < dp1 l1 (dpF k1)))))
    (h' : (e' = 0 ∧ t.size ≤ 4000 ∧ itIs t l' s' k' ⟨#[]⟩ ∧ dp1 l' (dpF k') ≤ 8) ∨ (l' = false ∧ s' = ⟨#[]⟩ ∧ k' = .nil ∧ ((e' = 2 ∧ 4000 < t.size) ∨ (e' = 4 ∧ t.size ≤ 4000 ∧ noItem t) ∨ (e' = 5 ∧ t.size ≤ 4000 ∧ ∃ (l1 : Bool) (s1 : ByteArray) (k1 : Fo), itIs t l1 s1 k1 ⟨#[]⟩ ∧ 8 < dp1 l1 (dpF k1))))) :
    e = e' ∧ l = l' ∧ s = s' ∧ k = k' := by
  have hno : noItem t → ∀ (l : Bool) (s : ByteArray) (k : Fo), itIs t l s k ⟨#[]⟩ → False := fun hb l s k ⟨hm, hp, hi⟩ => hb l s k hm hp (hi.trans (List.append_nil _))
  rcases h with ⟨rfl, h4, h1, h2⟩ | ⟨rfl, rfl, rfl, ⟨rfl, h4⟩ | ⟨rfl, h4, hb⟩ | ⟨rfl, h4, l1, s1, k1, h1, h2⟩⟩ <;> rcases h' with ⟨rfl, h4', h1', h2'⟩ | ⟨rfl, rfl, rfl, ⟨rfl, h4'⟩ | ⟨rfl, h4', hb'⟩ | ⟨rfl, h4', l1', s1', k1', h1', h2'⟩⟩
  · exact ⟨rfl, itIs.inj h4 h1 h1'⟩
  · omega
  · exact (hno hb' _ _ _ h1).elim
  · obtain ⟨rfl, rfl, rfl⟩ := itIs.inj h4 h1 h1'; omega
  · omega
  · exact ⟨rfl, rfl, rfl, rfl⟩
  · omega
  · omega
  · exact (hno hb _ _ _ h1').elim
  · omega
  · exact ⟨rfl, rfl, rfl, rfl⟩
  · exact (hno hb _ _ _ h1').elim
  · obtain ⟨rfl, rfl, rfl⟩ := itIs.inj h4 h1 h1'; omega
  · omega
  · exact (hno hb' _ _ _ h1).elim
  · exact ⟨rfl, rfl, rfl, rfl⟩
end Go.Proofs.YtdgoaaaagpeaaaaDoor

namespace Go.Proofs.YtdgoaaaagpeaaaaDoor
open Go Go.RowKit
set_option linter.unusedVariables false
theorem rdec_end {B : Nat} {w0 w : World} {L Z : List (Nat × Obj)} {b1 : Nat} {ρ : Env} {t : ByteArray} {e : Nat} (H : St B w0 w ((b1, r0) :: Z)) (hZ : L.Sublist Z) (h : (e = 2 ∧ 4000 < t.size) ∨ (e = 4 ∧ t.size ≤ 4000 ∧ noItem t) ∨ (e = 5 ∧ t.size ≤ 4000 ∧ ∃ (l1 : Bool) (s1 : ByteArray) (k1 : Fo), itIs t l1 s1 k1 ⟨#[]⟩ ∧ 8 < dp1 l1 (dpF k1))) (h2 : ρ 2 = .pointer (some ⟨b1, 0, none⟩)) (h3 : ρ 3 = .int .i64 ((e : Nat) : Int)) :
    ∃ vs, Res Tryd.prog w ρ [.cell 2 24, .tmp 3] vs ∧ ∃ T, decR t (pack vs) T ∧ St B w0 w (T ++ L) :=
  ⟨[.agg #[.bool false, .string ⟨#[]⟩, .slice none 0 0], .int .i64 ((e : Nat) : Int)], .agg (b := b1) (#[.bool false, .string ⟨#[]⟩, .slice none 0 0]) 24 (0, 0) h2 (H.get 0 rfl) kr (.tmp _ h3 .nil), [], decR.zero h, H.sub (List.Sublist.cons _ hZ)⟩
set_option maxRecDepth 100000 in
set_option maxHeartbeats 2000000 in
theorem rdecode_z (t : ByteArray) (ht : t.size ≤ 4100) : FnZ Tryd.prog 16 #[.string t] (decR t) := by
  refine FnZ.intro (c := codeOf Tryd.f16) [.cell 2 24, .tmp 3] 37 Tryd.func16 kr kr kr fun B w0 w L H0 => ?_
  refine g_sreg [0, 1] kr kr ?_
  refine s_alloc H0 (some 2) 24 (.agg #[.bool false, .string ⟨#[]⟩, .slice none 0 0]) kr kr kr ?_
  intro b1 w1 H1
  refine s_val (some 3) (.int .i64 0) (fun w => by kernel_rfl) kr ?_
  refine s_nil ?_
  refine g_seq kr ?_
  by_cases h4 : t.size ≤ 4000
  · refine rS [.v, .v, .e (v := .bool (decide ((4000 : Int) < ((ByteArray.size t : Nat) : Int)))) (v' := .bool false) (bool_eq (decide_eq_false (by omega)))] H1 kr fun gs1 w2 H2 => ?_
    refine g_cond_f kr kr ?_
    refine g_skip kr ?_
    show WP _ _ _ _ _ _
    refine g_sreg [0, 1, 2, 3, 4, 5, 6, 7, 8, 9] kr kr ?_
    refine rp [.v] H2 kr fun gs2 w3 H3 => ?_
    show WPs _ _ _ _ [1, 2, 3, 4, 5, 6, 7, 8, 9] _ _
    have H4 : St B w0 w3 ((b1, r0) :: L) := H3.as kr
    refine s_callZ H4 (some 13) 32 #[.string t] (rread_z _ t (Nat.lt_succ_self _) (by omega)) kr kr ?_
    rintro _ T w4 (⟨rfl, rfl, hbad⟩ | ⟨l, s, p, n, c, k, m, rfl, hx⟩) H5
    · refine rp [.v, .v, .v, .v] H5 kr fun gs3 w5 H6 => ?_
      show WPs _ _ _ _ [6, 7, 8, 9] _ _
      refine s_alloc H6 (some 4) 24 (.agg #[.bool false, .string ⟨#[]⟩, .slice none 0 0]) kr kr kr ?_
      intro b4 w6 H7
      refine rp [.s 0, .v, .v] H7 kr fun gs4 w7 H8 => ?_
      show WPs _ _ _ _ [] _ _
      refine s_nil ?_
      show WP _ _ _ _ _ _
      refine g_seq kr ?_
      refine rS [.v, .v, .v, .n, .n, .n, .n, .v, .v, .n, .n, .n, .n, .v] H8 kr fun gs5 w8 H9 => ?_
      refine g_cond_t kr kr ?_
      refine rS [.v, .s 1, .v] H9 kr fun gs6 w9 H10 => ?_
      have H11 : St B w0 w9 ((b4, r0) :: (b1, r0) :: L) := H10.as kr
      refine g_ret kr ?_
      show ∃ vs, Res _ _ _ _ vs ∧ _
      exact rdec_end (e := 4) (H11.sub (List.sublist_cons_self ..)) (List.Sublist.refl _) (.inr (.inl ⟨rfl, h4, whole_bad hbad⟩)) kr kr
    · have H6 : St B w0 w4 ((b1, r0) :: (T ++ L)) := H5.perm List.perm_middle.symm
      have hcnt := hx.cnt; have hwt := hx.wt; have hle := hx.le; have hssz := hx.ssz
      refine rp [.v, .v, .v, .v] H6 kr fun gs3 w5 H7 => ?_
      show WPs _ _ _ _ [6, 7, 8, 9] _ _
      refine s_alloc H7 (some 4) 24 (.agg #[.bool false, .string ⟨#[]⟩, .slice none 0 0]) kr kr kr ?_
      intro b4 w6 H8
      refine rp [.s 0, .v, .v] H8 kr fun gs4 w7 H9 => ?_
      show WPs _ _ _ _ [] _ _
      refine s_nil ?_
      show WP _ _ _ _ _ _
      have H10 : St B w0 w7 ((b4, .cells #[.bool l, .string s, .slice p n c] 24 (0, 0)) :: (b1, r0) :: (T ++ L)) := H9.as kr
      refine g_seq kr ?_
      by_cases hm : m = t.size
      · refine g_sreg [0, 1, 2, 3, 4, 5, 6, 7, 8, 9, 10, 11, 12, 13] kr kr ?_
        refine rp [.v, .v, .v, .v, .v, .v, .e (v := .bool (!(((m : Nat) : Int) == ((ByteArray.size t : Nat) : Int)))) (v' := .bool false) (bool_eq (by rw [hm]; simp)), .v, .v, .l 0] H10 kr fun gs5 w8 H11 => ?_
        show WPs _ _ _ _ [10, 11, 12, 13] _ _
        have H12 : St B w0 w8 ((b4, .cells #[.bool l, .string s, .slice p n c] 24 (0, 0)) :: (b1, r0) :: (T ++ L)) := H11.as kr
        have hS := hx.inn.at H12 (fun e he => by simp [he])
        refine s_callP H12 (some 27) 30 #[.agg #[.bool l, .string s, .slice p n c]] (fun w => SlAt w.heap.size w p n k) (.string (strB (wr1 l s (szF k) (wrF k)))) (rwrite_fn l s p n c k (by omega) hx.mix hx.pur (by omega)) hS (fun w => by kernel_rfl) kr ?_
        intro w9 H13
        by_cases he : strB (wr1 l s (szF k) (wrF k)) = t
        · refine rp [.v, .e (v := .bool (!(ByteArray.toList (strB (wr1 l s (szF k) (wrF k))) == ByteArray.toList t))) (v' := .bool false) (bool_eq (by rw [str_same _ t he]; rfl)), .v] H13 kr fun gs6 w10 H14 => ?_
          show WPs _ _ _ _ [] _ _
          refine s_nil ?_
          have hii : itIs t l s k ⟨#[]⟩ := ⟨hx.mix, hx.pur, by rw [← he, tl_strB]; exact (List.append_nil _).symm⟩
          have hdq := dq1_dp1 hx.mix hx.pur
          refine g_cond_f kr kr ?_
          refine g_skip kr ?_
          show WP _ _ _ _ _ _
          refine g_seq kr ?_
          refine g_sreg [0, 1, 2] kr kr ?_
          refine rp [.l 0] H14 kr fun gs7 w11 H15 => ?_
          show WPs _ _ _ _ [1, 2] _ _
          have H16 : St B w0 w11 ((b4, .cells #[.bool l, .string s, .slice p n c] 24 (0, 0)) :: (b1, r0) :: (T ++ L)) := H15.as kr
          have hS2 := hx.inn.at H16 (fun e he => by simp [he])
          refine s_callP H16 (some 33) 29 #[.agg #[.bool l, .string s, .slice p n c]] (fun w => SlAt w.heap.size w p n k) (.int .i64 ((dq1 l (dqF k) : Nat) : Int)) (rdepth_fn l s p n c k (by omega) (by omega)) hS2 (fun w => by kernel_rfl) kr ?_
          intro w12 H17
          by_cases h8 : dq1 l (dqF k) ≤ 8
          · refine rp [.e (v := .bool (decide (8 < ((dq1 l (dqF k) : Nat) : Int)))) (v' := .bool false) (bool_eq (decide_eq_false (by omega)))] H17 kr fun gs8 w13 H18 => ?_
            show WPs _ _ _ _ [] _ _
            refine s_nil ?_
            refine g_cond_f kr kr ?_
            refine g_skip kr ?_
            show WP _ _ _ _ _ _
            refine rS [.l 0, .s 1, .v] H18 kr fun gs9 w14 H19 => ?_
            have H20 : St B w0 w14 ((b4, .cells #[.bool l, .string s, .slice p n c] 24 (0, 0)) :: (b1, .cells #[.bool l, .string s, .slice p n c] 24 (0, 0)) :: (T ++ L)) := H19.as kr
            refine g_ret kr ?_
            show ∃ vs, Res _ _ _ _ vs ∧ _
            exact ⟨[.agg #[.bool l, .string s, .slice p n c], .int .i64 ((0 : Nat) : Int)], (.agg (b := b1) (#[.bool l, .string s, .slice p n c]) 24 (0, 0) kr (H20.get 1 kr) kr (.tmp _ kr .nil)), T, ⟨l, s, p, n, c, k, 0, rfl, hx.inn, by omega, .inl ⟨rfl, h4, hii, by omega⟩⟩, H20.sub (List.Sublist.cons _ (List.sublist_cons_self ..))⟩
          · refine rp [.e (v := .bool (decide (8 < ((dq1 l (dqF k) : Nat) : Int)))) (v' := .bool true) (bool_eq (decide_eq_true (by omega)))] H17 kr fun gs8 w13 H18 => ?_
            show WPs _ _ _ _ [] _ _
            refine s_nil ?_
            refine g_cond_t kr kr ?_
            refine rS [.v, .s 1, .v] H18 kr fun gs9 w14 H19 => ?_
            have H20 : St B w0 w14 ((b4, .cells #[.bool l, .string s, .slice p n c] 24 (0, 0)) :: (b1, r0) :: (T ++ L)) := H19.as kr
            refine g_ret kr ?_
            show ∃ vs, Res _ _ _ _ vs ∧ _
            exact rdec_end (e := 5) (H20.sub (List.sublist_cons_self ..)) (List.sublist_append_right _ _) (.inr (.inr ⟨rfl, h4, l, s, k, hii, by omega⟩)) kr kr
        · refine rp [.v, .e (v := .bool (!(ByteArray.toList (strB (wr1 l s (szF k) (wrF k))) == ByteArray.toList t))) (v' := .bool true) (bool_eq (by rw [str_other _ t he]; rfl)), .v] H13 kr fun gs6 w10 H14 => ?_
          show WPs _ _ _ _ [] _ _
          refine s_nil ?_
          refine g_cond_t kr kr ?_
          refine rS [.v, .s 1, .v] H14 kr fun gs9 w14 H19 => ?_
          have H20 : St B w0 w14 ((b4, .cells #[.bool l, .string s, .slice p n c] 24 (0, 0)) :: (b1, r0) :: (T ++ L)) := H19.as kr
          refine g_ret kr ?_
          show ∃ vs, Res _ _ _ _ vs ∧ _
          refine rdec_end (e := 4) (H20.sub (List.sublist_cons_self ..)) (List.sublist_append_right _ _) (.inr (.inl ⟨rfl, h4, ?_⟩)) kr kr
          intro l' s' k' hm2 hp2 he2
          obtain ⟨rfl, rfl, rfl, _⟩ := hx.is l' s' k' [] hm2 hp2 (by rw [he2, List.append_nil])
          exact he (tl_inj (by rw [tl_strB, he2]))
      · refine rS [.v, .v, .v, .v, .v, .v, .e (v := .bool (!(((m : Nat) : Int) == ((ByteArray.size t : Nat) : Int)))) (v' := .bool true) (bool_eq (by simp; omega)), .v, .v, .n, .n, .n, .n, .v] H10 kr fun gs5 w8 H11 => ?_
        refine g_cond_t kr kr ?_
        refine rS [.v, .s 1, .v] H11 kr fun gs9 w14 H19 => ?_
        have H20 : St B w0 w14 ((b4, .cells #[.bool l, .string s, .slice p n c] 24 (0, 0)) :: (b1, r0) :: (T ++ L)) := H19.as kr
        refine g_ret kr ?_
        show ∃ vs, Res _ _ _ _ vs ∧ _
        refine rdec_end (e := 4) (H20.sub (List.sublist_cons_self ..)) (List.sublist_append_right _ _) (.inr (.inl ⟨rfl, h4, ?_⟩)) kr kr
        intro l' s' k' hm2 hp2 he2
        obtain ⟨_, _, _, h9⟩ := hx.is l' s' k' [] hm2 hp2 (by rw [he2, List.append_nil])
        have := congrArg List.length he2
        rw [tl_len] at this
        exact hm (h9.trans this.symm)
  · refine rS [.v, .v, .e (v := .bool (decide ((4000 : Int) < ((ByteArray.size t : Nat) : Int)))) (v' := .bool true) (bool_eq (decide_eq_true (by omega)))] H1 kr fun gs1 w2 H2 => ?_
    refine g_cond_t kr kr ?_
    refine rS [.v, .s 0, .v] H2 kr fun gs2 w3 H3 => ?_
    have H4 : St B w0 w3 ((b1, r0) :: L) := H3.as kr
    refine g_ret kr ?_
    show ∃ vs, Res _ _ _ _ vs ∧ _
    exact rdec_end (e := 2) H4 (List.Sublist.refl _) (.inl ⟨rfl, by omega⟩) kr kr
end Go.Proofs.YtdgoaaaagpeaaaaDoor

namespace Go.Proofs.YtdgoaaaagpeaaaaDoor
open Go Go.RowKit
set_option linter.unusedVariables false
set_option maxRecDepth 100000 in
set_option maxHeartbeats 2000000 in
theorem rlpReads_fn (q : ByteArray) (hq : q.size ≤ 9223372036854775807) : Fn Tryd.prog 4 #[.string q] (.bool true) := by
  refine Fn.intro (c := codeOf Tryd.f4) [.tmp 2] 33 Tryd.func4 kr kr kr fun w => ?_
  have H0 := St.start w
  refine rS [.v] H0 kr fun gs1 w1 H1 => ?_
  refine rS [.v, .v, .v, .e (v := .int .i64 (if (4100 : Int) < (((ByteArray.size q : Nat) : Int) : Int) then (4100 : Int) else (((ByteArray.size q : Nat) : Int) : Int))) (v' := .int .i64 ((min (ByteArray.size q) 4100 : Nat) : Int)) (int_eq (minN (ByteArray.size q) 4100)), .o (ins := [((.tmp 7), .string q), ((.tmp 10), .int .i64 ((min (ByteArray.size q) 4100 : Nat) : Int))]) (v := .string (ByteArray.extract q 0 (min (ByteArray.size q) 4100))) (fun ρ o w ho hi => scut_run (t := 9) (kd := .i64) kr (x := (.tmp 7)) (y := (.tmp 10)) q (min (ByteArray.size q) 4100) ho hi.1 hi.2.1 (by omega) w), .v] H1 kr fun gs2 w2 H2 => ?_
  obtain ⟨t, ht⟩ : ∃ t, (ByteArray.extract q 0 (min (ByteArray.size q) 4100)) = t := ⟨_, rfl⟩
  have htz : ByteArray.size t ≤ 4100 := by rw [← ht]; simp only [ByteArray.size_extract]; omega
  refine g_now 0 (v := .string (ByteArray.extract q 0 (min (ByteArray.size q) 4100))) (v' := .string t) (by rw [ht]) kr ?_
  refine g_sreg [0, 1, 2, 3, 4, 5, 6, 7] kr kr ?_
  refine rp [.v] H2 kr fun gs3 w3 H3 => ?_
  show WPs _ _ _ _ [1, 2, 3, 4, 5, 6, 7] _ _
  have H4 : St w.heap.size w w3 [] := H3.as kr
  refine s_callZ H4 (some 14) 15 #[.string t] (decode_z t (by omega)) kr kr ?_
  intro v1 T1 w4 hv1 H5
  obtain ⟨l, s, p, n, c, k, e, rfl, hs1, hz1, hd1⟩ := hv1.dec
  refine rp [.v, .v, .v] H5 kr fun gs4 w5 H6 => ?_
  show WPs _ _ _ _ [5, 6, 7] _ _
  refine s_alloc H6 (some 3) 24 (.agg #[.bool false, .string ⟨#[]⟩, .slice none 0 0]) kr kr kr ?_
  intro b3 w6 H7
  refine rp [.s 0, .v] H7 kr fun gs5 w7 H8 => ?_
  show WPs _ _ _ _ [] _ _
  refine s_nil ?_
  show WP _ _ _ _ _ _
  refine g_sreg [0, 1, 2, 3, 4, 5, 6, 7] kr kr ?_
  refine rp [.v] H8 kr fun gs6 w8 H9 => ?_
  show WPs _ _ _ _ [1, 2, 3, 4, 5, 6, 7] _ _
  have H10 : St w.heap.size w w8 ((b3, .cells #[.bool l, .string s, .slice p n c] 24 (0, 0)) :: (T1 ++ [])) := H9.as kr
  refine s_callZ H10 (some 19) 16 #[.string t] (rdecode_z t (by omega)) kr kr ?_
  rintro _ T2 w9 ⟨l2, s2, p2, n2, c2, k2, e2, rfl, hs2, hz2, hd2⟩ H11
  obtain ⟨rfl, rfl, rfl, rfl⟩ := decR.same hd1 hd2
  have H12 : St w.heap.size w w9 ((b3, .cells #[.bool l, .string s, .slice p n c] 24 (0, 0)) :: (T2 ++ (T1 ++ []))) := H11.perm List.perm_middle.symm
  refine rp [.v, .v, .v] H12 kr fun gs7 w10 H13 => ?_
  show WPs _ _ _ _ [5, 6, 7] _ _
  refine s_alloc H13 (some 5) 24 (.agg #[.bool false, .string ⟨#[]⟩, .slice none 0 0]) kr kr kr ?_
  intro b5 w11 H14
  refine rp [.s 0, .v] H14 kr fun gs8 w12 H15 => ?_
  show WPs _ _ _ _ [] _ _
  refine s_nil ?_
  show WP _ _ _ _ _ _
  refine g_sreg [0, 1, 2, 3, 4, 5, 6, 7, 8, 9, 10, 11] kr kr ?_
  refine rp [.c alive_fn, .v, .v, .v, .e (v := .bool (((e : Nat) : Int) == ((e : Nat) : Int))) (v' := .bool true) (bool_eq (by simp)), .v, .v, .l 1, .l 0] H15 kr fun gs9 w13 H16 => ?_
  show WPs _ _ _ _ [9, 10, 11] _ _
  have H17 : St w.heap.size w w13 ((b5, .cells #[.bool l, .string s, .slice p2 n2 c2] 24 (0, 0)) :: (b3, .cells #[.bool l, .string s, .slice p n c] 24 (0, 0)) :: (T2 ++ (T1 ++ []))) := H16.as kr
  have hA := hs1.at H17 (fun e he => by simp [he])
  have hB := hs2.at H17 (fun e he => by simp [he])
  refine s_callP H17 (some 31) 17 #[.agg #[.bool l, .string s, .slice p n c], .agg #[.bool l, .string s, .slice p2 n2 c2]] (fun w => SlAt w.heap.size w p n k ∧ SlAt w.heap.size w p2 n2 k) (.bool (like1 l s k l s k)) (like_fn l s p n c k l s p2 n2 c2 k (by omega) (by omega)) ⟨hA, hB⟩ (fun w => by kernel_rfl) kr ?_
  intro w14 H18
  refine s_now 31 (v := .bool (like1 l s k l s k)) (v' := .bool true) (bool_eq (like1_eq.2 ⟨rfl, rfl, rfl⟩)) kr ?_
  refine rp [.v, .v] H18 kr fun gs10 w15 H19 => ?_
  show WPs _ _ _ _ [] _ _
  refine s_nil ?_
  refine g_ret kr ?_
  show ∃ vs, Res _ _ _ _ vs ∧ _
  exact ⟨[.bool true], (.tmp (.bool true) kr .nil), rfl, H19.below⟩
end Go.Proofs.YtdgoaaaagpeaaaaDoor

namespace Go.Proofs.YtdgoaaaagpeaaaaDoor
open Go Go.RowKit
set_option linter.unusedVariables false
def firstC : Array Value := (Go.Pinned.utf8FirstZ.map fun n => Value.int .u8 ((n : Nat) : Int)).toArray
def rangesC : Array Value := #[.int .u8 128, .int .u8 191, .int .u8 160, .int .u8 191, .int .u8 128, .int .u8 159, .int .u8 144, .int .u8 191, .int .u8 128, .int .u8 143, .int .u8 0, .int .u8 0, .int .u8 0, .int .u8 0, .int .u8 0, .int .u8 0, .int .u8 0, .int .u8 0, .int .u8 0, .int .u8 0, .int .u8 0, .int .u8 0, .int .u8 0, .int .u8 0, .int .u8 0, .int .u8 0, .int .u8 0, .int .u8 0, .int .u8 0, .int .u8 0, .int .u8 0, .int .u8 0]
/-- The settled world, the tables laid. -/
noncomputable def laidWorld (os : Os) : World :=
  let w0 := World.holding Tryd.prog os ⟨#[], #[], []⟩
  { w0 with heap := (w0.heap.modify 0 fun
      | .cells _ t frozen => .cells firstC t frozen
      | o => o).modify 1 fun
      | .cells _ t frozen => .cells rangesC t frozen
      | o => o }
abbrev laidL : List (String × DataW Unit) := [("unicode/utf8.acceptRanges", Rows.laid_unicode_utf8_acceptRanges), ("unicode/utf8.first", Rows.laid_unicode_utf8_first)]
theorem laidWorld_met (os : Os) (args : Array Value) : laidMetH Tryd.prog [("unicode/utf8.acceptRanges", Rows.laid_unicode_utf8_acceptRanges), ("unicode/utf8.first", Rows.laid_unicode_utf8_first)] ((laidWorld os).forCall (fun _ _ => 0) ⟨#[], args, []⟩).memory := by
  rw [MakeChecks.laidMetH_plain _ _ _ kr]
  exact laidMet_of_run' 8 kr kr
end Go.Proofs.YtdgoaaaagpeaaaaDoor
