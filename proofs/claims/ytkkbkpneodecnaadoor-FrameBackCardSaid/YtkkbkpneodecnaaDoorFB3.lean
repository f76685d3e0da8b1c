/-
  Texts of the proof, part 3.
-/
import Derived.Test.YtkkbkpneodecnaaDoorProg
import Derived.Recover
import Derived.Scope
import Derived.Test.YtkkbkpneodecnaaDoorFB1
import Derived.Test.YtkkbkpneodecnaaDoorFB2

namespace Go.Proofs.YtkkbkpneodecnaaDoor
open Go Go.RowKit
set_option linter.unusedVariables false
theorem wrapN_u8 {a : Nat} (h : a ≤ 255) : IntKind.u8.wrap (a : Int) = (a : Int) := by rw [IntKind.wrap_u8]; omega
abbrev dc (t : ByteArray) : Obj := .cells #[.string t] 66 (0, 0)
def chF : List PanicEntry := [{ v := .iface 24 (.int .i64 4), recovered := false }]
/-- A call that takes from the decoder in block bd, or ends by a panic. -/
def FnX (P : Program) (f : Nat) (args : Array Value) (bd : Nat) (t : ByteArray) (ok : ByteArray → Value → List (Nat × Obj) → Prop) (bad : Prop) : Prop :=
  ∀ (B : Nat) (w0 w : World) (L : List (Nat × Obj)), St B w0 w ((bd, dc t) :: L) → Calls P f args w fun e w' =>
    (∃ v u T, e = .returned v ∧ ok u v T ∧ St B w0 w' ((bd, dc u) :: (T ++ L))) ∨ (e = .panicked chF ∧ bad ∧ St B w0 w' L)
abbrev outX (P : Program) (rs : List ResultVar) (B : Nat) (w0 : World) (bd : Nat) (L : List (Nat × Obj)) (ok : ByteArray → Value → List (Nat × Obj) → Prop) (bad : Prop) : Exit → Env → World → Prop :=
  endsX P rs (fun v w' => ∃ u T, ok u v T ∧ St B w0 w' ((bd, dc u) :: (T ++ L))) (fun ch w' => ch = chF ∧ bad ∧ St B w0 w' L)
theorem FnX.intro {P : Program} {f : Nat} {fn : Func} {c : Code} (rs : List ResultVar) (N : Nat) {args : Array Value} {bd : Nat} {t : ByteArray} {ok : ByteArray → Value → List (Nat × Obj) → Prop} {bad : Prop} (hf : P.funcs[f]? = some fn) (hb : fn.body = some c) (hr : fn.results.toList = rs) (hn : args.size + (fn.ntmps - args.size) = N)
    (h : ∀ B w0 w L, St B w0 w ((bd, dc t) :: L) → WP P N c (outX P rs B w0 bd L ok bad) (ini args) w) : FnX P f args bd t ok bad := fun B w0 w L HS =>
  (calls_introX hf hb hr hn (h B w0 w L HS)).mono fun e w' q => by
    rcases q with ⟨v, he, u, T, h1, h2⟩ | ⟨ch, he, h0, h1, h2⟩
    · exact .inl ⟨v, u, T, he, h1, h2⟩
    · exact .inr ⟨by rw [he, h0], h1, h2⟩
section
variable {P : Program} {N : Nat} {ops : Array Oper} {Q : Exit → Env → World → Prop} {K : Env → World → Prop} {ρ : Env} {w w0 : World} {i B : Nat} {r : List Nat} {l : List (Nat × Obj)}
theorem x_callX {bd : Nat} {t : ByteArray} {L : List (Nat × Obj)} (HS : St B w0 w l) (hp : ((bd, dc t) :: L).Perm l) (d : Option Nat) (f : Nat) (args : Array Value) {ok : ByteArray → Value → List (Nat × Obj) → Prop} {bad : Prop} (hc : FnX P f args bd t ok bad)
    (h : opv P ops i ρ w = some (d, true, .ok (.enter f args) w)) (hd : dOK d N = true)
    (kp : ∀ w', bad → St B w0 w' L → Q (.panic chF) ρ w')
    (kk : ∀ v u T w', ok u v T → St B w0 w' ((bd, dc u) :: (T ++ L)) → WPsX P N ops Q K r (updO ρ d v) w') : WPsX P N ops Q K (i :: r) ρ w :=
  x_call d f args _ (hc B w0 w L (HS.perm hp)) h hd fun e w' q => by
    rcases q with ⟨v, u, T, he, h1, h2⟩ | ⟨he, h1, h2⟩
    · exact .inl ⟨v, he, kk v u T w' h1 h2⟩
    · exact .inr ⟨chF, he, kp w' h1 h2⟩
/-- The region ends here. -/
theorem x_end (l1 : List Nat) (h : WPs P N ops K l1 ρ w) : WPsX P N ops Q K l1 ρ w := x_seg l1 (l2 := []) (by simp) h
end
set_option maxRecDepth 100000 in
set_option maxHeartbeats 2000000 in
theorem take_x (bd m : Nat) (t : ByteArray) (ht : t.size ≤ 100000) : FnX Tryd.prog 40 #[.pointer (some ⟨bd, 0, none⟩), .int .u64 ((m : Nat) : Int)] bd t (fun u v T => m ≤ t.size ∧ v = .string (t.extract 0 m) ∧ u = t.extract m t.size ∧ T = []) (t.size < m) := by
  refine FnX.intro (c := codeOf Tryd.f40) [.tmp 4] 31 Tryd.func40 kr kr kr fun B w0 w L H0 => ?_
  refine rS [.v] H0 kr fun gs1 w1 H1 => ?_
  refine g_seq kr ?_
  by_cases hm : m ≤ t.size
  · refine rS [.v, .v, .v, .v, .l 0, .v, .e (v := .int .u64 (IntKind.u64.wrap (((ByteArray.size t : Nat) : Int)))) (v' := .int .u64 ((ByteArray.size t : Nat) : Int)) (int_eq (wrapN_u64 (a := ByteArray.size t) (by omega))), .e (v := .bool (decide (((ByteArray.size t : Nat) : Int) < ((m : Nat) : Int)))) (v' := .bool false) (bool_eq (decide_eq_false (by omega)))] H1 kr fun gs2 w2 H2 => ?_
    refine g_cond_f kr kr ?_
    refine g_skip kr ?_
    show WP _ _ _ _ _ _
    refine rS [.v, .v, .v, .l 0, .v, .o (ins := [((.tmp 18), .string t), ((.tmp 19), .int .u64 ((m : Nat) : Int))]) (v := .string (ByteArray.extract t 0 m)) (fun ρ o w ho hi => scut_run (t := 9) (kd := .u64) kr (x := (.tmp 18)) (y := (.tmp 19)) t m ho hi.1 hi.2.1 (by omega) w), .v] H2 kr fun gs3 w3 H3 => ?_
    refine rS [.v, .v, .v, .v, .l 0, .v, .o (ins := [((.tmp 25), .string t), ((.tmp 26), .int .u64 ((m : Nat) : Int))]) (v := .string (ByteArray.extract t m (ByteArray.size t))) (fun ρ o w ho hi => scut3_run (t := 9) (kz := .u64) kr (x := (.tmp 25)) (z := (.tmp 26)) t m ho hi.1 hi.2.1 (by omega) w), .v, .v, .s 0] H3 kr fun gs4 w4 H4 => ?_
    refine rS [.v, .v] H4 kr fun gs5 w5 H5 => ?_
    refine g_ret kr ?_
    show ∃ vs, Res _ _ _ _ vs ∧ _
    exact ⟨[.string (t.extract 0 m)], (.tmp (.string (t.extract 0 m)) kr .nil), _, [], ⟨hm, rfl, rfl, rfl⟩, H5.as kr⟩
  · refine rS [.v, .v, .v, .v, .l 0, .v, .e (v := .int .u64 (IntKind.u64.wrap (((ByteArray.size t : Nat) : Int)))) (v' := .int .u64 ((ByteArray.size t : Nat) : Int)) (int_eq (wrapN_u64 (a := ByteArray.size t) (by omega))), .e (v := .bool (decide (((ByteArray.size t : Nat) : Int) < ((m : Nat) : Int)))) (v' := .bool true) (bool_eq (decide_eq_true (by omega)))] H1 kr fun gs2 w2 H2 => ?_
    refine g_cond_t kr kr ?_
    refine x_reg0 [0, 1] kr ?_
    refine x_seg [0] (l2 := [1]) rfl ?_
    refine rp [.v] H2 kr fun gs3 w3 H3 => ?_
    show WPs _ _ _ _ [] _ _
    refine s_nil ?_
    refine x_panic none (.iface 24 (.int .i64 4)) kr ?_
    have H4 : St B w0 w3 ((bd, dc t) :: L) := H3.as kr
    exact ⟨rfl, by omega, H4.sub (List.sublist_cons_self ..)⟩
set_option maxRecDepth 100000 in
set_option maxHeartbeats 2000000 in
theorem count_x (bd f : Nat) (t : ByteArray) (hf : f < 64) (ht : t.size ≤ 100000) : FnX Tryd.prog 42 #[.pointer (some ⟨bd, 0, none⟩), .int .u8 ((f : Nat) : Int)] bd t (fun u v T => ∃ n, cntS f t = some (n, u) ∧ v = .int .u64 ((n : Nat) : Int) ∧ T = []) (cntS f t = none) := by
  refine FnX.intro (c := codeOf Tryd.f42) [.tmp 4] 24 Tryd.func42 kr kr kr fun B w0 w L H0 => ?_
  refine rS [.v] H0 kr fun gs1 w1 H1 => ?_
  refine g_seq kr ?_
  by_cases hm : f ≤ 55
  · refine rS [.v, .e (v := .bool (decide (((f : Nat) : Int) ≤ 55))) (v' := .bool true) (bool_eq (decide_eq_true (by omega)))] H1 kr fun gs2 w2 H2 => ?_
    refine g_cond_t kr kr ?_
    refine rS [.v, .e (v := .int .u64 (IntKind.u64.wrap (((f : Nat) : Int)))) (v' := .int .u64 ((f : Nat) : Int)) (int_eq (wrapN_u64 (a := f) (by omega))), .v] H2 kr fun gs3 w3 H3 => ?_
    refine g_ret kr ?_
    show ∃ vs, Res _ _ _ _ vs ∧ _
    exact ⟨[.int .u64 ((f : Nat) : Int)], (.tmp (.int .u64 ((f : Nat) : Int)) kr .nil), t, [], ⟨f, by unfold cntS; rw [if_pos hm], rfl, rfl⟩, H3.as kr⟩
  · refine rS [.v, .e (v := .bool (decide (((f : Nat) : Int) ≤ 55))) (v' := .bool false) (bool_eq (decide_eq_false (by omega)))] H1 kr fun gs2 w2 H2 => ?_
    refine g_cond_f kr kr ?_
    refine g_skip kr ?_
    show WP _ _ _ _ _ _
    refine x_sreg [0, 1, 2, 3, 4, 5, 6, 7, 8, 9, 10] kr kr ?_
    refine x_seg [0, 1, 2, 3] (l2 := [4, 5, 6, 7, 8, 9, 10]) rfl ?_
    refine rp [.v, .v, .e (v := .int .u8 (IntKind.u8.wrap (((f : Nat) : Int) - 55))) (v' := .int .u8 (((f - 55 : Nat) : Nat) : Int)) (int_eq (by rw [show ((f : Nat) : Int) - 55 = ((f - 55 : Nat) : Int) by omega]; exact wrapN_u8 (by omega))), .e (v := .int .u64 (IntKind.u64.wrap (((f - 55 : Nat) : Int)))) (v' := .int .u64 ((f - 55 : Nat) : Int)) (int_eq (wrapN_u64 (a := f - 55) (by omega)))] H2 kr fun gs3 w3 H3 => ?_
    show WPs _ _ _ _ [] _ _
    refine s_nil ?_
    have H4 : St B w0 w3 ((bd, dc t) :: L) := H3.as kr
    refine x_callX H4 (List.Perm.refl _) (some 16) 40 #[.pointer (some ⟨bd, 0, none⟩), .int .u64 ((f - 55 : Nat) : Int)] (take_x bd (f - 55) t ht) kr kr (fun w' hb HS => ?_) ?_
    · exact ⟨rfl, by unfold cntS; rw [if_neg hm, if_pos hb], HS⟩
    rintro _ _ _ w4 ⟨hle, rfl, rfl, rfl⟩ H5
    refine x_end _ ?_
    refine rp [.c (number_fn (t.extract 0 (f - 55)))] H5 kr fun gs4 w5 H6 => ?_
    show WPs _ _ _ _ [6, 7, 8, 9, 10] _ _
    refine s_now 17 (v := numT (numV (t.extract 0 (f - 55)))) (v' := .tuple #[.int .u64 (((numV (t.extract 0 (f - 55))).1 : Nat) : Int), .bool (numV (t.extract 0 (f - 55))).2]) rfl kr ?_
    refine rp [.v, .v, .v, .v, .v] H6 kr fun gs5 w6 H7 => ?_
    show WPs _ _ _ _ [] _ _
    refine s_nil ?_
    show WP _ _ _ _ _ _
    refine g_seq kr ?_
    by_cases hn : (numV (t.extract 0 (f - 55))).1 ≤ 55
    · refine rS [.v, .e (v := .bool (decide ((((numV (t.extract 0 (f - 55))).1 : Nat) : Int) ≤ 55))) (v' := .bool true) (bool_eq (decide_eq_true (by omega)))] H7 kr fun gs6 w7 H8 => ?_
      refine g_cond_t kr kr ?_
      refine x_reg0 [0, 1] kr ?_
      refine x_seg [0] (l2 := [1]) rfl ?_
      refine rp [.v] H8 kr fun gs7 w8 H9 => ?_
      show WPs _ _ _ _ [] _ _
      refine s_nil ?_
      refine x_panic none (.iface 24 (.int .i64 4)) kr ?_
      have H10 : St B w0 w8 ((bd, dc (t.extract (f - 55) t.size)) :: L) := H9.as kr
      exact ⟨rfl, by unfold cntS; rw [if_neg hm, if_neg (by omega), if_pos hn], H10.sub (List.sublist_cons_self ..)⟩
    · refine rS [.v, .e (v := .bool (decide ((((numV (t.extract 0 (f - 55))).1 : Nat) : Int) ≤ 55))) (v' := .bool false) (bool_eq (decide_eq_false (by omega)))] H7 kr fun gs6 w7 H8 => ?_
      refine g_cond_f kr kr ?_
      refine g_skip kr ?_
      show WP _ _ _ _ _ _
      refine rS [.v, .v] H8 kr fun gs7 w8 H9 => ?_
      refine g_ret kr ?_
      show ∃ vs, Res _ _ _ _ vs ∧ _
      exact ⟨[.int .u64 (((numV (t.extract 0 (f - 55))).1 : Nat) : Int)], (.tmp _ kr .nil), t.extract (f - 55) t.size, [], ⟨_, by unfold cntS; rw [if_neg hm, if_neg (by omega), if_neg hn], rfl, rfl⟩, H9.as kr⟩
end Go.Proofs.YtkkbkpneodecnaaDoor

namespace Go.Proofs.YtkkbkpneodecnaaDoor
open Go Go.RowKit
set_option linter.unusedVariables false
def FnY (P : Program) (f : Nat) (args : Array Value) (ok : Value → List (Nat × Obj) → Prop) (bad : Prop) : Prop :=
  ∀ (B : Nat) (w0 w : World) (L : List (Nat × Obj)), St B w0 w L → Calls P f args w fun e w' =>
    (∃ v T, e = .returned v ∧ ok v T ∧ St B w0 w' (T ++ L)) ∨ (e = .panicked chF ∧ bad ∧ St B w0 w' L)
abbrev outY (P : Program) (rs : List ResultVar) (B : Nat) (w0 : World) (L : List (Nat × Obj)) (ok : Value → List (Nat × Obj) → Prop) (bad : Prop) : Exit → Env → World → Prop :=
  endsX P rs (fun v w' => ∃ T, ok v T ∧ St B w0 w' (T ++ L)) (fun ch w' => ch = chF ∧ bad ∧ St B w0 w' L)
theorem FnY.intro {P : Program} {f : Nat} {fn : Func} {c : Code} (rs : List ResultVar) (N : Nat) {args : Array Value} {ok : Value → List (Nat × Obj) → Prop} {bad : Prop} (hf : P.funcs[f]? = some fn) (hb : fn.body = some c) (hr : fn.results.toList = rs) (hn : args.size + (fn.ntmps - args.size) = N)
    (h : ∀ B w0 w L, St B w0 w L → WP P N c (outY P rs B w0 L ok bad) (ini args) w) : FnY P f args ok bad := fun B w0 w L HS =>
  (calls_introX hf hb hr hn (h B w0 w L HS)).mono fun e w' q => by
    rcases q with ⟨v, he, T, h1, h2⟩ | ⟨ch, he, h0, h1, h2⟩
    · exact .inl ⟨v, T, he, h1, h2⟩
    · exact .inr ⟨by rw [he, h0], h1, h2⟩
theorem x_callY {P : Program} {N : Nat} {ops : Array Oper} {Q : Exit → Env → World → Prop} {K : Env → World → Prop} {ρ : Env} {w w0 : World} {i B : Nat} {r : List Nat} {l : List (Nat × Obj)} (HS : St B w0 w l) (d : Option Nat) (f : Nat) (args : Array Value) {ok : Value → List (Nat × Obj) → Prop} {bad : Prop} (hc : FnY P f args ok bad)
    (h : opv P ops i ρ w = some (d, true, .ok (.enter f args) w)) (hd : dOK d N = true)
    (kp : ∀ w', bad → St B w0 w' l → Q (.panic chF) ρ w')
    (kk : ∀ v T w', ok v T → St B w0 w' (T ++ l) → WPsX P N ops Q K r (updO ρ d v) w') : WPsX P N ops Q K (i :: r) ρ w :=
  x_call d f args _ (hc B w0 w l HS) h hd fun e w' q => by
    rcases q with ⟨v, T, he, h1, h2⟩ | ⟨he, h1, h2⟩
    · exact .inl ⟨v, he, kk v T w' h1 h2⟩
    · exact .inr ⟨chF, he, kp w' h1 h2⟩
def okItem (t : ByteArray) (u : ByteArray) (v : Value) (T : List (Nat × Obj)) : Prop := ∃ (l : Bool) (s : ByteArray) (p : Option Addr) (n c : Nat) (k : Fo), v = .agg #[.bool l, .string s, .slice p n c] ∧ itIs t l s k u ∧ SlIn T p n k ∧ s.size ≤ t.size
def ItemC (bd : Nat) (t : ByteArray) : Prop := FnX Tryd.prog 28 #[.pointer (some ⟨bd, 0, none⟩)] bd t (okItem t) (itBad t)
def okList (t : ByteArray) (v : Value) (T : List (Nat × Obj)) : Prop := ∃ (p : Option Addr) (n c : Nat) (k : Fo), v = .agg #[.bool true, .string ⟨#[]⟩, .slice p n c] ∧ tl t = wrF k ∧ pureF k = true ∧ SlIn T p n k
def ListC (t : ByteArray) : Prop := FnY Tryd.prog 43 #[.string t] (okList t) (liBad t)
theorem SlIn.none (T : List (Nat × Obj)) : SlIn T none 0 .nil := ⟨rfl, by omega, .inl rfl⟩
theorem first_by {t : ByteArray} (h : t.size ≠ 0) : by_ (t.extract 0 1) 0 = by_ t 0 := by
  obtain ⟨l, e⟩ := by0_eq h
  unfold by_
  rw [tl_extract, e]; rfl
set_option maxRecDepth 100000 in
set_option maxHeartbeats 2000000 in
theorem item_step (bd : Nat) (t : ByteArray) (ht : t.size ≤ 100000) (hl : ∀ s : ByteArray, s.size < t.size → ListC s) : ItemC bd t := by
  refine FnX.intro (c := codeOf Tryd.f28) [.cell 2 43] 36 Tryd.func28 kr kr kr fun B w0 w L H0 => ?_
  refine g_sreg [0] kr kr ?_
  refine s_alloc H0 (some 2) 43 (.agg #[.bool false, .string ⟨#[]⟩, .slice none 0 0]) kr kr kr ?_
  intro b1 w1 H1
  refine s_nil ?_
  refine x_sreg [0, 1, 2] kr kr ?_
  refine x_seg [0] (l2 := [1, 2]) rfl ?_
  refine rp [.v] H1 kr fun gs2 w2 H2 => ?_
  show WPs _ _ _ _ [] _ _
  refine s_nil ?_
  have H3 : St B w0 w2 ((b1, .cells #[.bool false, .string ⟨#[]⟩, .slice none 0 0] 43 (0, 0)) :: (bd, dc t) :: L) := H2.as kr
  refine x_callX H3 (List.Perm.swap _ _ _) (some 6) 40 #[.pointer (some ⟨bd, 0, none⟩), .int .u64 ((1 : Nat) : Int)] (take_x bd 1 t ht) kr kr (fun w' hb HS => ?_) ?_
  · exact ⟨rfl, bad_empty hb, HS.sub (List.sublist_cons_self ..)⟩
  rintro _ _ _ w3 ⟨hle, rfl, rfl, rfl⟩ H4
  have h0 : t.size ≠ 0 := by omega
  have hb := first_by h0
  have hlt := by_lt t 0
  have hz1 : (t.extract 0 1).size = 1 := by rw [ext_size t 0 1 (by omega) (by omega)]
  have hzt : (t.extract 1 t.size).size = t.size - 1 := by rw [ext_size t 1 _ (Nat.le_refl _) (by omega)]
  have hfs := first_single h0
  refine x_end _ ?_
  refine rp [.v] H4 kr fun gs3 w4 H5 => ?_
  show WPs _ _ _ _ [] _ _
  refine s_nil ?_
  show WP _ _ _ _ _ _
  refine g_block 0 kr ?_
  refine rS [.v, .c (single_fn (t.extract 0 1)), .v] H5 kr fun gs4 w5 H6 => ?_
  by_cases h128 : by_ t 0 < 128
  · have hs1 : single (t.extract 0 1) = true := by rw [hfs]; exact decide_eq_true h128
    refine g_now 15 (v := .bool (single (t.extract 0 1))) (v' := .bool true) (bool_eq hs1) kr ?_
    refine g_cond_t kr kr ?_
    refine rS [.v, .c (textOf_fn (t.extract 0 1) (by omega)), .s 1] H6 kr fun gs5 w6 H7 => ?_
    have H8 : St B w0 w6 ((bd, dc (t.extract 1 t.size)) :: (b1, .cells #[.bool false, .string (t.extract 0 1), .slice none 0 0] 43 (0, 0)) :: L) := H7.as kr
    refine g_ret kr ?_
    show ∃ vs, Res _ _ _ _ vs ∧ _
    exact ⟨[.agg #[.bool false, .string (t.extract 0 1), .slice none 0 0]], (.agg (b := b1) (#[.bool false, .string (t.extract 0 1), .slice none 0 0]) 43 (0, 0) kr (H8.get 1 kr) kr .nil), _, [], ⟨_, _, _, _, _, _, rfl, is_single h0 h128, SlIn.none _, by omega⟩, H8.sub (List.Sublist.cons_cons _ (List.Sublist.cons _ (List.Sublist.refl _)))⟩
  · have hs1 : single (t.extract 0 1) = false := by rw [hfs]; exact decide_eq_false h128
    refine g_now 15 (v := .bool (single (t.extract 0 1))) (v' := .bool false) (bool_eq hs1) kr ?_
    refine g_cond_f kr kr ?_
    by_cases h192 : by_ t 0 < 192
    · refine rS [.v, .o (ins := [((.tmp 21), .string (t.extract 0 1)), ((.const (.int .i64 0)), .int .i64 0)]) (v := .int .u8 ((by_ (t.extract 0 1) 0 : Nat) : Int)) (fun ρ o w ho hi => sindex_run (t := 9) (kd := .i64) kr (x := (.tmp 21)) (y := (.const (.int .i64 0))) (t.extract 0 1) 0 ho hi.1 hi.2.1 (by omega) w), .e (v := .bool (decide (((by_ (t.extract 0 1) 0 : Nat) : Int) < 192))) (v' := .bool true) (bool_eq (decide_eq_true (by omega))), .v] H6 kr fun gs5 w6 H7 => ?_
      refine g_cond_t kr kr ?_
      refine x_sreg [0, 1, 2, 3, 4, 5, 6, 7] kr kr ?_
      refine x_seg [0, 1, 2, 3, 4] (l2 := [5, 6, 7]) rfl ?_
      refine rp [.v, .v, .v, .o (ins := [((.tmp 26), .string (t.extract 0 1)), ((.const (.int .i64 0)), .int .i64 0)]) (v := .int .u8 ((by_ (t.extract 0 1) 0 : Nat) : Int)) (fun ρ o w ho hi => sindex_run (t := 9) (kd := .i64) kr (x := (.tmp 26)) (y := (.const (.int .i64 0))) (t.extract 0 1) 0 ho hi.1 hi.2.1 (by omega) w), .e (v := .int .u8 (IntKind.u8.wrap (((by_ (t.extract 0 1) 0 : Nat) : Int) - 128))) (v' := .int .u8 ((by_ t 0 - 128 : Nat) : Int)) (int_eq (by rw [show ((by_ (t.extract 0 1) 0 : Nat) : Int) - 128 = ((by_ t 0 - 128 : Nat) : Int) by omega]; exact wrapN_u8 (by omega)))] H7 kr fun gs6 w7 H8 => ?_
      show WPs _ _ _ _ [] _ _
      refine s_nil ?_
      have H9 : St B w0 w7 ((bd, dc (t.extract 1 t.size)) :: (b1, .cells #[.bool false, .string ⟨#[]⟩, .slice none 0 0] 43 (0, 0)) :: L) := H8.as kr
      refine x_callX H9 (List.Perm.refl _) (some 29) 42 #[.pointer (some ⟨bd, 0, none⟩), .int .u8 ((by_ t 0 - 128 : Nat) : Int)] (count_x bd (by_ t 0 - 128) (t.extract 1 t.size) (by omega) (by omega)) kr kr (fun w' hb HS => ?_) ?_
      · exact ⟨rfl, bad_count false ht h0 (by omega) (by simp; omega) hb, HS.sub (List.sublist_cons_self ..)⟩
      rintro _ u _ w8 ⟨n, hc, rfl, rfl⟩ H10
      have hu := (cnt_sound hc (by omega) 0).2.2
      refine x_callX (L := (b1, .cells #[.bool false, .string ⟨#[]⟩, .slice none 0 0] 43 (0, 0)) :: L) H10 (List.Perm.refl _) (some 30) 40 #[.pointer (some ⟨bd, 0, none⟩), .int .u64 ((n : Nat) : Int)] (take_x bd n u (by omega)) kr kr (fun w' hb HS => ?_) ?_
      · exact ⟨rfl, bad_take false ht h0 (by omega) (by simp; omega) hc hb, HS.sub (List.sublist_cons_self ..)⟩
      rintro _ _ _ w9 ⟨hnu, rfl, rfl, rfl⟩ H11
      have hzn : (u.extract 0 n).size = n := by rw [ext_size u 0 n hnu (by omega)]; omega
      refine x_end _ ?_
      refine rp [.v] H11 kr fun gs7 w10 H12 => ?_
      show WPs _ _ _ _ [] _ _
      refine s_nil ?_
      show WP _ _ _ _ _ _
      refine g_seq kr ?_
      refine rS [.v, .c (single_fn (u.extract 0 n))] H12 kr fun gs8 w11 H13 => ?_
      rcases Bool.eq_false_or_eq_true (single (u.extract 0 n)) with hs2 | hs2
      · refine g_now 32 (v := .bool (single (u.extract 0 n))) (v' := .bool true) (bool_eq hs2) kr ?_
        refine g_cond_t kr kr ?_
        refine x_reg0 [0, 1] kr ?_
        refine x_seg [0] (l2 := [1]) rfl ?_
        refine rp [.v] H13 kr fun gs9 w12 H14 => ?_
        show WPs _ _ _ _ [] _ _
        refine s_nil ?_
        refine x_panic none (.iface 24 (.int .i64 4)) kr ?_
        have H15 : St B w0 w12 ((bd, dc (u.extract n u.size)) :: (b1, .cells #[.bool false, .string ⟨#[]⟩, .slice none 0 0] 43 (0, 0)) :: L) := H14.as kr
        exact ⟨rfl, bad_one ht h0 (by omega) h192 hc hs2, H15.sub (List.Sublist.cons _ (List.sublist_cons_self ..))⟩
      · refine g_now 32 (v := .bool (single (u.extract 0 n))) (v' := .bool false) (bool_eq hs2) kr ?_
        refine g_cond_f kr kr ?_
        refine g_skip kr ?_
        show WP _ _ _ _ _ _
        refine rS [.v, .c (textOf_fn (u.extract 0 n) (by omega)), .s 1] H13 kr fun gs9 w12 H14 => ?_
        have H15 : St B w0 w12 ((bd, dc (u.extract n u.size)) :: (b1, .cells #[.bool false, .string (u.extract 0 n), .slice none 0 0] 43 (0, 0)) :: L) := H14.as kr
        refine g_ret kr ?_
        show ∃ vs, Res _ _ _ _ vs ∧ _
        exact ⟨[.agg #[.bool false, .string (u.extract 0 n), .slice none 0 0]], (.agg (b := b1) (#[.bool false, .string (u.extract 0 n), .slice none 0 0]) 43 (0, 0) kr (H15.get 1 kr) kr .nil), _, [], ⟨_, _, _, _, _, _, rfl, is_text h0 (by omega) h192 hc hnu hs2, SlIn.none _, by omega⟩, H15.sub (List.Sublist.cons_cons _ (List.Sublist.cons _ (List.Sublist.refl _)))⟩
    · refine rS [.v, .o (ins := [((.tmp 21), .string (t.extract 0 1)), ((.const (.int .i64 0)), .int .i64 0)]) (v := .int .u8 ((by_ (t.extract 0 1) 0 : Nat) : Int)) (fun ρ o w ho hi => sindex_run (t := 9) (kd := .i64) kr (x := (.tmp 21)) (y := (.const (.int .i64 0))) (t.extract 0 1) 0 ho hi.1 hi.2.1 (by omega) w), .e (v := .bool (decide (((by_ (t.extract 0 1) 0 : Nat) : Int) < 192))) (v' := .bool false) (bool_eq (decide_eq_false (by omega))), .v] H6 kr fun gs5 w6 H7 => ?_
      refine g_cond_f kr kr ?_
      refine x_sreg [0, 1, 2, 3, 4, 5, 6, 7, 8] kr kr ?_
      refine x_seg [0, 1, 2, 3, 4] (l2 := [5, 6, 7, 8]) rfl ?_
      refine rp [.v, .v, .v, .o (ins := [((.tmp 9), .string (t.extract 0 1)), ((.const (.int .i64 0)), .int .i64 0)]) (v := .int .u8 ((by_ (t.extract 0 1) 0 : Nat) : Int)) (fun ρ o w ho hi => sindex_run (t := 9) (kd := .i64) kr (x := (.tmp 9)) (y := (.const (.int .i64 0))) (t.extract 0 1) 0 ho hi.1 hi.2.1 (by omega) w), .e (v := .int .u8 (IntKind.u8.wrap (((by_ (t.extract 0 1) 0 : Nat) : Int) - 192))) (v' := .int .u8 ((by_ t 0 - 192 : Nat) : Int)) (int_eq (by rw [show ((by_ (t.extract 0 1) 0 : Nat) : Int) - 192 = ((by_ t 0 - 192 : Nat) : Int) by omega]; exact wrapN_u8 (by omega)))] H7 kr fun gs6 w7 H8 => ?_
      show WPs _ _ _ _ [] _ _
      refine s_nil ?_
      have H9 : St B w0 w7 ((bd, dc (t.extract 1 t.size)) :: (b1, .cells #[.bool false, .string ⟨#[]⟩, .slice none 0 0] 43 (0, 0)) :: L) := H8.as kr
      refine x_callX H9 (List.Perm.refl _) (some 12) 42 #[.pointer (some ⟨bd, 0, none⟩), .int .u8 ((by_ t 0 - 192 : Nat) : Int)] (count_x bd (by_ t 0 - 192) (t.extract 1 t.size) (by omega) (by omega)) kr kr (fun w' hb HS => ?_) ?_
      · exact ⟨rfl, bad_count true ht h0 (by omega) (by simp; omega) hb, HS.sub (List.sublist_cons_self ..)⟩
      rintro _ u _ w8 ⟨n, hc, rfl, rfl⟩ H10
      have hu := (cnt_sound hc (by omega) 0).2.2
      refine x_callX (L := (b1, .cells #[.bool false, .string ⟨#[]⟩, .slice none 0 0] 43 (0, 0)) :: L) H10 (List.Perm.refl _) (some 13) 40 #[.pointer (some ⟨bd, 0, none⟩), .int .u64 ((n : Nat) : Int)] (take_x bd n u (by omega)) kr kr (fun w' hb HS => ?_) ?_
      · exact ⟨rfl, bad_take true ht h0 (by omega) (by simp; omega) hc hb, HS.sub (List.sublist_cons_self ..)⟩
      rintro _ _ _ w9 ⟨hnu, rfl, rfl, rfl⟩ H11
      have hzn : (u.extract 0 n).size = n := by rw [ext_size u 0 n hnu (by omega)]; omega
      have H12 : St B w0 w9 ((bd, dc (u.extract n u.size)) :: (b1, .cells #[.bool false, .string ⟨#[]⟩, .slice none 0 0] 43 (0, 0)) :: L) := H11.as kr
      refine x_callY H12 (some 14) 43 #[.string (u.extract 0 n)] (hl (u.extract 0 n) (by omega)) kr kr (fun w' hb HS => ?_) ?_
      · exact ⟨rfl, bad_list ht h0 (by omega) hc hb, HS.sub (List.Sublist.cons _ (List.sublist_cons_self ..))⟩
      rintro _ T w10 ⟨p, n3, c3, k, rfl, hk, hpk, hsl⟩ H13
      have H14 : St B w0 w10 ((b1, .cells #[.bool false, .string ⟨#[]⟩, .slice none 0 0] 43 (0, 0)) :: (bd, dc (u.extract n u.size)) :: (T ++ L)) := H13.perm (by
        refine (List.Perm.swap _ _ _).trans ?_
        refine List.Perm.symm ?_
        refine (List.perm_middle).trans (List.Perm.cons _ ?_)
        exact List.perm_middle)
      refine x_end _ ?_
      refine rp [.s 0] H14 kr fun gs7 w11 H15 => ?_
      show WPs _ _ _ _ [] _ _
      refine s_nil ?_
      show WP _ _ _ _ _ _
      have H16 : St B w0 w11 ((b1, .cells #[.bool true, .string ⟨#[]⟩, .slice p n3 c3] 43 (0, 0)) :: (bd, dc (u.extract n u.size)) :: (T ++ L)) := H15.as kr
      refine g_ret kr ?_
      show ∃ vs, Res _ _ _ _ vs ∧ _
      exact ⟨[.agg #[.bool true, .string ⟨#[]⟩, .slice p n3 c3]], (.agg (b := b1) (#[.bool true, .string ⟨#[]⟩, .slice p n3 c3]) 43 (0, 0) kr (H16.get 0 kr) kr .nil), _, T, ⟨_, _, _, _, _, _, rfl, is_list h0 (by omega) hc hnu hpk hk, hsl, Nat.zero_le _⟩, H16.sub (List.sublist_cons_self ..)⟩
end Go.Proofs.YtkkbkpneodecnaaDoor

namespace Go.Proofs.YtkkbkpneodecnaaDoor.D2
open Go Go.RowKit
set_option linter.unusedVariables false
def RunsX (P : Program) (Bad : List PanicEntry → World → Prop) (S : Value → World → Prop) : Result Next → Prop
  | .ok (.value v) w' => S v w'
  | .ok .skip w' => S undef w'
  | .ok (.enter f args) w' => Calls P f args w' fun e w'' => (∃ v, e = .returned v ∧ S v w'') ∨ (∃ ch, e = .panicked ch ∧ Bad ch w'')
  | _ => False
theorem RunsX.of {P : Program} {Bad : List PanicEntry → World → Prop} {S : Value → World → Prop} {r : Result Next} (h : Runs P S r) : RunsX P Bad S r := by
  cases r with
  | halt a w => exact h
  | ok n w =>
    cases n with
    | enter f args => exact Calls.mono (h : Calls P f args w _) fun e w'' q => .inl q
    | _ => exact h
/-- Operation i gives slot d a value as f says, in every world as pre says of those that have run; and leaves what pre says of them and it. -/
def GivesX (P : Program) (Bad : List PanicEntry → World → Prop) (ops : Array Oper) (R : (Nat → Gh) → Env) (pre : (Nat → Bool) → (Nat → Gh) → World → Prop) (i : Nat) (d : Option Nat) (f : Gh → Value) : Prop :=
  ∀ L g w, pre L g w → L i = false → (∀ o, ops[i]? = some o → ∀ e ∈ o.after, Region.binds .any e = true → L e.on = true) → Closed ops L → ∃ o, ops[i]? = some o ∧ o.dst = d ∧
    ((Region.wanted o (nyield ops (R g)) = false ∧ f (g i) = undef ∧ pre (put1 L i) g w) ∨ (Region.wanted o (nyield ops (R g)) = true ∧ RunsX P Bad (fun v w' => ∃ b, v = f b ∧ pre (put1 L i) (setN g i b) w') ((execOp (ev (R g)) o).run P w)))
def GivesAllX (P : Program) (Bad : List PanicEntry → World → Prop) (ops : Array Oper) (R : Nat → (Nat → Gh) → Env) (pre : (Nat → Bool) → (Nat → Gh) → World → Prop) : List (Option Nat × (Gh → Value)) → Nat → Prop
  | [], _ => True
  | (d, f) :: r, i => GivesX P Bad ops (R i) pre i d f ∧ GivesAllX P Bad ops R pre r (i + 1)
/-- The slots alone. -/
theorem GivesAllX.get {P : Program} {Bad : List PanicEntry → World → Prop} {ops : Array Oper} {R : Nat → (Nat → Gh) → Env} {pre : (Nat → Bool) → (Nat → Gh) → World → Prop} : ∀ {l : List (Option Nat × (Gh → Value))} {k : Nat}, GivesAllX P Bad ops R pre l k → ∀ {i : Nat} {d : Option Nat} {f : Gh → Value}, l[i]? = some (d, f) → GivesX P Bad ops (R (k + i)) pre (k + i) d f
  | [], _, _, _, _, _, h => by simp at h
  | (d, V) :: r, k, ⟨h, hr⟩, 0, _, _, hi => by simp at hi; obtain ⟨rfl, rfl⟩ := hi; exact h
  | (d, V) :: r, k, ⟨h, hr⟩, i + 1, _, _, hi => by
    have := hr.get (i := i) (by simpa using hi)
    rwa [show k + 1 + i = k + (i + 1) by omega] at this
section
variable {P : Program} {N : Nat} {ops : Array Oper} {Q : Exit → Env → World → Prop} {K : Env → World → Prop} {ρ : Env} {w : World} {vs : List (Option Nat × (Gh → Value))} {pre : (Nat → Bool) → (Nat → Gh) → World → Prop} {Bad : List PanicEntry → World → Prop}
theorem draw_stepX (hok : drawOK ops (vs.map (·.1)) N = true) (hg : GivesAllX P Bad ops (fun i => fin_ (vs.take i) ρ) pre vs 0) {i : Nat} {L : Array Bool} (hi : i ∈ Region.ready .any ops L)
    {a : Act} {ρ' : Env} {g : Nat → Gh} (ha : Rep a ρ' N) (hm : Mid ρ vs g (ran L) ρ') (hL : L.size = ops.size) (hcl : Closed ops (ran L)) (hp : pre (ran L) g w)
    {QQ : Exit → Act → World → Prop} {KK : Act → World → Prop} (hQ : ∀ ch a' ρ'' w', Rep a' ρ'' N → Bad ch w' → QQ (.panic ch) a' w') (hK : ∀ a' ρ'' g' w', Rep a' ρ'' N → Mid ρ vs g' (put1 (ran L) i) ρ'' → Closed ops (put1 (ran L) i) → pre (put1 (ran L) i) g' w' → KK a' w') :
    wpOp P ops QQ i KK a w := by
  simp only [drawOK, Bool.and_eq_true, List.all_eq_true, beq_iff_eq] at hok
  obtain ⟨⟨⟨hsz, hnd⟩, hN⟩, hops⟩ := hok
  obtain ⟨hun, o, ho, hready⟩ := mem_ready.1 hi
  have hilt : i < ops.size := (Array.getElem?_eq_some_iff.1 ho).1
  have hoi : opOK ops (vs.map (·.1)) i o = true := hops (o, i) (by
    rw [List.mem_iff_getElem?]
    refine ⟨i, ?_⟩
    rw [List.getElem?_zipIdx]
    simp [ho])
  simp only [opOK, Bool.and_eq_true] at hoi
  obtain ⟨⟨⟨⟨hdst, hsel⟩, hback⟩, hreads⟩, hguard⟩ := hoi
  have hivs : i < vs.length := by rw [List.length_map] at hsz; omega
  obtain ⟨⟨d, f⟩, hv⟩ : ∃ p, vs[i]? = some p := ⟨_, List.getElem?_eq_getElem hivs⟩
  have hd : o.dst = d := by
    have := eq_of_beq hdst
    simpa [hv] using this
  have hdN : ∀ k, d = some k → k < N := dOK_lt (hN d (List.mem_map.2 ⟨(d, f), List.mem_of_getElem? hv, rfl⟩))
  have hunL : ran L i = false := by
    have hlt : i < L.size := by omega
    unfold ran; simpa [hlt] using hun
  have hcl' : Closed ops (put1 (ran L) i) := by
    intro j oj hj hoj e he hb
    rcases put1_or hj with rfl | hj
    · rw [ho] at hoj; obtain rfl := Option.some.inj hoj
      exact put1_of (hready e he hb)
    · exact put1_of (hcl j oj hj hoj e he hb)
  have hnd' : nodupO ((vs.take i).map (·.1)) = true := by rw [List.map_take]; exact nodupO_take hnd i
  -- what the operation reads is as it was given before it
  have lookB : ∀ t j, j < i → ran L j = true → (vs.map (·.1))[j]? = some (some t) → ρ' t = fin_ (vs.take i) ρ g t := by
    intro t j hji hLj hdt
    rw [List.getElem?_map] at hdt
    cases hve : vs[j]? with
    | none => rw [hve] at hdt; cases hdt
    | some p =>
      obtain ⟨d1, f1⟩ := p
      rw [hve] at hdt
      simp at hdt; subst hdt
      have hvt : (vs.take i)[j]? = some (some t, f1) := by rw [List.getElem?_take, if_pos hji, hve]
      rw [fin_in hnd' hvt]
      exact (hm t).1 j f1 hLj hve
  have lookA : ∀ t, (∀ j : Nat, (vs.map (·.1))[j]? = some (some t) → ran L j = false) → (∀ j : Nat, j < i → (vs.map (·.1))[j]? ≠ some (some t)) → ρ' t = fin_ (vs.take i) ρ g t := by
    intro t hno hnb
    have hnot : some t ∉ (vs.take i).map (·.1) := fun hmem => by
      obtain ⟨j, hj⟩ := List.mem_iff_getElem?.1 hmem
      rw [List.map_take, List.getElem?_take] at hj
      split at hj
      · rename_i hji; exact hnb j hji hj
      · cases hj
    rw [fin_out hnot]
    exact (hm t).2 fun j hj heq => by rw [hno j heq] at hj; cases hj
  have hbk : ∀ e ∈ o.after.toList, Region.binds .any e = true → e.on < i := fun e he hb => by
    have := List.all_eq_true.1 hback e he
    rw [hb] at this
    simp only [Bool.not_true, Bool.false_or] at this
    exact Nat.le_of_ble_eq_true this
  have hops' : ∀ x ∈ o.op.operands, ev ρ' x = ev (fin_ (vs.take i) ρ g) x := by
    intro x hx
    cases x with
    | tmp t =>
      have hmem : t ∈ opTmps o := List.mem_filterMap.2 ⟨.tmp t, by simpa using hx, rfl⟩
      have := List.all_eq_true.1 hreads t hmem
      simp only [Bool.or_eq_true, Bool.not_eq_true'] at this
      rcases this with (hc | hb) | hlater
      · have hnot : ∀ j : Nat, (vs.map (·.1))[j]? ≠ some (some t) := fun j hj => by
          have h1 : some t ∈ vs.map (·.1) := List.mem_of_getElem? hj
          rw [← Bool.not_eq_true, List.contains_iff_mem] at hc
          exact hc h1
        exact lookA t (fun j hj => absurd hj (hnot j)) (fun j _ => hnot j)
      · simp only [List.any_eq_true, Bool.and_eq_true, beq_iff_eq] at hb
        obtain ⟨e, he, hbi, hdt⟩ := hb
        exact lookB t e.on (hbk e he hbi) (hready e (by simpa using he) hbi) hdt
      · have hl : ∀ (j : Nat) oj, ops[j]? = some oj → (vs.map (·.1))[j]? = some (some t) → ¬ j < i ∧ ∃ e ∈ oj.after.toList, Region.binds .any e = true ∧ e.on = i := fun j oj hoj hdj => by
          have h1 := List.all_eq_true.1 hlater (oj, j) (by
            rw [List.mem_iff_getElem?]
            refine ⟨j, ?_⟩
            rw [List.getElem?_zipIdx]
            simp [hoj])
          simp only [hdj, beq_self_eq_true, Bool.not_true, Bool.false_or, Bool.and_eq_true, List.any_eq_true, Bool.not_eq_true'] at h1
          obtain ⟨h2, e, he, hb, hon⟩ := h1
          refine ⟨fun hlt => ?_, e, he, hb, Nat.eq_of_beq_eq_true hon⟩
          have h3 : Nat.blt j i = true := Nat.ble_eq_true_of_le hlt
          rw [h3] at h2; cases h2
        have hsome : ∀ j : Nat, (vs.map (·.1))[j]? = some (some t) → ∃ oj, ops[j]? = some oj := fun j hj => by
          have h1 : j < (vs.map (·.1)).length := (List.getElem?_eq_some_iff.1 hj).1
          exact ⟨_, Array.getElem?_eq_getElem (by omega)⟩
        refine lookA t (fun j hj => ?_) (fun j hji hj => ?_)
        · obtain ⟨oj, hoj⟩ := hsome j hj
          obtain ⟨_, e, he, hb, hon⟩ := hl j oj hoj hj
          cases hLj : ran L j with
          | false => rfl
          | true =>
            have := hcl j oj hLj hoj e (by simpa using he) hb
            rw [hon, hunL] at this; cases this
        · obtain ⟨oj, hoj⟩ := hsome j hj
          exact (hl j oj hoj hj).1 hji
    | _ => rfl
  have hexec : execOp (ev ρ') o = execOp (ev (fin_ (vs.take i) ρ g)) o := execOp_congr o (fun cs b he => by simp [notSelect, he] at hsel) hops'
  have hwant : Region.wanted o (nyield ops ρ') = Region.wanted o (nyield ops (fin_ (vs.take i) ρ g)) := by
    unfold Region.wanted
    cases hgd : o.guard with
    | none => rfl
    | some gd =>
      obtain ⟨j, b⟩ := gd
      have : nyield ops ρ' j = nyield ops (fin_ (vs.take i) ρ g) j := by
        unfold nyield
        cases hj : (ops[j]?).bind (·.dst) with
        | none => rfl
        | some t =>
          simp only [hgd, List.any_eq_true, Bool.and_eq_true, beq_iff_eq] at hguard
          obtain ⟨e, he, hb, hon⟩ := hguard
          have hjds : (vs.map (·.1))[j]? = some (some t) := by
            cases hoj : ops[j]? with
            | none => simp [hoj] at hj
            | some oj =>
              have hjj : opOK ops (vs.map (·.1)) j oj = true := hops (oj, j) (by
                rw [List.mem_iff_getElem?]
                refine ⟨j, ?_⟩
                rw [List.getElem?_zipIdx]
                simp [hoj])
              simp only [opOK, Bool.and_eq_true, beq_iff_eq] at hjj
              have := hjj.1.1.1.1
              simp [hoj] at hj
              rw [← this, hj]
          have hlk := lookB t j (hon ▸ hbk e he hb) (hon ▸ hready e (by simpa using he) hb) hjds
          simp only [hlk]
      simp only [this]
  have hmid : ∀ b, Mid ρ vs (setN g i b) (put1 (ran L) i) (updO ρ' d (f b)) := by
    intro b t
    have hds : (vs.map (·.1))[i]? = some d := by simp [hv]
    by_cases htd : d = some t
    · subst htd
      have e : updO ρ' (some t) (f b) t = f b := by
        show (bif Nat.beq t t then f b else _) = f b
        rw [Nat.beq_refl]; rfl
      refine ⟨fun j f1 hj hvj => ?_, fun hn => absurd hds (hn i (put1_self _ _))⟩
      have hji : j = i := nodupO_inj hnd (by rw [List.getElem?_map, hvj]; rfl) hds
      subst hji
      rw [hv] at hvj
      obtain rfl : f1 = f := by simpa using hvj.symm
      rw [e]
      unfold setN; rw [Nat.beq_refl]; rfl
    · have e : updO ρ' d (f b) t = ρ' t := by
        cases d with
        | none => rfl
        | some k =>
          have hne : Nat.beq t k = false := by
            cases hb : Nat.beq t k with
            | false => rfl
            | true => exact absurd (by rw [Nat.eq_of_beq_eq_true hb]) htd
          show (bif Nat.beq t k then f b else ρ' t) = ρ' t
          rw [hne]; rfl
      rw [e]
      refine ⟨fun j f1 hj hvj => ?_, fun hn => (hm t).2 fun j hj => hn j (put1_of hj)⟩
      have hji : j ≠ i := by
        rintro rfl
        rw [hv] at hvj
        have : d = some t := by simpa using congrArg (Option.map (·.1)) hvj
        exact htd this
      have hLj : ran L j = true := (put1_or hj).resolve_left hji
      have hN' : setN g i b j = g j := by
        unfold setN
        cases hb : Nat.beq j i with
        | false => rfl
        | true => exact absurd (Nat.eq_of_beq_eq_true hb) hji
      rw [hN']
      exact (hm t).1 j f1 hLj hvj
  have hgi := GivesAllX.get hg hv
  rw [Nat.zero_add] at hgi
  obtain ⟨o', ho', hd', hrun⟩ := hgi (ran L) g w hp hunL (fun o1 ho1 e he hb => by
      rw [ho] at ho1; obtain rfl := Option.some.inj ho1; exact hready e he hb) hcl
  have : o' = o := by rw [ho] at ho'; exact (Option.some.inj ho').symm
  subst this
  have hput : ∀ v, Rep (a.put o'.dst v) (updO ρ' d v) N := fun v => by
    have := ha.put o'.dst (fun k hk => hdN k (by rw [← hd, hk])) v
    rwa [hd] at this ⊢
  unfold wpOp
  simp only [ho, wanted_eq ha, hwant]
  rcases hrun with ⟨hwf, hV, hp'⟩ | ⟨hwt, hR⟩
  · simp only [hwf, Bool.false_eq_true, if_false]
    refine hK _ _ g _ (hput undef) ?_ hcl' hp'
    have := hmid (g i)
    rwa [setN_self, hV] at this
  · simp only [hwt, if_true]
    refine .inl ?_
    unfold Oper.wp
    rw [ha.eval, hexec]
    generalize (execOp (ev (fin_ (vs.take i) ρ g)) o').run P w = r at hR
    cases r with
    | halt h w' => exact hR.elim
    | ok n w' =>
      cases n with
      | value v => obtain ⟨b, rfl, hb⟩ := hR; exact hK _ _ _ _ (hput _) (hmid b) hcl' hb
      | skip => obtain ⟨b, hu, hb⟩ := hR; exact hK _ _ _ _ (by have := hput undef; rwa [hu] at this ⊢) (hmid b) hcl' hb
      | enter f' args =>
        refine Calls.mono hR fun e w'' he => ?_
        rcases he with ⟨v, rfl, b, rfl, hb⟩ | ⟨ch, rfl, hb⟩
        · exact hK _ _ _ _ (hput _) (hmid b) hcl' hb
        · exact hQ ch _ _ _ ha hb
      | _ => exact hR.elim
theorem draw_anyX (hB : ∀ ch ρ w, Bad ch w → Q (.panic ch) ρ w) (hok : drawOK ops (vs.map (·.1)) N = true) (hg : GivesAllX P Bad ops (fun i => fin_ (vs.take i) ρ) pre vs 0)
    (hfin : ∀ L g w', (∀ i, i < ops.size → L i = true) → pre L g w' → Q .normal (fin_ vs ρ g) w') :
    ∀ (fuel : Nat) (L : Array Bool), L.size = ops.size → (L.toList.countP (! ·)) ≤ fuel → ∀ (a : Act) (ρ' : Env) (g : Nat → Gh) (w : World), Rep a ρ' N → Mid ρ vs g (ran L) ρ' → Closed ops (ran L) → pre (ran L) g w →
      wpAny P .any ops (lift N Q) fuel L a w := by
  have hdone : ∀ (L : Array Bool), L.size = ops.size → Region.ready .any ops L = [] → ∀ (a : Act) (ρ' : Env) (g : Nat → Gh) (w : World), Rep a ρ' N → Mid ρ vs g (ran L) ρ' → pre (ran L) g w → lift N Q .normal a w := by
    intro L hL hr a ρ' g w ha hm hp
    have hok' := hok
    simp only [drawOK, Bool.and_eq_true, List.all_eq_true, beq_iff_eq] at hok'
    obtain ⟨⟨⟨hsz, hnd⟩, hN⟩, hops⟩ := hok'
    have hall : ∀ i, i < ops.size → ran L i = true := by
      intro i
      induction i using Nat.strongRecOn with
      | _ i ih =>
        intro hi
        cases hb : ran L i with
        | true => rfl
        | false =>
          have hmem : i ∈ Region.ready .any ops L := by
            refine mem_ready.2 ⟨?_, ops[i], Array.getElem?_eq_getElem hi, fun e he hbd => ?_⟩
            · have hlt : i < L.size := by omega
              unfold ran at hb
              simp [hlt] at hb ⊢; exact hb
            · have hoi : opOK ops (vs.map (·.1)) i ops[i] = true := hops (ops[i], i) (by
                rw [List.mem_iff_getElem?]
                refine ⟨i, ?_⟩
                rw [List.getElem?_zipIdx]
                simp [hi])
              simp only [opOK, Bool.and_eq_true] at hoi
              have := List.all_eq_true.1 hoi.1.1.2 e (by simpa using he)
              rw [hbd] at this
              have hlt : e.on < i := Nat.le_of_ble_eq_true this
              exact ih e.on hlt (by omega)
          rw [hr] at hmem; cases hmem
    have heq : ρ' = fin_ vs ρ g := by
      funext t
      by_cases ht : some t ∈ vs.map (·.1)
      · obtain ⟨i, hi, hit⟩ := List.getElem_of_mem ht
        have hi' : i < vs.length := by simpa using hi
        obtain ⟨⟨d, f⟩, hv⟩ : ∃ p, vs[i]? = some p := ⟨_, List.getElem?_eq_getElem hi'⟩
        have hd : d = some t := by
          rw [List.getElem_map] at hit
          rw [List.getElem?_eq_getElem hi'] at hv
          rw [Option.some.inj hv] at hit
          exact hit
        subst hd
        rw [fin_in hnd hv]
        exact (hm t).1 i f (hall i (by rw [hsz]; exact hi)) hv
      · rw [fin_out ht]
        exact (hm t).2 fun j hj heq => ht (List.mem_of_getElem? heq)
    exact ⟨_, ha, heq ▸ hfin (ran L) g w hall hp⟩
  intro fuel
  induction fuel with
  | zero =>
    intro L hL hc a ρ' g w ha hm hcl hp
    have hr : Region.ready .any ops L = [] := by
      cases hr : Region.ready .any ops L with
      | nil => rfl
      | cons i r =>
        have hi : i ∈ Region.ready .any ops L := by rw [hr]; exact List.mem_cons_self
        obtain ⟨hun, o, ho, _⟩ := mem_ready.1 hi
        have hlt : i < L.size := by rw [hL]; exact (Array.getElem?_eq_some_iff.1 ho).1
        have : L.toList.countP (! ·) = 0 := by omega
        rw [List.countP_eq_zero] at this
        have h1 := this L[i] (by simp)
        simp [hlt] at hun h1
        rw [hun] at h1; cases h1
    exact ⟨hr, hdone L hL hr a ρ' g w ha hm hp⟩
  | succ fuel ih =>
    intro L hL hc a ρ' g w ha hm hcl hp
    refine ⟨fun hr => hdone L hL hr a ρ' g w ha hm hp, fun i hi => ?_⟩
    obtain ⟨hun, o, ho, _⟩ := mem_ready.1 hi
    have hlt : i < L.size := by rw [hL]; exact (Array.getElem?_eq_some_iff.1 ho).1
    refine draw_stepX hok hg hi ha hm hL hcl hp (fun ch a' ρ'' w' ha' hb => ⟨ρ'', ha', hB ch ρ'' w' hb⟩) fun a' ρ'' g' w' ha' hm' hcl' hp' => ih (L.setIfInBounds i true) (by simpa using hL) ?_ a' ρ'' g' w' ha' (by rw [ran_set hlt]; exact hm') (by rw [ran_set hlt]; exact hcl') (by rw [ran_set hlt]; exact hp')
    have hf : L[i] = false := by simpa [hlt] using hun
    have hc2 : (L.setIfInBounds i true).toList.countP (! ·) + 1 = L.toList.countP (! ·) := by
      rw [Array.toList_setIfInBounds]
      have hl : i < L.toList.length := by simpa using hlt
      have hfl : L.toList[i] = false := by simpa using hf
      have hpos : 0 < L.toList.countP (! ·) := List.countP_pos_iff.2 ⟨_, List.getElem_mem hl, by rw [hfl]; rfl⟩
      have hset := List.countP_set (p := fun b : Bool => !b) (l := L.toList) (i := i) (a := true) hl
      rw [hfl] at hset
      simp only [Bool.not_true, Bool.false_eq_true, if_false, Bool.not_false, if_true] at hset
      omega
    omega
theorem WP.drawX {id : Nat} (hB : ∀ ch ρ w, Bad ch w → Q (.panic ch) ρ w) (hm : P.follows .mixedOrders = true) (hok : drawOK ops (vs.map (·.1)) N = true) (hp : pre (fun _ => false) (fun _ => default) w.drew) (hg : GivesAllX P Bad ops (fun i => fin_ (vs.take i) ρ) pre vs 0)
    (hfin : ∀ L g w', (∀ i, i < ops.size → L i = true) → pre L g w' → Q .normal (fin_ vs ρ g) w') : WP P N (.region id ops true) Q ρ w := fun a ha =>
  have hno : ran (Array.replicate ops.size false) = fun _ => false := funext fun i => by
    show (Array.replicate ops.size false).getD i false = false
    simp only [Array.getD_eq_getD_getElem?, Array.getElem?_replicate]; split <;> rfl
  wp_region_any hm (draw_anyX hB hok hg hfin ops.size _ (by simp) (by have := @List.countP_le_length Bool (! ·) (List.replicate ops.size false); simpa using this) a ρ (fun _ => default) _ ha
    (fun t => ⟨fun i f hi _ => (by rw [hno] at hi; cases hi), fun _ => rfl⟩) (fun j o hj => (by rw [hno] at hj; cases hj)) (by rw [hno]; exact hp))
theorem g_draw0X {c : Code} (hB : ∀ ch ρ w, Bad ch w → Q (.panic ch) ρ w) (l : List Nat) (vs : List (Option Nat × (Gh → Value))) (pre : (Nat → Bool) → (Nat → Gh) → World → Prop) (hc : regOf c = some (l, true)) (hm : P.follows .mixedOrders = true) (hok : drawOK (opsOf c) (vs.map (·.1)) N = true) (hp : pre (fun _ => false) (fun _ => default) w.drew)
    (hg : GivesAllX P Bad (opsOf c) (fun i => fin_ (vs.take i) ρ) pre vs 0) (hfin : ∀ L g w', (∀ i, i < (opsOf c).size → L i = true) → pre L g w' → Q .normal (fin_ vs ρ g) w') : WP P N c Q ρ w := by
  obtain ⟨id, he, hl⟩ := regOf_eq hc
  rw [he]; exact WP.drawX hB hm hok hp hg hfin
end
theorem GivesX.of {P : Program} {Bad : List PanicEntry → World → Prop} {ops : Array Oper} {R : (Nat → Gh) → Env} {pre : (Nat → Bool) → (Nat → Gh) → World → Prop} {i : Nat} {d : Option Nat} {f : Gh → Value} (h : Gives P ops R pre i d f) : GivesX P Bad ops R pre i d f := fun L g w h1 h2 h3 h4 => by
  obtain ⟨o, ho, hd, q⟩ := h L g w h1 h2 h3 h4
  exact ⟨o, ho, hd, q.imp id fun ⟨a, b⟩ => ⟨a, RunsX.of b⟩⟩
end Go.Proofs.YtkkbkpneodecnaaDoor.D2

namespace Go.Proofs.YtkkbkpneodecnaaDoor
open Go Go.RowKit
set_option linter.unusedVariables false
abbrev xc (x : X3) : Array Value := #[.bool x.l, .string x.s, .slice x.p x.n x.c]
theorem xc_cells (x : X3) : (xc x).toList = cells3 [x] := rfl
section
variable {P : Program} {ρ : Env} {w w0 : World} {B : Nat} {l : List (Nat × Obj)}
theorem app_run_own (HS : St B w0 w l) {t e bytes : Nat} {s x : Operand} {o : Oper} {j k b bx n cap c : Nat} {cur : Array Value} {L : List X3} {y : X3} (ht : sliceOf P t = some (e, 3, bytes)) (ho : o.op = appendOp t s x)
    (hs : ev ρ s = .slice (some ⟨b, 0, none⟩) n cap) (hj : l[j]? = some (b, .cells cur e (0, 0))) (hr : Rw 3 cur cap n (cells3 L)) (hx : ev ρ x = .slice (some ⟨bx, 0, none⟩) 1 c) (hk : l[k]? = some (bx, .cells (xc y) e (0, 0)))
    (hb : (n + 1) * bytes ≤ 140737488355328) (hm : n + 1 ≤ maxLen) : ∃ b' cap' cur' w', (execOp (ev ρ) o).run P w = .ok (.value (.slice (some ⟨b', 0, none⟩) (n + 1) cap')) w' ∧ St B w0 w' (l.set j (b', .cells cur' e (0, 0))) ∧ Rw 3 cur' cap' (n + 1) (cells3 (L ++ [y])) := by
  obtain ⟨it, z, hu, hi, hz, hsz, hby, hzs, h0⟩ := sliceOf_spec ht
  have hnews : ∀ q u, (cells3 [y])[q]? = some u → w.cell? ((⟨bx, 0, none⟩ : Addr).add q) = some u := fun q u hq => by
    rw [← xc_cells, Array.getElem?_toList] at hq
    rw [addr_add, Nat.zero_add]
    simp [World.cell?, HS.get k hk, hq]
  obtain ⟨v', w', hrun, hown, hgr, hnil, hblk⟩ := run_append_own_at (P := P) w B t o.type e it z 3 bytes hu hi hz hsz hby hzs h0 _ n (cells3 L) (hr.owns (HS.ge j hj) (HS.get j hj)) ⟨bx, 0, none⟩ 1 c (cells3 [y]) (cells3_len [y]) hnews (cells3_one [y]) hm hb HS.le
  have hown' := hown
  rcases hown'.2 with ⟨hv, _⟩ | ⟨g, cap', cur', rfl, hbg, hg, hnc, hcm, hcs, htk⟩
  · exact absurd (hnil.1 hv).1 (by simp)
  · have hgb : g = b ∨ g = w.heap.size := by
      rcases hblk with hq | hq
      · left; injection hq
      · right; injection hq
    refine ⟨g, cap', cur', w', ?_, HS.grown j hj hgr hgb hg, ?_⟩
    · unfold execOp
      simp only [ho, appendOp, resolve, invoke, builtin, Sem.run_bind, Sem.run_pure, Result.andThen_ok, List.map_toArray, List.map_cons, List.map_nil, hs, hx, hrun]
    · rw [cells3_append]; exact ⟨hown.1, hnc, hcm, htk, hcs⟩
theorem app_run_nil (HS : St B w0 w l) {t e bytes : Nat} {s x : Operand} {o : Oper} {k bx c : Nat} {y : X3} (ht : sliceOf P t = some (e, 3, bytes)) (ho : o.op = appendOp t s x)
    (hs : ev ρ s = .slice none 0 0) (hx : ev ρ x = .slice (some ⟨bx, 0, none⟩) 1 c) (hk : l[k]? = some (bx, .cells (xc y) e (0, 0)))
    (hb : (0 + 1) * bytes ≤ 140737488355328) : ∃ b' cap' cur' w', (execOp (ev ρ) o).run P w = .ok (.value (.slice (some ⟨b', 0, none⟩) 1 cap')) w' ∧ St B w0 w' ((b', .cells cur' e (0, 0)) :: l) ∧ Rw 3 cur' cap' 1 (cells3 [y]) := by
  obtain ⟨it, z, hu, hi, hz, hsz, hby, hzs, h0⟩ := sliceOf_spec ht
  have hnews : ∀ q u, (cells3 [y])[q]? = some u → w.cell? ((⟨bx, 0, none⟩ : Addr).add q) = some u := fun q u hq => by
    rw [← xc_cells, Array.getElem?_toList] at hq
    rw [addr_add, Nat.zero_add]
    simp [World.cell?, HS.get k hk, hq]
  obtain ⟨v', w', hrun, hown, hgr, hnil, hblk⟩ := run_append_own_at (P := P) w B t o.type e it z 3 bytes hu hi hz hsz hby hzs h0 (.slice none 0 0) 0 [] (World.ownsRow_nil w B e 3) ⟨bx, 0, none⟩ 1 c (cells3 [y]) (cells3_len [y]) hnews (cells3_one [y]) (by unfold maxLen; omega) hb HS.le
  have hown' := hown
  rcases hown'.2 with ⟨hv, _⟩ | ⟨g, cap', cur', rfl, hbg, hg, hnc, hcm, hcs, htk⟩
  · exact absurd (hnil.1 hv).2 (by simp)
  · have hgb : g = w.heap.size := by
      rcases hblk with hq | hq
      · simp [Value.ownBlock] at hq
      · injection hq
    have hbel : Below w.heap.size w w' := (Below.refl _ w).grown hgr (Nat.le_refl _) (fun k hk => by simp [Value.ownBlock] at hk)
    have HS' := HS.add hbel (by omega) hg
    rw [Nat.zero_add] at hnc htk
    refine ⟨g, cap', cur', w', ?_, HS', ⟨by rw [cells3_len]; rfl, hnc, hcm, htk, hcs⟩⟩
    unfold execOp
    simp only [ho, appendOp, resolve, invoke, builtin, Sem.run_bind, Sem.run_pure, Result.andThen_ok, List.map_toArray, List.map_cons, List.map_nil, hs, hx, hrun]
end
abbrev xo (v : Value) : Obj := .cells #[.bool true, .string ⟨#[]⟩, v] 43 (0, 0)
abbrev r0 : Obj := .cells #[.bool false, .string ⟨#[]⟩, .slice none 0 0] 43 (0, 0)
def okX (t u : ByteArray) (x : X3) (T : List (Nat × Obj)) : Prop := itIs t x.l x.s x.k u ∧ SlIn T x.p x.n x.k ∧ x.s.size ≤ t.size
def RowSt (p : Option Addr) (n c : Nat) (row : List (Nat × Obj)) (L : List X3) : Prop := (p = none ∧ n = 0 ∧ c = 0 ∧ row = [] ∧ L = []) ∨ ∃ b cur, p = some ⟨b, 0, none⟩ ∧ row = [(b, .cells cur 43 (0, 0))] ∧ Rw 3 cur c n (cells3 L)
/-- Where the round stands, by what of it has run. -/
def PreL (B : Nat) (w0 : World) (t : ByteArray) (b2 b3 b4 : Nat) (p : Option Addr) (n c : Nat) (row : List (Nat × Obj)) (M : List X3) (L0 : List (Nat × Obj)) : (Nat → Bool) → (Nat → D2.Gh) → World → Prop := fun L g w =>
  bif L 4 then ∃ u T x, okX t u x T ∧ Rw 3 (g 4).cur (g 4).cap (n + 1) (cells3 (M ++ [x])) ∧ St B w0 w ((b4, dc u) :: (b3, xo (bif L 6 then .slice (some ⟨(g 4).b, 0, none⟩) (n + 1) (g 4).cap else .slice p n c)) :: (b2, r0) :: ((g 4).b, .cells (g 4).cur 43 (0, 0)) :: (T ++ L0))
  else bif L 3 then ∃ u T x, okX t u x T ∧ St B w0 w (((g 3).b, .cells (xc x) 43 (0, 0)) :: (b4, dc u) :: (b3, xo (.slice p n c)) :: (b2, r0) :: (row ++ (T ++ L0)))
  else bif L 2 then ∃ u T x, okX t u x T ∧ (g 2).cur = xc x ∧ St B w0 w ((b4, dc u) :: (b3, xo (.slice p n c)) :: (b2, r0) :: (row ++ (T ++ L0)))
  else St B w0 w ((b4, dc t) :: (b3, xo (.slice p n c)) :: (b2, r0) :: (row ++ L0))
section
variable {B : Nat} {w0 : World} {t : ByteArray} {b2 b3 b4 : Nat} {p : Option Addr} {n c : Nat} {row : List (Nat × Obj)} {M : List X3} {L0 : List (Nat × Obj)} {L : Nat → Bool} {g : Nat → D2.Gh} {w : World}
theorem PreL.keep {i : Nat} {y : D2.Gh} (hi : Nat.beq 2 i = false) (h3 : Nat.beq 3 i = false) (h4 : Nat.beq 4 i = false) (h6 : Nat.beq 6 i = false) (h : PreL B w0 t b2 b3 b4 p n c row M L0 L g w) : PreL B w0 t b2 b3 b4 p n c row M L0 (D2.put1 L i) (D2.setN g i y) w := by
  have e2 : D2.put1 L i 2 = L 2 := by unfold D2.put1; rw [hi]; rfl
  have e3 : D2.put1 L i 3 = L 3 := by unfold D2.put1; rw [h3]; rfl
  have e4 : D2.put1 L i 4 = L 4 := by unfold D2.put1; rw [h4]; rfl
  have e6 : D2.put1 L i 6 = L 6 := by unfold D2.put1; rw [h6]; rfl
  have g2 : D2.setN g i y 2 = g 2 := by unfold D2.setN; rw [hi]; rfl
  have g3 : D2.setN g i y 3 = g 3 := by unfold D2.setN; rw [h3]; rfl
  have g4 : D2.setN g i y 4 = g 4 := by unfold D2.setN; rw [h4]; rfl
  unfold PreL at h ⊢
  rw [e2, e3, e4, e6, g2, g3, g4]; exact h
theorem PreL.x (h4 : L 4 = false) (h : PreL B w0 t b2 b3 b4 p n c row M L0 L g w) : ∃ l, St B w0 w l ∧ (b3, xo (.slice p n c)) ∈ l := by
  unfold PreL at h; rw [h4] at h
  cases h3 : L 3 with
  | true => rw [h3] at h; obtain ⟨u, T, x, _, h⟩ := h; exact ⟨_, h, by simp⟩
  | false =>
    rw [h3] at h
    cases h2 : L 2 with
    | true => rw [h2] at h; obtain ⟨u, T, x, _, _, h⟩ := h; exact ⟨_, h, by simp⟩
    | false => rw [h2] at h; exact ⟨_, h, by simp⟩
end
end Go.Proofs.YtkkbkpneodecnaaDoor

namespace Go.Proofs.YtkkbkpneodecnaaDoor
open Go Go.RowKit
set_option linter.unusedVariables false
theorem wrF_snoc (x : X3) : ∀ M : List X3, wrF (toFo (M ++ [x])) = wrF (toFo M) ++ wr1 x.l x.s (szF x.k) (wrF x.k)
  | [] => by simp [toFo, wrF]
  | m :: M => by simp only [List.cons_append, toFo, wrF, wrF_snoc x M, List.append_assoc]
theorem pureF_snoc (x : X3) (hm : mixed x.l x.s x.k.len = false) (hp : pureF x.k = true) : ∀ M : List X3, pureF (toFo M) = true → pureF (toFo (M ++ [x])) = true
  | [], _ => by simp [toFo, pureF, hm, hp]
  | m :: M, h => by
    simp only [toFo, pureF, Bool.and_eq_true] at h
    simp only [List.cons_append, toFo, pureF, Bool.and_eq_true]
    exact ⟨h.1, pureF_snoc x hm hp M h.2⟩
theorem AllIn.mono {T T' : List (Nat × Obj)} {M : List X3} (h : AllIn T M) (hs : ∀ e ∈ T, e ∈ T') : AllIn T' M := fun x hx => ⟨(h x hx).1.mono hs, (h x hx).2⟩
theorem AllIn.snoc {T : List (Nat × Obj)} {M : List X3} {x : X3} (h : AllIn T M) (hx : SlIn T x.p x.n x.k) (hz : x.s.size ≤ 140737488355328) : AllIn T (M ++ [x]) := fun y hy => by
  rcases List.mem_append.1 hy with q | q
  · exact h y q
  · obtain rfl := List.mem_singleton.1 q
    exact ⟨hx, hz⟩
theorem load_at {P : Program} {ρ : Env} {w : World} {b off : Nat} {C : Array Value} {T t : TypeId} {fz : Nat × Nat} {x : Operand} {v : Value} (hh : w.heap[b]? = some (.cells C T fz)) (ht : oneCell P t = true) (hx : ev ρ x = .pointer (some ⟨b, off, none⟩)) (hv : C[off]? = some v) (o : Oper) (ho : o.op = .load t x) :
    (execOp (ev ρ) o).run P w = .ok (.value v) w := by
  have := load_one (P := P) (w := w) ht hh hv
  simp [execOp, ho, Instr.loadAt, Instr.sureAddr, hx, this]
theorem store_at {P : Program} {ρ : Env} {w : World} {b off : Nat} {C C' : Array Value} {T t : TypeId} {x y : Operand} {v : Value} (hh : w.heap[b]? = some (.cells C T (0, 0))) (hi : (P.info? t).map (·.size) = some v.cells.size) (h1 : v.cells.all (·.oneCell') = true) (hs : off + v.cells.size ≤ C.size)
    (hC : (C.toList.take off ++ v.cells.toList ++ C.toList.drop (off + v.cells.size)).toArray = C') (hx : ev ρ x = .pointer (some ⟨b, off, none⟩)) (hy : ev ρ y = v) (o : Oper) (ho : o.op = .store t x y) : (execOp (ev ρ) o).run P w = .ok .skip (w.setRow b C') := by
  have := store_agg (P := P) (w := w) hi h1 hh hs
  rw [hC] at this
  simp [execOp, ho, Instr.storeAt, Instr.sureAddr, hx, hy, this]
/-- What stays true round by round. -/
structure LiInv (t t' : ByteArray) (p : Option Addr) (n c : Nat) (row : List (Nat × Obj)) (M : List X3) (T : List (Nat × Obj)) : Prop where
  row : RowSt p n c row M
  size : n + t'.size ≤ t.size
  all : tl t = wrF (toFo M) ++ tl t'
  pur : pureF (toFo M) = true
  inn : AllIn T M
  rest : ∀ k, pureF k = true → tl t = wrF k → ∃ k', pureF k' = true ∧ tl t' = wrF k'
theorem LiInv.bad {t t' : ByteArray} {p : Option Addr} {n c : Nat} {row : List (Nat × Obj)} {M : List X3} {T : List (Nat × Obj)} (h : LiInv t t' p n c row M T) (h0 : t'.size ≠ 0) (hb : itBad t') : liBad t := fun k hp he => by
  obtain ⟨k', hp', he'⟩ := h.rest k hp he
  cases k' with
  | nil => have := congrArg List.length he'; rw [tl_len] at this; simp [wrF] at this; exact h0 (by rw [this]; rfl)
  | cons l s k r =>
    simp only [pureF, Bool.and_eq_true, Bool.not_eq_true'] at hp'
    exact hb l s k (wrF r) hp'.1.1 hp'.1.2 he'
theorem LiInv.next {t t' u : ByteArray} {p : Option Addr} {n c : Nat} {row : List (Nat × Obj)} {M : List X3} {T T2 : List (Nat × Obj)} {x : X3} {b cap : Nat} {cur : Array Value} (ht : t.size ≤ 100000) (h : LiInv t t' p n c row M T) (hx : okX t' u x T2) (hr : Rw 3 cur cap (n + 1) (cells3 (M ++ [x]))) :
    u.size < t'.size ∧ LiInv t u (some ⟨b, 0, none⟩) (n + 1) cap [(b, .cells cur 43 (0, 0))] (M ++ [x]) (T2 ++ T) := by
  obtain ⟨⟨hm, hp, hi⟩, hs, hz⟩ := hx
  have hlen := congrArg List.length hi
  have h1 := (wr1_len hm hp rfl).1
  rw [tl_len, List.length_append, tl_len] at hlen
  have hsz := h.size
  refine ⟨by omega, .inr ⟨b, cur, rfl, rfl, hr⟩, by omega, ?_, pureF_snoc x hm hp M h.pur, ?_, ?_⟩
  · rw [h.all, hi, wrF_snoc, List.append_assoc]
  · exact (h.inn.mono fun e he => List.mem_append_right _ he).snoc (hs.mono fun e he => List.mem_append_left _ he) (by omega)
  · intro k hpk hk
    obtain ⟨k', hp', he'⟩ := h.rest k hpk hk
    exact li_next (by omega) ⟨hm, hp, hi⟩ hp' he'
theorem LiInv.done {t t' : ByteArray} {p : Option Addr} {n c : Nat} {row : List (Nat × Obj)} {M : List X3} {T : List (Nat × Obj)} (ht : t.size ≤ 100000) (h : LiInv t t' p n c row M T) (h0 : t' = ⟨#[]⟩) : okList t (.agg #[.bool true, .string ⟨#[]⟩, .slice p n c]) (row ++ T) := by
  have hsz := h.size
  refine ⟨p, n, c, toFo M, rfl, ?_, h.pur, ?_⟩
  · rw [h.all, h0]; exact List.append_nil _
  · rcases h.row with ⟨rfl, rfl, rfl, rfl, rfl⟩ | ⟨b, cur, rfl, rfl, hr⟩
    · exact SlIn.none _
    · exact hr.slIn (b := b) (ty := 43) (fz := (0, 0)) (by simp) (h.inn.mono fun e he => List.mem_append_right _ he) (by omega)
set_option maxRecDepth 100000 in
set_option maxHeartbeats 2000000 in
theorem list_step (t : ByteArray) (ht : t.size ≤ 100000) (hi : ∀ (bd : Nat) (u : ByteArray), u.size ≤ t.size → ItemC bd u) : ListC t := by
  refine FnY.intro (c := codeOf Tryd.f43) [.cell 2 43] 18 Tryd.func43 kr kr kr fun B w0 w L H0 => ?_
  refine g_sreg [0] kr kr ?_
  refine s_alloc H0 (some 2) 43 (.agg #[.bool false, .string ⟨#[]⟩, .slice none 0 0]) kr kr kr ?_
  intro b2 w1 H1
  refine s_nil ?_
  refine g_sreg [0, 1, 2, 3, 4, 5, 6] kr kr ?_
  refine s_val (some 5) (.agg #[.bool true, .string ⟨#[]⟩, .slice none 0 0]) (fun w => by kernel_rfl) kr ?_
  refine s_val (some 6) (.string t) (fun w => by kernel_rfl) kr ?_
  refine s_val (some 7) (.agg #[.string t]) (fun w => by kernel_rfl) kr ?_
  refine s_alloc H1 (some 3) 43 (.agg #[.bool false, .string ⟨#[]⟩, .slice none 0 0]) kr kr kr ?_
  intro b3 w2 H2
  refine s_alloc H2 (some 4) 66 (.agg #[.string ⟨#[]⟩]) kr kr kr ?_
  intro b4 w3 H3
  refine rp [.s 1, .s 0] H3 kr fun gs4 w4 H4 => ?_
  show WPs _ _ _ _ [] _ _
  refine s_nil ?_
  have H5 : St B w0 w4 ((b4, dc t) :: (b3, xo (.slice none 0 0)) :: (b2, r0) :: ([] ++ ([] ++ L))) := H4.as kr
  refine g_seq kr ?_
  refine g_block 0 kr ?_
  refine g_loop kr (fun mz ρ ww => ∃ (t' : ByteArray) (p : Option Addr) (n c : Nat) (row : List (Nat × Obj)) (M : List X3) (T : List (Nat × Obj)), t'.size = mz ∧ LiInv t t' p n c row M T ∧ St B w0 ww ((b4, dc t') :: (b3, xo (.slice p n c)) :: (b2, r0) :: (row ++ (T ++ L))) ∧ Is [(0, .string t), (2, .pointer (some ⟨b2, 0, none⟩)), (3, .pointer (some ⟨b3, 0, none⟩)), (4, .pointer (some ⟨b4, 0, none⟩))] ρ) t.size ⟨t, none, 0, 0, [], [], [], rfl, ⟨.inl ⟨rfl, rfl, rfl, rfl, rfl⟩, by omega, rfl, rfl, (fun _ h => nomatch h), fun k hp he => ⟨k, hp, he⟩⟩, H5, (Is.of ⟨kr, kr, kr, kr, trivial⟩)⟩ ?_
  rintro _ _ w5 ⟨t', p, n, c, row, M, T, rfl, hI, H6, _, rfl⟩
  have hsz := hI.size
  by_cases h0 : t' = ⟨#[]⟩
  · refine g_seq kr ?_
    refine rS [.v, .l 0, .e (v := .bool (!(ByteArray.toList t' == ByteArray.toList (⟨#[]⟩)))) (v' := .bool false) (bool_eq (by rw [str_same t' (⟨#[]⟩) h0]; rfl))] H6 kr fun gs5 w6 H7 => ?_
    refine g_cond_f kr kr ?_
    refine g_exit 0 kr ?_
    show WP _ _ _ _ _ _
    refine rS [.l 1, .s 2] H7 kr fun gs6 w7 H8 => ?_
    have H9 : St B w0 w7 ((b4, dc t') :: (b3, xo (.slice p n c)) :: (b2, xo (.slice p n c)) :: (row ++ (T ++ L))) := H8.as kr
    refine g_ret kr ?_
    show ∃ vs, Res _ _ _ _ vs ∧ _
    refine ⟨[.agg #[.bool true, .string ⟨#[]⟩, .slice p n c]], (.agg (b := b2) (#[.bool true, .string ⟨#[]⟩, .slice p n c]) 43 (0, 0) kr (H9.get 2 kr) kr .nil), row ++ T, hI.done ht h0, ?_⟩
    rw [List.append_assoc]
    exact H9.sub (List.Sublist.cons _ (List.Sublist.cons _ (List.sublist_cons_self ..)))
  · have hz := size_ne h0
    refine g_seq kr ?_
    refine rS [.v, .l 0, .e (v := .bool (!(ByteArray.toList t' == ByteArray.toList (⟨#[]⟩)))) (v' := .bool true) (bool_eq (by rw [str_other t' (⟨#[]⟩) h0]; rfl))] H6 kr fun gs5 w6 H7 => ?_
    refine g_cond_t kr kr ?_
    refine g_skip kr ?_
    show WP _ _ _ _ _ _
    refine g_block 1 kr ?_
    have H8 : St B w0 w6 ((b4, dc t') :: (b3, xo (.slice p n c)) :: (b2, r0) :: (row ++ (T ++ L))) := H7.as kr
    refine D2.g_draw0X (Bad := fun ch w' => ch = chF ∧ liBad t ∧ St B w0 w' L) (fun ch ρ w h => h) [0, 1, 2, 3, 4, 5, 6] [(some 11, fun _ => .pointer (some ⟨b3, 2, none⟩)), (some 12, fun _ => .slice p n c), (some 13, fun y => .agg y.cur), (some 14, fun y => .slice (some ⟨y.b, 0, none⟩) 1 1), (some 15, fun y => .slice (some ⟨y.b, 0, none⟩) (n + 1) y.cap), (some 16, fun _ => .pointer (some ⟨b3, 2, none⟩)), (none, fun _ => undef)] (PreL B w0 t' b2 b3 b4 p n c row M (T ++ L)) kr kr kr H8.drew ⟨?_, ?_, ?_, ?_, ?_, ?_, ?_, trivial⟩ ?_
    · exact .of (D2.gv_val (fun L g w h => by have := h.keep (i := 0) (y := g 0) rfl rfl rfl rfl; rwa [D2.setN_self] at this) (fun g w => by kernel_rfl))
    · refine .of (D2.gives_of fun L g w hp hN => ?_)
      obtain ⟨o, ho, hd, hw, hop⟩ := opk_some (show opk _ 1 _ = some (some 12, true, .load 41 (.tmp 11)) by kernel_rfl)
      obtain ⟨l, HS, hm⟩ := hp.x (hN.post 4 kr)
      refine ⟨o, ho, hd, .inr ⟨hw, ?_⟩⟩
      rw [load_at (off := 2) (v := .slice p n c) (HS.own _ hm).2 kr kr kr o hop]
      exact ⟨g 1, rfl, hp.keep rfl rfl rfl rfl⟩
    · intro L1 g w hp hn hr hc
      have hN : D2.Now _ 2 L1 := ⟨hn, hr, hc⟩
      have h3 := hN.post 3 kr
      have h4 := hc.no 3 4 kr h3
      obtain ⟨o, ho, hd, hw, hrun⟩ := opv_some (show opv _ _ 2 _ w = some (some 13, true, .ok (.enter 28 #[.pointer (some ⟨b4, 0, none⟩)]) w) by kernel_rfl)
      refine ⟨o, ho, hd, .inr ⟨hw, ?_⟩⟩
      rw [hrun]
      unfold PreL at hp
      rw [h4, h3, hn] at hp
      refine (hi b4 t' (by omega) B w0 w _ hp).mono fun e w' q => ?_
      rcases q with ⟨v, u, T2, rfl, ⟨l, s, p1, n1, c1, k, rfl, q1, q2, q3⟩, HS⟩ | ⟨rfl, hb, HS⟩
      · refine .inl ⟨_, rfl, { cur := #[.bool l, .string s, .slice p1 n1 c1] }, rfl, ?_⟩
        unfold PreL
        rw [show D2.put1 L1 2 4 = false from h4, show D2.put1 L1 2 3 = false from h3, show D2.put1 L1 2 2 = true from rfl]
        exact ⟨u, T2, ⟨l, s, p1, n1, c1, k⟩, ⟨q1, q2, q3⟩, rfl, HS.perm (List.Perm.cons _ (List.perm_append_comm_assoc ((b3, xo (.slice p n c)) :: (b2, r0) :: row) T2 (T ++ L)))⟩
      · exact .inr ⟨chF, rfl, rfl, hI.bad hz hb, HS.sub (List.Sublist.cons _ (List.Sublist.cons _ ((List.sublist_append_right _ _).trans (List.sublist_append_right _ _))))⟩
    · refine .of (D2.gives_of fun L1 g w hp hN => ?_)
      have h2 := hN.bef 2 kr
      have h4 := hN.post 4 kr
      unfold PreL at hp
      rw [h4, hN.1, h2] at hp
      obtain ⟨u, T2, x, hx, hcur, HS⟩ := hp
      obtain ⟨o, ho, hd, hw, hrun⟩ := opv_some (show opv _ _ 3 (setAll [(11, .pointer (some ⟨b3, 2, none⟩)), (12, .slice p n c), (13, .agg (g 2).cur)] _) w = some (some 14, true, .ok (.value (.slice (some ⟨w.heap.size, 0, none⟩) 1 1)) (w.alloc (.cells (xc x) 43))) by rw [hcur]; kernel_rfl)
      refine ⟨o, ho, hd, .inr ⟨hw, ?_⟩⟩
      refine (congrArg (D2.Runs _ _) hrun).mpr ?_
      refine ⟨{ b := w.heap.size }, rfl, ?_⟩
      unfold PreL
      rw [show D2.put1 L1 3 4 = false from h4, show D2.put1 L1 3 3 = true from rfl]
      exact ⟨u, T2, x, hx, HS.alloc _⟩
    · refine .of (D2.gives_of fun L1 g w hp hN => ?_)
      have h3 := hN.bef 3 kr
      have h6 := hN.post 6 kr
      unfold PreL at hp
      rw [hN.1, h3] at hp
      obtain ⟨u, T2, x, hx, HS⟩ := hp
      obtain ⟨o, ho, hd, hw, hop⟩ := opk_some (show opk _ 4 _ = some (some 15, true, appendOp 41 (.tmp 12) (.tmp 14)) by kernel_rfl)
      refine ⟨o, ho, hd, .inr ⟨hw, ?_⟩⟩
      rcases hI.row with ⟨rfl, rfl, rfl, rfl, rfl⟩ | ⟨b, cur, rfl, rfl, hrw⟩
      · obtain ⟨b', cap', cur', w', hrun, HS', hr'⟩ := app_run_nil HS (t := 41) (e := 43) (bytes := 48) (k := 0) (bx := (g 3).b) (c := 1) (y := x) kr hop kr kr rfl (by omega)
        rw [hrun]
        refine ⟨{ b := b', cap := cap', cur := cur' }, rfl, ?_⟩
        unfold PreL
        rw [show D2.put1 L1 4 4 = true from rfl, show D2.put1 L1 4 6 = false from h6]
        refine ⟨u, T2, x, hx, hr', ?_⟩
        exact (HS'.sub (List.Sublist.cons_cons _ (List.sublist_cons_self ..))).perm (List.perm_middle (l₁ := [(b4, dc u), (b3, xo (.slice none 0 0)), (b2, r0)]))
      · obtain ⟨b', cap', cur', w', hrun, HS', hr'⟩ := app_run_own HS (t := 41) (e := 43) (bytes := 48) (j := 4) (k := 0) (bx := (g 3).b) (c := 1) (y := x) kr hop kr rfl hrw kr rfl (by omega) (by unfold maxLen; omega)
        rw [hrun]
        refine ⟨{ b := b', cap := cap', cur := cur' }, rfl, ?_⟩
        unfold PreL
        rw [show D2.put1 L1 4 4 = true from rfl, show D2.put1 L1 4 6 = false from h6]
        exact ⟨u, T2, x, hx, hr', HS'.sub (List.sublist_cons_self ..)⟩
    · exact .of (D2.gv_val (fun L g w h => by have := h.keep (i := 5) (y := g 5) rfl rfl rfl rfl; rwa [D2.setN_self] at this) (fun g w => by kernel_rfl))
    · refine .of (D2.gives_of fun L1 g w hp hN => ?_)
      have h4 := hN.bef 4 kr
      unfold PreL at hp
      rw [h4, hN.1] at hp
      obtain ⟨u, T2, x, hx, hr', HS⟩ := hp
      obtain ⟨o, ho, hd, hw, hop⟩ := opk_some (show opk _ 6 _ = some (none, true, .store 41 (.tmp 16) (.tmp 15)) by kernel_rfl)
      refine ⟨o, ho, hd, .inr ⟨hw, ?_⟩⟩
      rw [store_at (t := 41) (off := 2) (b := b3) (C := #[.bool true, .string ⟨#[]⟩, .slice p n c]) (T := 43) (v := .slice (some ⟨(g 4).b, 0, none⟩) (n + 1) (g 4).cap) (C' := #[.bool true, .string ⟨#[]⟩, .slice (some ⟨(g 4).b, 0, none⟩) (n + 1) (g 4).cap]) (HS.get 1 kr) kr kr (of_decide_eq_true kr) kr kr kr o hop]
      refine ⟨default, rfl, ?_⟩
      unfold PreL
      rw [show D2.put1 L1 6 4 = true from h4, show D2.put1 L1 6 6 = true from rfl]
      exact ⟨u, T2, x, hx, hr', HS.store 1 (C := #[.bool true, .string ⟨#[]⟩, .slice p n c]) kr⟩
    · intro L1 g w' hall hp
      unfold PreL at hp
      rw [hall 4 (Nat.le_of_ble_eq_true kr), hall 6 (Nat.le_of_ble_eq_true kr)] at hp
      obtain ⟨u, T2, x, hx, hr', HS⟩ := hp
      obtain ⟨hlt, hI'⟩ := hI.next (b := (g 4).b) ht hx hr'
      show ∃ m, _ ∧ _
      refine ⟨_, hlt, u, _, _, _, _, _, _, rfl, hI', ?_, (Is.of ⟨kr, kr, kr, kr, trivial⟩)⟩
      rw [List.append_assoc]
      exact HS
theorem read_all (m : Nat) : (∀ (t : ByteArray), t.size ≤ m → m ≤ 100000 → (∀ bd, ItemC bd t) ∧ ListC t) := by
  induction m with
  | zero =>
    intro t h hm
    have hi : ∀ (bd : Nat) (u : ByteArray), u.size ≤ t.size → ItemC bd u := fun bd u hu => item_step bd u (by omega) fun s hs => by omega
    exact ⟨fun bd => hi bd t (Nat.le_refl _), list_step t (by omega) hi⟩
  | succ m ih =>
    intro t h hm
    have hi : ∀ (bd : Nat) (u : ByteArray), u.size ≤ t.size → ItemC bd u := fun bd u hu => item_step bd u (by omega) fun s hs => (ih s (by omega) (by omega)).2
    exact ⟨fun bd => hi bd t (Nat.le_refl _), list_step t (by omega) hi⟩
theorem item_x (bd : Nat) (t : ByteArray) (ht : t.size ≤ 100000) : ItemC bd t := (read_all 100000 t ht (Nat.le_refl _)).1 bd
end Go.Proofs.YtkkbkpneodecnaaDoor

namespace Go.Proofs.YtkkbkpneodecnaaDoor
open Go Go.RowKit
set_option linter.unusedVariables false
structure RepD (ds : List Deferred) (a : Act) (ρ : Env) (N : Nat) : Prop where
  defers : a.defers = ds
  rep : Rep { a with defers := [] } ρ N
def liftD (ds : List Deferred) (N : Nat) (Q : Exit → Env → World → Prop) : Exit → Act → World → Prop := fun e a w => ∃ ρ, RepD ds a ρ N ∧ Q e ρ w
theorem put_defers (a : Act) (d : Option Nat) (v : Value) : (a.put d v).defers = a.defers := by cases d <;> rfl
theorem put_nod (a : Act) (d : Option Nat) (v : Value) : { a.put d v with defers := [] } = ({ a with defers := [] } : Act).put d v := by cases d <;> rfl
theorem eval_nod (a : Act) : ({ a with defers := [] } : Act).eval = a.eval := by funext x; cases x <;> rfl
section
variable {P : Program} {N : Nat} {ops : Array Oper} {Q : Exit → Env → World → Prop} {K : Env → World → Prop} {ρ : Env} {w : World} {i : Nat} {ds : List Deferred}
theorem letsD (h : LetsOut (lift N Q)) : LetsOut (liftD ds N Q) := by
  obtain ⟨a, w, ρ, hr, hq⟩ := h
  exact ⟨{ a with defers := ds }, w, ρ, ⟨rfl, ⟨rfl, hr.size, hr.at_⟩⟩, hq⟩
theorem wpOp_defers {a : Act} (ha : a.defers = ds) (h : wpOp P ops (lift N Q) i (fun a' w' => ∃ ρ', Rep a' ρ' N ∧ K ρ' w') { a with defers := [] } w) : wpOp P ops (liftD ds N Q) i (fun a' w' => ∃ ρ', RepD ds a' ρ' N ∧ K ρ' w') a w := by
  unfold wpOp at h ⊢
  have hnext : ∀ (d : Option Nat) (v : Value) (w' : World), (∃ ρ', Rep (({ a with defers := [] } : Act).put d v) ρ' N ∧ K ρ' w') → ∃ ρ', RepD ds (a.put d v) ρ' N ∧ K ρ' w' := fun d v w' ⟨ρ', hr, hk⟩ => ⟨ρ', ⟨by rw [put_defers, ha], by rw [put_nod]; exact hr⟩, hk⟩
  cases ho : ops[i]? with
  | none =>
    simp only [ho] at h ⊢
    obtain ⟨ρ', hr, hk⟩ := h
    exact ⟨ρ', ⟨ha, hr⟩, hk⟩
  | some o =>
    simp only [ho] at h ⊢
    split
    · rename_i hw
      rw [if_pos hw] at h
      rcases h with h | ⟨h1, h2⟩
      · left
        unfold Oper.wp at h ⊢
        rw [eval_nod] at h
        generalize (execOp a.eval o).run P w = r at h
        cases r with
        | ok n w' =>
          cases n with
          | value v => exact hnext _ _ _ h
          | skip => exact hnext _ _ _ h
          | defer d =>
            obtain ⟨ρ', hr, _⟩ := h
            have := hr.defers
            rw [put_defers] at this; cases this
          | enter f args =>
            refine Calls.mono h fun e w'' q => ?_
            cases e with
            | returned v => exact hnext _ _ _ q
            | panicked ch =>
              obtain ⟨ρ', hr, hq⟩ := q
              exact ⟨ρ', ⟨ha, hr⟩, hq⟩
            | outgrown => exact letsD q
          | row row args => exact Rows.mono h fun v w'' q => hnext _ _ _ q
          | _ => exact (h : False).elim
        | halt hh w' =>
          cases hh with
          | panic v =>
            obtain ⟨ρ', hr, hq⟩ := h
            exact ⟨ρ', ⟨ha, hr⟩, hq⟩
          | _ => exact (h : False).elim
      · right
        refine ⟨?_, letsD h2⟩
        unfold Oper.asks at h1 ⊢
        rw [eval_nod] at h1
        exact h1
    · rename_i hw
      rw [if_neg hw] at h
      exact hnext _ _ _ h
theorem WPsX.soundD : ∀ (l : List Nat) (ρ : Env) (w : World), WPsX P N ops Q (Q .normal) l ρ w → ∀ a, RepD ds a ρ N → wpOps P ops (liftD ds N Q) l a w
  | [], ρ, w, h, a, ha => ⟨ρ, ha, h⟩
  | i :: r, ρ, w, h, a, ha => by
    rw [wpOps_cons]
    exact wpOp_mono (fun a' w' ⟨ρ', hr, h'⟩ => WPsX.soundD r ρ' w' h' a' hr) (wpOp_defers ha.defers (h _ ha.rep))
def WPD (ds : List Deferred) (P : Program) (N : Nat) (c : Code) (Q : Exit → Env → World → Prop) (ρ : Env) (w : World) : Prop := ∀ a, RepD ds a ρ N → c.wp P (liftD ds N Q) a w
variable {c : Code}
theorem d_seq (hc : isSeq c = true) (h : WPD ds P N (seqL c) (nx (WPD ds P N (seqR c) Q) Q) ρ w) : WPD ds P N c Q ρ w := fun a ha => by
  rw [isSeq_eq hc]
  exact wp_seq (Go.wp_mono (h a ha) fun e a' w' ⟨r, hr, q⟩ => by
    cases e <;> first | exact q a' hr | exact ⟨r, hr, q⟩)
theorem d_reg (l : List Nat) (hc : regOf c = some (l, false)) (h : WPsX P N (opsOf c) Q (Q .normal) l ρ w) : WPD ds P N c Q ρ w := fun a ha => by
  obtain ⟨id, he, hl⟩ := regOf_eq hc
  rw [he]
  exact wp_region (by rw [hl]; exact WPsX.soundD l ρ w h a ha)
theorem d_sreg (l : List Nat) (hc : isSeq c = true) (hr : regOf (seqL c) = some (l, false)) (h : WPsX P N (opsOf (seqL c)) (nx (WPD ds P N (seqR c) Q) Q) (WPD ds P N (seqR c) Q) l ρ w) : WPD ds P N c Q ρ w :=
  d_seq hc (d_reg l hr h)
theorem d_skip (hc : isSkip c = true) (h : Q .normal ρ w) : WPD ds P N c Q ρ w := fun a ha => by rw [isSkip_eq hc]; exact wp_skip ⟨ρ, ha, h⟩
end
end Go.Proofs.YtkkbkpneodecnaaDoor

namespace Go.Proofs.YtkkbkpneodecnaaDoor
open Go Go.RowKit
set_option linter.unusedVariables false
section
variable {P : Program} {N : Nat} {ops : Array Oper} {ρ : Env} {w w' : World} {i : Nat} {ds : List Deferred} {c : Code} {rest : List Nat} {a : Act} {cs : List Frame}
theorem d_cond_t {Q : Exit → Env → World → Prop} (hc : isCond c = true) (hx : ev ρ (condX c) = .bool true) (ht : WPD ds P N (condT c) Q ρ w) : WPD ds P N c Q ρ w := fun a ha => by
  rw [isCond_eq hc]; exact wp_cond_true (by rw [← eval_nod, ha.rep.eval]; exact hx) (ht a ha)
theorem d_cond_f {Q : Exit → Env → World → Prop} (hc : isCond c = true) (hx : ev ρ (condX c) = .bool false) (ht : WPD ds P N (condE c) Q ρ w) : WPD ds P N c Q ρ w := fun a ha => by
  rw [isCond_eq hc]; exact wp_cond_false (by rw [← eval_nod, ha.rep.eval]; exact hx) (ht a ha)
theorem d_ret {Q : Exit → Env → World → Prop} (hc : isRet c = true) (h : Q .ret ρ w) : WPD ds P N c Q ρ w := fun a ha => by rw [isRet_eq hc]; exact wp_ret ⟨ρ, ha, h⟩
variable {Q : Exit → Act → List Frame → World → Prop}
theorem opsS_none {d : Option Nat} (ha : Rep a ρ N) (hn : recoverD cs = none) (h : opv P ops i ρ w = some (d, true, .ok .recover w')) (k : wpOpsS P ops Q rest (a.put d .nilIface) cs w') : wpOpsS P ops Q (i :: rest) a cs w := by
  obtain ⟨o, ho, rfl, hw, hr⟩ := opv_some h
  have h1 : Region.wanted o (yielded ops a.tmps) = true := by rw [wanted_eq ha]; exact hw
  rw [← ha.eval] at hr
  simp only [wpOpsS, ho, h1, if_true, hr, hn]; exact k
theorem opsS_some {d : Option Nat} {v : Value} {cs' : List Frame} (ha : Rep a ρ N) (hn : recoverD cs = some (v, cs')) (h : opv P ops i ρ w = some (d, true, .ok .recover w')) (k : wpOpsS P ops Q rest (a.put d v) cs' w') : wpOpsS P ops Q (i :: rest) a cs w := by
  obtain ⟨o, ho, rfl, hw, hr⟩ := opv_some h
  have h1 : Region.wanted o (yielded ops a.tmps) = true := by rw [wanted_eq ha]; exact hw
  rw [← ha.eval] at hr
  simp only [wpOpsS, ho, h1, if_true, hr, hn]; exact k
theorem opsS_value {d : Option Nat} {v : Value} (ha : Rep a ρ N) (h : opv P ops i ρ w = some (d, true, .ok (.value v) w')) (k : wpOpsS P ops Q rest (a.put d v) cs w') : wpOpsS P ops Q (i :: rest) a cs w := by
  obtain ⟨o, ho, rfl, hw, hr⟩ := opv_some h
  have h1 : Region.wanted o (yielded ops a.tmps) = true := by rw [wanted_eq ha]; exact hw
  rw [← ha.eval] at hr
  simp only [wpOpsS, ho, h1, if_true, hr, Oper.upon]; exact k
end
def chR : FrameMode := .panicking [{ v := .iface 24 (.int .i64 4), recovered := true }]
theorem act_rep (args : Array Value) (n N : Nat) (hn : args.size + n = N) : Rep { tmps := args ++ Array.replicate n undef, defers := [] } (ini args) N := by
  refine ⟨rfl, by simp [hn], fun t => ?_⟩
  unfold ini
  rw [getD_eq_get?, getD_eq_get?, Array.getElem?_append]
  split
  · rfl
  · rename_i hge
    rw [Array.getElem?_eq_none (Nat.le_of_not_lt hge)]
    cases he : (Array.replicate n undef)[t - args.size]? with
    | none => rfl
    | some v =>
      have := Array.mem_of_getElem? he
      simp at this
      simp [this]
abbrev dargs (b2 b3 : Nat) : Array Value := #[.pointer (some ⟨b2, 0, none⟩), .pointer (some ⟨b3, 0, none⟩)]
set_option maxRecDepth 100000 in
set_option maxHeartbeats 2000000 in
theorem closure_calm (b2 b3 : Nat) (w : World) : CallsD Tryd.prog 27 (dargs b2 b3) .returning w fun e u' w' => e = .returned (.tuple #[]) ∧ u' = .returning ∧ w' = w := by
  refine callsD_of_wpS (f := 27) (c := codeOf Tryd.f27) (P := Tryd.prog) Tryd.func27 kr fun c0 cs hm => ?_
  have ha := act_rep (dargs b2 b3) 3 5 rfl
  have hc : codeOf Tryd.f27 = .seq (seqL (codeOf Tryd.f27)) (seqR (codeOf Tryd.f27)) := kr
  have hr : recoverD (c0 :: cs) = none := by simp [recoverD, hm]
  rw [hc]
  refine wpS_seq ?_
  have hreg : seqL (codeOf Tryd.f27) = .region 0 (opsOf (seqL (codeOf Tryd.f27))) false := kr
  rw [hreg]
  refine wpS_region ?_
  rw [show List.range (opsOf (seqL (codeOf Tryd.f27))).size = [0, 1] by kernel_rfl]
  show wpOpsS _ _ _ [0, 1] { tmps := dargs b2 b3 ++ Array.replicate 3 undef, defers := [] } _ _
  refine opsS_none (ρ := ini (dargs b2 b3)) (d := some 2) (w' := w) ha hr kr ?_
  have ha2 := ha.put (some 2) (dOK_lt (by rfl)) .nilIface
  refine opsS_value (d := some 3) (v := .bool false) (w' := w) ha2 kr ?_
  have ha3 := ha2.put (some 3) (dOK_lt (by rfl)) (.bool false)
  show (seqR (codeOf Tryd.f27)).wpS _ _ _ _ _
  have hcond : seqR (codeOf Tryd.f27) = .cond (condX (seqR (codeOf Tryd.f27))) (condT (seqR (codeOf Tryd.f27))) (condE (seqR (codeOf Tryd.f27))) := kr
  rw [hcond]
  refine wpS_cond (t := false) (by rw [ha3.eval]; kernel_rfl) ?_
  refine wpS_of_wp ?_
  have hsk : condE (seqR (codeOf Tryd.f27)) = .skip := kr
  rw [if_neg (by decide), hsk]
  refine wp_skip ?_
  exact ⟨ha3.defers, c0.mode, rfl, .tuple #[], by kernel_rfl, rfl, hm, rfl⟩
set_option maxRecDepth 100000 in
set_option maxHeartbeats 2000000 in
theorem closure_catch (b2 b3 : Nat) (x1 x2 x3 y : Value) {B : Nat} {w0 w : World} {L : List (Nat × Obj)} (H : St B w0 w ((b2, .cells #[x1, x2, x3] 43 (0, 0)) :: (b3, .cells #[y] 24 (0, 0)) :: L)) :
    CallsD Tryd.prog 27 (dargs b2 b3) (.panicking chF) w fun e u' w' => e = .returned (.tuple #[]) ∧ u' = chR ∧ St B w0 w' ((b2, .cells #[.bool false, .string ⟨#[]⟩, .slice none 0 0] 43 (0, 0)) :: (b3, .cells #[.int .i64 4] 24 (0, 0)) :: L) := by
  refine callsD_of_wpS (f := 27) (c := codeOf Tryd.f27) (P := Tryd.prog) Tryd.func27 kr fun c0 cs hm => ?_
  have ha := act_rep (dargs b2 b3) 3 5 rfl
  have hc : codeOf Tryd.f27 = .seq (seqL (codeOf Tryd.f27)) (seqR (codeOf Tryd.f27)) := kr
  have hr : recoverD (c0 :: cs) = some (.iface 24 (.int .i64 4), { c0 with mode := chR } :: cs) := by simp [recoverD, hm, chF, chR]
  rw [hc]
  refine wpS_seq ?_
  have hreg : seqL (codeOf Tryd.f27) = .region 0 (opsOf (seqL (codeOf Tryd.f27))) false := kr
  rw [hreg]
  refine wpS_region ?_
  rw [show List.range (opsOf (seqL (codeOf Tryd.f27))).size = [0, 1] by kernel_rfl]
  show wpOpsS _ _ _ [0, 1] { tmps := dargs b2 b3 ++ Array.replicate 3 undef, defers := [] } _ _
  refine opsS_some (ρ := ini (dargs b2 b3)) (d := some 2) (w' := w) ha hr kr ?_
  have ha2 := ha.put (some 2) (dOK_lt (by rfl)) (.iface 24 (.int .i64 4))
  refine opsS_value (d := some 3) (v := .bool true) (w' := w) ha2 kr ?_
  have ha3 := ha2.put (some 3) (dOK_lt (by rfl)) (.bool true)
  show (seqR (codeOf Tryd.f27)).wpS _ _ _ _ _
  have hcond : seqR (codeOf Tryd.f27) = .cond (condX (seqR (codeOf Tryd.f27))) (condT (seqR (codeOf Tryd.f27))) (condE (seqR (codeOf Tryd.f27))) := kr
  rw [hcond]
  refine wpS_cond (t := true) (by rw [ha3.eval]; kernel_rfl) ?_
  refine wpS_of_wp ?_
  rw [if_pos rfl]
  have hw : WP Tryd.prog 5 (condT (seqR (codeOf Tryd.f27))) (fun e ρ w' => match e with | .normal => St B w0 w' ((b2, .cells #[.bool false, .string ⟨#[]⟩, .slice none 0 0] 43 (0, 0)) :: (b3, .cells #[.int .i64 4] 24 (0, 0)) :: L) | _ => False) _ w := rL (ρ := updO (updO (ini (dargs b2 b3)) (some 2) (.iface 24 (.int .i64 4))) (some 3) (.bool true)) [.v, .s 0, .s 1] H kr fun gs w' H' => H'.as kr
  refine Go.wp_mono (hw _ ha3) ?_
  rintro e a' w' ⟨ρ', hrep, hq⟩
  cases e with
  | normal => exact ⟨hrep.defers, chR, rfl, .tuple #[], by kernel_rfl, rfl, rfl, hq⟩
  | _ => exact (hq : False).elim
def okRead (t : ByteArray) (v : Value) (T : List (Nat × Obj)) : Prop :=
  (∃ (l : Bool) (s : ByteArray) (p : Option Addr) (n c : Nat) (k : Fo), v = .tuple #[.agg #[.bool l, .string s, .slice p n c], .int .i64 0] ∧ itIs t l s k ⟨#[]⟩ ∧ SlIn T p n k ∧ s.size ≤ t.size) ∨
  (v = .tuple #[.agg #[.bool false, .string ⟨#[]⟩, .slice none 0 0], .int .i64 4] ∧ T = [] ∧ ∀ (l : Bool) (s : ByteArray) (k : Fo), mixed l s k.len = false → pureF k = true → tl t ≠ wr1 l s (szF k) (wrF k))
def FnZ (P : Program) (f : Nat) (args : Array Value) (ok : Value → List (Nat × Obj) → Prop) : Prop :=
  ∀ (B : Nat) (w0 w : World) (L : List (Nat × Obj)), St B w0 w L → Calls P f args w fun e w' => ∃ v T, e = .returned v ∧ ok v T ∧ St B w0 w' (T ++ L)
/-- How the rest of read ends, behind the defer. -/
def rdEnd (t : ByteArray) (B : Nat) (w0 : World) (b2 b3 : Nat) (L : List (Nat × Obj)) : Exit → Env → World → Prop
  | .ret, ρ, w => ρ 2 = .pointer (some ⟨b2, 0, none⟩) ∧ ρ 3 = .pointer (some ⟨b3, 0, none⟩) ∧ ∃ (l : Bool) (s : ByteArray) (p : Option Addr) (n c : Nat) (k : Fo) (T : List (Nat × Obj)), itIs t l s k ⟨#[]⟩ ∧ SlIn T p n k ∧ s.size ≤ t.size ∧ St B w0 w ((b2, .cells #[.bool l, .string s, .slice p n c] 43 (0, 0)) :: (b3, .cells #[.int .i64 0] 24 (0, 0)) :: (T ++ L))
  | .panic ch, ρ, w => ρ 2 = .pointer (some ⟨b2, 0, none⟩) ∧ ρ 3 = .pointer (some ⟨b3, 0, none⟩) ∧ ch = chF ∧ (∀ (l : Bool) (s : ByteArray) (k : Fo), mixed l s k.len = false → pureF k = true → tl t ≠ wr1 l s (szF k) (wrF k)) ∧ ∃ x1 x2 x3 y, St B w0 w ((b2, .cells #[x1, x2, x3] 43 (0, 0)) :: (b3, .cells #[y] 24 (0, 0)) :: L)
  | _, _, _ => False
theorem whole_bad {t : ByteArray} (h : itBad t) (l : Bool) (s : ByteArray) (k : Fo) (hm : mixed l s k.len = false) (hp : pureF k = true) : tl t ≠ wr1 l s (szF k) (wrF k) := fun e => h l s k [] hm hp (by rw [e, List.append_nil])
/-- Two items stand nowhere. -/
theorem whole_other {t u : ByteArray} {l l' : Bool} {s s' : ByteArray} {k k' : Fo} (ht : t.size ≤ 100000) (h : itIs t l s k u) (hu : ¬ u = ⟨#[]⟩) (hm : mixed l' s' k'.len = false) (hp : pureF k' = true) : tl t ≠ wr1 l' s' (szF k') (wrF k') := fun e => by
  obtain ⟨r, hr, he⟩ := li_next (k' := .cons l' s' k' .nil) ht h (by simp only [pureF, hm, hp]; rfl) (by rw [e]; simp only [wrF, List.append_nil])
  obtain ⟨hm1, hp1, hi⟩ := h
  have hlen := congrArg List.length hi
  have hlen2 := congrArg List.length e
  rw [tl_len, List.length_append, wr1_sz hm1 (pure_len hp1)] at hlen
  rw [tl_len, wr1_sz hm (pure_len hp)] at hlen2
  have hpay : ∀ (l : Bool) (s : ByteArray) (k : Fo), sz1 l s (szF k) ≤ 100000 → mixed l s k.len = false → s.size + szF k ≤ 100000 := fun l s k h hm => by
    unfold sz1 at h
    split at h
    · rename_i q
      have h1 := single_size q
      have h2 := len_zero (mixed_single hm q)
      rw [h2]; simp only [szF]; omega
    · omega
  have hx := hpay l s k (by omega) hm1
  have hy := hpay l' s' k' (by omega) hm
  have e2 : wr1 l s (szF k) (wrF k) ++ tl u = wr1 l' s' (szF k') (wrF k') ++ [] := by rw [List.append_nil, ← e, hi]
  obtain ⟨_, _, _, hX⟩ := wr1_inj hm1 hm (pure_len hp1).symm (pure_len hp).symm (by omega) (by omega) (fun q => wrF_inj k k' hp1 hp (by rw [pure_len hp1]; omega) q) e2
  exact hu (tl_inj hX)
set_option maxRecDepth 100000 in
set_option maxHeartbeats 2000000 in
theorem read_rest (t : ByteArray) (ht : t.size ≤ 100000) (ds : List Deferred) {B : Nat} {w0 w : World} {L : List (Nat × Obj)} (b2 b3 : Nat) (ρ0 : Env) (H0 : St B w0 w ((b2, .cells #[.bool false, .string ⟨#[]⟩, .slice none 0 0] 43 (0, 0)) :: (b3, .cells #[.int .i64 0] 24 (0, 0)) :: L)) :
    WPD ds Tryd.prog 14 (seqR (seqR (codeOf Tryd.f16))) (rdEnd t B w0 b2 b3 L) (setAll [(0, .string t), (2, .pointer (some ⟨b2, 0, none⟩)), (3, .pointer (some ⟨b3, 0, none⟩))] ρ0) w := by
  refine d_sreg [0, 1, 2, 3] kr kr ?_
  refine x_end _ ?_
  refine s_val (some 6) (.string t) (fun w => by kernel_rfl) kr ?_
  refine s_val (some 7) (.agg #[.string t]) (fun w => by kernel_rfl) kr ?_
  refine s_alloc H0 (some 4) 66 (.agg #[.string ⟨#[]⟩]) kr kr kr ?_
  intro b4 w1 H1
  refine rp [.s 0] H1 kr fun gs1 w2 H2 => ?_
  show WPs _ _ _ _ [] _ _
  refine s_nil ?_
  have H3 : St B w0 w2 ((b4, dc t) :: (b2, .cells #[.bool false, .string ⟨#[]⟩, .slice none 0 0] 43 (0, 0)) :: (b3, .cells #[.int .i64 0] 24 (0, 0)) :: L) := H2.as kr
  show WPD _ _ _ _ _ _ _
  refine d_sreg [0, 1] kr kr ?_
  refine x_callX H3 (List.Perm.refl _) (some 8) 28 #[.pointer (some ⟨b4, 0, none⟩)] (item_x b4 t ht) kr kr (fun w' hb HS => ?_) ?_
  · exact ⟨by kernel_rfl, by kernel_rfl, rfl, whole_bad hb, _, _, _, _, HS⟩
  rintro _ u T w3 ⟨l, s, p, n, c, k, rfl, hi, hs, hz⟩ H4
  have H5 : St B w0 w3 ((b4, dc u) :: (b2, .cells #[.bool false, .string ⟨#[]⟩, .slice none 0 0] 43 (0, 0)) :: (b3, .cells #[.int .i64 0] 24 (0, 0)) :: (T ++ L)) := H4.perm (List.Perm.cons _ (List.perm_append_comm_assoc [(b2, _), (b3, _)] T L))
  refine x_end _ ?_
  refine rp [.s 1] H5 kr fun gs2 w4 H6 => ?_
  show WPs _ _ _ _ [] _ _
  refine s_nil ?_
  show WPD _ _ _ _ _ _ _
  refine d_seq kr ?_
  by_cases hu : u = ⟨#[]⟩
  · refine d_sreg [0, 1, 2] kr kr ?_
    refine x_end _ ?_
    refine rp [.v, .l 0, .e (v := .bool (!(ByteArray.toList u == ByteArray.toList (⟨#[]⟩)))) (v' := .bool false) (bool_eq (by rw [str_same u (⟨#[]⟩) hu]; rfl))] H6 kr fun gs3 w5 H7 => ?_
    show WPs _ _ _ _ [] _ _
    refine s_nil ?_
    show WPD _ _ _ _ _ _ _
    refine d_cond_f kr kr ?_
    refine d_skip kr ?_
    show WPD _ _ _ _ _ _ _
    refine d_sreg [0, 1, 2] kr kr ?_
    refine x_end _ ?_
    refine rp [.l 1, .s 1, .s 2] H7 kr fun gs4 w6 H8 => ?_
    show WPs _ _ _ _ [] _ _
    refine s_nil ?_
    show WPD _ _ _ _ _ _ _
    refine d_ret kr ?_
    have H9 : St B w0 w6 ((b4, dc u) :: (b2, .cells #[.bool l, .string s, .slice p n c] 43 (0, 0)) :: (b3, .cells #[.int .i64 0] 24 (0, 0)) :: (T ++ L)) := H8.as kr
    subst hu
    exact ⟨by kernel_rfl, by kernel_rfl, l, s, p, n, c, k, T, hi, hs, hz, H9.sub (List.sublist_cons_self ..)⟩
  · refine d_sreg [0, 1, 2] kr kr ?_
    refine x_end _ ?_
    refine rp [.v, .l 0, .e (v := .bool (!(ByteArray.toList u == ByteArray.toList (⟨#[]⟩)))) (v' := .bool true) (bool_eq (by rw [str_other u (⟨#[]⟩) hu]; rfl))] H6 kr fun gs3 w5 H7 => ?_
    show WPs _ _ _ _ [] _ _
    refine s_nil ?_
    show WPD _ _ _ _ _ _ _
    refine d_cond_t kr kr ?_
    refine d_reg [0, 1] kr ?_
    refine x_seg [0] (l2 := [1]) rfl ?_
    refine rp [.v] H7 kr fun gs4 w6 H8 => ?_
    show WPs _ _ _ _ [] _ _
    refine s_nil ?_
    refine x_panic none (.iface 24 (.int .i64 4)) kr ?_
    have H9 : St B w0 w6 ((b4, dc u) :: (b2, .cells #[.bool l, .string s, .slice p n c] 43 (0, 0)) :: (b3, .cells #[.int .i64 0] 24 (0, 0)) :: (T ++ L)) := H8.as kr
    exact ⟨by kernel_rfl, by kernel_rfl, rfl, fun l' s' k' hm hp => whole_other ht hi hu hm hp, _, _, _, _, H9.sub (List.Sublist.cons _ (List.Sublist.cons_cons _ (List.Sublist.cons_cons _ (List.sublist_append_right _ _))))⟩
end Go.Proofs.YtkkbkpneodecnaaDoor

namespace Go.Proofs.YtkkbkpneodecnaaDoor
open Go Go.RowKit
set_option linter.unusedVariables false
section
variable {P : Program} {N : Nat} {ops : Array Oper} {ρ : Env} {w w' : World} {i : Nat} {rest : List Nat} {a : Act} {Q : Exit → Act → World → Prop}
theorem ops_value {d : Option Nat} {v : Value} (ha : Rep a ρ N) (h : opv P ops i ρ w = some (d, true, .ok (.value v) w')) (k : wpOps P ops Q rest (a.put d v) w') : wpOps P ops Q (i :: rest) a w := by
  obtain ⟨o, ho, rfl, hw, hr⟩ := opv_some h
  have h1 : Region.wanted o (yielded ops a.tmps) = true := by rw [wanted_eq ha]; exact hw
  rw [← ha.eval] at hr
  rw [wpOps_cons]
  unfold wpOp
  simp only [ho, h1, if_true]
  left
  unfold Oper.wp
  rw [hr]; exact k
theorem ops_defer {d : Option Nat} {dd : Deferred} (ha : Rep a ρ N) (h : opv P ops i ρ w = some (d, true, .ok (.defer dd) w')) (k : wpOps P ops Q rest ({ a with defers := dd :: a.defers }.put d undef) w') : wpOps P ops Q (i :: rest) a w := by
  obtain ⟨o, ho, rfl, hw, hr⟩ := opv_some h
  have h1 : Region.wanted o (yielded ops a.tmps) = true := by rw [wanted_eq ha]; exact hw
  rw [← ha.eval] at hr
  rw [wpOps_cons]
  unfold wpOp
  simp only [ho, h1, if_true]
  left
  unfold Oper.wp
  rw [hr]; exact k
end
def ddv (b2 b3 : Nat) : Deferred := { target := .fn (.func 27) (dargs b2 b3), args := #[] }
set_option maxRecDepth 100000 in
set_option maxHeartbeats 2000000 in
theorem read_z (t : ByteArray) (ht : t.size ≤ 100000) : FnZ Tryd.prog 16 #[.string t] (okRead t) := fun B w0 w L HS => by
  refine calls_of_wp_defers (f := 16) (fn := Tryd.f16) (c := codeOf Tryd.f16) Tryd.func16 kr ?_
  have ha := act_rep #[.string t] 13 14 rfl
  show (codeOf Tryd.f16).wp _ _ { tmps := #[.string t] ++ Array.replicate 13 undef, defers := [] } w
  rw [show codeOf Tryd.f16 = .seq (seqL (codeOf Tryd.f16)) (seqR (codeOf Tryd.f16)) by kernel_rfl]
  refine wp_seq ?_
  have h0 : WP Tryd.prog 14 (seqL (codeOf Tryd.f16)) (fun e ρ w' => match e with | .normal => ∃ b2 b3, ρ = updO (updO (ini #[.string t]) (some 2) (.pointer (some ⟨b2, 0, none⟩))) (some 3) (.pointer (some ⟨b3, 0, none⟩)) ∧ St B w0 w' ((b3, .cells #[.int .i64 0] 24 (0, 0)) :: (b2, .cells #[.bool false, .string ⟨#[]⟩, .slice none 0 0] 43 (0, 0)) :: L) | _ => False) (ini #[.string t]) w := by
    refine g_reg0 [0, 1] kr ?_
    refine s_alloc HS (some 2) 43 (.agg #[.bool false, .string ⟨#[]⟩, .slice none 0 0]) kr kr kr ?_
    intro b2 w1 H1
    refine s_alloc H1 (some 3) 24 (.int .i64 0) kr kr kr ?_
    intro b3 w2 H2
    refine s_nil ?_
    exact ⟨b2, b3, rfl, H2⟩
  refine Go.wp_mono (h0 _ ha) ?_
  rintro e a1 w1 ⟨ρ1, hr1, hq⟩
  cases e with
  | normal =>
    obtain ⟨b2, b3, rfl, H1⟩ := hq
    show (seqR (codeOf Tryd.f16)).wp _ _ a1 w1
    rw [show seqR (codeOf Tryd.f16) = .seq (seqL (seqR (codeOf Tryd.f16))) (seqR (seqR (codeOf Tryd.f16))) by kernel_rfl]
    refine wp_seq ?_
    rw [show seqL (seqR (codeOf Tryd.f16)) = .region 1 (opsOf (seqL (seqR (codeOf Tryd.f16)))) false by kernel_rfl]
    refine wp_region ?_
    rw [show List.range (opsOf (seqL (seqR (codeOf Tryd.f16)))).size = [0, 1] by kernel_rfl]
    refine ops_value (d := some 5) (v := .func (.func 27) #[] (dargs b2 b3)) (w' := w1) hr1 kr ?_
    have hr2 := hr1.put (some 5) (dOK_lt (by rfl)) (.func (.func 27) #[] (dargs b2 b3))
    refine ops_defer (d := none) (dd := ddv b2 b3) (w' := w1) hr2 kr ?_
    show (seqR (seqR (codeOf Tryd.f16))).wp _ _ { a1.put (some 5) (.func (.func 27) #[] (dargs b2 b3)) with defers := ddv b2 b3 :: (a1.put (some 5) (.func (.func 27) #[] (dargs b2 b3))).defers } w1
    have hds : (a1.put (some 5) (.func (.func 27) #[] (dargs b2 b3))).defers = [] := hr2.defers
    rw [hds]
    have hD : RepD [ddv b2 b3] { a1.put (some 5) (.func (.func 27) #[] (dargs b2 b3)) with defers := [ddv b2 b3] } (setAll [(0, .string t), (2, .pointer (some ⟨b2, 0, none⟩)), (3, .pointer (some ⟨b3, 0, none⟩))] (updO (updO (updO (ini #[.string t]) (some 2) (.pointer (some ⟨b2, 0, none⟩))) (some 3) (.pointer (some ⟨b3, 0, none⟩))) (some 5) (.func (.func 27) #[] (dargs b2 b3)))) 14 := by
      refine ⟨rfl, ?_⟩
      have hS : Holds (updO (updO (updO (ini #[.string t]) (some 2) (.pointer (some ⟨b2, 0, none⟩))) (some 3) (.pointer (some ⟨b3, 0, none⟩))) (some 5) (.func (.func 27) #[] (dargs b2 b3))) [(0, .string t), (2, .pointer (some ⟨b2, 0, none⟩)), (3, .pointer (some ⟨b3, 0, none⟩))] := ⟨kr, kr, kr, trivial⟩
      rw [setAll_self hS]
      exact ⟨rfl, hr2.size, hr2.at_⟩
    have H2 := H1.perm (List.Perm.swap _ _ _)
    refine Go.wp_mono (read_rest t ht [ddv b2 b3] b2 b3 _ H2 _ hD) ?_
    rintro e a2 w2 ⟨ρ2, hr3, hq⟩
    cases e with
    | ret =>
      obtain ⟨h2, h3, l, s, p, n, c, k, T, hi, hs, hz, H3⟩ := hq
      show Leaves _ _ a2.tmps _ a2.defers _ _
      rw [hr3.defers]
      refine leaves_cons (f := 27) (args := dargs b2 b3) (by simp) kr ?_
      refine (closure_calm b2 b3 w2).mono ?_
      rintro e u' w' ⟨rfl, rfl, rfl⟩
      have hR : Res Tryd.prog w' ρ2 [.cell 2 43, .cell 3 24] [.agg #[.bool l, .string s, .slice p n c], .int .i64 0] :=
        .agg (b := b2) (#[.bool l, .string s, .slice p n c]) 43 (0, 0) h2 (H3.get 0 rfl) kr (.one (b := b3) (.int .i64 0) (#[.int .i64 0]) 24 (0, 0) h3 (H3.get 1 rfl) kr rfl .nil)
      have hres := Res.run (fn := Tryd.f16) hr3.rep (show Res Tryd.prog w' ρ2 Tryd.f16.results.toList _ from hR)
      refine ⟨_, hres, _, T, rfl, .inl ⟨l, s, p, n, c, k, rfl, hi, hs, hz⟩, H3.sub (List.Sublist.cons _ (List.sublist_cons_self ..))⟩
    | panic ch =>
      obtain ⟨h2, h3, rfl, hb, x1, x2, x3, y, H3⟩ := hq
      show Leaves _ _ a2.tmps _ a2.defers _ _
      rw [hr3.defers]
      refine leaves_cons (f := 27) (args := dargs b2 b3) (by simp) kr ?_
      refine (closure_catch b2 b3 x1 x2 x3 y H3).mono ?_
      rintro e u' w' ⟨rfl, rfl, H4⟩
      have hR : Res Tryd.prog w' ρ2 [.cell 2 43, .cell 3 24] [.agg #[.bool false, .string ⟨#[]⟩, .slice none 0 0], .int .i64 4] :=
        .agg (b := b2) (#[.bool false, .string ⟨#[]⟩, .slice none 0 0]) 43 (0, 0) h2 (H4.get 0 rfl) kr (.one (b := b3) (.int .i64 4) (#[.int .i64 4]) 24 (0, 0) h3 (H4.get 1 rfl) kr rfl .nil)
      have hres := Res.run (fn := Tryd.f16) hr3.rep (show Res Tryd.prog w' ρ2 Tryd.f16.results.toList _ from hR)
      refine ⟨_, hres, _, [], rfl, .inr ⟨rfl, rfl, hb⟩, H4.sub (List.Sublist.cons _ (List.sublist_cons_self ..))⟩
    | _ => exact (hq : False).elim
  | _ => exact (hq : False).elim
end Go.Proofs.YtkkbkpneodecnaaDoor

namespace Go.Proofs.YtkkbkpneodecnaaDoor
open Go Go.RowKit
set_option linter.unusedVariables false
theorem cnt_le : ∀ {k : Fo}, pureF k = true → k.cnt ≤ szF k
  | .nil, _ => Nat.le_refl _
  | .cons l s k r, h => by
    simp only [pureF, Bool.and_eq_true, Bool.not_eq_true'] at h
    have h1 := cnt_le h.1.2
    have h2 := cnt_le h.2
    have h3 := sz_pos l s (szF k)
    simp only [Fo.cnt, szF]
    unfold sz1 at *
    split
    · rename_i q
      have h4 := len_zero (mixed_single h.1.1 q)
      rw [h4]; simp only [Fo.cnt]; omega
    · have := hd_len (frm l) (s.size + szF k); omega
theorem itIs.sz {t u : ByteArray} {l : Bool} {s : ByteArray} {k : Fo} (h : itIs t l s k u) : szF k ≤ t.size ∧ k.cnt ≤ t.size := by
  obtain ⟨hm, hp, hi⟩ := h
  have hlen := congrArg List.length hi
  rw [tl_len, List.length_append, wr1_sz hm (pure_len hp)] at hlen
  have hc := cnt_le hp
  have : szF k ≤ sz1 l s (szF k) := by
    unfold sz1
    split
    · rename_i q
      have h4 := len_zero (mixed_single hm q)
      rw [h4]; simp only [szF]; omega
    · omega
  omega
section
variable {P : Program} {N : Nat} {ops : Array Oper} {K : Env → World → Prop} {ρ : Env} {w w0 : World} {i B : Nat} {r : List Nat} {l : List (Nat × Obj)}
theorem s_callZ (HS : St B w0 w l) (d : Option Nat) (f : Nat) (args : Array Value) {ok : Value → List (Nat × Obj) → Prop} (hc : FnZ P f args ok)
    (h : opv P ops i ρ w = some (d, true, .ok (.enter f args) w)) (hd : dOK d N = true)
    (kk : ∀ v T w', ok v T → St B w0 w' (T ++ l) → WPs P N ops K r (updO ρ d v) w') : WPs P N ops K (i :: r) ρ w := by
  obtain ⟨o, ho, rfl, hw, hr⟩ := opv_some h
  refine WPo.run ho hw fun a ha => ?_
  rw [hr, Oper.upon_enter]
  refine (hc B w0 w l HS).mono ?_
  rintro _ w' ⟨v, T, rfl, h1, h2⟩
  exact ⟨_, ha.put _ (dOK_lt hd) v, kk v T w' h1 h2⟩
end
theorem FnZ.intro {P : Program} {f : Nat} {fn : Func} {c : Code} (rs : List ResultVar) (N : Nat) {args : Array Value} {ok : Value → List (Nat × Obj) → Prop} (hf : P.funcs[f]? = some fn) (hb : fn.body = some c) (hr : fn.results.toList = rs) (hn : args.size + (fn.ntmps - args.size) = N)
    (h : ∀ B w0 w L, St B w0 w L → WP P N c (ends P rs fun v w' => ∃ T, ok v T ∧ St B w0 w' (T ++ L)) (ini args) w) : FnZ P f args ok := fun B w0 w L HS =>
  (calls_intro hf hb hr hn (h B w0 w L HS)).mono fun e w' ⟨v, he, T, h1, h2⟩ => ⟨v, T, he, h1, h2⟩
def erV (n : Int) : Value := .tuple #[.agg #[.bool false, .string ⟨#[]⟩, .slice none 0 0], .int .i64 n]
def noItem (t : ByteArray) : Prop := ∀ (l : Bool) (s : ByteArray) (k : Fo), mixed l s k.len = false → pureF k = true → tl t ≠ wr1 l s (szF k) (wrF k)
def okDec (t : ByteArray) (v : Value) (T : List (Nat × Obj)) : Prop :=
  (4000 < t.size ∧ v = erV 2 ∧ T = []) ∨ (t.size ≤ 4000 ∧ (
    (∃ (l : Bool) (s : ByteArray) (p : Option Addr) (n c : Nat) (k : Fo), v = .tuple #[.agg #[.bool l, .string s, .slice p n c], .int .i64 0] ∧ itIs t l s k ⟨#[]⟩ ∧ SlIn T p n k ∧ s.size ≤ t.size ∧ dp1 l (dpF k) ≤ 8) ∨
    (∃ (l : Bool) (s : ByteArray) (k : Fo), itIs t l s k ⟨#[]⟩ ∧ 8 < dp1 l (dpF k) ∧ v = erV 5 ∧ T = []) ∨
    (noItem t ∧ v = erV 4 ∧ T = [])))
set_option maxRecDepth 100000 in
set_option maxHeartbeats 2000000 in
theorem decode_z (t : ByteArray) (ht : t.size ≤ 140737488355328) : FnZ Tryd.prog 11 #[.string t] (okDec t) := by
  refine FnZ.intro (c := codeOf Tryd.f11) [.cell 2 43, .tmp 3] 21 Tryd.func11 kr kr kr fun B w0 w L H0 => ?_
  refine g_sreg [0, 1] kr kr ?_
  refine s_alloc H0 (some 2) 43 (.agg #[.bool false, .string ⟨#[]⟩, .slice none 0 0]) kr kr kr ?_
  intro b1 w1 H1
  refine s_val (some 3) (.int .i64 0) (fun w => by kernel_rfl) kr ?_
  refine s_nil ?_
  refine g_seq kr ?_
  by_cases h4 : t.size ≤ 4000
  · refine rS [.v, .v, .e (v := .bool (decide ((4000 : Int) < ((ByteArray.size t : Nat) : Int)))) (v' := .bool false) (bool_eq (decide_eq_false (by omega)))] H1 kr fun gs1 w2 H2 => ?_
    refine g_cond_f kr kr ?_
    refine g_skip kr ?_
    show WP _ _ _ _ _ _
    refine g_sreg [0, 1, 2, 3, 4, 5, 6, 7] kr kr ?_
    refine rp [.v] H2 kr fun gs2 w3 H3 => ?_
    show WPs _ _ _ _ [1, 2, 3, 4, 5, 6, 7] _ _
    have H4 : St B w0 w3 ((b1, r0) :: L) := H3.as kr
    refine s_callZ H4 (some 12) 16 #[.string t] (read_z t (by omega)) kr kr ?_
    rintro _ T w4 (⟨l, s, p, n, c, k, rfl, hi, hs, hz⟩ | ⟨rfl, rfl, hb⟩) H5
    · have H6 : St B w0 w4 ((b1, r0) :: (T ++ L)) := H5.perm List.perm_middle.symm
      have hsz := hi.sz
      refine rp [.v, .v, .v] H6 kr fun gs3 w5 H7 => ?_
      show WPs _ _ _ _ [5, 6, 7] _ _
      refine s_alloc H7 (some 4) 43 (.agg #[.bool false, .string ⟨#[]⟩, .slice none 0 0]) kr kr kr ?_
      intro b2 w6 H8
      refine rp [.s 0, .v] H8 kr fun gs4 w7 H9 => ?_
      show WPs _ _ _ _ [] _ _
      refine s_nil ?_
      have H10 : St B w0 w7 ((b2, .cells #[.bool l, .string s, .slice p n c] 43 (0, 0)) :: (b1, r0) :: (T ++ L)) := H9.as kr
      show WP _ _ _ _ _ _
      refine g_seq kr ?_
      refine g_sreg [0, 1, 2] kr kr ?_
      refine rp [.l 0] H10 kr fun gs5 w8 H11 => ?_
      show WPs _ _ _ _ [1, 2] _ _
      have H12 : St B w0 w8 ((b2, .cells #[.bool l, .string s, .slice p n c] 43 (0, 0)) :: (b1, r0) :: (T ++ L)) := H11.as kr
      have hS := hs.at H12 (fun e he => by simp [he])
      refine s_callP H12 (some 16) 17 #[.agg #[.bool l, .string s, .slice p n c]] (fun w => SlAt w.heap.size w p n k) (.int .i64 ((dp1 l (dpF k) : Nat) : Int)) (depth_fn l s p n c k (by omega) (by omega)) hS (fun w => by kernel_rfl) kr ?_
      intro w9 H13
      by_cases h8 : dp1 l (dpF k) ≤ 8
      · refine rp [.e (v := .bool (decide (8 < ((dp1 l (dpF k) : Nat) : Int)))) (v' := .bool false) (bool_eq (decide_eq_false (by omega)))] H13 kr fun gs6 w10 H14 => ?_
        show WPs _ _ _ _ [] _ _
        refine s_nil ?_
        refine g_cond_f kr kr ?_
        refine g_skip kr ?_
        show WP _ _ _ _ _ _
        refine rS [.l 0, .v, .s 1, .v] H14 kr fun gs7 w11 H15 => ?_
        have H16 : St B w0 w11 ((b2, .cells #[.bool l, .string s, .slice p n c] 43 (0, 0)) :: (b1, .cells #[.bool l, .string s, .slice p n c] 43 (0, 0)) :: (T ++ L)) := H15.as kr
        refine g_ret kr ?_
        show ∃ vs, Res _ _ _ _ vs ∧ _
        exact ⟨[.agg #[.bool l, .string s, .slice p n c], .int .i64 0], (.agg (b := b1) (#[.bool l, .string s, .slice p n c]) 43 (0, 0) kr (H16.get 1 kr) kr (.tmp (.int .i64 0) kr .nil)), T, .inr ⟨h4, .inl ⟨l, s, p, n, c, k, rfl, hi, hs, hz, h8⟩⟩, H16.sub (List.Sublist.cons _ (List.sublist_cons_self ..))⟩
      · refine rp [.e (v := .bool (decide (8 < ((dp1 l (dpF k) : Nat) : Int)))) (v' := .bool true) (bool_eq (decide_eq_true (by omega)))] H13 kr fun gs6 w10 H14 => ?_
        show WPs _ _ _ _ [] _ _
        refine s_nil ?_
        refine g_cond_t kr kr ?_
        refine rS [.v, .s 1, .v] H14 kr fun gs7 w11 H15 => ?_
        have H16 : St B w0 w11 ((b2, .cells #[.bool l, .string s, .slice p n c] 43 (0, 0)) :: (b1, r0) :: (T ++ L)) := H15.as kr
        refine g_ret kr ?_
        show ∃ vs, Res _ _ _ _ vs ∧ _
        exact ⟨[.agg #[.bool false, .string ⟨#[]⟩, .slice none 0 0], .int .i64 5], (.agg (b := b1) (#[.bool false, .string ⟨#[]⟩, .slice none 0 0]) 43 (0, 0) kr (H16.get 1 kr) kr (.tmp (.int .i64 5) kr .nil)), [], .inr ⟨h4, .inr (.inl ⟨l, s, k, hi, by omega, rfl, rfl⟩)⟩, H16.sub (List.Sublist.cons _ (List.Sublist.cons _ (List.sublist_append_right _ _)))⟩
    · have H6 : St B w0 w4 ((b1, r0) :: L) := H5.as kr
      refine rp [.v, .v, .v] H6 kr fun gs3 w5 H7 => ?_
      show WPs _ _ _ _ [5, 6, 7] _ _
      refine s_alloc H7 (some 4) 43 (.agg #[.bool false, .string ⟨#[]⟩, .slice none 0 0]) kr kr kr ?_
      intro b2 w6 H8
      refine rp [.s 0, .v] H8 kr fun gs4 w7 H9 => ?_
      show WPs _ _ _ _ [] _ _
      refine s_nil ?_
      have H10 : St B w0 w7 ((b2, r0) :: (b1, r0) :: L) := H9.as kr
      show WP _ _ _ _ _ _
      refine g_seq kr ?_
      refine g_sreg [0, 1, 2] kr kr ?_
      refine rp [.l 0] H10 kr fun gs5 w8 H11 => ?_
      show WPs _ _ _ _ [1, 2] _ _
      refine s_callP H11 (some 16) 17 #[.agg #[.bool false, .string ⟨#[]⟩, .slice none 0 0]] (fun w => SlAt w.heap.size w none 0 .nil) (.int .i64 ((dp1 false (dpF .nil) : Nat) : Int)) (depth_fn false ⟨#[]⟩ none 0 0 .nil (by decide) (by decide)) (SlAt.nil ..) (fun w => by kernel_rfl) kr ?_
      intro w9 H13
      refine rp [.e (v := .bool (decide (8 < ((dp1 false (dpF .nil) : Nat) : Int)))) (v' := .bool false) (bool_eq (by decide))] H13 kr fun gs6 w10 H14 => ?_
      show WPs _ _ _ _ [] _ _
      refine s_nil ?_
      refine g_cond_f kr kr ?_
      refine g_skip kr ?_
      show WP _ _ _ _ _ _
      refine rS [.l 0, .v, .s 1, .v] H14 kr fun gs7 w11 H15 => ?_
      have H16 : St B w0 w11 ((b2, r0) :: (b1, r0) :: L) := H15.as kr
      refine g_ret kr ?_
      show ∃ vs, Res _ _ _ _ vs ∧ _
      exact ⟨[.agg #[.bool false, .string ⟨#[]⟩, .slice none 0 0], .int .i64 4], (.agg (b := b1) (#[.bool false, .string ⟨#[]⟩, .slice none 0 0]) 43 (0, 0) kr (H16.get 1 kr) kr (.tmp (.int .i64 4) kr .nil)), [], .inr ⟨h4, .inr (.inr ⟨hb, rfl, rfl⟩)⟩, H16.sub (List.Sublist.cons _ (List.sublist_cons_self ..))⟩
  · refine rS [.v, .v, .e (v := .bool (decide ((4000 : Int) < ((ByteArray.size t : Nat) : Int)))) (v' := .bool true) (bool_eq (decide_eq_true (by omega)))] H1 kr fun gs1 w2 H2 => ?_
    refine g_cond_t kr kr ?_
    refine rS [.v, .s 0, .v] H2 kr fun gs2 w3 H3 => ?_
    have H4 : St B w0 w3 ((b1, r0) :: L) := H3.as kr
    refine g_ret kr ?_
    show ∃ vs, Res _ _ _ _ vs ∧ _
    exact ⟨[.agg #[.bool false, .string ⟨#[]⟩, .slice none 0 0], .int .i64 2], (.agg (b := b1) (#[.bool false, .string ⟨#[]⟩, .slice none 0 0]) 43 (0, 0) kr (H4.get 0 kr) kr (.tmp (.int .i64 2) kr .nil)), [], .inl ⟨by omega, rfl, rfl⟩, H4.sub (List.sublist_cons_self ..)⟩
end Go.Proofs.YtkkbkpneodecnaaDoor

namespace Go.Proofs.YtkkbkpneodecnaaDoor
open Go Go.RowKit
set_option linter.unusedVariables false
theorem one_list {l : List Value} (h : l.all (·.oneCell') = true) : ∀ u ∈ l, u.oneCell' = true := fun u hu => List.all_eq_true.1 h u hu
/-- Kinds: a sign, and the kinds in it. -/
abbrev Kf := Fr Nat
def kS : Sh Nat where
  K := 2
  hd g := [.int .u8 ((g : Nat) : Int)]
  ok _ := True
  mx := 1000
  len _ := rfl
  one _ := one_list rfl
/-- Fields: a number, bytes, and the fields in it. -/
abbrev Fe := Fr (Nat × ByteArray)
def fS : Sh (Nat × ByteArray) where
  K := 3
  hd x := [.int .u64 ((x.1 : Nat) : Int), .string x.2]
  ok x := x.1 < 18446744073709551616 ∧ x.2.size ≤ 140737488355328
  mx := 140737488355328
  len _ := rfl
  one _ := one_list rfl
def Fr.all {α : Type} (p : α → Prop) : Fr α → Prop
  | .nil => True
  | .cons a k r => p a ∧ k.all p ∧ r.all p
theorem FrAt.ok {α : Type} {S : Sh α} {B : Nat} {w : World} : ∀ {k : Fr α} {b off : Nat}, FrAt S B w k b off → k.all S.ok
  | .nil, _, _, _ => trivial
  | .cons a k r, b, off, ⟨⟨C, T, fz, p, n, c, h1, h2, h3, h4, h5, h6, h7, h8⟩, h9⟩ => ⟨h5, by
      rcases h8 with rfl | ⟨b', o', e, h⟩
      · trivial
      · exact h.ok, h9.ok⟩
theorem SlR.ok {α : Type} {S : Sh α} {B : Nat} {w : World} {p : Option Addr} {n : Nat} {k : Fr α} (h : SlR S B w p n k) : k.all S.ok := by
  rcases h.2.2 with rfl | ⟨b, o, e, h⟩
  · trivial
  · exact h.ok
def kidM (g : Nat) (b : Kf) (i : Nat) : Nat × Kf := match b.at (if g = 42 then 0 else i) with
  | some x => x
  | none => (0, .nil)
def bytesM (g : Nat) : Nat × Nat := if g = 104 then (32, 32) else if g = 97 then (20, 20) else if g = 115 then (65, 65) else if g = 98 then (0, 64) else (0, 0)
def fieldsM (g n : Nat) : Nat × Nat := if g = 40 then (n, n) else if g = 42 then (0, 40) else (0, 0)
def hasM (x : Nat × Nat) (n : Nat) : Bool := decide (x.1 ≤ n) && decide (n ≤ x.2)
def fitsM (g bl n sz ln : Nat) : Bool := (decide (n = 0) || decide (g = 110)) && (hasM (bytesM g) sz && hasM (fieldsM g bl) ln)
def w64 (x : Int) : Int := IntKind.i64.wrap x
def leftL : Fe → Nat → Kf → Nat → Int → Int
  | .nil, _, _, _, room => room
  | .cons x l r, g, b, i, room =>
    if (if fitsM (kidM g b i).1 (kidM g b i).2.len x.1 x.2.size l.len = true then leftL l (kidM g b i).1 (kidM g b i).2 0 (w64 (room - 1)) else -1) < 0
    then (if fitsM (kidM g b i).1 (kidM g b i).2.len x.1 x.2.size l.len = true then leftL l (kidM g b i).1 (kidM g b i).2 0 (w64 (room - 1)) else -1)
    else leftL r g b (i + 1) (if fitsM (kidM g b i).1 (kidM g b i).2.len x.1 x.2.size l.len = true then leftL l (kidM g b i).1 (kidM g b i).2 0 (w64 (room - 1)) else -1)
def left1 (g : Nat) (b : Kf) (x : Nat × ByteArray) (l : Fe) (room : Int) : Int :=
  if fitsM g b.len x.1 x.2.size l.len = true then leftL l g b 0 (w64 (room - 1)) else -1
theorem leftL_cons (x : Nat × ByteArray) (l r : Fe) (g : Nat) (b : Kf) (i : Nat) (room : Int) : leftL (.cons x l r) g b i room =
    if left1 (kidM g b i).1 (kidM g b i).2 x l room < 0 then left1 (kidM g b i).1 (kidM g b i).2 x l room else leftL r g b (i + 1) (left1 (kidM g b i).1 (kidM g b i).2 x l room) := rfl
def lstM (g : Nat) : Bool := decide (g = 40) || decide (g = 42)
def bytM (g : Nat) (x : Nat × ByteArray) : ByteArray := if g = 110 then strB (dg x.1) else if lstM g = true then ⟨#[]⟩ else x.2
def itemF : Fe → Nat → Kf → Nat → Fo
  | .nil, _, _, _ => .nil
  | .cons x l r, g, b, i => .cons (lstM (kidM g b i).1) (bytM (kidM g b i).1 x) (if lstM (kidM g b i).1 = true then itemF l (kidM g b i).1 (kidM g b i).2 0 else .nil) (itemF r g b (i + 1))
def item1 (g : Nat) (b : Kf) (l : Fe) : Fo := if lstM g = true then itemF l g b 0 else .nil
theorem itemF_cons (x : Nat × ByteArray) (l r : Fe) (g : Nat) (b : Kf) (i : Nat) : itemF (.cons x l r) g b i = .cons (lstM (kidM g b i).1) (bytM (kidM g b i).1 x) (item1 (kidM g b i).1 (kidM g b i).2 l) (itemF r g b (i + 1)) := rfl
theorem itemF_len : ∀ (l : Fe) (g : Nat) (b : Kf) (i : Nat), (itemF l g b i).len = l.len
  | .nil, _, _, _ => rfl
  | .cons x l r, g, b, i => by simp only [itemF, Fo.len, Fr.len, itemF_len r]
def numM (g : Nat) (l : Bool) (s : ByteArray) (n : Nat) : Nat := if g = 110 then (valS l s n).1 else 0
def byfM (g : Nat) (s : ByteArray) : ByteArray := if g = 110 ∨ lstM g = true then ⟨#[]⟩ else s
def fieldF : Fo → Nat → Kf → Nat → Fe
  | .nil, _, _, _ => .nil
  | .cons l s k r, g, b, i => .cons (numM (kidM g b i).1 l s k.len, byfM (kidM g b i).1 s) (if lstM (kidM g b i).1 = true then fieldF k (kidM g b i).1 (kidM g b i).2 0 else .nil) (fieldF r g b (i + 1))
def field1 (g : Nat) (b : Kf) (k : Fo) : Fe := if lstM g = true then fieldF k g b 0 else .nil
theorem fieldF_cons (l : Bool) (s : ByteArray) (k r : Fo) (g : Nat) (b : Kf) (i : Nat) : fieldF (.cons l s k r) g b i = .cons (numM (kidM g b i).1 l s k.len, byfM (kidM g b i).1 s) (field1 (kidM g b i).1 (kidM g b i).2 k) (fieldF r g b (i + 1)) := rfl
theorem fieldF_len : ∀ (k : Fo) (g : Nat) (b : Kf) (i : Nat), (fieldF k g b i).len = k.len
  | .nil, _, _, _ => rfl
  | .cons l s k r, g, b, i => by simp only [fieldF, Fo.len, Fr.len, fieldF_len r]
theorem Fr.len_zero {α : Type} {k : Fr α} (h : k.len = 0) : k = .nil := by
  cases k with
  | nil => rfl
  | cons a k r => simp only [Fr.len] at h; omega
theorem ba_zero {s : ByteArray} (h : s.size = 0) : s = ⟨#[]⟩ := by
  obtain ⟨d⟩ := s
  have : d = #[] := Array.eq_empty_of_size_eq_zero h
  rw [this]
theorem fits_parts {g bl n sz ln : Nat} (h : fitsM g bl n sz ln = true) : (n = 0 ∨ g = 110) ∧ ((bytesM g).1 ≤ sz ∧ sz ≤ (bytesM g).2) ∧ (fieldsM g bl).1 ≤ ln ∧ ln ≤ (fieldsM g bl).2 := by
  unfold fitsM hasM at h
  simp only [Bool.and_eq_true, Bool.or_eq_true, decide_eq_true_eq] at h
  exact h
/-- A field that fits is that of its item. -/
theorem field_item1 (g : Nat) (b : Kf) (x : Nat × ByteArray) (l : Fe) (hx : x.1 < 18446744073709551616) (hf : fitsM g b.len x.1 x.2.size l.len = true)
    (hr : lstM g = true → fieldF (itemF l g b 0) g b 0 = l) : numM g (lstM g) (bytM g x) (item1 g b l).len = x.1 ∧ byfM g (bytM g x) = x.2 ∧ field1 g b (item1 g b l) = l := by
  obtain ⟨h1, h2, h3⟩ := fits_parts hf
  obtain ⟨n, s⟩ := x
  unfold numM byfM bytM field1 item1 lstM at *
  by_cases e1 : g = 110
  · subst e1
    have hs : s.size = 0 := by have := h2.2; simp only [bytesM] at this; simp at this; rw [this]; rfl
    have hl : l.len = 0 := by have := h3.2; simp only [fieldsM] at this; simp at this; exact this
    obtain rfl := Fr.len_zero hl
    obtain rfl := ba_zero hs
    refine ⟨?_, rfl, rfl⟩
    show (valS false (strB (dg n)) 0).1 = n
    rw [valS_dg hx]
  · have hn : n = 0 := by rcases h1 with h | h; exact h; exact absurd h e1
    subst hn
    by_cases e2 : (decide (g = 40) || decide (g = 42)) = true
    · have hs : s.size = 0 := by
        have := h2.2
        simp only [Bool.or_eq_true, decide_eq_true_eq] at e2
        rcases e2 with rfl | rfl <;> (simp only [bytesM] at this; simp at this; rw [this]; rfl)
      obtain rfl := ba_zero hs
      simp only [e1, e2, if_false, if_true, or_true]
      exact ⟨trivial, trivial, hr e2⟩
    · have hl : l.len = 0 := by
        have := h3.2
        simp only [Bool.or_eq_true, decide_eq_true_eq, not_or] at e2
        simp only [fieldsM, e2.1, e2.2, if_false] at this
        omega
      obtain rfl := Fr.len_zero hl
      have e3 := Bool.not_eq_true _ ▸ e2
      refine ⟨?_, ?_, ?_⟩ <;> simp [e1, e3]
theorem field_itemF : ∀ (l : Fe) (g : Nat) (b : Kf) (i : Nat) (room : Int), l.all fS.ok → 0 ≤ leftL l g b i room → fieldF (itemF l g b i) g b i = l
  | .nil, _, _, _, _, _, _ => rfl
  | .cons x l r, g, b, i, room, ho, h => by
    rw [leftL_cons] at h
    by_cases hv : left1 (kidM g b i).1 (kidM g b i).2 x l room < 0
    · rw [if_pos hv] at h; omega
    · rw [if_neg hv] at h
      have hv' := hv
      unfold left1 at hv
      by_cases hf : fitsM (kidM g b i).1 (kidM g b i).2.len x.1 x.2.size l.len = true
      · rw [if_pos hf] at hv
        obtain ⟨q1, q2, q3⟩ := field_item1 _ _ x l ho.1.1 hf fun _ => field_itemF l _ _ 0 _ ho.2.1 (Int.not_lt.1 hv)
        rw [itemF_cons, fieldF_cons, q1, q2, q3, field_itemF r g b (i + 1) _ ho.2.2 h]
      · rw [if_neg hf] at hv; omega
/-- The record of a field, by its kind. -/
def writeM (g : Nat) (b : Kf) (x : Nat × ByteArray) (l : Fe) : ByteArray × Nat :=
  if left1 g b x l 1001 < 0 then (⟨#[]⟩, 1) else encS (lstM g) (bytM g x) (item1 g b l).len (item1 g b l)
theorem writeM_field {g : Nat} {b : Kf} {x : Nat × ByteArray} {l : Fe} (hx : x.1 < 18446744073709551616) (ho : l.all fS.ok) (h : ¬ left1 g b x l 1001 < 0) :
    numM g (lstM g) (bytM g x) (item1 g b l).len = x.1 ∧ byfM g (bytM g x) = x.2 ∧ field1 g b (item1 g b l) = l := by
  unfold left1 at h
  by_cases hf : fitsM g b.len x.1 x.2.size l.len = true
  · rw [if_pos hf] at h
    exact field_item1 g b x l hx hf fun _ => field_itemF l g b 0 _ ho (Int.not_lt.1 h)
  · rw [if_neg hf] at h; omega
/-! ### Forms -/
def Fr.snoc {α : Type} : Fr α → α → Fr α → Fr α
  | .nil, a, k => .cons a k .nil
  | .cons a' k' r, a, k => .cons a' k' (r.snoc a k)
theorem toFr_snoc {α : Type} (x : El α) : ∀ L : List (El α), toFr (L ++ [x]) = (toFr L).snoc x.a x.k
  | [] => rfl
  | y :: r => by simp only [List.cons_append, toFr, Fr.snoc, toFr_snoc x r]
/-- A kind that ends, ends each * that is right ahead of it. -/
def pushM : Nat → Kf → List (Nat × Kf) → List (Nat × Kf)
  | _, _, [] => []
  | g, k, (h, m) :: r => if h = 42 then pushM h (m.snoc g k) r else (h, m.snoc g k) :: r
def stepM (c : Nat) (st : List (Nat × Kf)) : Option (List (Nat × Kf)) :=
  if c = 110 ∨ c = 104 ∨ c = 97 ∨ c = 115 ∨ c = 98 then some (pushM c .nil st)
  else if c = 40 ∨ c = 42 then if st.length = 5 then none else some ((c, .nil) :: st)
  else if c = 41 then match st with
    | [] => none
    | (h, m) :: r => if r.length = 0 ∨ h ≠ 40 then none else some (pushM h m r)
  else none
def stepsM : List UInt8 → List (Nat × Kf) → Option (List (Nat × Kf))
  | [], st => some st
  | c :: r, st => match stepM c.toNat st with
    | none => none
    | some st' => stepsM r st'
def parseM (form : ByteArray) : Option Kf :=
  if 40 < form.size then none else match stepsM (tl form) [(40, .nil)] with
    | some [(_, m)] => some m
    | _ => none
end Go.Proofs.YtkkbkpneodecnaaDoor

namespace Go.Proofs.YtkkbkpneodecnaaDoor
open Go Go.RowKit
set_option linter.unusedVariables false
abbrev knd (g : Nat) (p : Option Addr) (n c : Nat) : Value := .agg #[.int .u8 ((g : Nat) : Int), .slice p n c]
abbrev fld (m : Nat) (s : ByteArray) (p : Option Addr) (n c : Nat) : Value := .agg #[.int .u64 ((m : Nat) : Int), .string s, .slice p n c]
theorem idxR_run {P : Program} {ρ : Env} {t e : TypeId} {K bytes : Nat} (ht : sliceOf P t = some (e, K, bytes)) {x y : Operand} {o : Oper} {kd : IntKind} {p : Option Addr} (b q n c k : Nat) (hp : p = some ⟨b, q, none⟩) (ho : o.op = .indexAddr t x y) (hx : ev ρ x = .slice p n c) (hy : ev ρ y = .int kd (k : Int)) (hk : k < n) :
    ∀ w, (execOp (ev ρ) o).run P w = .ok (.value (.pointer (some ⟨b, q + k * K, none⟩))) w := by
  subst hp; exact idxS_run ht b q n c k ho hx hy hk
/-- Where the kid of a kind lies: or there is none. -/
def KidAt (B : Nat) (w : World) (g : Nat) (p : Option Addr) (n i g' : Nat) (p' : Option Addr) (n' c' : Nat) : Prop :=
  (n ≤ (if g = 42 then 0 else i) ∧ g' = 0 ∧ p' = none ∧ n' = 0 ∧ c' = 0) ∨
  ((if g = 42 then 0 else i) < n ∧ ∃ b off C T fz, p = some ⟨b, off, none⟩ ∧ b < B ∧ w.heap[b]? = some (.cells C T fz) ∧ off + (if g = 42 then 0 else i) * 2 + 2 ≤ C.size ∧ C.extract (off + (if g = 42 then 0 else i) * 2) (off + (if g = 42 then 0 else i) * 2 + 2) = #[.int .u8 ((g' : Nat) : Int), .slice p' n' c'])
theorem KidAt.up {B B' : Nat} {w w' : World} {g : Nat} {p : Option Addr} {n i g' : Nat} {p' : Option Addr} {n' c' : Nat} (h : KidAt B w g p n i g' p' n' c') (hb : Below B w w') (hB : B ≤ B') : KidAt B' w' g p n i g' p' n' c' := by
  rcases h with h | ⟨h0, b, off, C, T, fz, h1, h2, h3, h4⟩
  · exact .inl h
  · exact .inr ⟨h0, b, off, C, T, fz, h1, Nat.lt_of_lt_of_le h2 hB, by rw [hb.block b h2]; exact h3, h4⟩
/-- The kid of a kind, where it lies. -/
theorem SlR.kid {B : Nat} {w : World} {p : Option Addr} {n : Nat} {k : Kf} (h : SlR kS B w p n k) (g i : Nat) : ∃ g' p' n' c', KidAt B w g p n i g' p' n' c' ∧ SlR kS B w p' n' (kidM g k i).2 ∧ g' = (kidM g k i).1 := by
  unfold kidM KidAt
  generalize (if g = 42 then 0 else i) = j
  rcases Nat.lt_or_ge j n with hj | hj
  · obtain ⟨a, q, ha⟩ := Fr.at_some (k := k) (i := j) (by rw [← h.1]; exact hj)
    rcases h.2.2 with rfl | ⟨b, off, rfl, hA⟩
    · simp [Fr.at] at ha
    · obtain ⟨C, T, fz, p', n', c', h1, h2, h3, h4, h5, h6⟩ := hA.at ha
      rw [ha]
      exact ⟨a, p', n', c', .inr ⟨hj, b, off, C, T, fz, rfl, h1, h2, h3, h4⟩, h6, rfl⟩
  · rw [Fr.at_none (by rw [← h.1]; exact hj)]
    exact ⟨0, none, 0, 0, .inl ⟨hj, rfl, rfl, rfl, rfl⟩, SlR.nil _ _ _, rfl⟩
set_option maxRecDepth 100000 in
set_option maxHeartbeats 2000000 in
theorem kid_fn (g : Nat) (p : Option Addr) (n c i g' : Nat) (p' : Option Addr) (n' c' : Nat) : FnP Tryd.prog 19 #[knd g p n c, .int .i64 ((i : Nat) : Int)] (fun w => KidAt w.heap.size w g p n i g' p' n' c') (knd g' p' n' c') := by
  refine FnP.intro (c := codeOf Tryd.f19) [.cell 4 37] 19 Tryd.func19 kr kr kr fun w hpre => ?_
  have H0 := St.start w
  refine rS [.b, .a] H0 kr fun gs1 w1 H1 => ?_
  clear H0
  unfold KidAt at hpre
  by_cases hg : g = 42
  · rw [if_pos hg] at hpre
    refine g_seq kr ?_
    refine rS [.v, .l 0, .e (v := .bool (((g : Nat) : Int) == 42)) (v' := .bool true) (bool_eq (beq_iff_eq.2 (by omega)))] H1 kr fun gs2 w2 H2 => ?_
    clear H1
    refine g_cond_t kr kr ?_
    refine rL [.v] H2 kr fun gs3 w3 H3 => ?_
    show WP _ _ _ _ _ _
    rcases hpre with ⟨hj, rfl, rfl, rfl, rfl⟩ | ⟨hj, b, off, C, T, fz, hp, hb, hh, hz, hx⟩
    · refine g_seq kr ?_
      refine rS [.v, .v, .l 0, .v, .e (v := .bool (decide (((n : Nat) : Int) ≤ ((0 : Nat) : Int)))) (v' := .bool true) (bool_eq (decide_eq_true (by omega)))] H3 kr fun gs4 w4 H4 => ?_
      refine g_cond_t kr kr ?_
      refine rS [.v, .s 1] H4 kr fun gs5 w5 H5 => ?_
      exact rR [.cell 4 37] [1] (knd 0 none 0 0) H5 kr
    · refine g_seq kr ?_
      refine rS [.v, .v, .l 0, .v, .e (v := .bool (decide (((n : Nat) : Int) ≤ ((0 : Nat) : Int)))) (v' := .bool false) (bool_eq (decide_eq_false (by omega)))] H3 kr fun gs4 w4 H4 => ?_
      refine g_cond_f kr kr ?_
      refine g_skip kr ?_
      show WP _ _ _ _ _ _
      refine rS [.v, .l 0, .v, .o (ins := [((.tmp 15), .slice p n c), ((.tmp 16), .int .i64 ((0 : Nat) : Int))]) (v := .pointer (some ⟨b, off + 0 * 2, none⟩)) (fun ρ o w ho hi => idxR_run (kd := .i64) (t := 35) (e := 37) (K := 2) (bytes := 32) kr (x := (.tmp 15)) (y := (.tmp 16)) b off n c 0 hp ho hi.1 hi.2.1 (by omega) w), .fp (off := off + 0 * 2) (n := 2) (W := #[.int .u8 ((g' : Nat) : Int), .slice p' n' c']) hh hb hz hx, .s 1] H4 kr fun gs5 w5 H5 => ?_
      exact rR [.cell 4 37] [1] (knd g' p' n' c') H5 kr
  · rw [if_neg hg] at hpre
    refine g_seq kr ?_
    refine rS [.v, .l 0, .e (v := .bool (((g : Nat) : Int) == 42)) (v' := .bool false) (bool_eq (beq_eq_false_iff_ne.2 (by omega)))] H1 kr fun gs2 w2 H2 => ?_
    clear H1
    refine g_cond_f kr kr ?_
    refine g_skip kr ?_
    have H3 := H2
    show WP _ _ _ _ _ _
    rcases hpre with ⟨hj, rfl, rfl, rfl, rfl⟩ | ⟨hj, b, off, C, T, fz, hp, hb, hh, hz, hx⟩
    · refine g_seq kr ?_
      refine rS [.v, .v, .l 0, .v, .e (v := .bool (decide (((n : Nat) : Int) ≤ ((i : Nat) : Int)))) (v' := .bool true) (bool_eq (decide_eq_true (by omega)))] H3 kr fun gs4 w4 H4 => ?_
      refine g_cond_t kr kr ?_
      refine rS [.v, .s 1] H4 kr fun gs5 w5 H5 => ?_
      exact rR [.cell 4 37] [1] (knd 0 none 0 0) H5 kr
    · refine g_seq kr ?_
      refine rS [.v, .v, .l 0, .v, .e (v := .bool (decide (((n : Nat) : Int) ≤ ((i : Nat) : Int)))) (v' := .bool false) (bool_eq (decide_eq_false (by omega)))] H3 kr fun gs4 w4 H4 => ?_
      refine g_cond_f kr kr ?_
      refine g_skip kr ?_
      show WP _ _ _ _ _ _
      refine rS [.v, .l 0, .v, .o (ins := [((.tmp 15), .slice p n c), ((.tmp 16), .int .i64 ((i : Nat) : Int))]) (v := .pointer (some ⟨b, off + i * 2, none⟩)) (fun ρ o w ho hi => idxR_run (kd := .i64) (t := 35) (e := 37) (K := 2) (bytes := 32) kr (x := (.tmp 15)) (y := (.tmp 16)) b off n c i hp ho hi.1 hi.2.1 (by omega) w), .fp (off := off + i * 2) (n := 2) (W := #[.int .u8 ((g' : Nat) : Int), .slice p' n' c']) hh hb hz hx, .s 1] H4 kr fun gs5 w5 H5 => ?_
      exact rR [.cell 4 37] [1] (knd g' p' n' c') H5 kr
set_option maxRecDepth 100000 in
set_option maxHeartbeats 2000000 in
theorem has_fn (a b n : Nat) : Fn Tryd.prog 31 #[.agg #[.int .i64 ((a : Nat) : Int), .int .i64 ((b : Nat) : Int)], .int .i64 ((n : Nat) : Int)] (.bool (hasM (a, b) n)) := by
  refine Fn.intro (c := codeOf Tryd.f31) [.tmp 4] 15 Tryd.func31 kr kr kr fun w => ?_
  have H0 := St.start w
  refine rS [.b, .v] H0 kr fun gs1 w1 H1 => ?_
  clear H0
  by_cases h1 : a ≤ n
  · by_cases h2 : n ≤ b
    · refine rS [.v, .l 0, .v, .e (v := .bool (decide (((a : Nat) : Int) ≤ ((n : Nat) : Int)))) (v' := .bool true) (bool_eq (decide_eq_true (by omega))), .v, .v, .v, .l 0, .e (v := .bool (decide (((n : Nat) : Int) ≤ ((b : Nat) : Int)))) (v' := .bool true) (bool_eq (decide_eq_true (by omega))), .v, .v] H1 kr fun gs2 w2 H2 => ?_
      exact rRe [.tmp 4] [] (v := .bool true) (v' := .bool (hasM (a, b) n)) H2 (bool_eq (by unfold hasM; simp [h1, h2])) kr
    · refine rS [.v, .l 0, .v, .e (v := .bool (decide (((a : Nat) : Int) ≤ ((n : Nat) : Int)))) (v' := .bool true) (bool_eq (decide_eq_true (by omega))), .v, .v, .v, .l 0, .e (v := .bool (decide (((n : Nat) : Int) ≤ ((b : Nat) : Int)))) (v' := .bool false) (bool_eq (decide_eq_false (by omega))), .v, .v] H1 kr fun gs2 w2 H2 => ?_
      exact rRe [.tmp 4] [] (v := .bool false) (v' := .bool (hasM (a, b) n)) H2 (bool_eq (by unfold hasM; simp [h1, h2])) kr
  · refine rS [.v, .l 0, .v, .e (v := .bool (decide (((a : Nat) : Int) ≤ ((n : Nat) : Int)))) (v' := .bool false) (bool_eq (decide_eq_false (by omega))), .v, .n, .n, .n, .n, .v, .v] H1 kr fun gs2 w2 H2 => ?_
    exact rRe [.tmp 4] [] (v := .bool false) (v' := .bool (hasM (a, b) n)) H2 (bool_eq (by unfold hasM; simp [h1])) kr
set_option maxRecDepth 100000 in
set_option maxHeartbeats 2000000 in
theorem bytes_fn (g : Nat) (p : Option Addr) (n c : Nat) : Fn Tryd.prog 30 #[knd g p n c] (.agg #[.int .i64 (((bytesM g).1 : Nat) : Int), .int .i64 (((bytesM g).2 : Nat) : Int)]) := by
  refine Fn.intro (c := codeOf Tryd.f30) [.cell 2 71] 18 Tryd.func30 kr kr kr fun w => ?_
  have H0 := St.start w
  refine rS [.b, .a] H0 kr fun gs1 w1 H1 => ?_
  clear H0
  refine rS [.v, .l 0] H1 kr fun gs2 w2 H2 => ?_
  clear H1
  refine g_block 0 kr ?_
  by_cases h104 : g = 104
  · refine rS [.e (v := .bool (((g : Nat) : Int) == 104)) (v' := .bool true) (bool_eq (beq_iff_eq.2 (by omega))), .v] H2 kr fun gsa104 wa104 Ha104 => ?_
    refine g_cond_t kr kr ?_
    refine rS [.v, .s 1] Ha104 kr fun gsb104 wb104 Hb104 => ?_
    exact rRe [.cell 2 71] [1] (v := .agg #[.int .i64 32, .int .i64 32]) (v' := .agg #[.int .i64 (((bytesM g).1 : Nat) : Int), .int .i64 (((bytesM g).2 : Nat) : Int)]) Hb104 (by unfold bytesM; simp [h104]) kr
  · refine rS [.e (v := .bool (((g : Nat) : Int) == 104)) (v' := .bool false) (bool_eq (beq_eq_false_iff_ne.2 (by omega))), .v] H2 kr fun gsc104 wc104 Hc104 => ?_
    refine g_cond_f kr kr ?_
    by_cases h97 : g = 97
    · refine rS [.e (v := .bool (((g : Nat) : Int) == 97)) (v' := .bool true) (bool_eq (beq_iff_eq.2 (by omega))), .v] Hc104 kr fun gsa97 wa97 Ha97 => ?_
      refine g_cond_t kr kr ?_
      refine rS [.v, .s 1] Ha97 kr fun gsb97 wb97 Hb97 => ?_
      exact rRe [.cell 2 71] [1] (v := .agg #[.int .i64 20, .int .i64 20]) (v' := .agg #[.int .i64 (((bytesM g).1 : Nat) : Int), .int .i64 (((bytesM g).2 : Nat) : Int)]) Hb97 (by unfold bytesM; simp [h97]) kr
    · refine rS [.e (v := .bool (((g : Nat) : Int) == 97)) (v' := .bool false) (bool_eq (beq_eq_false_iff_ne.2 (by omega))), .v] Hc104 kr fun gsc97 wc97 Hc97 => ?_
      refine g_cond_f kr kr ?_
      by_cases h115 : g = 115
      · refine rS [.e (v := .bool (((g : Nat) : Int) == 115)) (v' := .bool true) (bool_eq (beq_iff_eq.2 (by omega))), .v] Hc97 kr fun gsa115 wa115 Ha115 => ?_
        refine g_cond_t kr kr ?_
        refine rS [.v, .s 1] Ha115 kr fun gsb115 wb115 Hb115 => ?_
        exact rRe [.cell 2 71] [1] (v := .agg #[.int .i64 65, .int .i64 65]) (v' := .agg #[.int .i64 (((bytesM g).1 : Nat) : Int), .int .i64 (((bytesM g).2 : Nat) : Int)]) Hb115 (by unfold bytesM; simp [h115]) kr
      · refine rS [.e (v := .bool (((g : Nat) : Int) == 115)) (v' := .bool false) (bool_eq (beq_eq_false_iff_ne.2 (by omega))), .v] Hc97 kr fun gsc115 wc115 Hc115 => ?_
        refine g_cond_f kr kr ?_
        by_cases h98 : g = 98
        · refine rS [.e (v := .bool (((g : Nat) : Int) == 98)) (v' := .bool true) (bool_eq (beq_iff_eq.2 (by omega))), .v] Hc115 kr fun gsa98 wa98 Ha98 => ?_
          refine g_cond_t kr kr ?_
          refine rS [.v, .s 1] Ha98 kr fun gsb98 wb98 Hb98 => ?_
          exact rRe [.cell 2 71] [1] (v := .agg #[.int .i64 0, .int .i64 64]) (v' := .agg #[.int .i64 (((bytesM g).1 : Nat) : Int), .int .i64 (((bytesM g).2 : Nat) : Int)]) Hb98 (by unfold bytesM; simp [h98]) kr
        · refine rS [.e (v := .bool (((g : Nat) : Int) == 98)) (v' := .bool false) (bool_eq (beq_eq_false_iff_ne.2 (by omega))), .v] Hc115 kr fun gsc98 wc98 Hc98 => ?_
          refine g_cond_f kr kr ?_
          refine rS [.v, .s 1] Hc98 kr fun gsz wz Hz => ?_
          exact rRe [.cell 2 71] [1] (v := .agg #[.int .i64 0, .int .i64 0]) (v' := .agg #[.int .i64 (((bytesM g).1 : Nat) : Int), .int .i64 (((bytesM g).2 : Nat) : Int)]) Hz (by unfold bytesM; simp [h104, h97, h115, h98]) kr
set_option maxRecDepth 100000 in
set_option maxHeartbeats 2000000 in
theorem fields_fn (g : Nat) (p : Option Addr) (n c : Nat) : Fn Tryd.prog 32 #[knd g p n c] (.agg #[.int .i64 (((fieldsM g n).1 : Nat) : Int), .int .i64 (((fieldsM g n).2 : Nat) : Int)]) := by
  refine Fn.intro (c := codeOf Tryd.f32) [.cell 2 71] 18 Tryd.func32 kr kr kr fun w => ?_
  have H0 := St.start w
  refine rS [.b, .a] H0 kr fun gs1 w1 H1 => ?_
  clear H0
  refine rS [.v, .l 0] H1 kr fun gs2 w2 H2 => ?_
  clear H1
  refine g_block 0 kr ?_
  by_cases h40 : g = 40
  · refine rS [.e (v := .bool (((g : Nat) : Int) == 40)) (v' := .bool true) (bool_eq (beq_iff_eq.2 (by omega))), .v] H2 kr fun gsa40 wa40 Ha40 => ?_
    refine g_cond_t kr kr ?_
    refine rS [.v, .l 0, .v, .v, .l 0, .v, .v, .s 1] Ha40 kr fun gsb40 wb40 Hb40 => ?_
    exact rRe [.cell 2 71] [1] (v := .agg #[.int .i64 ((n : Nat) : Int), .int .i64 ((n : Nat) : Int)]) (v' := .agg #[.int .i64 (((fieldsM g n).1 : Nat) : Int), .int .i64 (((fieldsM g n).2 : Nat) : Int)]) Hb40 (by unfold fieldsM; simp [h40]) kr
  · refine rS [.e (v := .bool (((g : Nat) : Int) == 40)) (v' := .bool false) (bool_eq (beq_eq_false_iff_ne.2 (by omega))), .v] H2 kr fun gsc40 wc40 Hc40 => ?_
    refine g_cond_f kr kr ?_
    by_cases h42 : g = 42
    · refine rS [.e (v := .bool (((g : Nat) : Int) == 42)) (v' := .bool true) (bool_eq (beq_iff_eq.2 (by omega))), .v] Hc40 kr fun gsa42 wa42 Ha42 => ?_
      refine g_cond_t kr kr ?_
      refine rS [.v, .s 1] Ha42 kr fun gsb42 wb42 Hb42 => ?_
      exact rRe [.cell 2 71] [1] (v := .agg #[.int .i64 0, .int .i64 40]) (v' := .agg #[.int .i64 (((fieldsM g n).1 : Nat) : Int), .int .i64 (((fieldsM g n).2 : Nat) : Int)]) Hb42 (by unfold fieldsM; simp [h42]) kr
    · refine rS [.e (v := .bool (((g : Nat) : Int) == 42)) (v' := .bool false) (bool_eq (beq_eq_false_iff_ne.2 (by omega))), .v] Hc40 kr fun gsc42 wc42 Hc42 => ?_
      refine g_cond_f kr kr ?_
      refine rS [.v, .s 1] Hc42 kr fun gsz wz Hz => ?_
      exact rRe [.cell 2 71] [1] (v := .agg #[.int .i64 0, .int .i64 0]) (v' := .agg #[.int .i64 (((fieldsM g n).1 : Nat) : Int), .int .i64 (((fieldsM g n).2 : Nat) : Int)]) Hz (by unfold fieldsM; simp [h40, h42]) kr
set_option maxRecDepth 100000 in
set_option maxHeartbeats 2000000 in
theorem fits_fn (g : Nat) (p : Option Addr) (n c m : Nat) (s : ByteArray) (p2 : Option Addr) (n2 c2 : Nat) : Fn Tryd.prog 20 #[knd g p n c, fld m s p2 n2 c2] (.bool (fitsM g n m s.size n2)) := by
  refine Fn.intro (c := codeOf Tryd.f20) [.tmp 4] 29 Tryd.func20 kr kr kr fun w => ?_
  have H0 := St.start w
  refine rS [.b, .b, .v] H0 kr fun gs1 w1 H1 => ?_
  clear H0
  have hv : fitsM g n m s.size n2 = ((decide (m = 0) || decide (g = 110)) && (hasM (bytesM g) s.size && hasM (fieldsM g n) n2)) := rfl
  obtain ⟨x1, hx1⟩ : ∃ x, hasM (bytesM g) s.size = x := ⟨_, rfl⟩
  obtain ⟨x2, hx2⟩ : ∃ x, hasM (fieldsM g n) n2 = x := ⟨_, rfl⟩
  have c1 : Fn Tryd.prog 31 #[.agg #[.int .i64 (((bytesM g).1 : Nat) : Int), .int .i64 (((bytesM g).2 : Nat) : Int)], .int .i64 ((s.size : Nat) : Int)] (.bool x1) := hx1 ▸ has_fn _ _ _
  have c2 : Fn Tryd.prog 31 #[.agg #[.int .i64 (((fieldsM g n).1 : Nat) : Int), .int .i64 (((fieldsM g n).2 : Nat) : Int)], .int .i64 ((n2 : Nat) : Int)] (.bool x2) := hx2 ▸ has_fn _ _ _
  rw [hx1, hx2] at hv
  rw [hv]
  clear hv hx1 hx2
  by_cases hm : m = 0
  · skip
    cases x1 with
    | true =>
      refine dS [.v, .l 1, .e (v := .bool (((m : Nat) : Int) == 0)) (v' := .bool true) (bool_eq (beq_iff_eq.2 (by omega))), .v, .n, .n, .n, .v, .v, .l 0, .c (bytes_fn g p n c), .v, .l 1, .v, .c c1, .v, .v, .l 0, .c (fields_fn g p n c), .v, .l 1, .v, .c c2, .v, .v] H1 kr fun w2 H2 => ?_
      exact rRe [.tmp 4] [] (v := .bool x2) (v' := .bool ((decide (m = 0) || decide (g = 110)) && (true && x2))) H2 (bool_eq (by simp [hm])) kr
    | false =>
      refine dS [.v, .l 1, .e (v := .bool (((m : Nat) : Int) == 0)) (v' := .bool true) (bool_eq (beq_iff_eq.2 (by omega))), .v, .n, .n, .n, .v, .v, .l 0, .c (bytes_fn g p n c), .v, .l 1, .v, .c c1, .v, .v, .n, .n, .n, .n, .n, .n, .v, .v] H1 kr fun w2 H2 => ?_
      exact rRe [.tmp 4] [] (v := .bool false) (v' := .bool ((decide (m = 0) || decide (g = 110)) && (false && x2))) H2 (bool_eq (by simp [hm])) kr
  · by_cases hg : g = 110
    · skip
      cases x1 with
      | true =>
        refine dS [.v, .l 1, .e (v := .bool (((m : Nat) : Int) == 0)) (v' := .bool false) (bool_eq (beq_eq_false_iff_ne.2 (by omega))), .v, .v, .l 0, .e (v := .bool (((g : Nat) : Int) == 110)) (v' := .bool true) (bool_eq (beq_iff_eq.2 (by omega))), .v, .v, .l 0, .c (bytes_fn g p n c), .v, .l 1, .v, .c c1, .v, .v, .l 0, .c (fields_fn g p n c), .v, .l 1, .v, .c c2, .v, .v] H1 kr fun w2 H2 => ?_
        exact rRe [.tmp 4] [] (v := .bool x2) (v' := .bool ((decide (m = 0) || decide (g = 110)) && (true && x2))) H2 (bool_eq (by simp [hm, hg])) kr
      | false =>
        refine dS [.v, .l 1, .e (v := .bool (((m : Nat) : Int) == 0)) (v' := .bool false) (bool_eq (beq_eq_false_iff_ne.2 (by omega))), .v, .v, .l 0, .e (v := .bool (((g : Nat) : Int) == 110)) (v' := .bool true) (bool_eq (beq_iff_eq.2 (by omega))), .v, .v, .l 0, .c (bytes_fn g p n c), .v, .l 1, .v, .c c1, .v, .v, .n, .n, .n, .n, .n, .n, .v, .v] H1 kr fun w2 H2 => ?_
        exact rRe [.tmp 4] [] (v := .bool false) (v' := .bool ((decide (m = 0) || decide (g = 110)) && (false && x2))) H2 (bool_eq (by simp [hm, hg])) kr
    · refine dS [.v, .l 1, .e (v := .bool (((m : Nat) : Int) == 0)) (v' := .bool false) (bool_eq (beq_eq_false_iff_ne.2 (by omega))), .v, .v, .l 0, .e (v := .bool (((g : Nat) : Int) == 110)) (v' := .bool false) (bool_eq (beq_eq_false_iff_ne.2 (by omega))), .v, .v, .n, .n, .n, .n, .n, .n, .v, .v, .n, .n, .n, .n, .n, .n, .v, .v] H1 kr fun w2 H2 => ?_
      exact rRe [.tmp 4] [] (v := .bool false) (v' := .bool ((decide (m = 0) || decide (g = 110)) && (x1 && x2))) H2 (bool_eq (by simp [hm, hg])) kr
end Go.Proofs.YtkkbkpneodecnaaDoor

namespace Go.Proofs.YtkkbkpneodecnaaDoor
open Go Go.RowKit
set_option linter.unusedVariables false
/-- What holds of the lists in each of a list. -/
def Fr.sub {α : Type} (p : Fr α → Prop) : Fr α → Prop
  | .nil => True
  | .cons a k r => p k ∧ r.sub p
theorem Fr.induct {α : Type} {p : Fr α → Prop} (h : ∀ l : Fr α, l.sub p → p l) : ∀ l : Fr α, p l ∧ l.sub p
  | .nil => ⟨h .nil trivial, trivial⟩
  | .cons a k r => ⟨h _ ⟨(Fr.induct h k).1, (Fr.induct h r).2⟩, (Fr.induct h k).1, (Fr.induct h r).2⟩
def LeftC (l : Fe) : Prop := ∀ (g : Nat) (p : Option Addr) (n c : Nat) (b : Kf) (m : Nat) (s : ByteArray) (p2 : Option Addr) (n2 c2 : Nat) (room : Int),
  FnP Tryd.prog 13 #[knd g p n c, fld m s p2 n2 c2, .int .i64 room] (fun w => SlR kS w.heap.size w p n b ∧ SlR fS w.heap.size w p2 n2 l) (.int .i64 (left1 g b (m, s) l room))
set_option maxRecDepth 100000 in
set_option maxHeartbeats 2000000 in
theorem fleft_step (l : Fe) (hs : l.sub LeftC) : LeftC l := by
  intro g p n c b m s p2 n2 c2 room
  refine FnP.intro (c := codeOf Tryd.f13) [.tmp 6] 34 Tryd.func13 kr kr kr fun w hpre => ?_
  have H0 := St.start w
  obtain ⟨hK, hF⟩ := hpre
  have hn2 := hF.1
  have hnm : n2 ≤ 140737488355328 := hF.2.1
  unfold left1
  rw [← hK.1, ← hF.1]
  refine rS [.b, .b, .v] H0 kr fun gs1 w1 H1 => ?_
  clear H0
  refine g_seq kr ?_
  cases hf : fitsM g n m s.size n2 with
  | false =>
    rw [if_neg (by decide)]
    refine rS [.l 0, .l 1, .c (fits_fn g p n c m s p2 n2 c2), .e (v := .bool (!(fitsM g n m s.size n2))) (v' := .bool true) (bool_eq (by rw [hf]; rfl))] H1 kr fun gs2 w2 H2 => ?_
    refine g_cond_t kr kr ?_
    refine rS [.v] H2 kr fun gs3 w3 H3 => ?_
    exact rR [.tmp 6] [] (.int .i64 (-1)) H3 kr
  | true =>
    rw [if_pos rfl]
    refine rS [.l 0, .l 1, .c (fits_fn g p n c m s p2 n2 c2), .e (v := .bool (!(fitsM g n m s.size n2))) (v' := .bool false) (bool_eq (by rw [hf]; rfl))] H1 kr fun gs2 w2 H2 => ?_
    refine g_cond_f kr kr ?_
    refine g_skip kr ?_
    show WP _ _ _ _ _ _
    refine rS [.v, .e (v := .int .i64 (IntKind.i64.wrap (room - 1))) (v' := .int .i64 (w64 (room - 1))) rfl, .v] H2 kr fun gs3 w3 H3 => ?_
    refine g_seq kr ?_
    refine rS [.v, .l 1, .v, .v] H3 kr fun gs4 w4 H4 => ?_
    refine g_block 0 kr ?_
    have H5 : St w.heap.size w w4 [((gs1 0).b, .cells #[.int .u8 ((g : Nat) : Int), .slice p n c] 37 (0, 0)), ((gs1 1).b, .cells #[.int .u64 ((m : Nat) : Int), .string s, .slice p2 n2 c2] 34 (0, 0))] := H4.as kr
    clear H1 H2 H3 H4
    refine g_loop kr (fun mz ρ ww => ∃ (i : Nat) (r : Fe) (v : Int), n2 - i = mz ∧ FrR fS w.heap.size w p2 i r ∧ i + r.len = n2 ∧ r.sub LeftC ∧ leftL l g b 0 (w64 (room - 1)) = leftL r g b i v ∧ St w.heap.size w ww [((gs1 0).b, .cells #[.int .u8 ((g : Nat) : Int), .slice p n c] 37 (0, 0)), ((gs1 1).b, .cells #[.int .u64 ((m : Nat) : Int), .string s, .slice p2 n2 c2] 34 (0, 0))] ∧ Is [(2, .int .i64 v), (3, .pointer (some ⟨(gs1 0).b, 0, none⟩)), (16, .slice p2 n2 c2), (17, .int .i64 ((n2 : Nat) : Int)), (18, .int .i64 ((i : Nat) : Int))] ρ) (n2 - 0) ⟨0, l, _, rfl, hF.start, by omega, hs, rfl, H5, (Is.of ⟨kr, kr, kr, kr, kr, trivial⟩)⟩ ?_
    clear H5
    rintro _ _ w5 ⟨i, r, v, rfl, hR, hN, hsub, hv, H6, _, rfl⟩
    by_cases hi : i < n2
    · refine rS [.e (v := .bool (decide (((i : Nat) : Int) < ((n2 : Nat) : Int)))) (v' := .bool true) (bool_eq (decide_eq_true (by omega)))] H6 kr fun gs5 w6 H7 => ?_
      clear H6
      refine g_seq kr ?_
      refine g_cond_t kr kr ?_
      refine g_skip kr ?_
      show WP _ _ _ _ _ _
      refine g_seq kr ?_
      refine g_block 1 kr ?_
      obtain ⟨⟨m1, s1⟩, k1, r1, b1, off1, C1, T1, fz1, p1, n1, c1, hr1, hp1, hb1, hh1, hs1, hx1, hz1, hk1, hR1, hN1⟩ := FrR.open hR hN hi
      obtain ⟨g', p', n', c', hK1, hK2, hg'⟩ := hK.kid g i
      subst hr1
      refine rS [.v, .o (ins := [((.tmp 16), .slice p2 n2 c2), ((.tmp 18), .int .i64 ((i : Nat) : Int))]) (v := .pointer (some ⟨b1, off1 + i * 3, none⟩)) (fun ρ o w ho hi2 => idxR_run (kd := .i64) (t := 22) (e := 34) (K := 3) (bytes := 48) kr (x := (.tmp 16)) (y := (.tmp 18)) b1 off1 n2 c2 i hp1 ho hi2.1 hi2.2.1 (by omega) w), .fp (off := off1 + i * 3) (n := 3) (W := #[.int .u64 ((m1 : Nat) : Int), .string s1, .slice p1 n1 c1]) hh1 hb1 hs1 hx1, .a, .v, .s 2] H7 kr fun gs6 w7 H8 => ?_
      clear H7
      refine dS [.l 0, .v, .cp (pre := fun w => KidAt w.heap.size w g p n i g' p' n' c') (kid_fn g p n c i g' p' n' c') [] (fun w hb hd => hK1.up hb hb.size), .l 2, .v, .cp (pre := fun w => SlR kS w.heap.size w p' n' (kidM g b i).2 ∧ SlR fS w.heap.size w p1 n1 k1) (hsub.1 g' p' n' c' (kidM g b i).2 m1 s1 p1 n1 c1 v) [] (fun w hb hd => ⟨hK2.call hb, hk1.call hb⟩), .v] H8 kr fun w8 H9 => ?_
      clear H8
      rw [leftL_cons, ← hg'] at hv
      by_cases hv0 : left1 g' (kidM g b i).2 (m1, s1) k1 v < 0
      · rw [if_pos hv0] at hv
        refine rS [.v, .e (v := .bool (decide (left1 g' (kidM g b i).2 (m1, s1) k1 v < 0))) (v' := .bool true) (bool_eq (decide_eq_true hv0))] H9 kr fun gs7 w9 H10 => ?_
        refine g_cond_t kr kr ?_
        refine rS [.v, .v] H10 kr fun gs8 w10 H11 => ?_
        exact rRe [.tmp 6] [] (v := .int .i64 (left1 g' (kidM g b i).2 (m1, s1) k1 v)) (v' := .int .i64 (leftL l g b 0 (w64 (room - 1)))) H11 (int_eq hv.symm) kr
      · rw [if_neg hv0] at hv
        refine rS [.v, .e (v := .bool (decide (left1 g' (kidM g b i).2 (m1, s1) k1 v < 0))) (v' := .bool false) (bool_eq (decide_eq_false hv0))] H9 kr fun gs7 w9 H10 => ?_
        refine g_cond_f kr kr ?_
        refine g_skip kr ?_
        show WP _ _ _ _ _ _
        refine rL [.e (v := .int .i64 (IntKind.i64.wrap (((i : Nat) : Int) + 1))) (v' := .int .i64 ((i + 1 : Nat) : Int)) (int_eq (wrapAdd_i64 (a := i) (b := 1) (by omega))), .v] H10 kr fun gs8 w10 H11 => ?_
        have H12 : St w.heap.size w w10 [((gs1 0).b, .cells #[.int .u8 ((g : Nat) : Int), .slice p n c] 37 (0, 0)), ((gs1 1).b, .cells #[.int .u64 ((m : Nat) : Int), .string s, .slice p2 n2 c2] 34 (0, 0)), ((gs6 3).b, .cells #[.int .u64 ((m1 : Nat) : Int), .string s1, .slice p1 n1 c1] 34 (0, 0))] := H11.as kr
        show ∃ m, _ ∧ _
        exact ⟨_, (by omega), i + 1, r1, _, rfl, hR1, hN1, hsub.2, hv, H12.sub (List.Sublist.cons_cons _ (List.Sublist.cons_cons _ (List.nil_sublist _))), (Is.of ⟨kr, kr, kr, kr, kr, trivial⟩)⟩
    · obtain rfl := FrR.done hN hi
      refine rS [.e (v := .bool (decide (((i : Nat) : Int) < ((n2 : Nat) : Int)))) (v' := .bool false) (bool_eq (decide_eq_false (by omega)))] H6 kr fun gs5 w6 H7 => ?_
      refine g_seq kr ?_
      refine g_cond_f kr kr ?_
      refine g_exit 0 kr ?_
      show WP _ _ _ _ _ _
      refine rS [.v, .v] H7 kr fun gs6 w7 H8 => ?_
      exact rRe [.tmp 6] [] (v := .int .i64 v) (v' := .int .i64 (leftL l g b 0 (w64 (room - 1)))) H8 (int_eq hv.symm) kr
theorem fleft_fn (l : Fe) : LeftC l := (Fr.induct fleft_step l).1
end Go.Proofs.YtkkbkpneodecnaaDoor

namespace Go.Proofs.YtkkbkpneodecnaaDoor
open Go Go.RowKit
set_option linter.unusedVariables false
namespace D2
section
variable {P : Program} {ops : Array Oper} {R : (Nat → Gh) → Env} {i : Nat} {d : Option Nat} {pre : (Nat → Bool) → (Nat → Gh) → World → Prop}
theorem gv_opW {V : Value} (hs : ∀ L g w, pre L g w → pre (put1 L i) g w) (op : Op) (h : ∀ g, opk ops i (R g) = some (d, true, op)) (hr : ∀ L g (o : Oper) w, Now ops i L → pre L g w → o.op = op → (execOp (ev (R g)) o).run P w = .ok (.value V) w) : Gives P ops R pre i d (fun _ => V) :=
  gives_of fun L g w hp hN => by
    obtain ⟨o, ho, hd, hw, hop⟩ := opk_some (h g)
    exact ⟨o, ho, hd, .inr ⟨hw, by rw [hr L g o w hN hp hop]; exact ⟨g i, rfl, by rw [setN_self]; exact hs _ _ _ hp⟩⟩⟩
theorem gv_ld {V : Value} (hs : ∀ L g w, pre L g w → pre (put1 L i) g w) (t : TypeId) (x : Operand) (b : (Nat → Gh) → Nat) (off : Nat) (C : Array Value) (T : TypeId) (fz : Nat × Nat) (h : ∀ g, opk ops i (R g) = some (d, true, .load t x))
    (hx : ∀ g, ev (R g) x = .pointer (some ⟨b g, off, none⟩)) (hh : ∀ L g w, Now ops i L → pre L g w → w.heap[b g]? = some (.cells C T fz)) (hok : ldOK P t off C = true) (hV : ldv P t off C = V) : Gives P ops R pre i d (fun _ => V) :=
  gv_opW hs _ h fun L g o w hN hp ho => by
    have := ldOK_run (P := P) hok (hh L g w hN hp)
    rw [hV] at this
    simp [execOp, ho, Instr.loadAt, Instr.sureAddr, hx, this]
theorem gv_cpW {V : Value} (hs : ∀ L g w, pre L g w → pre (put1 L i) g w) (f : Nat) (args : Array Value) {pr : World → Prop} (hc : FnP P f args pr V) (hpr : ∀ L g w, Now ops i L → pre L g w → pr w) (hb : ∀ L g w w', Now ops i L → pre L g w → Below w.heap.size w w' → pre L g w') (h : ∀ g w, opv P ops i (R g) w = some (d, true, .ok (.enter f args) w)) : Gives P ops R pre i d (fun _ => V) :=
  gives_of fun L g w hp hN => by
    obtain ⟨o, ho, hd, hw, hr⟩ := opv_some (h g w)
    refine ⟨o, ho, hd, .inr ⟨hw, ?_⟩⟩
    rw [hr]
    refine Calls.mono (hc w (hpr L g w hN hp)) ?_
    rintro e w' ⟨rfl, hbl⟩
    exact ⟨V, rfl, g i, rfl, by rw [setN_self]; exact hs _ _ _ (hb L g w w' hN hp hbl)⟩
theorem gv_ft {V : Gh → Value} (f : Nat) (args : Array Value) {pr : World → Prop} {ok : Value → List (Nat × Obj) → Prop} (hc : FnT P f args pr ok) (hpr : ∀ L g w, Now ops i L → pre L g w → pr w)
    (hk : ∀ L g w v T w', Now ops i L → pre L g w → ok v T → St w.heap.size w w' T → ∃ x : Gh, v = V x ∧ pre (put1 L i) (setN g i x) w') (h : ∀ g w, opv P ops i (R g) w = some (d, true, .ok (.enter f args) w)) : Gives P ops R pre i d V :=
  gives_of fun L g w hp hN => by
    obtain ⟨o, ho, hd, hw, hr⟩ := opv_some (h g w)
    refine ⟨o, ho, hd, .inr ⟨hw, ?_⟩⟩
    rw [hr]
    refine Calls.mono (hc w (hpr L g w hN hp)) ?_
    rintro e w' ⟨v, T, rfl, hok, hT⟩
    obtain ⟨x, hv, hq⟩ := hk L g w v T w' hN hp hok hT
    exact ⟨v, rfl, x, hv, hq⟩
end
end D2
abbrev outT (B : Nat) (w0 : World) (ok : Value → List (Nat × Obj) → Prop) : Value → World → Prop := fun v' w' => ∃ T, ok v' T ∧ St B w0 w' T
theorem FnT.intro {P : Program} {f : Nat} {fn : Func} {c : Code} (rs : List ResultVar) (N : Nat) {args : Array Value} {pre : World → Prop} {ok : Value → List (Nat × Obj) → Prop} (hf : P.funcs[f]? = some fn) (hb : fn.body = some c) (hr : fn.results.toList = rs) (hn : args.size + (fn.ntmps - args.size) = N)
    (h : ∀ w, pre w → WP P N c (ends P rs (outT w.heap.size w ok)) (ini args) w) : FnT P f args pre ok := fun w hp =>
  (calls_intro hf hb hr hn (h w hp)).mono fun e w' ⟨v', he, T, hv⟩ => ⟨v', T, he, hv⟩
section
variable {P : Program} {N : Nat} {ops : Array Oper} {i : Nat} {r : List Nat} {K : Env → World → Prop} {ρ : Env} {w : World} {B : Nat} {w0 : World} {l : List (Nat × Obj)}
theorem s_callFT (HS : St B w0 w l) (d : Option Nat) (f : Nat) (args : Array Value) {pre : World → Prop} {ok : Value → List (Nat × Obj) → Prop} (hc : FnT P f args pre ok) (hp : pre w)
    (h : opv P ops i ρ w = some (d, true, .ok (.enter f args) w)) (hd : dOK d N = true)
    (kk : ∀ v T w', ok v T → St B w0 w' (T ++ l) → WPs P N ops K r (updO ρ d v) w') : WPs P N ops K (i :: r) ρ w := by
  obtain ⟨o, ho, rfl, hw, hr⟩ := opv_some h
  refine WPo.run ho hw fun a ha => ?_
  rw [hr, Oper.upon_enter]
  refine (hc w hp).mono ?_
  rintro e w' ⟨v, T, rfl, hok, hT⟩
  exact ⟨_, ha.put _ (dOK_lt hd) _, kk v T w' hok (HS.addAll hT)⟩
/-- make of a row of structs. -/
theorem s_makeK (HS : St B w0 w l) (d : Option Nat) (t e : TypeId) (K' bytes : Nat) (x y : Operand) (kl kc : IntKind) (n : Nat) (h : opk ops i ρ = some (d, true, .makeSlice t x y)) (hd : dOK d N = true) (ht : sliceOf P t = some (e, K', bytes))
    (hx : ev ρ x = .int kl (n : Int)) (hy : ev ρ y = .int kc (n : Int)) (hb : bytes * n ≤ 281474976710656) (hm : n ≤ maxLen)
    (kk : ∀ b cur w', St B w0 w' ((b, .cells cur e (0, 0)) :: l) → cur.size = n * K' → WPs P N ops K r (updO ρ d (.slice (some ⟨b, 0, none⟩) n n)) w') : WPs P N ops K (i :: r) ρ w := by
  obtain ⟨o, ho, rfl, hw, hop⟩ := opk_some h
  obtain ⟨it, z', hu, hi, hz', hsz, hby, hzs, h0⟩ := sliceOf_spec ht
  have hml : n ≤ 9223372036854775807 := by have := hm; simp only [maxLen] at this; omega
  have hbi : (it.bytes : Int) * (n : Int) ≤ 281474976710656 := by
    rw [hby, ← Int.natCast_mul]; omega
  have hr := run_make (P := P) w t e it z' hu hi hz' kl kc (n : Int) (n : Int) (by omega) (by omega) hbi (by omega)
  simp only [Int.toNat_natCast, hsz] at hr
  refine WPo.run ho hw fun a ha => ?_
  have hex : (execOp (ev ρ) o).run P w = .ok (.value (.slice (some ⟨w.heap.size, 0, none⟩) n n)) (w.alloc (.cells (madeCells z'.cells (n * K')) e)) := by
    unfold execOp
    simp only [hop, hx, hy, Sem.run_bind, hr, Result.andThen_ok]; rfl
  rw [hex, Oper.upon_value]
  refine ⟨_, ha.put _ (dOK_lt hd) _, kk _ _ _ (HS.alloc _) ?_⟩
  unfold madeCells; simp
end
/-- A row of items, the first i of which are there. -/
structure Fill (C : Array Value) (n i : Nat) (M : List X3) : Prop where
  sz : C.size = n * 3
  len : M.length = i
  take : C.toList.take (i * 3) = cells3 M
theorem Fill.start {C : Array Value} {n : Nat} (h : C.size = n * 3) : Fill C n 0 [] := ⟨h, rfl, by simp [cells3]⟩
theorem Fill.put {C : Array Value} {n i : Nat} {M : List X3} (h : Fill C n i M) (x : X3) (hi : i < n) :
    0 + i * 3 + (Value.agg (xc x)).cells.size ≤ C.size ∧ Fill (C.toList.take (0 + i * 3) ++ (Value.agg (xc x)).cells.toList ++ C.toList.drop (0 + i * 3 + (Value.agg (xc x)).cells.size)).toArray n (i + 1) (M ++ [x]) := by
  have hc : (Value.agg (xc x)).cells = xc x := rfl
  have h3 : (xc x).size = 3 := rfl
  have hl3 : (xc x).toList.length = 3 := rfl
  have hsz := h.sz
  rw [hc, h3, Nat.zero_add]
  have hle : i * 3 + 3 ≤ C.size := by omega
  refine ⟨hle, ?_, by rw [List.length_append, h.len]; rfl, ?_⟩
  · simp only [List.size_toArray, List.length_append, List.length_take, List.length_drop, Array.length_toList, hl3]; omega
  · have e1 : (C.toList.take (i * 3)).length = i * 3 := by rw [List.length_take, Array.length_toList]; omega
    have e2 : (C.toList.take (i * 3)).take (i * 3 + 3) = C.toList.take (i * 3) := List.take_of_length_le (by omega)
    have e3 : (xc x).toList.take 3 = (xc x).toList := rfl
    rw [show (i + 1) * 3 = i * 3 + 3 by omega, List.toList_toArray, List.append_assoc, List.take_append, e1, e2, Nat.add_sub_cancel_left, List.take_append, hl3, Nat.sub_self, List.take_zero, List.append_nil, e3, cells3_append, h.take]
    rfl
theorem Fill.done {C : Array Value} {n : Nat} {M : List X3} (h : Fill C n n M) (hm : n ≤ maxLen) : Rw 3 C n n (cells3 M) := ⟨by rw [cells3_len, h.len], Nat.le_refl _, hm, h.take, h.sz⟩
end Go.Proofs.YtkkbkpneodecnaaDoor

namespace Go.Proofs.YtkkbkpneodecnaaDoor
open Go Go.RowKit
set_option linter.unusedVariables false
set_option maxRecDepth 100000 in
set_option maxHeartbeats 2000000 in
theorem clone_none (n c : Nat) (L : List X3) (h0 : n = 0) : FnR Tryd.prog 39 #[.slice none n c] (fun w => n = List.length L ∧ CellsAt w none L) (RetR 43 (fun v => v) n L) := by
  refine FnR.intro (c := codeOf Tryd.f39) [.tmp 2] 8 Tryd.func39 kr kr kr fun w hpre => ?_
  have H0 := St.start w
  refine rS [.v] H0 kr fun gs1 w1 H1 => ?_
  clear H0
  refine g_seq kr ?_
  refine rS [.v, .v] H1 kr fun gs2 w2 H2 => ?_
  clear H1
  refine g_cond_t kr kr ?_
  refine rS [.v] H2 kr fun gs3 w3 H3 => ?_
  clear H2
  refine g_ret kr ?_
  show ∃ vs, Res _ _ _ _ vs ∧ _
  refine ⟨[.slice none 0 0], (.tmp (.slice none 0 0) kr .nil), H3.below, ?_⟩
  exact Or.inl ⟨h0, rfl⟩
set_option maxRecDepth 100000 in
set_option maxHeartbeats 2000000 in
theorem clone_some (a : Addr) (n c : Nat) (L : List X3) (hn8 : n ≤ 2000000000000) : FnR Tryd.prog 39 #[.slice (some a) n c] (fun w => n = List.length L ∧ CellsAt w (some a) L) (RetR 43 (fun v => v) n L) := by
  refine FnR.intro (c := codeOf Tryd.f39) [.tmp 2] 8 Tryd.func39 kr kr kr fun w hpre => ?_
  have H0 := St.start w
  refine rS [.v] H0 kr fun gs1 w1 H1 => ?_
  clear H0
  refine g_seq kr ?_
  refine rS [.v, .v] H1 kr fun gs2 w2 H2 => ?_
  clear H1
  refine g_cond_f kr kr ?_
  refine g_skip kr ?_
  show WP _ _ _ _ _ _
  refine g_sreg [0, 1, 2, 3] kr kr ?_
  refine rp [.nw (fun b => .slice (some ⟨b, 0, none⟩) 0 0) #[] 43, .v] H2 kr fun gs3 w3 H3 => ?_
  show WPs _ _ _ _ [2, 3] _ _
  clear H2
  have HL1 : St w.heap.size w w3 [((gs3 0).b, Obj.cells #[] 43 (0, 0))] := H3.as kr
  clear H3
  refine s_appendA HL1 (some 7) 41 43 48 (.tmp 5) (.tmp 6) 0 ((gs3 0).b) 0 n 0 c (some a) #[] [] L (fun b_1 cur_3 => [(b_1, Obj.cells cur_3 43 (0, 0))]) kr kr kr kr kr (Rw.lit #[] 0 (by rfl) (by unfold maxLen; omega)) kr hpre.1 (fun h => nomatch h) (CellsAt.up hpre.2 HL1.below) (by omega) (by unfold maxLen; omega) (fun _ _ => by kernel_rfl) ?_
  intro b_1 cap_2 cur_3 w4 H4 hr_4; clear HL1
  rw [Nat.zero_add] at hr_4
  refine s_now 7 (v := .slice (some ⟨b_1, 0, none⟩) (0 + n) cap_2) (v' := .slice (some ⟨b_1, 0, none⟩) n cap_2) (by rw [Nat.zero_add]) kr ?_
  refine rp [.v] H4 kr fun gs5 w5 H5 => ?_
  show WPs _ _ _ _ [] _ _
  clear H4
  refine s_nil ?_
  refine g_ret kr ?_
  show ∃ vs, Res _ _ _ _ vs ∧ _
  refine ⟨[.slice (some ⟨b_1, 0, none⟩) n cap_2], (.tmp (.slice (some ⟨b_1, 0, none⟩) n cap_2) kr .nil), H5.below, ?_⟩
  exact Or.inr ⟨b_1, cap_2, _, rfl, H5.ge 0 (o := .cells cur_3 43 (0, 0)) kr, H5.get 0 kr, hr_4⟩
theorem clone_fn (p : Option Addr) (n c : Nat) (L : List X3) (hn8 : n ≤ 2000000000000) : FnR Tryd.prog 39 #[.slice p n c] (fun w => n = List.length L ∧ CellsAt w p L) (RetR 43 (fun v => v) n L) := fun w hp => by
  cases p with
  | none =>
    have h0 : n = 0 := by
      rcases hp.2 with h | ⟨b, off, e, _⟩
      · rw [hp.1, h]; rfl
      · cases e
    exact clone_none n c L h0 w hp
  | some a => exact clone_some a n c L hn8 w hp
set_option maxRecDepth 100000 in
set_option maxHeartbeats 2000000 in
theorem list_fn (p : Option Addr) (n c : Nat) (L : List X3) (hn8 : n ≤ 2000000000000) : FnR Tryd.prog 26 #[.slice p n c] (fun w => n = List.length L ∧ CellsAt w p L) (RetR 43 (fun v => .agg #[.bool true, .string ⟨#[]⟩, v]) n L) := by
  refine FnR.intro (c := codeOf Tryd.f26) [.cell 2 43] 6 Tryd.func26 kr kr kr fun w hpre => ?_
  have H0 := St.start w
  refine rS [.a] H0 kr fun gs1 w1 H1 => ?_
  clear H0
  refine g_sreg [0, 1, 2, 3] kr kr ?_
  refine rp [.v] H1 kr fun gs2 w2 H2 => ?_
  show WPs _ _ _ _ [1, 2, 3] _ _
  clear H1
  refine s_callL H2 (some 4) 39 #[.slice p n c] (fun w => n = List.length L ∧ CellsAt w p L) 43 (fun v => v) n L (clone_fn p n c L (by omega)) ⟨hpre.1, CellsAt.up hpre.2 H2.below⟩ kr kr ?_ ?_
  · skip
    intro w3 h0 H3; clear H2
    refine rp [.v, .s 0] H3 kr fun gs5 w5 H5 => ?_
    show WPs _ _ _ _ [] _ _
    clear H3
    refine s_nil ?_
    refine g_ret kr ?_
    show ∃ vs, Res _ _ _ _ vs ∧ _
    refine ⟨[.agg #[.bool true, .string (⟨#[]⟩), .slice none 0 0]], (.agg (b := (gs1 0).b) (#[.bool true, .string (⟨#[]⟩), .slice none 0 0]) 43 (0, 0) kr (H5.get 0 kr) kr .nil), H5.below, ?_⟩
    exact Or.inl ⟨h0, rfl⟩
  · skip
    intro b_1 cap_2 cur_3 w4 H4 hr_4; clear H2
    refine rp [.v, .s 1] H4 kr fun gs6 w6 H6 => ?_
    show WPs _ _ _ _ [] _ _
    clear H4
    refine s_nil ?_
    refine g_ret kr ?_
    show ∃ vs, Res _ _ _ _ vs ∧ _
    refine ⟨[.agg #[.bool true, .string (⟨#[]⟩), .slice (some ⟨b_1, 0, none⟩) n cap_2]], (.agg (b := (gs1 0).b) (#[.bool true, .string (⟨#[]⟩), .slice (some ⟨b_1, 0, none⟩) n cap_2]) 43 (0, 0) kr (H6.get 1 kr) kr .nil), H6.below, ?_⟩
    exact Or.inr ⟨b_1, cap_2, _, rfl, H6.ge 0 (o := .cells cur_3 43 (0, 0)) kr, H6.get 0 kr, hr_4⟩
end Go.Proofs.YtkkbkpneodecnaaDoor

namespace Go.Proofs.YtkkbkpneodecnaaDoor
open Go Go.RowKit
set_option linter.unusedVariables false
def Fo.app : Fo → Fo → Fo
  | .nil, R => R
  | .cons l s k r, R => .cons l s k (r.app R)
theorem app_snoc (x : X3) (R : Fo) : ∀ M : List X3, (toFo (M ++ [x])).app R = (toFo M).app (.cons x.l x.s x.k R)
  | [] => rfl
  | y :: r => by simp only [List.cons_append, toFo, Fo.app, app_snoc x R r]
theorem Fo.app_nil : ∀ k : Fo, k.app .nil = k
  | .nil => rfl
  | .cons l s k r => by simp only [Fo.app, Fo.app_nil r]
theorem bytM_size {g : Nat} {x : Nat × ByteArray} (h : x.2.size ≤ 140737488355328) : (bytM g x).size ≤ 140737488355328 := by
  unfold bytM
  split
  · rw [strB_size]; have := dg_len x.1; omega
  · split
    · exact Nat.zero_le _
    · exact h
def okItm (g : Nat) (b : Kf) (x : Nat × ByteArray) (l : Fe) (v : Value) (T : List (Nat × Obj)) : Prop :=
  ∃ (p : Option Addr) (n c : Nat), v = .agg #[.bool (lstM g), .string (bytM g x), .slice p n c] ∧ SlIn T p n (item1 g b l)
def ItemOfC (l : Fe) : Prop := ∀ (g : Nat) (p : Option Addr) (n c : Nat) (b : Kf) (m : Nat) (s : ByteArray) (p2 : Option Addr) (n2 c2 : Nat) (room : Int), m < 18446744073709551616 → 0 ≤ left1 g b (m, s) l room →
  FnT Tryd.prog 15 #[knd g p n c, fld m s p2 n2 c2] (fun w => SlR kS w.heap.size w p n b ∧ SlR fS w.heap.size w p2 n2 l) (okItm g b (m, s) l)
abbrev itO (v : Value) : Obj := .cells #[.bool true, .string ⟨#[]⟩, v] 43 (0, 0)
abbrev itZ : Obj := .cells #[.bool false, .string ⟨#[]⟩, .slice none 0 0] 43 (0, 0)
abbrev kdO (g : Nat) (p : Option Addr) (n c : Nat) : Obj := .cells #[.int .u8 ((g : Nat) : Int), .slice p n c] 37 (0, 0)
abbrev fdO (m : Nat) (s : ByteArray) (p : Option Addr) (n c : Nat) : Obj := .cells #[.int .u64 ((m : Nat) : Int), .string s, .slice p n c] 34 (0, 0)
abbrev rwO (C : Array Value) : Obj := .cells C 43 (0, 0)
def putI (C : Array Value) (i : Nat) (x : X3) : Array Value := (C.toList.take (0 + i * 3) ++ (Value.agg (xc x)).cells.toList ++ C.toList.drop (0 + i * 3 + (Value.agg (xc x)).cells.size)).toArray
/-- Where a round of itemOf stands. -/
def PreI (B : Nat) (w0 : World) (bq br : Nat) (C : Array Value) (i : Nat) (ok : X3 → List (Nat × Obj) → Prop) (bk : Nat) (kO fO : Obj) (T : List (Nat × Obj)) : (Nat → Bool) → (Nat → D2.Gh) → World → Prop := fun L g w =>
  bif L 8 then ∃ x T2, ok x T2 ∧ St B w0 w ((bq, fO) :: (bk, kO) :: (br, rwO (putI C i x)) :: (T2 ++ T))
  else bif L 6 then ∃ x T2, ok x T2 ∧ (g 6).cur = xc x ∧ St B w0 w ((bq, fO) :: (bk, kO) :: (br, rwO C) :: (T2 ++ T))
  else St B w0 w ((bq, fO) :: (bk, kO) :: (br, rwO C) :: T)
theorem PreI.st {B : Nat} {w0 : World} {bq br : Nat} {C : Array Value} {i : Nat} {ok : X3 → List (Nat × Obj) → Prop} {bk : Nat} {kO fO : Obj} {T : List (Nat × Obj)} {L : Nat → Bool} {g : Nat → D2.Gh} {w : World} (h8 : L 8 = false) (h : PreI B w0 bq br C i ok bk kO fO T L g w) : ∃ T', St B w0 w ((bq, fO) :: (bk, kO) :: (br, rwO C) :: T') := by
  unfold PreI at h
  rw [h8] at h
  cases h6 : L 6 with
  | true => rw [h6] at h; obtain ⟨x, T2, _, _, h⟩ := h; exact ⟨_, h⟩
  | false => rw [h6] at h; exact ⟨_, h⟩
theorem PreI.call {B : Nat} {w0 : World} {bq br : Nat} {C : Array Value} {i : Nat} {ok : X3 → List (Nat × Obj) → Prop} {bk : Nat} {kO fO : Obj} {T : List (Nat × Obj)} {L : Nat → Bool} {g : Nat → D2.Gh} {w w' : World} (hb : Below w.heap.size w w') (h : PreI B w0 bq br C i ok bk kO fO T L g w) : PreI B w0 bq br C i ok bk kO fO T L g w' := by
  unfold PreI at h ⊢
  cases h8 : L 8 with
  | true => rw [h8] at h; obtain ⟨x, T2, h1, h⟩ := h; exact ⟨x, T2, h1, h.call hb⟩
  | false =>
    rw [h8] at h
    cases h6 : L 6 with
    | true => rw [h6] at h; obtain ⟨x, T2, h1, h2, h⟩ := h; exact ⟨x, T2, h1, h2, h.call hb⟩
    | false => rw [h6] at h; exact St.call h hb
set_option maxRecDepth 100000 in
set_option maxHeartbeats 4000000 in
theorem itemOf_step (l : Fe) (hs : l.sub ItemOfC) : ItemOfC l := by
  intro g p n c b m s p2 n2 c2 room hm hleft
  refine FnT.intro (c := codeOf Tryd.f15) [.cell 4 43] 44 Tryd.func15 kr kr kr fun w hpre => ?_
  have H0 := St.start w
  obtain ⟨hK, hF⟩ := hpre
  have hfit : fitsM g b.len m s.size l.len = true ∧ 0 ≤ leftL l g b 0 (w64 (room - 1)) := by
    unfold left1 at hleft
    by_cases hf : fitsM g b.len m s.size l.len = true
    · rw [if_pos hf] at hleft; exact ⟨hf, hleft⟩
    · rw [if_neg hf] at hleft; omega
  obtain ⟨hf1, hf2, hf3⟩ := fits_parts hfit.1
  have hn2 := hF.1
  have hnb : n2 ≤ 1000 := by
    have hk1 := hK.1
    have hk2 : n ≤ 1000 := hK.2.1
    have := hf3.2
    unfold fieldsM at this
    split at this
    · simp only at this; omega
    · split at this
      · simp only at this; omega
      · simp only at this; omega
  refine rS [.b, .b, .a] H0 kr fun gs1 w1 H1 => ?_
  clear H0
  refine rS [.v, .l 0] H1 kr fun gs2 w2 H2 => ?_
  clear H1
  refine g_block 0 kr ?_
  by_cases h110 : g = 110
  · refine rS [.e (v := .bool (((g : Nat) : Int) == 110)) (v' := .bool true) (bool_eq (beq_iff_eq.2 (by omega))), .v] H2 kr fun gs3 w3 H3 => ?_
    refine g_cond_t kr kr ?_
    refine rS [.v, .l 1, .c (Number_fn m hm), .s 2] H3 kr fun gs4 w4 H4 => ?_
    refine rRr [.cell 4 43] [2] (.agg #[.bool false, .string (strB (dg m)), .slice none 0 0]) (outT w.heap.size w (okItm g b (m, s) l)) H4 kr ?_
    refine ⟨[], ⟨none, 0, 0, ?_, ?_⟩, H4.sub (List.nil_sublist _)⟩
    · subst h110; rfl
    · subst h110; exact SlIn.none _
  · refine rS [.e (v := .bool (((g : Nat) : Int) == 110)) (v' := .bool false) (bool_eq (beq_eq_false_iff_ne.2 (by omega))), .v] H2 kr fun gs3 w3 H3 => ?_
    refine g_cond_f kr kr ?_
    refine g_seq kr ?_
    refine g_mono (Q := fun e ρ ww => e = .normal ∧ St w.heap.size w ww [((gs1 0).b, kdO g p n c), ((gs1 1).b, fdO m s p2 n2 c2), ((gs1 2).b, itZ)] ∧ Is [(2, .pointer (some ⟨(gs1 0).b, 0, none⟩)), (3, .pointer (some ⟨(gs1 1).b, 0, none⟩)), (4, .pointer (some ⟨(gs1 2).b, 0, none⟩)), (18, .bool (lstM g))] ρ) ?_ ?_
    · by_cases h40 : g = 40
      · refine rS [.e (v := .bool (((g : Nat) : Int) == 40)) (v' := .bool true) (bool_eq (beq_iff_eq.2 (by omega))), .v] H3 kr fun gs4 w4 H4 => ?_
        refine g_cond_t kr kr ?_
        refine g_skip kr ?_
        refine ⟨rfl, H4.as kr, ?_⟩
        subst h40
        exact Is.of ⟨kr, kr, kr, kr, trivial⟩
      · refine rS [.e (v := .bool (((g : Nat) : Int) == 40)) (v' := .bool false) (bool_eq (beq_eq_false_iff_ne.2 (by omega))), .v] H3 kr fun gs4 w4 H4 => ?_
        refine g_cond_f kr kr ?_
        have hl : lstM g = decide (g = 42) := by unfold lstM; rw [decide_eq_false h40]; rfl
        rw [hl]
        by_cases h42 : g = 42
        · refine rL [.e (v := .bool (((g : Nat) : Int) == 42)) (v' := .bool true) (bool_eq (beq_iff_eq.2 (by omega))), .v] H4 kr fun gs5 w5 H5 => ?_
          refine ⟨rfl, H5.as kr, ?_⟩
          rw [decide_eq_true h42]
          exact Is.of ⟨kr, kr, kr, kr, trivial⟩
        · refine rL [.e (v := .bool (((g : Nat) : Int) == 42)) (v' := .bool false) (bool_eq (beq_eq_false_iff_ne.2 (by omega))), .v] H4 kr fun gs5 w5 H5 => ?_
          refine ⟨rfl, H5.as kr, ?_⟩
          rw [decide_eq_false h42]
          exact Is.of ⟨kr, kr, kr, kr, trivial⟩
    rintro _ _ w4 ⟨rfl, H4, _, rfl⟩
    show WP _ _ _ _ _ _
    clear H3 H2
    cases hl : lstM g with
    | false =>
      refine g_cond_f kr kr ?_
      refine rS [.v, .l 1, .v, .s 2] H4 kr fun gs5 w5 H5 => ?_
      refine rRr [.cell 4 43] [2] (.agg #[.bool false, .string s, .slice none 0 0]) (outT w.heap.size w (okItm g b (m, s) l)) H5 kr ?_
      refine ⟨[], ⟨none, 0, 0, ?_, ?_⟩, H5.sub (List.nil_sublist _)⟩
      · unfold bytM; rw [if_neg h110, if_neg (by rw [hl]; decide), hl]
      · unfold item1; rw [if_neg (by rw [hl]; decide)]; exact SlIn.none _
    | true =>
      refine g_cond_t kr kr ?_
      refine g_sreg [0, 1, 2, 3, 4] kr kr ?_
      refine rp [.v, .l 1, .v] H4 kr fun gs5 w5 H5 => ?_
      show WPs _ _ _ _ [3, 4] _ _
      have H6 : St w.heap.size w w5 [((gs1 0).b, kdO g p n c), ((gs1 1).b, fdO m s p2 n2 c2), ((gs1 2).b, itZ)] := H5.as kr
      refine s_makeK H6 (some 24) 41 43 3 48 (.tmp 23) (.tmp 23) .i64 .i64 n2 kr kr kr kr kr (by omega) (by unfold maxLen; omega) ?_
      intro br C0 w6 H7 hC0
      clear H4 H5 H6
      have H8 : St w.heap.size w w6 (((gs1 0).b, kdO g p n c) :: (br, rwO C0) :: ((gs1 1).b, fdO m s p2 n2 c2) :: ((gs1 2).b, itZ) :: []) := H7.perm (List.Perm.swap _ _ _)
      clear H7
      refine rp [.v] H8 kr fun gs6 w7 H9 => ?_
      show WPs _ _ _ _ [] _ _
      refine s_nil ?_
      refine g_seq kr ?_
      refine rS [.v, .l 2, .v, .v] H9 kr fun gs7 w8 H10 => ?_
      refine g_block 1 kr ?_
      have H11 : St w.heap.size w w8 (((gs1 0).b, kdO g p n c) :: (br, rwO C0) :: ((gs1 1).b, fdO m s p2 n2 c2) :: ((gs1 2).b, itZ) :: []) := H10.as kr
      clear H8 H9 H10
      refine g_loop kr (fun mz ρ ww => ∃ (i : Nat) (r : Fe) (v : Int) (C : Array Value) (M : List X3) (T : List (Nat × Obj)), n2 - i = mz ∧ FrR fS w.heap.size w p2 i r ∧ i + r.len = n2 ∧ r.sub ItemOfC ∧ 0 ≤ leftL r g b i v ∧ (toFo M).app (itemF r g b i) = itemF l g b 0 ∧ Fill C n2 i M ∧ AllIn T M ∧ St w.heap.size w ww (((gs1 0).b, kdO g p n c) :: (br, rwO C) :: ((gs1 1).b, fdO m s p2 n2 c2) :: ((gs1 2).b, itZ) :: T) ∧ Is [(2, .pointer (some ⟨(gs1 0).b, 0, none⟩)), (3, .pointer (some ⟨(gs1 1).b, 0, none⟩)), (4, .pointer (some ⟨(gs1 2).b, 0, none⟩)), (5, .slice (some ⟨br, 0, none⟩) n2 n2), (26, .slice p2 n2 c2), (27, .int .i64 ((n2 : Nat) : Int)), (28, .int .i64 ((i : Nat) : Int))] ρ) (n2 - 0) ⟨0, l, _, C0, [], [], rfl, hF.start, by omega, hs, hfit.2, rfl, Fill.start hC0, (fun _ h => nomatch h), H11, (Is.of ⟨kr, kr, kr, kr, kr, kr, kr, trivial⟩)⟩ ?_
      clear H11
      rintro _ _ w9 ⟨i, r, v, C, M, T, rfl, hR, hN, hsub, hlf, happ, hFill, hAll, H12, _, rfl⟩
      by_cases hi : i < n2
      · refine rS [.e (v := .bool (decide (((i : Nat) : Int) < ((n2 : Nat) : Int)))) (v' := .bool true) (bool_eq (decide_eq_true (by omega)))] H12 kr fun gs8 w10 H13 => ?_
        clear H12
        refine g_seq kr ?_
        refine g_cond_t kr kr ?_
        refine g_skip kr ?_
        show WP _ _ _ _ _ _
        refine g_seq kr ?_
        refine g_block 2 kr ?_
        obtain ⟨⟨m1, s1⟩, k1, r1, b1, off1, C1, T1, fz1, p1, n1, c1, hr1, hp1, hb1, hh1, hs1, hx1, hz1, hk1, hR1, hN1⟩ := FrR.open hR hN hi
        obtain ⟨g', p', n', c', hK1, hK2, hg'⟩ := hK.kid g i
        subst hr1
        rw [leftL_cons, ← hg'] at hlf
        have hkid : 0 ≤ left1 g' (kidM g b i).2 (m1, s1) k1 v ∧ 0 ≤ leftL r1 g b (i + 1) (left1 g' (kidM g b i).2 (m1, s1) k1 v) := by
          by_cases hv : left1 g' (kidM g b i).2 (m1, s1) k1 v < 0
          · rw [if_pos hv] at hlf; omega
          · rw [if_neg hv] at hlf; exact ⟨Int.not_lt.1 hv, hlf⟩
        refine g_sreg [0, 1, 2, 3, 4, 5] kr kr ?_
        refine rp [.v, .o (ins := [((.tmp 26), .slice p2 n2 c2), ((.tmp 28), .int .i64 ((i : Nat) : Int))]) (v := .pointer (some ⟨b1, off1 + i * 3, none⟩)) (fun ρ o w ho hi2 => idxR_run (kd := .i64) (t := 22) (e := 34) (K := 3) (bytes := 48) kr (x := (.tmp 26)) (y := (.tmp 28)) b1 off1 n2 c2 i hp1 ho hi2.1 hi2.2.1 (by omega) w), .fp (off := off1 + i * 3) (n := 3) (W := #[.int .u64 ((m1 : Nat) : Int), .string s1, .slice p1 n1 c1]) hh1 hb1 hs1 hx1] H13 kr fun gs9 w11 H14 => ?_
        show WPs _ _ _ _ [3, 4, 5] _ _
        have H15 : St w.heap.size w w11 (((gs1 0).b, kdO g p n c) :: (br, rwO C) :: ((gs1 1).b, fdO m s p2 n2 c2) :: ((gs1 2).b, itZ) :: T) := H14.as kr
        refine s_alloc H15 (some 7) 34 (.agg #[.int .u64 0, .string ⟨#[]⟩, .slice none 0 0]) kr kr kr ?_
        intro bq w12 H16
        refine rp [.v, .s 0] H16 kr fun gs10 w13 H17 => ?_
        show WPs _ _ _ _ [] _ _
        refine s_nil ?_
        have H18 : St w.heap.size w w13 ((bq, fdO m1 s1 p1 n1 c1) :: ((gs1 0).b, kdO g p n c) :: (br, rwO C) :: ((gs1 1).b, fdO m s p2 n2 c2) :: ((gs1 2).b, itZ) :: T) := H17.as kr
        clear H13 H14 H15 H16 H17
        have hc := hsub.1 g' p' n' c' (kidM g b i).2 m1 s1 p1 n1 c1 v hz1.1 hkid.1
        refine D2.g_draw0 [0, 1, 2, 3, 4, 5, 6, 7, 8] [(some 33, fun _ => .slice (some ⟨br, 0, none⟩) n2 n2), (some 34, fun _ => .int .i64 ((i : Nat) : Int)), (some 35, fun _ => knd g p n c), (some 36, fun _ => .int .i64 ((i : Nat) : Int)), (some 37, fun _ => knd g' p' n' c'), (some 38, fun _ => fld m1 s1 p1 n1 c1), (some 39, fun y => .agg y.cur), (some 40, fun _ => .pointer (some ⟨br, 0 + i * 3, none⟩)), (none, fun _ => undef)]
          (PreI w.heap.size w bq br C i (fun x T2 => x.l = lstM g' ∧ x.s = bytM g' (m1, s1) ∧ x.k = item1 g' (kidM g b i).2 k1 ∧ SlIn T2 x.p x.n x.k) (gs1 0).b (kdO g p n c) (fdO m1 s1 p1 n1 c1) (((gs1 1).b, fdO m s p2 n2 c2) :: ((gs1 2).b, itZ) :: T)) kr kr kr H18.drew ⟨?_, ?_, ?_, ?_, ?_, ?_, ?_, ?_, ?_, trivial⟩ ?_
        · exact D2.gv_val (fun _ _ _ h => h) (fun g w => by kernel_rfl)
        · exact D2.gv_val (fun _ _ _ h => h) (fun g w => by kernel_rfl)
        · refine D2.gv_ld (fun _ _ _ h => h) 37 (.tmp 2) (fun _ => (gs1 0).b) 0 #[.int .u8 ((g : Nat) : Int), .slice p n c] 37 (0, 0) (fun g => by kernel_rfl) (fun g => by kernel_rfl) (fun L g w hN hp => ?_) kr kr
          obtain ⟨T', h⟩ := hp.st (hN.post 8 kr)
          exact h.get 1 kr
        · exact D2.gv_val (fun _ _ _ h => h) (fun g w => by kernel_rfl)
        · refine D2.gv_cpW (fun _ _ _ h => h) 19 #[knd g p n c, .int .i64 ((i : Nat) : Int)] (kid_fn g p n c i g' p' n' c') (fun L g w hN hp => ?_) (fun L g w w' hN hp hb => hp.call hb) (fun g w => by kernel_rfl)
          obtain ⟨T', h⟩ := hp.st (hN.post 8 kr)
          exact hK1.up h.below h.below.size
        · refine D2.gv_ld (fun _ _ _ h => h) 34 (.tmp 7) (fun _ => bq) 0 #[.int .u64 ((m1 : Nat) : Int), .string s1, .slice p1 n1 c1] 34 (0, 0) (fun g => by kernel_rfl) (fun g => by kernel_rfl) (fun L g w hN hp => ?_) kr kr
          obtain ⟨T', h⟩ := hp.st (hN.post 8 kr)
          exact h.get 0 kr
        · refine D2.gv_ft 15 #[knd g' p' n' c', fld m1 s1 p1 n1 c1] hc (fun L g w hN hp => ?_) (fun L gg ww v' T2 w' hN hp hok hT => ?_) (fun g w => by kernel_rfl)
          · obtain ⟨T', h⟩ := hp.st (hN.post 8 kr)
            exact ⟨hK2.call h.below, hk1.call h.below⟩
          · obtain ⟨q1, q2, q3, rfl, hsl⟩ := hok
            refine ⟨{ cur := #[.bool (lstM g'), .string (bytM g' (m1, s1)), .slice q1 q2 q3] }, rfl, ?_⟩
            unfold PreI at hp ⊢
            rw [hN.post 8 kr, hN.1] at hp
            rw [show D2.put1 L 6 8 = false from hN.post 8 kr, show D2.put1 L 6 6 = true from rfl]
            exact ⟨⟨lstM g', bytM g' (m1, s1), q1, q2, q3, item1 g' (kidM g b i).2 k1⟩, T2, ⟨rfl, rfl, rfl, hsl⟩, rfl, (St.addAll hp hT).perm (List.perm_append_comm_assoc T2 [(bq, fdO m1 s1 p1 n1 c1), ((gs1 0).b, kdO g p n c), (br, rwO C)] (((gs1 1).b, fdO m s p2 n2 c2) :: ((gs1 2).b, itZ) :: T)).symm⟩
        · exact D2.gv_op (fun _ _ _ h => h) _ (fun g => by kernel_rfl) (fun g o w ho => idxR_run (kd := .i64) (t := 41) (e := 43) (K := 3) (bytes := 48) kr (x := (.tmp 33)) (y := (.tmp 34)) br 0 n2 n2 i rfl ho kr kr hi w)
        · refine D2.gives_of fun L1 gg ww hp hN => ?_
          have h6 := hN.bef 6 kr
          unfold PreI at hp
          rw [hN.1, h6] at hp
          obtain ⟨x, T2, hx, hcur, HS⟩ := hp
          obtain ⟨o, ho, hd, hw, hop⟩ := opk_some (show opk _ 8 _ = some (none, true, .store 43 (.tmp 40) (.tmp 39)) by kernel_rfl)
          refine ⟨o, ho, hd, .inr ⟨hw, ?_⟩⟩
          rw [store_at (t := 43) (off := 0 + i * 3) (b := br) (C := C) (T := 43) (v := .agg (xc x)) (C' := putI C i x) (HS.get 2 kr) kr kr (hFill.put x hi).1 rfl kr (by rw [← hcur]; kernel_rfl) o hop]
          refine ⟨default, rfl, ?_⟩
          unfold PreI
          rw [show D2.put1 L1 8 8 = true from rfl]
          exact ⟨x, T2, hx, HS.store 2 (C := C) kr⟩
        · intro L1 gg w14 hall hp
          unfold PreI at hp
          rw [hall 8 (Nat.le_of_ble_eq_true kr)] at hp
          obtain ⟨x, T2, ⟨hx1, hx2, hx3, hx4⟩, HS⟩ := hp
          have H19 : St w.heap.size w w14 (((gs1 0).b, kdO g p n c) :: (br, rwO (putI C i x)) :: ((gs1 1).b, fdO m s p2 n2 c2) :: ((gs1 2).b, itZ) :: (T2 ++ T)) := (HS.sub (List.sublist_cons_self ..)).perm (List.Perm.cons _ (List.Perm.cons _ (List.perm_append_comm_assoc T2 [((gs1 1).b, fdO m s p2 n2 c2), ((gs1 2).b, itZ)] T).symm))
          show WP _ _ _ _ _ _
          refine rL [.e (v := .int .i64 (IntKind.i64.wrap (((i : Nat) : Int) + 1))) (v' := .int .i64 ((i + 1 : Nat) : Int)) (int_eq (wrapAdd_i64 (a := i) (b := 1) (by omega))), .v] H19 kr fun gs11 w15 H20 => ?_
          show ∃ m, _ ∧ _
          refine ⟨_, (by omega), i + 1, r1, _, putI C i x, M ++ [x], T2 ++ T, rfl, hR1, hN1, hsub.2, hkid.2, ?_, (hFill.put x hi).2, ?_, H20.as kr, (Is.of ⟨kr, kr, kr, kr, kr, kr, kr, trivial⟩)⟩
          · rw [app_snoc, hx1, hx2, hx3, ← happ, itemF_cons, ← hg']
          · exact (hAll.mono fun e he => List.mem_append_right _ he).snoc (hx4.mono fun e he => List.mem_append_left _ he) (by rw [hx2]; exact bytM_size hz1.2)
      · obtain rfl := FrR.done hN hi
        obtain rfl : i = n2 := by simp only [Fr.len] at hN; omega
        refine rS [.e (v := .bool (decide (((i : Nat) : Int) < ((i : Nat) : Int)))) (v' := .bool false) (bool_eq (decide_eq_false (by omega)))] H12 kr fun gs8 w10 H13 => ?_
        refine g_seq kr ?_
        refine g_cond_f kr kr ?_
        refine g_exit 1 kr ?_
        show WP _ _ _ _ _ _
        have hM : toFo M = item1 g b l := by
          unfold item1; rw [if_pos hl, ← happ]; exact (Fo.app_nil _).symm
        have hrw := hFill.done (by unfold maxLen; omega)
        refine g_sreg [0, 1, 2] kr kr ?_
        refine rp [.v] H13 kr fun gs9 w11 H14 => ?_
        show WPs _ _ _ _ [1, 2] _ _
        have H15 : St w.heap.size w w11 (((gs1 0).b, kdO g p n c) :: (br, rwO C) :: ((gs1 1).b, fdO m s p2 i c2) :: ((gs1 2).b, itZ) :: T) := H14.as kr
        refine s_callL H15 (some 43) 26 #[.slice (some ⟨br, 0, none⟩) i i] (fun w => i = List.length M ∧ CellsAt w (some ⟨br, 0, none⟩) M) 43 (fun v => .agg #[.bool true, .string ⟨#[]⟩, v]) i M (list_fn _ _ _ M (by omega)) (hrw.cellsAt (T := 43) (fz := (0, 0)) (H15.get 1 kr)) kr kr ?_ ?_
        · intro w12 h0 H16
          subst h0
          refine rp [.s 3] H16 kr fun gs10 w13 H17 => ?_
          show WPs _ _ _ _ [] _ _
          refine s_nil ?_
          refine rRr [.cell 4 43] [3] (.agg #[.bool true, .string ⟨#[]⟩, .slice none 0 0]) (outT w.heap.size w (okItm g b (m, s) l)) H17 kr ?_
          refine ⟨[], ⟨none, 0, 0, ?_, ?_⟩, H17.sub (List.nil_sublist _)⟩
          · unfold bytM; rw [if_neg h110, if_pos hl, hl]
          · rw [← hM, List.eq_nil_of_length_eq_zero hFill.len]; exact SlIn.none _
        · intro bl cap cur w12 H16 hr
          refine rp [.s 4] H16 kr fun gs10 w13 H17 => ?_
          show WPs _ _ _ _ [] _ _
          refine s_nil ?_
          refine rRr [.cell 4 43] [4] (.agg #[.bool true, .string ⟨#[]⟩, .slice (some ⟨bl, 0, none⟩) i cap]) (outT w.heap.size w (okItm g b (m, s) l)) H17 kr ?_
          have H18 : St w.heap.size w w13 ((bl, rwO cur) :: ((gs1 0).b, kdO g p n c) :: (br, rwO C) :: ((gs1 1).b, fdO m s p2 i c2) :: ((gs1 2).b, itO (.slice (some ⟨bl, 0, none⟩) i cap)) :: T) := H17.as kr
          refine ⟨(bl, rwO cur) :: T, ⟨some ⟨bl, 0, none⟩, i, cap, ?_, ?_⟩, H18.sub (List.Sublist.cons_cons _ (List.Sublist.cons _ (List.Sublist.cons _ (List.Sublist.cons _ (List.sublist_cons_self ..)))))⟩
          · unfold bytM; rw [if_neg h110, if_pos hl, hl]
          · rw [← hM]; exact hr.slIn (ty := 43) (fz := (0, 0)) (List.mem_cons_self ..) (hAll.mono fun e he => List.mem_cons_of_mem _ he) (by omega)
theorem itemOf_fn (l : Fe) : ItemOfC l := (Fr.induct itemOf_step l).1
end Go.Proofs.YtkkbkpneodecnaaDoor

namespace Go.Proofs.YtkkbkpneodecnaaDoor
open Go Go.RowKit
set_option linter.unusedVariables false
def Fr.app {α : Type} : Fr α → Fr α → Fr α
  | .nil, R => R
  | .cons a k r, R => .cons a k (r.app R)
theorem appE_snoc {α : Type} (x : El α) (R : Fr α) : ∀ M : List (El α), (toFr (M ++ [x])).app R = (toFr M).app (.cons x.a x.k R)
  | [] => rfl
  | y :: r => by simp only [List.cons_append, toFr, Fr.app, appE_snoc x R r]
theorem Fr.app_nil {α : Type} : ∀ k : Fr α, k.app .nil = k
  | .nil => rfl
  | .cons a k r => by simp only [Fr.app, Fr.app_nil r]
def Fo.sub (p : Fo → Prop) : Fo → Prop
  | .nil => True
  | .cons l s k r => p k ∧ r.sub p
theorem Fo.induct {p : Fo → Prop} (h : ∀ l : Fo, l.sub p → p l) : ∀ l : Fo, p l ∧ l.sub p
  | .nil => ⟨h .nil trivial, trivial⟩
  | .cons l s k r => ⟨h _ ⟨(Fo.induct h k).1, (Fo.induct h r).2⟩, (Fo.induct h k).1, (Fo.induct h r).2⟩
theorem numV_lt (s : ByteArray) : (numV s).1 < 18446744073709551616 := by
  unfold numV
  split
  · decide
  · rename_i h
    exact val_lt8 (by rw [tl_len]; omega)
theorem numM_lt (g : Nat) (l : Bool) (s : ByteArray) (n : Nat) : numM g l s n < 18446744073709551616 := by
  unfold numM valS
  split
  · split
    · decide
    · exact numV_lt s
  · decide
theorem byfM_size {g : Nat} {s : ByteArray} (h : s.size ≤ 140737488355328) : (byfM g s).size ≤ 140737488355328 := by
  unfold byfM
  split
  · exact Nat.zero_le _
  · exact h
def okFld (g : Nat) (b : Kf) (l : Bool) (s : ByteArray) (k : Fo) (v : Value) (T : List (Nat × Obj)) : Prop :=
  ∃ (p : Option Addr) (n c : Nat), v = fld (numM g l s k.len) (byfM g s) p n c ∧ RIn fS T p n (field1 g b k)
abbrev itm (l : Bool) (s : ByteArray) (p : Option Addr) (n c : Nat) : Value := .agg #[.bool l, .string s, .slice p n c]
def FieldOfC (k : Fo) : Prop := ∀ (g : Nat) (p : Option Addr) (n c : Nat) (b : Kf) (l : Bool) (s : ByteArray) (p2 : Option Addr) (n2 c2 : Nat), s.size ≤ 140737488355328 → k.cnt ≤ 1000000 →
  FnT Tryd.prog 12 #[knd g p n c, itm l s p2 n2 c2] (fun w => SlR kS w.heap.size w p n b ∧ SlAt w.heap.size w p2 n2 k) (okFld g b l s k)
abbrev ixO (l : Bool) (s : ByteArray) (p : Option Addr) (n c : Nat) : Obj := .cells #[.bool l, .string s, .slice p n c] 43 (0, 0)
abbrev frO (C : Array Value) : Obj := .cells C 34 (0, 0)
abbrev fZ (v : Value) : Obj := .cells #[.int .u64 0, .string ⟨#[]⟩, v] 34 (0, 0)
abbrev ec (x : El (Nat × ByteArray)) : Array Value := #[.int .u64 ((x.a.1 : Nat) : Int), .string x.a.2, .slice x.p x.n x.c]
/-- Where a round of fieldOf stands. -/
def PreF (B : Nat) (w0 : World) (bq bf bk : Nat) (qO kO : Obj) (p : Option Addr) (i c : Nat) (row : List (Nat × Obj)) (M : List (El (Nat × ByteArray))) (ok : El (Nat × ByteArray) → List (Nat × Obj) → Prop) (T : List (Nat × Obj)) : (Nat → Bool) → (Nat → D2.Gh) → World → Prop := fun L g w =>
  bif L 8 then ∃ x T2, ok x T2 ∧ Rw 3 (g 8).cur (g 8).cap (i + 1) (cellsE fS (M ++ [x])) ∧ St B w0 w ((bq, qO) :: (bf, fZ (bif L 10 then .slice (some ⟨(g 8).b, 0, none⟩) (i + 1) (g 8).cap else .slice p i c)) :: (bk, kO) :: ((g 8).b, frO (g 8).cur) :: (T2 ++ T))
  else bif L 7 then ∃ x T2, ok x T2 ∧ St B w0 w (((g 7).b, frO (ec x)) :: (bq, qO) :: (bf, fZ (.slice p i c)) :: (bk, kO) :: (row ++ (T2 ++ T)))
  else bif L 6 then ∃ x T2, ok x T2 ∧ (g 6).cur = ec x ∧ St B w0 w ((bq, qO) :: (bf, fZ (.slice p i c)) :: (bk, kO) :: (row ++ (T2 ++ T)))
  else St B w0 w ((bq, qO) :: (bf, fZ (.slice p i c)) :: (bk, kO) :: (row ++ T))
section
variable {B : Nat} {w0 : World} {bq bf bk : Nat} {qO kO : Obj} {p : Option Addr} {i c : Nat} {row : List (Nat × Obj)} {M : List (El (Nat × ByteArray))} {ok : El (Nat × ByteArray) → List (Nat × Obj) → Prop} {T : List (Nat × Obj)} {L : Nat → Bool} {g : Nat → D2.Gh} {w w' : World}
theorem PreF.f (h8 : L 8 = false) (h : PreF B w0 bq bf bk qO kO p i c row M ok T L g w) : ∃ l, St B w0 w l ∧ (bf, fZ (.slice p i c)) ∈ l := by
  unfold PreF at h; rw [h8] at h
  cases h7 : L 7 with
  | true => rw [h7] at h; obtain ⟨x, T2, _, h⟩ := h; exact ⟨_, h, by simp⟩
  | false =>
    rw [h7] at h
    cases h6 : L 6 with
    | true => rw [h6] at h; obtain ⟨x, T2, _, _, h⟩ := h; exact ⟨_, h, by simp⟩
    | false => rw [h6] at h; exact ⟨_, h, by simp⟩
theorem PreF.st (h8 : L 8 = false) (h7 : L 7 = false) (h6 : L 6 = false) (h : PreF B w0 bq bf bk qO kO p i c row M ok T L g w) : St B w0 w ((bq, qO) :: (bf, fZ (.slice p i c)) :: (bk, kO) :: (row ++ T)) := by
  unfold PreF at h; rw [h8, h7, h6] at h; exact h
theorem PreF.call (hb : Below w.heap.size w w') (h : PreF B w0 bq bf bk qO kO p i c row M ok T L g w) : PreF B w0 bq bf bk qO kO p i c row M ok T L g w' := by
  unfold PreF at h ⊢
  cases h8 : L 8 with
  | true => rw [h8] at h; obtain ⟨x, T2, h1, h2, h⟩ := h; exact ⟨x, T2, h1, h2, h.call hb⟩
  | false =>
    rw [h8] at h
    cases h7 : L 7 with
    | true => rw [h7] at h; obtain ⟨x, T2, h1, h⟩ := h; exact ⟨x, T2, h1, h.call hb⟩
    | false =>
      rw [h7] at h
      cases h6 : L 6 with
      | true => rw [h6] at h; obtain ⟨x, T2, h1, h2, h⟩ := h; exact ⟨x, T2, h1, h2, h.call hb⟩
      | false => rw [h6] at h; exact St.call h hb
end
set_option maxRecDepth 100000 in
set_option maxHeartbeats 4000000 in
theorem fieldOf_step (k : Fo) (hs : k.sub FieldOfC) : FieldOfC k := by
  intro g p n c b l s p2 n2 c2 hsz hcnt
  refine FnT.intro (c := codeOf Tryd.f12) [.cell 4 34] 44 Tryd.func12 kr kr kr fun w hpre => ?_
  have H0 := St.start w
  obtain ⟨hK, hF⟩ := hpre
  have hn2 := hF.1
  have hn3 := hF.2.1
  have hlen := k.len_le
  refine rS [.b, .b, .a] H0 kr fun gs1 w1 H1 => ?_
  clear H0
  refine rS [.a] H1 kr fun gs2 w2 H2 => ?_
  clear H1
  refine g_seq kr ?_
  refine g_mono (Q := fun e ρ ww => e = .normal ∧ ∃ (p3 : Option Addr) (n3 c3 : Nat) (T : List (Nat × Obj)), RIn fS T p3 n3 (field1 g b k) ∧ St w.heap.size w ww (((gs2 0).b, fdO (numM g l s k.len) (byfM g s) p3 n3 c3) :: ((gs1 2).b, fZ (.slice none 0 0)) :: T) ∧ Is [(4, .pointer (some ⟨(gs1 2).b, 0, none⟩)), (5, .pointer (some ⟨(gs2 0).b, 0, none⟩))] ρ) ?_ ?_
  · refine rS [.v, .l 0] H2 kr fun gs3 w3 H3 => ?_
    clear H2
    refine g_block 0 kr ?_
    by_cases h110 : g = 110
    · refine rS [.e (v := .bool (((g : Nat) : Int) == 110)) (v' := .bool true) (bool_eq (beq_iff_eq.2 (by omega))), .v] H3 kr fun gs4 w4 H4 => ?_
      refine g_cond_t kr kr ?_
      have hv : numM g l s k.len = (valS l s n2).1 := by unfold numM; rw [if_pos h110, hn2]
      have hb : byfM g s = ⟨#[]⟩ := by unfold byfM; rw [if_pos (.inl h110)]
      have hk : field1 g b k = .nil := by unfold field1; rw [h110]; rfl
      rw [hv, hb, hk]
      refine rL [.l 1, .cp (pre := fun w => SlAt w.heap.size w p2 n2 k) (value_fn l s p2 n2 c2 k hsz) [] (fun w hb hd => hF.call hb), .v, .v, .v, .v, .s 3] H4 kr fun gs5 w5 H5 => ?_
      have H6 : St w.heap.size w w5 [((gs1 0).b, kdO g p n c), ((gs1 1).b, ixO l s p2 n2 c2), ((gs1 2).b, fZ (.slice none 0 0)), ((gs2 0).b, fdO (valS l s n2).1 ⟨#[]⟩ none 0 0)] := H5.as kr
      refine ⟨rfl, none, 0, 0, [], RIn.none _ _, ?_, (Is.of ⟨kr, kr, trivial⟩)⟩
      exact (H6.sub (List.Sublist.cons _ (List.Sublist.cons _ (List.Sublist.refl _)))).perm (List.Perm.swap _ _ _)
    · refine rS [.e (v := .bool (((g : Nat) : Int) == 110)) (v' := .bool false) (bool_eq (beq_eq_false_iff_ne.2 (by omega))), .v] H3 kr fun gs4 w4 H4 => ?_
      refine g_cond_f kr kr ?_
      have hv : numM g l s k.len = 0 := by unfold numM; rw [if_neg h110]
      rw [hv]
      clear H3
      refine g_seq kr ?_
      refine g_mono (Q := fun e ρ ww => e = .normal ∧ St w.heap.size w ww [((gs1 0).b, kdO g p n c), ((gs1 1).b, ixO l s p2 n2 c2), ((gs1 2).b, fZ (.slice none 0 0)), ((gs2 0).b, fZ (.slice none 0 0))] ∧ Is [(2, .pointer (some ⟨(gs1 0).b, 0, none⟩)), (3, .pointer (some ⟨(gs1 1).b, 0, none⟩)), (4, .pointer (some ⟨(gs1 2).b, 0, none⟩)), (5, .pointer (some ⟨(gs2 0).b, 0, none⟩)), (21, .bool (lstM g))] ρ) ?_ ?_
      · by_cases h40 : g = 40
        · refine rS [.e (v := .bool (((g : Nat) : Int) == 40)) (v' := .bool true) (bool_eq (beq_iff_eq.2 (by omega))), .v] H4 kr fun gs5 w5 H5 => ?_
          refine g_cond_t kr kr ?_
          refine g_skip kr ?_
          refine ⟨rfl, H5.as kr, ?_⟩
          subst h40
          exact Is.of ⟨kr, kr, kr, kr, kr, trivial⟩
        · refine rS [.e (v := .bool (((g : Nat) : Int) == 40)) (v' := .bool false) (bool_eq (beq_eq_false_iff_ne.2 (by omega))), .v] H4 kr fun gs5 w5 H5 => ?_
          refine g_cond_f kr kr ?_
          have hl : lstM g = decide (g = 42) := by unfold lstM; rw [decide_eq_false h40]; rfl
          rw [hl]
          by_cases h42 : g = 42
          · refine rL [.e (v := .bool (((g : Nat) : Int) == 42)) (v' := .bool true) (bool_eq (beq_iff_eq.2 (by omega))), .v] H5 kr fun gs6 w6 H6 => ?_
            refine ⟨rfl, H6.as kr, ?_⟩
            rw [decide_eq_true h42]
            exact Is.of ⟨kr, kr, kr, kr, kr, trivial⟩
          · refine rL [.e (v := .bool (((g : Nat) : Int) == 42)) (v' := .bool false) (bool_eq (beq_eq_false_iff_ne.2 (by omega))), .v] H5 kr fun gs6 w6 H6 => ?_
            refine ⟨rfl, H6.as kr, ?_⟩
            rw [decide_eq_false h42]
            exact Is.of ⟨kr, kr, kr, kr, kr, trivial⟩
      rintro _ _ w5 ⟨rfl, H5, _, rfl⟩
      show WP _ _ _ _ _ _
      clear H4
      cases hl : lstM g with
      | false =>
        refine g_cond_f kr kr ?_
        have hb : byfM g s = s := by unfold byfM; rw [if_neg (by rw [hl]; simp [h110])]
        have hk : field1 g b k = .nil := by unfold field1; rw [hl]; rfl
        rw [hb, hk]
        refine rL [.v, .l 1, .v, .s 3] H5 kr fun gs6 w6 H6 => ?_
        have H7 : St w.heap.size w w6 [((gs1 0).b, kdO g p n c), ((gs1 1).b, ixO l s p2 n2 c2), ((gs1 2).b, fZ (.slice none 0 0)), ((gs2 0).b, fdO 0 s none 0 0)] := H6.as kr
        refine ⟨rfl, none, 0, 0, [], RIn.none _ _, ?_, (Is.of ⟨kr, kr, trivial⟩)⟩
        exact (H7.sub (List.Sublist.cons _ (List.Sublist.cons _ (List.Sublist.refl _)))).perm (List.Perm.swap _ _ _)
      | true =>
        refine g_cond_t kr kr ?_
        have hb : byfM g s = ⟨#[]⟩ := by unfold byfM; rw [if_pos (.inr hl)]
        have hk : field1 g b k = fieldF k g b 0 := by unfold field1; rw [if_pos hl]
        rw [hb, hk]
        refine rS [.v, .l 1, .v, .v] H5 kr fun gs6 w6 H6 => ?_
        refine g_block 1 kr ?_
        have H7 : St w.heap.size w w6 [((gs1 0).b, kdO g p n c), ((gs1 1).b, ixO l s p2 n2 c2), ((gs1 2).b, fZ (.slice none 0 0)), ((gs2 0).b, fZ (.slice none 0 0))] := H6.as kr
        have H8 : St w.heap.size w w6 (((gs2 0).b, fZ (.slice none 0 0)) :: ((gs1 0).b, kdO g p n c) :: ([] ++ (((gs1 1).b, ixO l s p2 n2 c2) :: ((gs1 2).b, fZ (.slice none 0 0)) :: []))) := H7.perm (List.perm_append_comm (l₁ := [((gs2 0).b, fZ (.slice none 0 0))]) (l₂ := [((gs1 0).b, kdO g p n c), ((gs1 1).b, ixO l s p2 n2 c2), ((gs1 2).b, fZ (.slice none 0 0))]))
        clear H5 H6 H7
        refine g_loop kr (fun mz ρ ww => ∃ (i : Nat) (r : Fo) (p3 : Option Addr) (c3 : Nat) (row : List (Nat × Obj)) (M : List (El (Nat × ByteArray))) (T : List (Nat × Obj)), n2 - i = mz ∧ FoR w.heap.size w p2 i r ∧ i + r.len = n2 ∧ r.sub FieldOfC ∧ r.cnt ≤ k.cnt ∧ (toFr M).app (fieldF r g b i) = fieldF k g b 0 ∧ RowE fS 34 p3 i c3 row M ∧ AllE fS T M ∧ St w.heap.size w ww (((gs2 0).b, fZ (.slice p3 i c3)) :: ((gs1 0).b, kdO g p n c) :: (row ++ (((gs1 1).b, ixO l s p2 n2 c2) :: ((gs1 2).b, fZ (.slice none 0 0)) :: T))) ∧ Is [(2, .pointer (some ⟨(gs1 0).b, 0, none⟩)), (3, .pointer (some ⟨(gs1 1).b, 0, none⟩)), (4, .pointer (some ⟨(gs1 2).b, 0, none⟩)), (5, .pointer (some ⟨(gs2 0).b, 0, none⟩)), (25, .slice p2 n2 c2), (26, .int .i64 ((n2 : Nat) : Int)), (27, .int .i64 ((i : Nat) : Int))] ρ) (n2 - 0) ⟨0, k, none, 0, [], [], [], rfl, hF.start, by omega, hs, Nat.le_refl _, rfl, .inl ⟨rfl, rfl, rfl, rfl, rfl⟩, (fun _ h => nomatch h), H8, (Is.of ⟨kr, kr, kr, kr, kr, kr, kr, trivial⟩)⟩ ?_
        clear H8
        rintro _ _ w9 ⟨i, r, p3, c3, row, M, T, rfl, hR, hN, hsub, hcn, happ, hRow, hAll, H12, _, rfl⟩
        by_cases hi : i < n2
        · refine rS [.e (v := .bool (decide (((i : Nat) : Int) < ((n2 : Nat) : Int)))) (v' := .bool true) (bool_eq (decide_eq_true (by omega)))] H12 kr fun gs8 w10 H13 => ?_
          clear H12
          refine g_seq kr ?_
          refine g_cond_t kr kr ?_
          refine g_skip kr ?_
          show WP _ _ _ _ _ _
          refine g_seq kr ?_
          refine g_block 2 kr ?_
          obtain ⟨l1, s1, k1, r1, b1, off1, C1, T1, fz1, p1, n1, c1, hr1, hp1, hb1, hh1, hs1, hx1, hz1, hk1, hR1, hN1⟩ := FoR.open hR hN hi
          obtain ⟨g', p', n', c', hK1, hK2, hg'⟩ := hK.kid g i
          subst hr1
          simp only [Fo.cnt] at hcn
          refine g_sreg [0, 1, 2, 3, 4, 5] kr kr ?_
          refine rp [.v, .o (ins := [((.tmp 25), .slice p2 n2 c2), ((.tmp 27), .int .i64 ((i : Nat) : Int))]) (v := .pointer (some ⟨b1, off1 + i * 3, none⟩)) (fun ρ o w ho hi2 => idxR_run (kd := .i64) (t := 41) (e := 43) (K := 3) (bytes := 48) kr (x := (.tmp 25)) (y := (.tmp 27)) b1 off1 n2 c2 i hp1 ho hi2.1 hi2.2.1 (by omega) w), .fp (off := off1 + i * 3) (n := 3) (W := #[.bool l1, .string s1, .slice p1 n1 c1]) hh1 hb1 hs1 hx1] H13 kr fun gs9 w11 H14 => ?_
          show WPs _ _ _ _ [3, 4, 5] _ _
          have H15 : St w.heap.size w w11 (((gs2 0).b, fZ (.slice p3 i c3)) :: ((gs1 0).b, kdO g p n c) :: (row ++ (((gs1 1).b, ixO l s p2 n2 c2) :: ((gs1 2).b, fZ (.slice none 0 0)) :: T))) := H14.as kr
          refine s_alloc H15 (some 7) 43 (.agg #[.bool false, .string ⟨#[]⟩, .slice none 0 0]) kr kr kr ?_
          intro bq w12 H16
          refine rp [.v, .s 0] H16 kr fun gs10 w13 H17 => ?_
          show WPs _ _ _ _ [] _ _
          refine s_nil ?_
          have H18 : St w.heap.size w w13 ((bq, ixO l1 s1 p1 n1 c1) :: ((gs2 0).b, fZ (.slice p3 i c3)) :: ((gs1 0).b, kdO g p n c) :: (row ++ (((gs1 1).b, ixO l s p2 n2 c2) :: ((gs1 2).b, fZ (.slice none 0 0)) :: T))) := H17.as kr
          clear H13 H14 H15 H16 H17
          have hc := hsub.1 g' p' n' c' (kidM g b i).2 l1 s1 p1 n1 c1 hz1 (by omega)
          refine D2.g_draw0 [0, 1, 2, 3, 4, 5, 6, 7, 8, 9, 10] [(some 32, fun _ => .pointer (some ⟨(gs2 0).b, 2, none⟩)), (some 33, fun _ => .slice p3 i c3), (some 34, fun _ => knd g p n c), (some 35, fun _ => .int .i64 ((i : Nat) : Int)), (some 36, fun _ => knd g' p' n' c'), (some 37, fun _ => itm l1 s1 p1 n1 c1), (some 38, fun y => .agg y.cur), (some 39, fun y => .slice (some ⟨y.b, 0, none⟩) 1 1), (some 40, fun y => .slice (some ⟨y.b, 0, none⟩) (i + 1) y.cap), (some 41, fun _ => .pointer (some ⟨(gs2 0).b, 2, none⟩)), (none, fun _ => undef)]
            (PreF w.heap.size w bq (gs2 0).b (gs1 0).b (ixO l1 s1 p1 n1 c1) (kdO g p n c) p3 i c3 row M (fun x T2 => x.a = (numM g' l1 s1 k1.len, byfM g' s1) ∧ x.k = field1 g' (kidM g b i).2 k1 ∧ RIn fS T2 x.p x.n x.k) (((gs1 1).b, ixO l s p2 n2 c2) :: ((gs1 2).b, fZ (.slice none 0 0)) :: T)) kr kr kr H18.drew ⟨?_, ?_, ?_, ?_, ?_, ?_, ?_, ?_, ?_, ?_, ?_, trivial⟩ ?_
          · exact D2.gv_val (fun _ _ _ h => h) (fun g w => by kernel_rfl)
          · refine D2.gv_ld (fun _ _ _ h => h) 22 (.tmp 32) (fun _ => (gs2 0).b) 2 #[.int .u64 0, .string ⟨#[]⟩, .slice p3 i c3] 34 (0, 0) (fun g => by kernel_rfl) (fun g => by kernel_rfl) (fun L g w hN hp => ?_) kr kr
            obtain ⟨l', h, hm⟩ := hp.f (hN.post 8 kr)
            exact (h.own _ hm).2
          · refine D2.gv_ld (fun _ _ _ h => h) 37 (.tmp 2) (fun _ => (gs1 0).b) 0 #[.int .u8 ((g : Nat) : Int), .slice p n c] 37 (0, 0) (fun g => by kernel_rfl) (fun g => by kernel_rfl) (fun L g w hN hp => ?_) kr kr
            have h4 := hN.post 4 kr
            have h6 := hN.2.2.no 4 6 kr h4
            have h7 := hN.2.2.no 6 7 kr h6
            exact (hp.st (hN.2.2.no 7 8 kr h7) h7 h6).get 2 kr
          · exact D2.gv_val (fun _ _ _ h => h) (fun g w => by kernel_rfl)
          · refine D2.gv_cpW (fun _ _ _ h => h) 19 #[knd g p n c, .int .i64 ((i : Nat) : Int)] (kid_fn g p n c i g' p' n' c') (fun L g w hN hp => ?_) (fun L g w w' hN hp hb => hp.call hb) (fun g w => by kernel_rfl)
            have h6 := hN.post 6 kr
            have h7 := hN.2.2.no 6 7 kr h6
            have h := hp.st (hN.2.2.no 7 8 kr h7) h7 h6
            exact hK1.up h.below h.below.size
          · refine D2.gv_ld (fun _ _ _ h => h) 43 (.tmp 7) (fun _ => bq) 0 #[.bool l1, .string s1, .slice p1 n1 c1] 43 (0, 0) (fun g => by kernel_rfl) (fun g => by kernel_rfl) (fun L g w hN hp => ?_) kr kr
            have h6 := hN.post 6 kr
            have h7 := hN.2.2.no 6 7 kr h6
            exact (hp.st (hN.2.2.no 7 8 kr h7) h7 h6).get 0 kr
          · refine D2.gv_ft 12 #[knd g' p' n' c', itm l1 s1 p1 n1 c1] hc (fun L g w hN hp => ?_) (fun L gg ww v' T2 w' hN hp hok hT => ?_) (fun g w => by kernel_rfl)
            · have h7 := hN.post 7 kr
              have h := hp.st (hN.2.2.no 7 8 kr h7) h7 hN.1
              exact ⟨hK2.call h.below, hk1.call h.below⟩
            · obtain ⟨q1, q2, q3, rfl, hsl⟩ := hok
              have h7 := hN.post 7 kr
              have h8 := hN.2.2.no 7 8 kr h7
              refine ⟨{ cur := #[.int .u64 ((numM g' l1 s1 k1.len : Nat) : Int), .string (byfM g' s1), .slice q1 q2 q3] }, rfl, ?_⟩
              have hp := hp.st h8 h7 hN.1
              unfold PreF
              rw [show D2.put1 L 6 8 = false from h8, show D2.put1 L 6 7 = false from h7, show D2.put1 L 6 6 = true from rfl]
              exact ⟨⟨(numM g' l1 s1 k1.len, byfM g' s1), q1, q2, q3, field1 g' (kidM g b i).2 k1⟩, T2, ⟨rfl, rfl, hsl⟩, rfl, (St.addAll hp hT).perm ((List.Perm.cons _ (List.Perm.cons _ (List.Perm.cons _ (List.perm_append_comm_assoc row T2 _)))).trans (List.perm_append_comm_assoc T2 [(bq, ixO l1 s1 p1 n1 c1), ((gs2 0).b, fZ (.slice p3 i c3)), ((gs1 0).b, kdO g p n c)] (row ++ _)).symm)⟩
          · refine D2.gives_of fun L1 gg ww hp hN => ?_
            have h6 := hN.bef 6 kr
            have h8 := hN.post 8 kr
            unfold PreF at hp
            rw [h8, hN.1, h6] at hp
            obtain ⟨x, T2, hx, hcur, HS⟩ := hp
            obtain ⟨o, ho, hd, hw, hrun⟩ := opv_some (show opv _ _ 7 (setAll [(32, .pointer (some ⟨(gs2 0).b, 2, none⟩)), (33, .slice p3 i c3), (34, knd g p n c), (35, .int .i64 ((i : Nat) : Int)), (36, knd g' p' n' c'), (37, itm l1 s1 p1 n1 c1), (38, .agg (gg 6).cur)] _) ww = some (some 39, true, .ok (.value (.slice (some ⟨ww.heap.size, 0, none⟩) 1 1)) (ww.alloc (.cells (ec x) 34))) by rw [hcur]; kernel_rfl)
            refine ⟨o, ho, hd, .inr ⟨hw, ?_⟩⟩
            refine (congrArg (D2.Runs _ _) hrun).mpr ?_
            refine ⟨{ b := ww.heap.size }, rfl, ?_⟩
            unfold PreF
            rw [show D2.put1 L1 7 8 = false from h8, show D2.put1 L1 7 7 = true from rfl]
            exact ⟨x, T2, hx, HS.alloc _⟩
          · refine D2.gives_of fun L1 gg ww hp hN => ?_
            have h7 := hN.bef 7 kr
            have h10 := hN.post 10 kr
            unfold PreF at hp
            rw [hN.1, h7] at hp
            obtain ⟨x, T2, hx, HS⟩ := hp
            obtain ⟨o, ho, hd, hw, hop⟩ := opk_some (show opk _ 8 _ = some (some 40, true, appendOp 22 (.tmp 33) (.tmp 39)) by kernel_rfl)
            refine ⟨o, ho, hd, .inr ⟨hw, ?_⟩⟩
            rcases hRow with ⟨rfl, rfl, rfl, rfl, rfl⟩ | ⟨br, cur, rfl, rfl, hrw⟩
            · obtain ⟨b', cap', cur', w', hrun, HS', hr'⟩ := grow_nil (K := 3) HS (t := 22) (e := 34) (bytes := 48) (k := 0) (bx := (gg 7).b) (c := 1) (Y := ec x) kr hop kr kr rfl rfl (one_list rfl) (by omega)
              rw [hrun]
              refine ⟨{ b := b', cap := cap', cur := cur' }, rfl, ?_⟩
              unfold PreF
              rw [show D2.put1 L1 8 8 = true from rfl, show D2.put1 L1 8 10 = false from h10]
              refine ⟨x, T2, hx, hr', ?_⟩
              exact (HS'.sub (List.Sublist.cons_cons _ (List.sublist_cons_self ..))).perm (List.perm_middle (l₁ := [(bq, ixO l1 s1 p1 n1 c1), ((gs2 0).b, fZ (.slice none 0 0)), ((gs1 0).b, kdO g p n c)]))
            · obtain ⟨b', cap', cur', w', hrun, HS', hr'⟩ := grow_own (K := 3) HS (t := 22) (e := 34) (bytes := 48) (j := 4) (k := 0) (bx := (gg 7).b) (c := 1) (Y := ec x) kr hop kr rfl hrw kr rfl rfl (one_list rfl) (by omega) (by unfold maxLen; omega)
              rw [hrun]
              refine ⟨{ b := b', cap := cap', cur := cur' }, rfl, ?_⟩
              unfold PreF
              rw [show D2.put1 L1 8 8 = true from rfl, show D2.put1 L1 8 10 = false from h10]
              refine ⟨x, T2, hx, ?_, HS'.sub (List.sublist_cons_self ..)⟩
              rw [cellsE_snoc]; exact hr'
          · exact D2.gv_val (fun _ _ _ h => h) (fun g w => by kernel_rfl)
          · refine D2.gives_of fun L1 gg ww hp hN => ?_
            have h8 := hN.bef 8 kr
            unfold PreF at hp
            rw [h8, hN.1] at hp
            obtain ⟨x, T2, hx, hr', HS⟩ := hp
            obtain ⟨o, ho, hd, hw, hop⟩ := opk_some (show opk _ 10 _ = some (none, true, .store 22 (.tmp 41) (.tmp 40)) by kernel_rfl)
            refine ⟨o, ho, hd, .inr ⟨hw, ?_⟩⟩
            rw [store_at (t := 22) (off := 2) (b := (gs2 0).b) (C := #[.int .u64 0, .string ⟨#[]⟩, .slice p3 i c3]) (T := 34) (v := .slice (some ⟨(gg 8).b, 0, none⟩) (i + 1) (gg 8).cap) (C' := #[.int .u64 0, .string ⟨#[]⟩, .slice (some ⟨(gg 8).b, 0, none⟩) (i + 1) (gg 8).cap]) (HS.get 1 kr) kr kr (of_decide_eq_true kr) kr kr kr o hop]
            refine ⟨default, rfl, ?_⟩
            unfold PreF
            rw [show D2.put1 L1 10 8 = true from h8, show D2.put1 L1 10 10 = true from rfl]
            exact ⟨x, T2, hx, hr', HS.store 1 (C := #[.int .u64 0, .string ⟨#[]⟩, .slice p3 i c3]) kr⟩
          · intro L1 gg w14 hall hp
            unfold PreF at hp
            rw [hall 8 (Nat.le_of_ble_eq_true kr), hall 10 (Nat.le_of_ble_eq_true kr)] at hp
            obtain ⟨x, T2, ⟨hx1, hx2, hx3⟩, hr', HS⟩ := hp
            have H19 : St w.heap.size w w14 (((gs2 0).b, fZ (.slice (some ⟨(gg 8).b, 0, none⟩) (i + 1) (gg 8).cap)) :: ((gs1 0).b, kdO g p n c) :: ([((gg 8).b, frO (gg 8).cur)] ++ (((gs1 1).b, ixO l s p2 n2 c2) :: ((gs1 2).b, fZ (.slice none 0 0)) :: (T2 ++ T)))) := (HS.sub (List.sublist_cons_self ..)).perm (List.Perm.cons _ (List.Perm.cons _ (List.Perm.cons _ (List.perm_append_comm_assoc T2 [((gs1 1).b, ixO l s p2 n2 c2), ((gs1 2).b, fZ (.slice none 0 0))] T).symm)))
            show WP _ _ _ _ _ _
            refine rL [.e (v := .int .i64 (IntKind.i64.wrap (((i : Nat) : Int) + 1))) (v' := .int .i64 ((i + 1 : Nat) : Int)) (int_eq (wrapAdd_i64 (a := i) (b := 1) (by omega))), .v] H19 kr fun gs11 w15 H20 => ?_
            show ∃ m, _ ∧ _
            refine ⟨_, (by omega), i + 1, r1, _, _, [((gg 8).b, frO (gg 8).cur)], M ++ [x], T2 ++ T, rfl, hR1, hN1, hsub.2, (by omega), ?_, .inr ⟨_, _, rfl, rfl, hr'⟩, ?_, H20.as kr, (Is.of ⟨kr, kr, kr, kr, kr, kr, kr, trivial⟩)⟩
            · rw [appE_snoc, hx1, hx2, ← happ, fieldF_cons, ← hg']
            · exact (hAll.mono fun e he => List.mem_append_right _ he).snoc (hx3.mono fun e he => List.mem_append_left _ he) (by rw [hx1]; exact ⟨numM_lt .., byfM_size hz1⟩)
        · obtain rfl := FoR.done hN hi
          obtain rfl : i = n2 := by simp only [Fo.len] at hN; omega
          refine rS [.e (v := .bool (decide (((i : Nat) : Int) < ((i : Nat) : Int)))) (v' := .bool false) (bool_eq (decide_eq_false (by omega)))] H12 kr fun gs8 w10 H13 => ?_
          refine g_seq kr ?_
          refine g_cond_f kr kr ?_
          refine g_exit 1 kr ?_
          have hM : toFr M = fieldF k g b 0 := by
            rw [← happ]; exact (Fr.app_nil _).symm
          have H14 : St w.heap.size w w10 (((gs2 0).b, fZ (.slice p3 i c3)) :: ((gs1 0).b, kdO g p n c) :: (row ++ (((gs1 1).b, ixO l s p2 i c2) :: ((gs1 2).b, fZ (.slice none 0 0)) :: T))) := H13.as kr
          refine ⟨rfl, p3, i, c3, row ++ T, ?_, ?_, (Is.of ⟨kr, kr, trivial⟩)⟩
          · rw [← hM]; exact hRow.rIn (by decide) hAll hn3
          · refine (H14.sub (l' := ((gs2 0).b, fZ (.slice p3 i c3)) :: (row ++ (((gs1 2).b, fZ (.slice none 0 0)) :: T))) (List.Sublist.cons_cons _ (List.Sublist.cons _ (List.Sublist.append (List.Sublist.refl _) (List.sublist_cons_self ..))))).perm ?_
            exact List.Perm.cons _ (List.perm_middle).symm
  rintro _ _ w5 ⟨rfl, p3, n3, c3, T, hT, H5, _, rfl⟩
  show WP _ _ _ _ _ _
  refine rS [.l 0, .s 1] H5 kr fun gs6 w6 H6 => ?_
  refine rRr [.cell 4 34] [1] (fld (numM g l s k.len) (byfM g s) p3 n3 c3) (outT w.heap.size w (okFld g b l s k)) H6 kr ?_
  have H7 : St w.heap.size w w6 (((gs2 0).b, fdO (numM g l s k.len) (byfM g s) p3 n3 c3) :: ((gs1 2).b, fdO (numM g l s k.len) (byfM g s) p3 n3 c3) :: T) := H6.as kr
  exact ⟨T, ⟨p3, n3, c3, rfl, hT⟩, H7.sub (List.Sublist.cons _ (List.sublist_cons_self ..))⟩
theorem fieldOf_fn (k : Fo) : FieldOfC k := (Fo.induct fieldOf_step k).1
end Go.Proofs.YtkkbkpneodecnaaDoor

namespace Go.Proofs.YtkkbkpneodecnaaDoor
open Go Go.RowKit
set_option linter.unusedVariables false
section
variable {P : Program} {N : Nat} {Q : Exit → Env → World → Prop} {ρ : Env} {w : World} {c : Code}
def isScope : Code → Bool | .scope _ => true | _ => false
def labelId : Code → Option Nat | .label i => some i | _ => none
theorem isScope_eq (h : isScope c = true) : c = .scope (inner c) := by cases c <;> first | rfl | cases h
theorem labelId_eq {i : Nat} (h : labelId c = some i) : c = .label i := by
  cases c <;> first | (cases h; done) | (cases h; rfl)
def ng (Q : Exit → Env → World → Prop) : Exit → Env → World → Prop
  | .goto _, _, _ => False
  | e, ρ, w => Q e ρ w
theorem g_scope (hc : isScope c = true) (h : WP P N (inner c) (ng Q) ρ w) : WP P N c Q ρ w := by
  rw [isScope_eq hc]
  intro a ha
  refine wp_scope_straight (Go.wp_mono (h a ha) ?_)
  rintro e a' w' ⟨r, hr, q⟩
  cases e <;> first | exact ⟨r, hr, q⟩ | exact q.elim
theorem g_label (i : Nat) (hc : labelId c = some i) (h : Q .normal ρ w) : WP P N c Q ρ w := by rw [labelId_eq hc]; exact WP.label h
end
section
variable {P : Program} {N : Nat} {ops : Array Oper} {i : Nat} {r : List Nat} {K : Env → World → Prop} {ρ : Env} {w : World} {B : Nat} {w0 : World} {l : List (Nat × Obj)}
theorem s_grow {K' : Nat} (HS : St B w0 w l) (d : Option Nat) (t e bytes : Nat) (s x : Operand) (j k b bx n cap c : Nat) (cur Y : Array Value) (xs : List Value) (h : opk ops i ρ = some (d, true, appendOp t s x)) (hd : dOK d N = true) (ht : sliceOf P t = some (e, K', bytes))
    (hs : ev ρ s = .slice (some ⟨b, 0, none⟩) n cap) (hj : l[j]? = some (b, .cells cur e (0, 0))) (hr : Rw K' cur cap n xs) (hx : ev ρ x = .slice (some ⟨bx, 0, none⟩) 1 c) (hk : l[k]? = some (bx, .cells Y e (0, 0)))
    (hY : Y.size = K') (hone : ∀ u ∈ Y.toList, u.oneCell' = true) (hb : (n + 1) * bytes ≤ 140737488355328) (hm : n + 1 ≤ maxLen)
    (kk : ∀ b' cap' cur' w', St B w0 w' (l.set j (b', .cells cur' e (0, 0))) → Rw K' cur' cap' (n + 1) (xs ++ Y.toList) → WPs P N ops K r (updO ρ d (.slice (some ⟨b', 0, none⟩) (n + 1) cap')) w') : WPs P N ops K (i :: r) ρ w := by
  obtain ⟨o, ho, rfl, hw, hop⟩ := opk_some h
  obtain ⟨b', cap', cur', w', hrun, HS', hr'⟩ := grow_own HS ht hop hs hj hr hx hk hY hone hb hm
  refine WPo.run ho hw fun a ha => ?_
  rw [hrun, Oper.upon_value]
  exact ⟨_, ha.put _ (dOK_lt hd) _, kk b' cap' cur' w' HS' hr'⟩
end
def putA (cur : Array Value) (off : Nat) (v : Value) : Array Value := (cur.toList.take off ++ v.cells.toList ++ cur.toList.drop (off + v.cells.size)).toArray
/-- Cells are put into a row. -/
theorem Rw.putA {K : Nat} {cur : Array Value} {cap n : Nat} {xs : List Value} (h : Rw K cur cap n xs) (off : Nat) (v : Value) (hle : off + v.cells.size ≤ n * K) :
    off + v.cells.size ≤ cur.size ∧ Rw K (putA cur off v) cap n (xs.take off ++ v.cells.toList ++ xs.drop (off + v.cells.size)) := by
  have hcap : n * K ≤ cap * K := Nat.mul_le_mul_right _ h.le
  have hsz := h.sz
  have hA : cur.toList.length = cap * K := by rw [Array.length_toList, hsz]
  have hx : xs = cur.toList.take (n * K) := h.take.symm
  have hv : v.cells.toList.length = v.cells.size := Array.length_toList
  have e1 : (cur.toList.take off).length = off := by rw [List.length_take]; omega
  refine ⟨by omega, ?_, h.le, h.max, ?_, ?_⟩
  · rw [List.length_append, List.length_append, List.length_take, List.length_drop, h.len, hv]; omega
  · unfold Go.Proofs.YtkkbkpneodecnaaDoor.putA
    rw [List.toList_toArray, List.take_append, List.length_append, e1, hv, List.take_of_length_le (l := cur.toList.take off ++ v.cells.toList) (by rw [List.length_append, e1, hv]; exact hle), hx, List.take_take, Nat.min_eq_left (by omega), List.drop_take]
  · unfold Go.Proofs.YtkkbkpneodecnaaDoor.putA
    rw [List.size_toArray, List.length_append, List.length_append, e1, List.length_drop, hv, hA]; omega
theorem put_last {X Z V : List Value} {off : Nat} (hX : X.length = off) (hZ : Z.length = V.length) : (X ++ Z).take off ++ V ++ (X ++ Z).drop (off + V.length) = X ++ V := by
  rw [List.take_append, hX, Nat.sub_self, List.take_zero, List.append_nil, List.take_of_length_le (by omega), List.drop_append, hX, List.drop_of_length_le (by omega), List.nil_append, List.drop_of_length_le (by omega), List.append_nil]
end Go.Proofs.YtkkbkpneodecnaaDoor

namespace Go.Proofs.YtkkbkpneodecnaaDoor
open Go Go.RowKit
set_option linter.unusedVariables false
abbrev kR (C : Array Value) : Obj := .cells C 37 (0, 0)
/-- An open kind: its sign, its slice of kinds, where that lies, and what it holds. -/
structure Sk where
  g : Nat
  p : Option Addr
  n : Nat
  c : Nat
  row : List (Nat × Obj)
  M : List (El Nat)
def Sk.el (e : Sk) : El Nat := ⟨e.g, e.p, e.n, e.c, toFr e.M⟩
def opE : List Sk → List (El Nat)
  | [] => []
  | e :: r => opE r ++ [e.el]
def rowsS : List Sk → List (Nat × Obj)
  | [] => []
  | e :: r => e.row ++ rowsS r
def stM (S : List Sk) : List (Nat × Kf) := S.map fun e => (e.g, toFr e.M)
def Bot : List Sk → Prop
  | [] => False
  | e :: r => (r = [] ∧ e.g = 40) ∨ Bot r
structure SkOK (T : List (Nat × Obj)) (m : Nat) (e : Sk) : Prop where
  row : RowE kS 37 e.p e.n e.c e.row e.M
  all : AllE kS T e.M
  le : e.n ≤ m
theorem SkOK.mono {T T' : List (Nat × Obj)} {m m' : Nat} {e : Sk} (h : SkOK T m e) (hT : ∀ x ∈ T, x ∈ T') (hm : m ≤ m') : SkOK T' m' e := ⟨h.row, h.all.mono hT, Nat.le_trans h.le hm⟩
theorem opE_len : ∀ S : List Sk, (opE S).length = S.length
  | [] => rfl
  | e :: r => by simp only [opE, List.length_append, opE_len r, List.length_cons, List.length_nil]
theorem cells_op (e : Sk) (r : List Sk) : cellsE kS (opE (e :: r)) = cellsE kS (opE r) ++ [.int .u8 ((e.g : Nat) : Int), .slice e.p e.n e.c] := by
  show cellsE kS (opE r ++ [e.el]) = _
  rw [cellsE_snoc]; rfl
theorem cells_op_len (r : List Sk) : (cellsE kS (opE r)).length = r.length * 2 := by rw [cellsE_len, opE_len]; rfl
theorem Rw.pop {K : Nat} {cur : Array Value} {cap n : Nat} {X Z : List Value} (h : Rw K cur cap (n + 1) (X ++ Z)) (hX : X.length = n * K) : Rw K cur cap n X := by
  have ht := h.take
  refine ⟨hX, by have := h.le; omega, h.max, ?_, h.sz⟩
  have e : (cur.toList.take ((n + 1) * K)).take (n * K) = X := by rw [ht, List.take_append, hX, Nat.sub_self, List.take_zero, List.append_nil, List.take_of_length_le (by omega)]
  rw [List.take_take, Nat.min_eq_left (by rw [Nat.succ_mul]; omega)] at e
  exact e
/-- The kind on top, where it lies. -/
theorem Rw.top {cur : Array Value} {cap : Nat} {e : Sk} {r : List Sk} (h : Rw 2 cur cap (r.length + 1) (cellsE kS (opE (e :: r)))) :
    0 + r.length * 2 + 2 ≤ cur.size ∧ cur.extract (0 + r.length * 2) (0 + r.length * 2 + 2) = #[.int .u8 ((e.g : Nat) : Int), .slice e.p e.n e.c] ∧ cur[0 + r.length * 2]? = some (.int .u8 ((e.g : Nat) : Int)) ∧ cur[0 + r.length * 2 + 1]? = some (.slice e.p e.n e.c) := by
  rw [cells_op] at h
  have hl := cells_op_len r
  rw [Nat.zero_add]
  have h0 : cur[r.length * 2]? = some (.int .u8 ((e.g : Nat) : Int)) := by
    rw [h.get _ (by omega), List.getElem?_append_right (by omega), hl, Nat.sub_self]; rfl
  have h1 : cur[r.length * 2 + 1]? = some (.slice e.p e.n e.c) := by
    rw [h.get _ (by omega), List.getElem?_append_right (by omega), hl, Nat.add_sub_cancel_left]; rfl
  have h2 := exE (C := cur) (o := r.length * 2) (x := [.int .u8 ((e.g : Nat) : Int), .slice e.p e.n e.c]) (K := 2) rfl (fun j hj => by
    rcases j with _ | _ | j
    · exact h0
    · exact h1
    · omega) (by decide)
  exact ⟨h2.1, h2.2, h0, h1⟩
def zK : Array Value := #[.int .u8 0, .slice none 0 0]
/-- Where a round stands that puts a kind into the one on top. -/
def PreP (B : Nat) (w0 : World) (bd b2 bo : Nat) (dO bO : Obj) (kv : Value) (cur : Array Value) (N : Nat) (en : Nat) (row : List (Nat × Obj)) (xs : List Value) (T : List (Nat × Obj)) : (Nat → Bool) → (Nat → D2.Gh) → World → Prop := fun L g w =>
  bif L 8 then (L 9 = true → (g 9).b = (g 8).b) ∧ Rw 2 (g 8).cur (g 8).cap (en + 1) (xs ++ zK.toList) ∧ St B w0 w ((bd, dO) :: (b2, bO) :: (bo, kR (bif L 13 then putA cur (0 + N * 2 + 1) (.slice (some ⟨(g 8).b, 0, none⟩) (en + 1) (g 8).cap) else cur)) :: ((g 8).b, kR (bif L 10 then putA (g 8).cur (0 + en * 2) kv else (g 8).cur)) :: T)
  else bif L 7 then St B w0 w (((g 7).b, kR zK) :: (bd, dO) :: (b2, bO) :: (bo, kR cur) :: (row ++ T))
  else St B w0 w ((bd, dO) :: (b2, bO) :: (bo, kR cur) :: (row ++ T))
section
variable {B : Nat} {w0 : World} {bd b2 bo : Nat} {dO bO : Obj} {kv : Value} {cur : Array Value} {N en : Nat} {row : List (Nat × Obj)} {xs : List Value} {T : List (Nat × Obj)} {L : Nat → Bool} {g : Nat → D2.Gh} {w : World}
theorem PreP.st (h8 : L 8 = false) (h : PreP B w0 bd b2 bo dO bO kv cur N en row xs T L g w) : ∃ l, St B w0 w l ∧ (bd, dO) ∈ l ∧ (bo, kR cur) ∈ l := by
  unfold PreP at h; rw [h8] at h
  cases h7 : L 7 with
  | true => rw [h7] at h; exact ⟨_, h, by simp, by simp⟩
  | false => rw [h7] at h; exact ⟨_, h, by simp, by simp⟩
end
noncomputable abbrev pBlk0 : Code := seqR (seqL (seqR (seqR (seqR (inner (seqR (codeOf Tryd.f9)))))))
noncomputable abbrev pBody : Code := inner (seqL (seqR (seqR (inner (inner pBlk0)))))
/-- Before a kind that ends is put into the one on top. -/
def InSt (B : Nat) (w0 : World) (form : ByteArray) (b2 bd i : Nat) (target : List (Nat × Kf)) (mz : Nat) (ρ : Env) (ww : World) : Prop :=
  ∃ (S : List Sk) (N g : Nat) (p : Option Addr) (n c : Nat) (k : Kf) (T : List (Nat × Obj)) (bo cap : Nat) (cur : Array Value), S.length = mz ∧ N = S.length ∧ Bot S ∧ N ≤ 5 ∧ (∀ e ∈ S, SkOK T i e) ∧ RIn kS T p n k ∧ pushM g k (stM S) = target ∧ Rw 2 cur cap N (cellsE kS (opE S)) ∧
    St B w0 ww ((bd, kdO g p n c) :: (b2, kdO 0 none 0 0) :: (bo, kR cur) :: (rowsS S ++ T)) ∧
    Is [(0, .string form), (2, .pointer (some ⟨b2, 0, none⟩)), (3, .bool false), (4, .slice (some ⟨bo, 0, none⟩) N cap), (6, .pointer (some ⟨bd, 0, none⟩)), (16, .int .i64 ((form.size : Nat) : Int)), (17, .int .i64 ((i : Nat) : Int))] ρ
/-- Between two signs. -/
def OutSt (B : Nat) (w0 : World) (form : ByteArray) (b2 i : Nat) (target : List (Nat × Kf)) (ρ : Env) (ww : World) : Prop :=
  ∃ (S : List Sk) (N : Nat) (T : List (Nat × Obj)) (bo cap : Nat) (cur : Array Value), N = S.length ∧ Bot S ∧ N ≤ 5 ∧ (∀ e ∈ S, SkOK T i e) ∧ stM S = target ∧ Rw 2 cur cap N (cellsE kS (opE S)) ∧
    St B w0 ww ((b2, kdO 0 none 0 0) :: (bo, kR cur) :: (rowsS S ++ T)) ∧
    Is [(0, .string form), (2, .pointer (some ⟨b2, 0, none⟩)), (3, .bool false), (4, .slice (some ⟨bo, 0, none⟩) N cap), (16, .int .i64 ((form.size : Nat) : Int)), (17, .int .i64 ((i : Nat) : Int))] ρ
set_option maxRecDepth 100000 in
set_option maxHeartbeats 4000000 in
theorem parse_in {Q : Exit → Env → World → Prop} {B : Nat} {w0 : World} (form : ByteArray) (b2 bd i : Nat) (target : List (Nat × Kf)) (hi : i ≤ 40) (m0 : Nat) (ρ0 : Env) (ww0 : World) (h0 : InSt B w0 form b2 bd i target m0 ρ0 ww0)
    (hQ : ∀ (S : List Sk) (N : Nat) (T : List (Nat × Obj)) (bo cap : Nat) (cur : Array Value) (ρ : Env) (ww : World), N = S.length → Bot S → N ≤ 5 → (∀ e ∈ S, SkOK T (i + 1) e) → stM S = target → Rw 2 cur cap N (cellsE kS (opE S)) →
      St B w0 ww ((b2, kdO 0 none 0 0) :: (bo, kR cur) :: (rowsS S ++ T)) → Is [(0, .string form), (2, .pointer (some ⟨b2, 0, none⟩)), (3, .bool false), (4, .slice (some ⟨bo, 0, none⟩) N cap), (16, .int .i64 ((form.size : Nat) : Int)), (17, .int .i64 ((i : Nat) : Int))] ρ → Q (.exit 1) ρ ww) :
    WP Tryd.prog 101 (seqR (seqR (seqR pBody))) Q ρ0 ww0 := by
  refine g_block 3 kr ?_
  refine g_loop kr (InSt B w0 form b2 bd i target) m0 h0 ?_
  clear h0
  rintro _ _ w1 ⟨S, N, g, p, n, c, k, T, bo, cap, cur, rfl, rfl, hBot, hN5, hS, hRI, hpush, hRw, H1, _, rfl⟩
  rcases S with _ | ⟨e, r⟩
  · exact hBot.elim
  have he := hS e (List.mem_cons_self ..)
  refine g_block 4 kr ?_
  have hN5' : r.length + 1 ≤ 5 := hN5
  refine rS [.v, .v, .e (v := .int .i64 (IntKind.i64.wrap (((r.length + 1 : Nat) : Int) - 1))) (v' := .int .i64 ((r.length : Nat) : Int)) (int_eq (by rw [show (((r.length + 1 : Nat) : Int) - 1) = ((r.length : Nat) : Int) by omega]; exact wrapN_i64 (by omega))), .v] H1 kr fun gs2 w2 H2 => ?_
  clear H1
  refine g_seq kr ?_
  have H3 : St B w0 w2 ((bd, kdO g p n c) :: (b2, kdO 0 none 0 0) :: (bo, kR cur) :: (e.row ++ (rowsS r ++ T))) := by
    rw [← List.append_assoc]; exact H2
  have htop := hRw.top
  refine D2.g_draw0 [0, 1, 2, 3, 4, 5, 6, 7, 8, 9, 10, 11, 12, 13] [(some 69, fun _ => .slice (some ⟨bo, 0, none⟩) (r.length + 1) cap), (some 70, fun _ => .int .i64 ((r.length : Nat) : Int)), (some 71, fun _ => .pointer (some ⟨bo, 0 + r.length * 2, none⟩)), (some 72, fun _ => .pointer (some ⟨bo, 0 + r.length * 2 + 1, none⟩)), (some 73, fun _ => .slice e.p e.n e.c), (some 74, fun _ => knd g p n c), (some 75, fun _ => .int .i64 ((e.n : Nat) : Int)), (some 76, fun y => .slice (some ⟨y.b, 0, none⟩) 1 1), (some 77, fun y => .slice (some ⟨y.b, 0, none⟩) (e.n + 1) y.cap), (some 78, fun y => .pointer (some ⟨y.b, 0 + e.n * 2, none⟩)), (none, fun _ => undef), (some 79, fun _ => .pointer (some ⟨bo, 0 + r.length * 2, none⟩)), (some 80, fun _ => .pointer (some ⟨bo, 0 + r.length * 2 + 1, none⟩)), (none, fun _ => undef)]
    (PreP B w0 bd b2 bo (kdO g p n c) (kdO 0 none 0 0) (knd g p n c) cur r.length e.n e.row (cellsE kS e.M) (rowsS r ++ T)) kr kr kr H3.drew ⟨?_, ?_, ?_, ?_, ?_, ?_, ?_, ?_, ?_, ?_, ?_, ?_, ?_, ?_, trivial⟩ ?_
  · exact D2.gv_val (fun _ _ _ h => h) (fun g w => by kernel_rfl)
  · exact D2.gv_val (fun _ _ _ h => h) (fun g w => by kernel_rfl)
  · exact D2.gv_op (fun _ _ _ h => h) _ (fun g => by kernel_rfl) (fun g o w ho => idxR_run (kd := .i64) (t := 35) (e := 37) (K := 2) (bytes := 32) kr (x := (.tmp 69)) (y := (.tmp 70)) bo 0 (r.length + 1) cap r.length rfl ho kr kr (by omega) w)
  · exact D2.gv_val (fun _ _ _ h => h) (fun g w => by kernel_rfl)
  · refine D2.gv_opW (fun _ _ _ h => h) (.load 35 (.tmp 72)) (fun g => by kernel_rfl) (fun L g o w hN hp ho => ?_)
    obtain ⟨l, h, _, hm⟩ := hp.st (hN.post 8 kr)
    exact load_at (h.own _ hm).2 kr kr htop.2.2.2 o ho
  · refine D2.gv_ld (fun _ _ _ h => h) 37 (.tmp 6) (fun _ => bd) 0 #[.int .u8 ((g : Nat) : Int), .slice p n c] 37 (0, 0) (fun g => by kernel_rfl) (fun g => by kernel_rfl) (fun L g w hN hp => ?_) kr kr
    obtain ⟨l, h, hm, _⟩ := hp.st (hN.post 8 kr)
    exact (h.own _ hm).2
  · exact D2.gv_val (fun _ _ _ h => h) (fun g w => by kernel_rfl)
  · refine D2.gives_of fun L1 gg ww hp hN => ?_
    have h8 := hN.post 8 kr
    unfold PreP at hp
    rw [h8, hN.1] at hp
    obtain ⟨o, ho, hd, hw, hrun⟩ := opv_some (show opv _ _ 7 _ ww = some (some 76, true, .ok (.value (.slice (some ⟨ww.heap.size, 0, none⟩) 1 1)) (ww.alloc (.cells zK 37))) by kernel_rfl)
    refine ⟨o, ho, hd, .inr ⟨hw, ?_⟩⟩
    refine (congrArg (D2.Runs _ _) hrun).mpr ?_
    refine ⟨{ b := ww.heap.size }, rfl, ?_⟩
    unfold PreP
    rw [show D2.put1 L1 7 8 = false from h8, show D2.put1 L1 7 7 = true from rfl]
    exact St.alloc hp _
  · refine D2.gives_of fun L1 gg ww hp hN => ?_
    have h7 := hN.bef 7 kr
    have h9 := hN.post 9 kr
    have h10 := hN.post 10 kr
    have h13 := hN.post 13 kr
    unfold PreP at hp
    rw [hN.1, h7] at hp
    obtain ⟨o, ho, hd, hw, hop⟩ := opk_some (show opk _ 8 _ = some (some 77, true, appendOp 35 (.tmp 73) (.tmp 76)) by kernel_rfl)
    refine ⟨o, ho, hd, .inr ⟨hw, ?_⟩⟩
    have hen := he.le
    obtain ⟨eg, ep, en, ec, erow, eM⟩ := e
    rcases he.row with ⟨rfl, rfl, rfl, rfl, rfl⟩ | ⟨br, curr, rfl, rfl, hrw⟩
    · obtain ⟨b', cap', cur', w', hrun, HS', hr'⟩ := grow_nil (K := 2) hp (t := 35) (e := 37) (bytes := 32) (k := 0) (bx := (gg 7).b) (c := 1) (Y := zK) kr hop kr kr rfl rfl (one_list rfl) (by omega)
      rw [hrun]
      refine ⟨{ b := b', cap := cap', cur := cur' }, rfl, ?_⟩
      unfold PreP
      rw [show D2.put1 L1 8 8 = true from rfl, show D2.put1 L1 8 10 = false from h10, show D2.put1 L1 8 13 = false from h13]
      refine ⟨fun hh => absurd (h9.symm.trans hh) (by decide), hr', ?_⟩
      exact (HS'.sub (List.Sublist.cons_cons _ (List.sublist_cons_self ..))).perm (List.perm_middle (l₁ := [(bd, kdO g p n c), (b2, kdO 0 none 0 0), (bo, kR cur)]))
    · obtain ⟨b', cap', cur', w', hrun, HS', hr'⟩ := grow_own (K := 2) hp (t := 35) (e := 37) (bytes := 32) (j := 4) (k := 0) (bx := (gg 7).b) (c := 1) (Y := zK) kr hop kr rfl hrw kr rfl rfl (one_list rfl) (by omega) (by unfold maxLen; omega)
      rw [hrun]
      refine ⟨{ b := b', cap := cap', cur := cur' }, rfl, ?_⟩
      unfold PreP
      rw [show D2.put1 L1 8 8 = true from rfl, show D2.put1 L1 8 10 = false from h10, show D2.put1 L1 8 13 = false from h13]
      exact ⟨fun hh => absurd (h9.symm.trans hh) (by decide), hr', HS'.sub (List.sublist_cons_self ..)⟩
  · refine D2.gives_of fun L1 gg ww hp hN => ?_
    have h8 := hN.bef 8 kr
    obtain ⟨o, ho, hd, hw, hop⟩ := opk_some (show opk _ 9 _ = some (some 78, true, .indexAddr 35 (.tmp 77) (.tmp 75)) by kernel_rfl)
    refine ⟨o, ho, hd, .inr ⟨hw, ?_⟩⟩
    rw [idxR_run (kd := .i64) (t := 35) (e := 37) (K := 2) (bytes := 32) kr (x := (.tmp 77)) (y := (.tmp 75)) (gg 8).b 0 (e.n + 1) (gg 8).cap e.n rfl hop kr kr (by omega) ww]
    refine ⟨{ b := (gg 8).b }, rfl, ?_⟩
    unfold PreP at hp ⊢
    rw [h8] at hp
    rw [show D2.put1 L1 9 8 = true from h8]
    exact ⟨fun _ => rfl, hp.2.1, hp.2.2⟩
  · refine D2.gives_of fun L1 gg ww hp hN => ?_
    have h8 := hN.bef 8 kr
    have h9 := hN.bef 9 kr
    unfold PreP at hp
    rw [h8, hN.1] at hp
    obtain ⟨hg9, hr', HS⟩ := hp
    have hg := hg9 h9
    have hle := hr'.putA (0 + e.n * 2) (knd g p n c) (by show 0 + e.n * 2 + 2 ≤ (e.n + 1) * 2; omega)
    obtain ⟨o, ho, hd, hw, hop⟩ := opk_some (show opk _ 10 _ = some (none, true, .store 37 (.tmp 78) (.tmp 74)) by kernel_rfl)
    refine ⟨o, ho, hd, .inr ⟨hw, ?_⟩⟩
    rw [store_at (t := 37) (off := 0 + e.n * 2) (b := (gg 8).b) (C := (gg 8).cur) (T := 37) (v := knd g p n c) (C' := putA (gg 8).cur (0 + e.n * 2) (knd g p n c)) (HS.get 3 kr) kr kr hle.1 rfl (by rw [← hg]; kernel_rfl) kr o hop]
    refine ⟨default, rfl, ?_⟩
    unfold PreP
    rw [show D2.put1 L1 10 8 = true from h8, show D2.put1 L1 10 10 = true from rfl]
    exact ⟨fun h => hg9 h, hr', HS.store 3 (C := (gg 8).cur) kr⟩
  · exact D2.gv_op (fun _ _ _ h => h) _ (fun g => by kernel_rfl) (fun g o w ho => idxR_run (kd := .i64) (t := 35) (e := 37) (K := 2) (bytes := 32) kr (x := (.tmp 69)) (y := (.tmp 70)) bo 0 (r.length + 1) cap r.length rfl ho kr kr (by omega) w)
  · exact D2.gv_val (fun _ _ _ h => h) (fun g w => by kernel_rfl)
  · refine D2.gives_of fun L1 gg ww hp hN => ?_
    have h8 := hN.bef 8 kr
    unfold PreP at hp
    rw [h8, hN.1] at hp
    obtain ⟨hg9, hr', HS⟩ := hp
    have hle := hRw.putA (0 + r.length * 2 + 1) (.slice (some ⟨(gg 8).b, 0, none⟩) (e.n + 1) (gg 8).cap) (by show 0 + r.length * 2 + 1 + 1 ≤ (r.length + 1) * 2; omega)
    obtain ⟨o, ho, hd, hw, hop⟩ := opk_some (show opk _ 13 _ = some (none, true, .store 35 (.tmp 80) (.tmp 77)) by kernel_rfl)
    refine ⟨o, ho, hd, .inr ⟨hw, ?_⟩⟩
    rw [store_at (t := 35) (off := 0 + r.length * 2 + 1) (b := bo) (C := cur) (T := 37) (v := .slice (some ⟨(gg 8).b, 0, none⟩) (e.n + 1) (gg 8).cap) (C' := putA cur (0 + r.length * 2 + 1) (.slice (some ⟨(gg 8).b, 0, none⟩) (e.n + 1) (gg 8).cap)) (HS.get 2 kr) kr kr hle.1 rfl kr kr o hop]
    refine ⟨default, rfl, ?_⟩
    unfold PreP
    rw [show D2.put1 L1 13 8 = true from h8, show D2.put1 L1 13 13 = true from rfl]
    exact ⟨fun h => hg9 h, hr', HS.store 2 (C := cur) kr⟩
  · intro L1 gg w14 hall hp
    unfold PreP at hp
    rw [hall 8 (Nat.le_of_ble_eq_true kr), hall 10 (Nat.le_of_ble_eq_true kr), hall 13 (Nat.le_of_ble_eq_true kr)] at hp
    obtain ⟨_, hr', H4⟩ := hp
    generalize hb' : (gg 8).b = b'
    generalize hcap' : (gg 8).cap = cap'
    generalize hcur' : (gg 8).cur = cur'
    rw [hb', hcur', hcap'] at H4
    rw [hcur', hcap'] at hr'
    have hn := he.row.len (by decide)
    have hMl : (cellsE kS e.M).length = 0 + e.n * 2 := by rw [cellsE_len, hn, Nat.zero_add]; rfl
    have hnew : Rw 2 (putA cur' (0 + e.n * 2) (knd g p n c)) cap' (e.n + 1) (cellsE kS (e.M ++ [⟨g, p, n, c, k⟩])) := by
      have h1 := (hr'.putA (0 + e.n * 2) (knd g p n c) (by show 0 + e.n * 2 + 2 ≤ (e.n + 1) * 2; omega)).2
      have h2 := put_last (X := cellsE kS e.M) (Z := zK.toList) (V := (knd g p n c).cells.toList) hMl rfl
      rw [cellsE_snoc]
      exact h2 ▸ h1
    obtain ⟨eg, ep, en, ec, erow, eM⟩ := e
    have hop : Rw 2 (putA cur (0 + r.length * 2 + 1) (.slice (some ⟨b', 0, none⟩) (en + 1) cap')) cap (r.length + 1) (cellsE kS (opE (⟨eg, some ⟨b', 0, none⟩, en + 1, cap', [(b', kR (putA cur' (0 + en * 2) (knd g p n c)))], eM ++ [⟨g, p, n, c, k⟩]⟩ :: r))) := by
      have h1 := (hRw.putA (0 + r.length * 2 + 1) (.slice (some ⟨b', 0, none⟩) (en + 1) cap') (by show 0 + r.length * 2 + 1 + 1 ≤ (r.length + 1) * 2; omega)).2
      have hl := cells_op_len r
      have h2 := put_last (X := cellsE kS (opE r) ++ [.int .u8 ((eg : Nat) : Int)]) (Z := [.slice ep en ec]) (V := (Value.slice (some ⟨b', 0, none⟩) (en + 1) cap').cells.toList) (off := 0 + r.length * 2 + 1) (by rw [List.length_append, hl]; simp) rfl
      rw [cells_op]
      rw [cells_op, show cellsE kS (opE r) ++ [.int .u8 ((eg : Nat) : Int), .slice ep en ec] = (cellsE kS (opE r) ++ [.int .u8 ((eg : Nat) : Int)]) ++ [.slice ep en ec] by simp] at h1
      have h3 : (cellsE kS (opE r) ++ [.int .u8 ((eg : Nat) : Int)]) ++ (Value.slice (some ⟨b', 0, none⟩) (en + 1) cap').cells.toList = cellsE kS (opE r) ++ [.int .u8 ((eg : Nat) : Int), .slice (some ⟨b', 0, none⟩) (en + 1) cap'] := by
        rw [List.append_assoc]; rfl
      exact h3 ▸ (h2 ▸ h1)
    have hok : SkOK T (i + 1) ⟨eg, some ⟨b', 0, none⟩, en + 1, cap', [(b', kR (putA cur' (0 + en * 2) (knd g p n c)))], eM ++ [⟨g, p, n, c, k⟩]⟩ :=
      ⟨.inr ⟨_, _, rfl, rfl, hnew⟩, he.all.snoc hRI trivial, Nat.succ_le_succ he.le⟩
    have htop' := hop.top
    have hpush' : pushM g k ((eg, toFr eM) :: stM r) = target := hpush
    unfold pushM at hpush'
    rw [← toFr_snoc ⟨g, p, n, c, k⟩] at hpush'
    have hrc := hop.le
    have hBr : eg = 42 → Bot r := fun h42 => by
      rcases hBot with ⟨_, h⟩ | h
      · exact absurd (h.symm.trans h42) (by decide)
      · exact h
    have hin : ∀ x ∈ T, x ∈ (b', kR (putA cur' (0 + en * 2) (knd g p n c))) :: T := fun x hx => List.mem_cons_of_mem _ hx
    show WP _ _ _ _ _ _
    refine g_seq kr ?_
    by_cases h42 : eg = 42
    · rw [if_pos h42] at hpush'
      refine rS [.v, .v, .o (ins := [((.tmp 81), .slice (some ⟨bo, 0, none⟩) (r.length + 1) cap), ((.tmp 82), .int .i64 ((r.length : Nat) : Int))]) (v := .pointer (some ⟨bo, 0 + r.length * 2, none⟩)) (fun ρ o w ho hi2 => idxR_run (kd := .i64) (t := 35) (e := 37) (K := 2) (bytes := 32) kr (x := (.tmp 81)) (y := (.tmp 82)) bo 0 (r.length + 1) cap r.length rfl ho hi2.1 hi2.2.1 (by omega) w), .v, .ls 2 (C := putA cur (0 + r.length * 2 + 1) (.slice (some ⟨b', 0, none⟩) (en + 1) cap')) (off := 0 + r.length * 2) (v := .int .u8 ((eg : Nat) : Int)) htop'.2.2.1, .e (v := .bool (!(((eg : Nat) : Int) == 42))) (v' := .bool false) (bool_eq (by rw [h42]; rfl))] H4 kr fun gs5 w15 H5 => ?_
      refine g_cond_f kr kr ?_
      refine g_skip kr ?_
      show WP _ _ _ _ _ _
      refine dL [.v, .v, .o (ins := [((.tmp 87), .slice (some ⟨bo, 0, none⟩) (r.length + 1) cap), ((.tmp 88), .int .i64 ((r.length : Nat) : Int))]) (v := .pointer (some ⟨bo, 0 + r.length * 2, none⟩)) (fun ρ o w ho hi2 => idxR_run (kd := .i64) (t := 35) (e := 37) (K := 2) (bytes := 32) kr (x := (.tmp 87)) (y := (.tmp 88)) bo 0 (r.length + 1) cap r.length rfl ho hi2.1 hi2.2.1 (by omega) w), .lp 2 (C := putA cur (0 + r.length * 2 + 1) (.slice (some ⟨b', 0, none⟩) (en + 1) cap')) (off := 0 + r.length * 2) (n := 2) (W := #[.int .u8 ((eg : Nat) : Int), .slice (some ⟨b', 0, none⟩) (en + 1) cap']) htop'.1 htop'.2.1, .v, .v, .o (ins := [((.tmp 91), .slice (some ⟨bo, 0, none⟩) (r.length + 1) cap), ((.tmp 92), .int .i64 ((r.length : Nat) : Int))]) (v := .slice (some ⟨bo, 0, none⟩) r.length cap) (fun ρ o w ho hi2 => cut_run (kd := .i64) (t := 35) (e := 37) (size := 2) (bytes := 32) kr (x := (.tmp 91)) (y := (.tmp 92)) bo (r.length + 1) cap r.length ho hi2.1 hi2.2.1 (by omega) w), .s 0, .v] H5 kr fun w16 H6 => ?_
      have H7 : St B w0 w16 ((bd, kdO eg (some ⟨b', 0, none⟩) (en + 1) cap') :: (b2, kdO 0 none 0 0) :: (bo, kR (putA cur (0 + r.length * 2 + 1) (.slice (some ⟨b', 0, none⟩) (en + 1) cap'))) :: ([(b', kR (putA cur' (0 + en * 2) (knd g p n c)))] ++ (rowsS r ++ T))) := H6.as kr
      show ∃ m, _ ∧ _
      refine ⟨r.length, Nat.lt_succ_self _, r, r.length, eg, _, _, _, toFr (eM ++ [⟨g, p, n, c, k⟩]), (b', kR (putA cur' (0 + en * 2) (knd g p n c))) :: T, bo, cap, _, rfl, rfl, hBr h42, by omega, fun x hx => (hS x (List.mem_cons_of_mem _ hx)).mono hin (Nat.le_refl _), ?_, hpush', Rw.pop (cells_op _ _ ▸ hop) (cells_op_len r), H7.perm (List.Perm.cons _ (List.Perm.cons _ (List.Perm.cons _ (List.perm_append_comm_assoc (rowsS r) [(b', kR (putA cur' (0 + en * 2) (knd g p n c)))] T)))), (Is.of ⟨kr, kr, kr, kr, kr, kr, kr, trivial⟩)⟩
      have := hok.row.rIn (T := T) (by decide) hok.all (by have := hok.le; show en + 1 ≤ 1000; simp only at this; omega)
      exact this
    · rw [if_neg h42] at hpush'
      refine rS [.v, .v, .o (ins := [((.tmp 81), .slice (some ⟨bo, 0, none⟩) (r.length + 1) cap), ((.tmp 82), .int .i64 ((r.length : Nat) : Int))]) (v := .pointer (some ⟨bo, 0 + r.length * 2, none⟩)) (fun ρ o w ho hi2 => idxR_run (kd := .i64) (t := 35) (e := 37) (K := 2) (bytes := 32) kr (x := (.tmp 81)) (y := (.tmp 82)) bo 0 (r.length + 1) cap r.length rfl ho hi2.1 hi2.2.1 (by omega) w), .v, .ls 2 (C := putA cur (0 + r.length * 2 + 1) (.slice (some ⟨b', 0, none⟩) (en + 1) cap')) (off := 0 + r.length * 2) (v := .int .u8 ((eg : Nat) : Int)) htop'.2.2.1, .e (v := .bool (!(((eg : Nat) : Int) == 42))) (v' := .bool true) (bool_eq (by rw [beq_eq_false_iff_ne.2 (by omega)]; rfl))] H4 kr fun gs5 w15 H5 => ?_
      refine g_cond_t kr kr ?_
      refine g_exit 1 kr ?_
      show Q (.exit 1) _ _
      refine hQ (⟨eg, some ⟨b', 0, none⟩, en + 1, cap', [(b', kR (putA cur' (0 + en * 2) (knd g p n c)))], eM ++ [(⟨g, p, n, c, k⟩ : El Nat)]⟩ :: r) (r.length + 1) T bo cap _ _ _ rfl ?_ hN5' ?_ hpush' hop ?_ (Is.of ⟨kr, kr, kr, kr, kr, kr, trivial⟩)
      · rcases hBot with ⟨h1, h2⟩ | h
        · exact .inl ⟨h1, h2⟩
        · exact .inr h
      · intro x hx
        rcases List.mem_cons.1 hx with rfl | hx
        · exact hok
        · exact (hS x (List.mem_cons_of_mem _ hx)).mono (fun _ h => h) (Nat.le_succ _)
      · have H7 : St B w0 w15 ((bd, kdO g p n c) :: (b2, kdO 0 none 0 0) :: (bo, kR (putA cur (0 + r.length * 2 + 1) (.slice (some ⟨b', 0, none⟩) (en + 1) cap'))) :: ([(b', kR (putA cur' (0 + en * 2) (knd g p n c)))] ++ (rowsS r ++ T))) := H5.as kr
        exact H7.sub (List.sublist_cons_self ..)
end Go.Proofs.YtkkbkpneodecnaaDoor

namespace Go.Proofs.YtkkbkpneodecnaaDoor
open Go Go.RowKit
set_option linter.unusedVariables false
abbrev okIs (form : ByteArray) (i : Nat) (b2 bo N cap : Nat) : List (Nat × Value) := [(0, .string form), (2, .pointer (some ⟨b2, 0, none⟩)), (3, .bool false), (4, .slice (some ⟨bo, 0, none⟩) N cap), (16, .int .i64 ((form.size : Nat) : Int)), (17, .int .i64 ((i : Nat) : Int))]
set_option maxRecDepth 100000 in
set_option maxHeartbeats 4000000 in
theorem parse_body {Q : Exit → Env → World → Prop} {B : Nat} {w0 : World} (form : ByteArray) (b2 i : Nat) (hi40 : i ≤ 40) (hi : i < form.size) (hz : form.size ≤ 40) (S : List Sk) (N : Nat) (T : List (Nat × Obj)) (bo cap : Nat) (cur : Array Value) (hN : N = S.length) (hBot : Bot S) (hN5 : N ≤ 5) (hS : ∀ e ∈ S, SkOK T i e) (hRw : Rw 2 cur cap N (cellsE kS (opE S)))
    (ρ0 : Env) (ww0 : World) (H0 : St B w0 ww0 ((b2, kdO 0 none 0 0) :: (bo, kR cur) :: (rowsS S ++ T))) (hIs : Is (okIs form i b2 bo N cap) ρ0)
    (hbad : stepM (by_ form i) (stM S) = none → ∀ (ρ : Env) (ww : World) (bd : Nat) (o : Obj) (l : List (Nat × Obj)), St B w0 ww ((bd, o) :: (b2, kdO 0 none 0 0) :: l) → ρ 3 = .bool false → ρ 2 = .pointer (some ⟨b2, 0, none⟩) → Q .ret ρ ww)
    (hQ : ∀ (S' : List Sk) (N : Nat) (T : List (Nat × Obj)) (bo cap : Nat) (cur : Array Value) (ρ : Env) (ww : World), N = S'.length → Bot S' → N ≤ 5 → (∀ e ∈ S', SkOK T (i + 1) e) → stepM (by_ form i) (stM S) = some (stM S') → Rw 2 cur cap N (cellsE kS (opE S')) →
      St B w0 ww ((b2, kdO 0 none 0 0) :: (bo, kR cur) :: (rowsS S' ++ T)) → Is (okIs form i b2 bo N cap) ρ → Q (.exit 1) ρ ww) :
    WP Tryd.prog 101 pBody Q ρ0 ww0 := by
  obtain ⟨_, rfl⟩ := hIs
  rcases S with _ | ⟨e, r⟩
  · exact hBot.elim
  obtain rfl : N = r.length + 1 := hN
  have he := hS e (List.mem_cons_self ..)
  have htop := hRw.top
  obtain ⟨c, hc⟩ : ∃ c, by_ form i = c := ⟨_, rfl⟩
  have hrc := hRw.le
  refine rS [.v, .v] H0 kr fun gs1 w1 H1 => ?_
  refine g_sreg [0, 1, 2, 3, 4, 5] kr kr ?_
  refine rp [.v, .v, .oe (ins := [((.tmp 20), .string form), ((.tmp 21), .int .i64 ((i : Nat) : Int))]) (v := .int .u8 ((by_ form i : Nat) : Int)) (v' := .int .u8 ((c : Nat) : Int)) (fun ρ o w ho hi2 => sindex_run (t := 9) (kd := .i64) kr (x := (.tmp 20)) (y := (.tmp 21)) form i ho hi2.1 hi2.2.1 hi w) (by rw [hc]), .v] H1 kr fun gs2 w2 H2 => ?_
  show WPs _ _ _ _ [4, 5] _ _
  have H3 : St B w0 w2 ((b2, kdO 0 none 0 0) :: (bo, kR cur) :: (rowsS (e :: r) ++ T)) := H2.as kr
  refine s_alloc H3 (some 6) 37 (.agg #[.int .u8 0, .slice none 0 0]) kr kr kr ?_
  intro bd w3 H4
  refine rp [.s 0] H4 kr fun gs3 w4 H5 => ?_
  show WPs _ _ _ _ [] _ _
  refine s_nil ?_
  refine g_seq kr ?_
  refine rS [.v, .v, .e (v := .int .i64 (IntKind.i64.wrap (((r.length + 1 : Nat) : Int) - 1))) (v' := .int .i64 ((r.length : Nat) : Int)) (int_eq (by rw [show (((r.length + 1 : Nat) : Int) - 1) = ((r.length : Nat) : Int) by omega]; exact wrapN_i64 (by omega))), .v] H5 kr fun gs4 w5 H6 => ?_
  refine rS [.v, .l 0] H6 kr fun gs5 w6 H7 => ?_
  refine g_block 2 kr ?_
  have H8 : St B w0 w6 ((bd, kdO c none 0 0) :: (b2, kdO 0 none 0 0) :: (bo, kR cur) :: (rowsS (e :: r) ++ T)) := H7.as kr
  clear H0 H1 H2 H3 H4 H5 H6 H7
  refine g_keep [0, 2, 3, 4, 5, 6, 7, 16, 17, 28] fun ρ1 => ?_
  refine g_seq kr ?_
  obtain ⟨lb, hlb⟩ : ∃ lb, decide (c = 110 ∨ c = 104 ∨ c = 97 ∨ c = 115 ∨ c = 98) = lb := ⟨_, rfl⟩
  refine g_mono (Q := fun ex ρ ww => ex = .normal ∧ St B w0 ww ((bd, kdO c none 0 0) :: (b2, kdO 0 none 0 0) :: (bo, kR cur) :: (rowsS (e :: r) ++ T)) ∧ Is [(0, .string form), (2, .pointer (some ⟨b2, 0, none⟩)), (3, .bool false), (4, .slice (some ⟨bo, 0, none⟩) (r.length + 1) cap), (6, .pointer (some ⟨bd, 0, none⟩)), (7, .int .i64 ((r.length : Nat) : Int)), (16, .int .i64 ((form.size : Nat) : Int)), (17, .int .i64 ((i : Nat) : Int)), (28, .int .u8 ((c : Nat) : Int)), (30, .bool lb)] ρ) ?_ ?_
  · by_cases h110 : c = 110
    · refine rS [.e (v := .bool (((c : Nat) : Int) == 110)) (v' := .bool true) (bool_eq (beq_iff_eq.2 (by omega))), .v] H8 kr fun gsa110 wa110 Ha110 => ?_
      refine g_cond_t kr kr ?_
      refine g_skip kr ?_
      obtain rfl : lb = true := by rw [← hlb]; exact decide_eq_true (by omega)
      exact ⟨rfl, Ha110.as kr, (Is.of ⟨kr, kr, kr, kr, kr, kr, kr, kr, kr, kr, trivial⟩)⟩
    · refine rS [.e (v := .bool (((c : Nat) : Int) == 110)) (v' := .bool false) (bool_eq (beq_eq_false_iff_ne.2 (by omega))), .v] H8 kr fun gsb110 wb110 Hb110 => ?_
      refine g_cond_f kr kr ?_
      by_cases h104 : c = 104
      · refine rS [.e (v := .bool (((c : Nat) : Int) == 104)) (v' := .bool true) (bool_eq (beq_iff_eq.2 (by omega))), .v] Hb110 kr fun gsa104 wa104 Ha104 => ?_
        refine g_cond_t kr kr ?_
        refine g_skip kr ?_
        obtain rfl : lb = true := by rw [← hlb]; exact decide_eq_true (by omega)
        exact ⟨rfl, Ha104.as kr, (Is.of ⟨kr, kr, kr, kr, kr, kr, kr, kr, kr, kr, trivial⟩)⟩
      · refine rS [.e (v := .bool (((c : Nat) : Int) == 104)) (v' := .bool false) (bool_eq (beq_eq_false_iff_ne.2 (by omega))), .v] Hb110 kr fun gsb104 wb104 Hb104 => ?_
        refine g_cond_f kr kr ?_
        by_cases h97 : c = 97
        · refine rS [.e (v := .bool (((c : Nat) : Int) == 97)) (v' := .bool true) (bool_eq (beq_iff_eq.2 (by omega))), .v] Hb104 kr fun gsa97 wa97 Ha97 => ?_
          refine g_cond_t kr kr ?_
          refine g_skip kr ?_
          obtain rfl : lb = true := by rw [← hlb]; exact decide_eq_true (by omega)
          exact ⟨rfl, Ha97.as kr, (Is.of ⟨kr, kr, kr, kr, kr, kr, kr, kr, kr, kr, trivial⟩)⟩
        · refine rS [.e (v := .bool (((c : Nat) : Int) == 97)) (v' := .bool false) (bool_eq (beq_eq_false_iff_ne.2 (by omega))), .v] Hb104 kr fun gsb97 wb97 Hb97 => ?_
          refine g_cond_f kr kr ?_
          by_cases h115 : c = 115
          · refine rS [.e (v := .bool (((c : Nat) : Int) == 115)) (v' := .bool true) (bool_eq (beq_iff_eq.2 (by omega))), .v] Hb97 kr fun gsa115 wa115 Ha115 => ?_
            refine g_cond_t kr kr ?_
            refine g_skip kr ?_
            obtain rfl : lb = true := by rw [← hlb]; exact decide_eq_true (by omega)
            exact ⟨rfl, Ha115.as kr, (Is.of ⟨kr, kr, kr, kr, kr, kr, kr, kr, kr, kr, trivial⟩)⟩
          · refine rS [.e (v := .bool (((c : Nat) : Int) == 115)) (v' := .bool false) (bool_eq (beq_eq_false_iff_ne.2 (by omega))), .v] Hb97 kr fun gsb115 wb115 Hb115 => ?_
            refine g_cond_f kr kr ?_
            by_cases h98 : c = 98
            · refine rL [.e (v := .bool (((c : Nat) : Int) == 98)) (v' := .bool true) (bool_eq (beq_iff_eq.2 (by omega))), .v] Hb115 kr fun gsa98 wa98 Ha98 => ?_
              obtain rfl : lb = true := by rw [← hlb]; exact decide_eq_true (by omega)
              exact ⟨rfl, Ha98.as kr, (Is.of ⟨kr, kr, kr, kr, kr, kr, kr, kr, kr, kr, trivial⟩)⟩
            · refine rL [.e (v := .bool (((c : Nat) : Int) == 98)) (v' := .bool false) (bool_eq (beq_eq_false_iff_ne.2 (by omega))), .v] Hb115 kr fun gsb98 wb98 Hb98 => ?_
              obtain rfl : lb = false := by rw [← hlb]; exact decide_eq_false (by omega)
              exact ⟨rfl, Hb98.as kr, (Is.of ⟨kr, kr, kr, kr, kr, kr, kr, kr, kr, kr, trivial⟩)⟩
  rintro _ _ w7 ⟨rfl, H9, _, rfl⟩
  show WP _ _ _ _ _ _
  cases lb with
  | true =>
    have hst : stepM (by_ form i) (stM (e :: r)) = some (pushM c .nil (stM (e :: r))) := by
      rw [hc]; unfold stepM; rw [if_pos (of_decide_eq_true hlb)]
    refine g_cond_t kr kr ?_
    refine g_skip kr ?_
    show WP _ _ _ _ _ _
    refine parse_in form b2 bd i _ hi40 (r.length + 1) _ _ ⟨e :: r, r.length + 1, c, none, 0, 0, .nil, T, bo, cap, cur, rfl, rfl, hBot, hN5, hS, RIn.none _ _, rfl, hRw, H9, (Is.of ⟨kr, kr, kr, kr, kr, kr, kr, trivial⟩)⟩ ?_
    intro S' N' T' bo' cap' cur' ρ' ww' h1 h2 h3 h4 h5 h6 h7 h8
    exact hQ S' N' T' bo' cap' cur' ρ' ww' h1 h2 h3 h4 (by rw [hst, h5]) h6 h7 h8
  | false =>
    have hnl := of_decide_eq_false hlb
    refine g_cond_f kr kr ?_
    refine g_seq kr ?_
    obtain ⟨gb, hgb⟩ : ∃ gb, decide (c = 40 ∨ c = 42) = gb := ⟨_, rfl⟩
    refine g_mono (Q := fun ex ρ ww => ex = .normal ∧ St B w0 ww ((bd, kdO c none 0 0) :: (b2, kdO 0 none 0 0) :: (bo, kR cur) :: (rowsS (e :: r) ++ T)) ∧ Is [(0, .string form), (2, .pointer (some ⟨b2, 0, none⟩)), (3, .bool false), (4, .slice (some ⟨bo, 0, none⟩) (r.length + 1) cap), (6, .pointer (some ⟨bd, 0, none⟩)), (7, .int .i64 ((r.length : Nat) : Int)), (16, .int .i64 ((form.size : Nat) : Int)), (17, .int .i64 ((i : Nat) : Int)), (28, .int .u8 ((c : Nat) : Int)), (36, .bool gb)] ρ) ?_ ?_
    · by_cases h40 : c = 40
      · refine rS [.e (v := .bool (((c : Nat) : Int) == 40)) (v' := .bool true) (bool_eq (beq_iff_eq.2 (by omega))), .v] H9 kr fun gsa40 wa40 Ha40 => ?_
        refine g_cond_t kr kr ?_
        refine g_skip kr ?_
        obtain rfl : gb = true := by rw [← hgb]; exact decide_eq_true (by omega)
        exact ⟨rfl, Ha40.as kr, (Is.of ⟨kr, kr, kr, kr, kr, kr, kr, kr, kr, kr, trivial⟩)⟩
      · refine rS [.e (v := .bool (((c : Nat) : Int) == 40)) (v' := .bool false) (bool_eq (beq_eq_false_iff_ne.2 (by omega))), .v] H9 kr fun gsb40 wb40 Hb40 => ?_
        refine g_cond_f kr kr ?_
        by_cases h42 : c = 42
        · refine rL [.e (v := .bool (((c : Nat) : Int) == 42)) (v' := .bool true) (bool_eq (beq_iff_eq.2 (by omega))), .v] Hb40 kr fun gsa42 wa42 Ha42 => ?_
          obtain rfl : gb = true := by rw [← hgb]; exact decide_eq_true (by omega)
          exact ⟨rfl, Ha42.as kr, (Is.of ⟨kr, kr, kr, kr, kr, kr, kr, kr, kr, kr, trivial⟩)⟩
        · refine rL [.e (v := .bool (((c : Nat) : Int) == 42)) (v' := .bool false) (bool_eq (beq_eq_false_iff_ne.2 (by omega))), .v] Hb40 kr fun gsb42 wb42 Hb42 => ?_
          obtain rfl : gb = false := by rw [← hgb]; exact decide_eq_false (by omega)
          exact ⟨rfl, Hb42.as kr, (Is.of ⟨kr, kr, kr, kr, kr, kr, kr, kr, kr, kr, trivial⟩)⟩
    rintro _ _ w8 ⟨rfl, H10, _, rfl⟩
    show WP _ _ _ _ _ _
    cases gb with
    | true =>
      have hyes := of_decide_eq_true hgb
      refine g_cond_t kr kr ?_
      refine g_seq kr ?_
      by_cases h4 : r.length = 4
      · refine g_seq kr ?_
        refine rL [.v, .e (v := .bool (((r.length : Nat) : Int) == 4)) (v' := .bool true) (bool_eq (beq_iff_eq.2 (by omega)))] H10 kr fun gs6 w9 H11 => ?_
        show WP _ _ _ _ _ _
        refine g_cond_t kr kr ?_
        refine rS [.v, .s 1, .v] H11 kr fun gs7 w10 H12 => ?_
        refine g_ret kr ?_
        have H13 : St B w0 w10 ((bd, kdO c none 0 0) :: (b2, kdO 0 none 0 0) :: (bo, kR cur) :: (rowsS (e :: r) ++ T)) := H12.as kr
        refine hbad ?_ _ w10 bd _ _ H13 kr kr
        rw [hc]; unfold stepM; rw [if_neg hnl, if_pos hyes, if_pos]
        show ((e :: r).map _).length = 5
        rw [List.length_map, List.length_cons, h4]
      · refine g_seq kr ?_
        refine rL [.v, .e (v := .bool (((r.length : Nat) : Int) == 4)) (v' := .bool false) (bool_eq (beq_eq_false_iff_ne.2 (by omega)))] H10 kr fun gs6 w9 H11 => ?_
        show WP _ _ _ _ _ _
        refine g_cond_f kr kr ?_
        refine g_skip kr ?_
        show WP _ _ _ _ _ _
        refine g_sreg [0, 1, 2, 3, 4] kr kr ?_
        refine rp [.v, .l 0] H11 kr fun gs7 w10 H12 => ?_
        show WPs _ _ _ _ [2, 3, 4] _ _
        have H13 : St B w0 w10 ((bd, kdO c none 0 0) :: (b2, kdO 0 none 0 0) :: (bo, kR cur) :: (rowsS (e :: r) ++ T)) := H12.as kr
        refine s_new H13 (some 44) (fun b => .slice (some ⟨b, 0, none⟩) 1 1) #[.int .u8 ((c : Nat) : Int), .slice none 0 0] 37 (fun w => by kernel_rfl) kr ?_
        intro bn w11 H14
        refine s_grow (K' := 2) H14 (some 45) 35 37 32 (.tmp 42) (.tmp 44) 3 0 bo bn (r.length + 1) cap 1 cur #[.int .u8 ((c : Nat) : Int), .slice none 0 0] (cellsE kS (opE (e :: r))) kr kr kr kr kr hRw kr kr rfl (one_list rfl) (by omega) (by unfold maxLen; omega) ?_
        intro b' cap' cur' w12 H15 hr'
        have H16 : St B w0 w12 ((bn, kR #[.int .u8 ((c : Nat) : Int), .slice none 0 0]) :: (bd, kdO c none 0 0) :: (b2, kdO 0 none 0 0) :: (b', kR cur') :: (rowsS (e :: r) ++ T)) := H15
        refine rp [.v] H16 kr fun gs8 w13 H17 => ?_
        show WPs _ _ _ _ [] _ _
        refine s_nil ?_
        refine g_exit 1 kr ?_
        show Q (.exit 1) _ _
        have H18 : St B w0 w13 ((bn, kR #[.int .u8 ((c : Nat) : Int), .slice none 0 0]) :: (bd, kdO c none 0 0) :: (b2, kdO 0 none 0 0) :: (b', kR cur') :: (rowsS (e :: r) ++ T)) := H17.as kr
        refine hQ (⟨c, none, 0, 0, [], []⟩ :: e :: r) (r.length + 2) T b' cap' cur' _ _ rfl (.inr hBot) (by omega) ?_ ?_ ?_ (H18.sub (List.Sublist.cons _ (List.sublist_cons_self ..))) (Is.of ⟨kr, kr, kr, kr, kr, kr, trivial⟩)
        · intro x hx
          rcases List.mem_cons.1 hx with rfl | hx
          · exact ⟨.inl ⟨rfl, rfl, rfl, rfl, rfl⟩, (fun _ h => nomatch h), Nat.zero_le _⟩
          · exact (hS x hx).mono (fun _ h => h) (Nat.le_succ _)
        · rw [hc]; unfold stepM; rw [if_neg hnl, if_pos hyes, if_neg]
          · rfl
          · show ¬ ((e :: r).map _).length = 5
            rw [List.length_map, List.length_cons]; omega
        · rw [cells_op]; exact hr'
    | false =>
      have hno := of_decide_eq_false hgb
      refine g_cond_f kr kr ?_
      by_cases h41 : c = 41
      · refine rS [.e (v := .bool (((c : Nat) : Int) == 41)) (v' := .bool true) (bool_eq (beq_iff_eq.2 (by omega))), .v] H10 kr fun gs6 w9 H11 => ?_
        refine g_cond_t kr kr ?_
        refine g_seq kr ?_
        refine g_seq kr ?_
        by_cases hr0 : r.length = 0
        · refine rL [.v, .e (v := .bool (((r.length : Nat) : Int) == 0)) (v' := .bool true) (bool_eq (beq_iff_eq.2 (by omega))), .v, .n, .n, .n, .n, .n, .n, .v] H11 kr fun gs7 w10 H12 => ?_
          show WP _ _ _ _ _ _
          refine g_cond_t kr kr ?_
          refine rS [.v, .s 1, .v] H12 kr fun gs8 w11 H13 => ?_
          refine g_ret kr ?_
          have H14 : St B w0 w11 ((bd, kdO c none 0 0) :: (b2, kdO 0 none 0 0) :: (bo, kR cur) :: (rowsS (e :: r) ++ T)) := H13.as kr
          refine hbad ?_ _ w11 bd _ _ H14 kr kr
          rw [hc]; unfold stepM; rw [if_neg hnl, if_neg hno, if_pos h41]
          show (if (r.map _).length = 0 ∨ e.g ≠ 40 then none else some _) = none
          rw [if_pos (.inl (by rw [List.length_map]; exact hr0))]
        · by_cases h40 : e.g = 40
          · refine rL [.v, .e (v := .bool (((r.length : Nat) : Int) == 0)) (v' := .bool false) (bool_eq (beq_eq_false_iff_ne.2 (by omega))), .v, .v, .v, .o (ins := [((.tmp 51), .slice (some ⟨bo, 0, none⟩) (r.length + 1) cap), ((.tmp 52), .int .i64 ((r.length : Nat) : Int))]) (v := .pointer (some ⟨bo, 0 + r.length * 2, none⟩)) (fun ρ o w ho hi2 => idxR_run (kd := .i64) (t := 35) (e := 37) (K := 2) (bytes := 32) kr (x := (.tmp 51)) (y := (.tmp 52)) bo 0 (r.length + 1) cap r.length rfl ho hi2.1 hi2.2.1 (by omega) w), .v, .ls 2 (C := cur) (off := 0 + r.length * 2) (v := .int .u8 ((e.g : Nat) : Int)) htop.2.2.1, .e (v := .bool (!(((e.g : Nat) : Int) == 40))) (v' := .bool false) (bool_eq (by rw [h40]; rfl)), .v] H11 kr fun gs7 w10 H12 => ?_
            show WP _ _ _ _ _ _
            refine g_cond_f kr kr ?_
            refine g_skip kr ?_
            show WP _ _ _ _ _ _
            refine dL [.v, .v, .o (ins := [((.tmp 59), .slice (some ⟨bo, 0, none⟩) (r.length + 1) cap), ((.tmp 60), .int .i64 ((r.length : Nat) : Int))]) (v := .pointer (some ⟨bo, 0 + r.length * 2, none⟩)) (fun ρ o w ho hi2 => idxR_run (kd := .i64) (t := 35) (e := 37) (K := 2) (bytes := 32) kr (x := (.tmp 59)) (y := (.tmp 60)) bo 0 (r.length + 1) cap r.length rfl ho hi2.1 hi2.2.1 (by omega) w), .lp 2 (C := cur) (off := 0 + r.length * 2) (n := 2) (W := #[.int .u8 ((e.g : Nat) : Int), .slice e.p e.n e.c]) htop.1 htop.2.1, .v, .v, .o (ins := [((.tmp 63), .slice (some ⟨bo, 0, none⟩) (r.length + 1) cap), ((.tmp 64), .int .i64 ((r.length : Nat) : Int))]) (v := .slice (some ⟨bo, 0, none⟩) r.length cap) (fun ρ o w ho hi2 => cut_run (kd := .i64) (t := 35) (e := 37) (size := 2) (bytes := 32) kr (x := (.tmp 63)) (y := (.tmp 64)) bo (r.length + 1) cap r.length ho hi2.1 hi2.2.1 (by omega) w), .s 0, .v] H12 kr fun w11 H13 => ?_
            show WP _ _ _ _ _ _
            have H14 : St B w0 w11 ((bd, kdO e.g e.p e.n e.c) :: (b2, kdO 0 none 0 0) :: (bo, kR cur) :: (e.row ++ (rowsS r ++ T))) := by
              rw [← List.append_assoc]; exact H13.as kr
            have hBr : Bot r := by
              rcases hBot with ⟨h, _⟩ | h
              · rw [h] at hr0; exact absurd rfl hr0
              · exact h
            have hst : stepM (by_ form i) (stM (e :: r)) = some (pushM e.g (toFr e.M) (stM r)) := by
              rw [hc]; unfold stepM; rw [if_neg hnl, if_neg hno, if_pos h41]
              show (if (r.map _).length = 0 ∨ e.g ≠ 40 then none else some (pushM e.g (toFr e.M) (stM r))) = _
              rw [if_neg (by rw [List.length_map]; exact fun h => h.elim hr0 (fun h => h h40))]
            refine parse_in form b2 bd i _ hi40 r.length _ _ ⟨r, r.length, e.g, e.p, e.n, e.c, toFr e.M, e.row ++ T, bo, cap, cur, rfl, rfl, hBr, by omega, fun x hx => (hS x (List.mem_cons_of_mem _ hx)).mono (fun y hy => List.mem_append_right _ hy) (Nat.le_refl _), he.row.rIn (by decide) he.all (by have := he.le; show e.n ≤ 1000; omega), rfl, Rw.pop (cells_op _ _ ▸ hRw) (cells_op_len r), H14.perm (List.Perm.cons _ (List.Perm.cons _ (List.Perm.cons _ (List.perm_append_comm_assoc (rowsS r) e.row T)))), (Is.of ⟨kr, kr, kr, kr, kr, kr, kr, trivial⟩)⟩ ?_
            intro S' N' T' bo' cap' cur' ρ' ww' h1 h2 h3 h4 h5 h6 h7 h8
            exact hQ S' N' T' bo' cap' cur' ρ' ww' h1 h2 h3 h4 (by rw [hst, h5]) h6 h7 h8
          · refine rL [.v, .e (v := .bool (((r.length : Nat) : Int) == 0)) (v' := .bool false) (bool_eq (beq_eq_false_iff_ne.2 (by omega))), .v, .v, .v, .o (ins := [((.tmp 51), .slice (some ⟨bo, 0, none⟩) (r.length + 1) cap), ((.tmp 52), .int .i64 ((r.length : Nat) : Int))]) (v := .pointer (some ⟨bo, 0 + r.length * 2, none⟩)) (fun ρ o w ho hi2 => idxR_run (kd := .i64) (t := 35) (e := 37) (K := 2) (bytes := 32) kr (x := (.tmp 51)) (y := (.tmp 52)) bo 0 (r.length + 1) cap r.length rfl ho hi2.1 hi2.2.1 (by omega) w), .v, .ls 2 (C := cur) (off := 0 + r.length * 2) (v := .int .u8 ((e.g : Nat) : Int)) htop.2.2.1, .e (v := .bool (!(((e.g : Nat) : Int) == 40))) (v' := .bool true) (bool_eq (by rw [beq_eq_false_iff_ne.2 (by omega)]; rfl)), .v] H11 kr fun gs7 w10 H12 => ?_
            show WP _ _ _ _ _ _
            refine g_cond_t kr kr ?_
            refine rS [.v, .s 1, .v] H12 kr fun gs8 w11 H13 => ?_
            refine g_ret kr ?_
            have H14 : St B w0 w11 ((bd, kdO c none 0 0) :: (b2, kdO 0 none 0 0) :: (bo, kR cur) :: (rowsS (e :: r) ++ T)) := H13.as kr
            refine hbad ?_ _ w11 bd _ _ H14 kr kr
            rw [hc]; unfold stepM; rw [if_neg hnl, if_neg hno, if_pos h41]
            show (if (r.map _).length = 0 ∨ e.g ≠ 40 then none else some _) = none
            rw [if_pos (.inr h40)]
      · refine rS [.e (v := .bool (((c : Nat) : Int) == 41)) (v' := .bool false) (bool_eq (beq_eq_false_iff_ne.2 (by omega))), .v] H10 kr fun gs6 w9 H11 => ?_
        refine g_cond_f kr kr ?_
        refine rS [.v, .s 1, .v] H11 kr fun gs7 w10 H12 => ?_
        refine g_ret kr ?_
        have H13 : St B w0 w10 ((bd, kdO c none 0 0) :: (b2, kdO 0 none 0 0) :: (bo, kR cur) :: (rowsS (e :: r) ++ T)) := H12.as kr
        refine hbad ?_ _ w10 bd _ _ H13 kr kr
        rw [hc]; unfold stepM; rw [if_neg hnl, if_neg hno, if_neg h41]
end Go.Proofs.YtkkbkpneodecnaaDoor

namespace Go.Proofs.YtkkbkpneodecnaaDoor
open Go Go.RowKit
set_option linter.unusedVariables false
theorem okDec.cases {t : ByteArray} {v : Value} {T : List (Nat × Obj)} (h : okDec t v T) : (∃ (l : Bool) (s : ByteArray) (p : Option Addr) (n c : Nat) (k : Fo), v = .tuple #[.agg #[.bool l, .string s, .slice p n c], .int .i64 0] ∧ itIs t l s k ⟨#[]⟩ ∧ SlIn T p n k ∧ s.size ≤ t.size ∧ dp1 l (dpF k) ≤ 8 ∧ t.size ≤ 4000) ∨ (∃ e : Int, e ≠ 0 ∧ v = erV e ∧ T = []) := by
  rcases h with ⟨_, rfl, rfl⟩ | ⟨h4, ⟨l, s, p, n, c, k, rfl, h1, h2, h3, h5⟩ | ⟨_, _, _, _, _, rfl, rfl⟩ | ⟨_, rfl, rfl⟩⟩
  · exact .inr ⟨2, by decide, rfl, rfl⟩
  · exact .inl ⟨l, s, p, n, c, k, rfl, h1, h2, h3, h5, h4⟩
  · exact .inr ⟨5, by decide, rfl, rfl⟩
  · exact .inr ⟨4, by decide, rfl, rfl⟩
/-- What was written is read. -/
theorem dec_enc {l : Bool} {s : ByteArray} {k : Fo} {v : Value} {T : List (Nat × Obj)} (h0 : (encS l s k.len k).2 = 0) (h : okDec (encS l s k.len k).1 v T) : ∃ (p : Option Addr) (n c : Nat), v = .tuple #[.agg #[.bool l, .string s, .slice p n c], .int .i64 0] ∧ SlIn T p n k := by
  obtain ⟨he, hm, hp, hc, hd, hz, hl⟩ := encS_ok h0
  have hsz : (encS l s k.len k).1.size = (wr1 l s (szF k) (wrF k)).length := by rw [he, strB_size]
  have htl : tl (encS l s k.len k).1 = wr1 l s (szF k) (wrF k) := by rw [he, tl_strB]
  have hpay := sz1_pay hm hz
  have key : ∀ (l2 : Bool) (s2 : ByteArray) (k2 : Fo), itIs (encS l s k.len k).1 l2 s2 k2 ⟨#[]⟩ → l = l2 ∧ s = s2 ∧ k = k2 := fun l2 s2 k2 ⟨hm2, hp2, hi2⟩ => by
    have hi3 : wr1 l s (szF k) (wrF k) ++ [] = wr1 l2 s2 (szF k2) (wrF k2) ++ [] := by rw [List.append_nil, ← htl, hi2]; rfl
    have hlen := congrArg List.length hi3
    rw [List.length_append, List.length_append, hl, wr1_sz hm2 (pure_len hp2)] at hlen
    have hpay2 := sz1_pay hm2 (show sz1 l2 s2 (szF k2) ≤ 4000 by simp only [List.length_nil] at hlen; omega)
    obtain ⟨a, b, c, _⟩ := wr1_inj hm hm2 (pure_len hp).symm (pure_len hp2).symm (by omega) (by omega) (fun q => wrF_inj k k2 hp hp2 (by rw [pure_len hp]; omega) q) hi3
    exact ⟨a, b, c⟩
  rcases h with ⟨h4, _⟩ | ⟨_, ⟨l2, s2, p, n, c, k2, rfl, h1, h2, _⟩ | ⟨l2, s2, k2, h1, h2, _⟩ | ⟨hb, _⟩⟩
  · omega
  · obtain ⟨rfl, rfl, rfl⟩ := key l2 s2 k2 h1
    exact ⟨p, n, c, rfl, h2⟩
  · obtain ⟨rfl, rfl, rfl⟩ := key l2 s2 k2 h1
    omega
  · exact absurd htl (hb l s k hm hp)
theorem itIs.inj {t : ByteArray} {l l' : Bool} {s s' : ByteArray} {k k' : Fo} (ht : t.size ≤ 4000) (h : itIs t l s k ⟨#[]⟩) (h' : itIs t l' s' k' ⟨#[]⟩) : l = l' ∧ s = s' ∧ k = k' := by
  obtain ⟨hm, hp, hi⟩ := h
  obtain ⟨hm2, hp2, hi2⟩ := h'
  have hlen := congrArg List.length hi
  have hlen2 := congrArg List.length hi2
  rw [tl_len, List.length_append, wr1_sz hm (pure_len hp)] at hlen
  rw [tl_len, List.length_append, wr1_sz hm2 (pure_len hp2)] at hlen2
  have h1 := sz1_pay hm (show sz1 l s (szF k) ≤ 4000 by omega)
  have h2 := sz1_pay hm2 (show sz1 l' s' (szF k') ≤ 4000 by omega)
  obtain ⟨a, b, c, _⟩ := wr1_inj hm hm2 (pure_len hp).symm (pure_len hp2).symm (by omega) (by omega) (fun q => wrF_inj k k' hp hp2 (by rw [pure_len hp]; omega) q) (hi.symm.trans hi2)
  exact ⟨a, b, c⟩
/-- What is written, is. -/
theorem is_of_enc {l : Bool} {s t : ByteArray} {k : Fo} (h : encS l s k.len k = (t, 0)) : itIs t l s k ⟨#[]⟩ := by
  obtain ⟨he, hm, hp, _⟩ := encS_ok (show (encS l s k.len k).2 = 0 by rw [h])
  refine ⟨hm, hp, ?_⟩
  have e : t = strB (wr1 l s (szF k) (wrF k)) := by rw [← he, h]
  rw [e, tl_strB]; exact (List.append_nil _).symm
end Go.Proofs.YtkkbkpneodecnaaDoor

namespace Go.Proofs.YtkkbkpneodecnaaDoor
open Go Go.RowKit
set_option linter.unusedVariables false
def okParse (form : ByteArray) (v : Value) (T : List (Nat × Obj)) : Prop :=
  (∃ (p : Option Addr) (n c : Nat) (k : Kf), parseM form = some k ∧ v = .tuple #[knd 40 p n c, .bool true] ∧ RIn kS T p n k) ∨
  (parseM form = none ∧ ∃ (g : Nat) (p : Option Addr) (n c : Nat), v = .tuple #[knd g p n c, .bool false])
theorem drop_by (s : ByteArray) (i : Nat) (h : i < s.size) : (tl s).drop i = (tl s).getD i 0 :: (tl s).drop (i + 1) := by
  have h1 : i < (tl s).length := h
  rw [List.drop_eq_getElem_cons h1, List.getD_eq_getElem?_getD, List.getElem?_eq_getElem h1]; rfl
theorem bot_len : ∀ {S : List Sk}, Bot S → 1 ≤ S.length
  | [], h => h.elim
  | e :: r, _ => by simp
set_option maxRecDepth 100000 in
set_option maxHeartbeats 4000000 in
theorem parse_fn (form : ByteArray) : FnT Tryd.prog 9 #[.string form] (fun _ => True) (okParse form) := by
  refine FnT.intro (c := codeOf Tryd.f9) [.cell 2 37, .tmp 3] 101 Tryd.func9 kr kr kr fun w _ => ?_
  have H0 := St.start w
  refine rS [.a, .v] H0 kr fun gs1 w1 H1 => ?_
  clear H0
  refine g_scope kr ?_
  refine g_seq kr ?_
  by_cases h40 : 40 < form.size
  · refine rS [.v, .v, .e (v := .bool (decide ((40 : Int) < ((ByteArray.size form : Nat) : Int)))) (v' := .bool true) (bool_eq (decide_eq_true (by omega)))] H1 kr fun gs2 w2 H2 => ?_
    refine g_cond_t kr kr ?_
    refine rS [.v, .s 0, .v] H2 kr fun gs3 w3 H3 => ?_
    refine rRr [.cell 2 37, .tmp 3] [0] (.tuple #[knd 0 none 0 0, .bool false]) (outT w.heap.size w (okParse form)) H3 kr ?_
    exact ⟨[], .inr ⟨by unfold parseM; rw [if_pos h40], _, _, _, _, rfl⟩, H3.sub (List.nil_sublist _)⟩
  · refine rS [.v, .v, .e (v := .bool (decide ((40 : Int) < ((ByteArray.size form : Nat) : Int)))) (v' := .bool false) (bool_eq (decide_eq_false (by omega)))] H1 kr fun gs2 w2 H2 => ?_
    refine g_cond_f kr kr ?_
    refine g_skip kr ?_
    show WP _ _ _ _ _ _
    refine rS [.v, .nw (fun b => .slice (some ⟨b, 0, none⟩) 1 1) #[.int .u8 40, .slice none 0 0] 37, .v] H2 kr fun gs3 w3 H3 => ?_
    refine g_seq kr ?_
    refine g_label 0 kr ?_
    show WP _ _ _ _ _ _
    refine g_seq kr ?_
    refine rS [.v, .v, .v] H3 kr fun gs4 w4 H4 => ?_
    refine g_block 0 kr ?_
    have H5 : St w.heap.size w w4 (((gs1 0).b, kdO 0 none 0 0) :: ((gs3 1).b, kR #[.int .u8 40, .slice none 0 0]) :: (rowsS [⟨40, none, 0, 0, [], []⟩] ++ [])) := H4.as kr
    have hpm : parseM form = match stepsM (tl form) [(40, .nil)] with | some [(_, m)] => some m | _ => none := by unfold parseM; rw [if_neg h40] <;> rfl
    clear H1 H2 H3 H4
    refine g_loop kr (fun mz ρ ww => ∃ (i : Nat) (st : List (Nat × Kf)), form.size - i = mz ∧ i ≤ form.size ∧ stepsM ((tl form).drop i) st = stepsM (tl form) [(40, .nil)] ∧ OutSt w.heap.size w form (gs1 0).b i st ρ ww) (form.size - 0)
      ⟨0, [(40, .nil)], rfl, Nat.zero_le _, rfl, [⟨40, none, 0, 0, [], []⟩], 1, [], (gs3 1).b, 1, #[.int .u8 40, .slice none 0 0], rfl, .inl ⟨rfl, rfl⟩, by decide, (fun x hx => by
        obtain rfl := List.mem_singleton.1 hx
        exact ⟨.inl ⟨rfl, rfl, rfl, rfl, rfl⟩, (fun _ h => nomatch h), Nat.zero_le _⟩), rfl, ⟨rfl, Nat.le_refl _, by unfold maxLen; omega, rfl, rfl⟩, H5, (Is.of ⟨kr, kr, kr, kr, kr, kr, trivial⟩)⟩ ?_
    clear H5
    rintro _ _ w5 ⟨i, _, rfl, hi, hst, S, N, T, bo, cap, cur, hN, hBot, hN5, hS, rfl, hRw, H6, _, rfl⟩
    by_cases hlt : i < form.size
    · refine rS [.e (v := .bool (decide (((i : Nat) : Int) < ((form.size : Nat) : Int)))) (v' := .bool true) (bool_eq (decide_eq_true (by omega)))] H6 kr fun gs5 w6 H7 => ?_
      refine g_seq kr ?_
      refine g_cond_t kr kr ?_
      refine g_skip kr ?_
      show WP _ _ _ _ _ _
      refine g_seq kr ?_
      refine g_block 1 kr ?_
      have H8 : St w.heap.size w w6 (((gs1 0).b, kdO 0 none 0 0) :: (bo, kR cur) :: (rowsS S ++ T)) := H7.as kr
      have hstep : ∀ x, stepM (by_ form i) (stM S) = x → stepsM (tl form) [(40, .nil)] = match x with | none => none | some st' => stepsM ((tl form).drop (i + 1)) st' := fun x hx => by
        rw [← hst, drop_by form i hlt, ← hx]; rfl
      refine parse_body form (gs1 0).b i (by omega) hlt (by omega) S N T bo cap cur hN hBot hN5 hS hRw _ w6 H8 (Is.of ⟨kr, kr, kr, kr, kr, kr, trivial⟩) ?_ ?_
      · intro hn ρ ww bd o l HS h3 h2
        show ∃ vs, Res _ _ _ _ vs ∧ _
        refine ⟨[.agg #[.int .u8 0, .slice none 0 0], .bool false], (.agg (b := (gs1 0).b) #[.int .u8 0, .slice none 0 0] 37 (0, 0) h2 (HS.get 1 kr) kr (.tmp (.bool false) h3 .nil)), [], .inr ⟨?_, 0, none, 0, 0, rfl⟩, HS.sub (List.nil_sublist _)⟩
        rw [hpm, hstep _ hn]
      · intro S' N' T' bo' cap' cur' ρ ww h1 h2 h3 h4 h5 h6 h7 ⟨_, h8⟩
        subst h8
        show WP _ _ _ _ _ _
        refine rL [.e (v := .int .i64 (IntKind.i64.wrap (((i : Nat) : Int) + 1))) (v' := .int .i64 ((i + 1 : Nat) : Int)) (int_eq (wrapAdd_i64 (a := i) (b := 1) (by omega))), .v] h7 kr fun gs6 w7 H9 => ?_
        show ∃ m, _ ∧ _
        exact ⟨_, (by omega), i + 1, stM S', rfl, hlt, (hstep _ h5).symm, S', N', T', bo', cap', cur', h1, h2, h3, h4, rfl, h6, H9.as kr, (Is.of ⟨kr, kr, kr, kr, kr, kr, trivial⟩)⟩
    · obtain rfl : i = form.size := by omega
      refine rS [.e (v := .bool (decide (((form.size : Nat) : Int) < ((form.size : Nat) : Int)))) (v' := .bool false) (bool_eq (decide_eq_false (by omega)))] H6 kr fun gs5 w6 H7 => ?_
      refine g_seq kr ?_
      refine g_cond_f kr kr ?_
      refine g_exit 0 kr ?_
      show WP _ _ _ _ _ _
      have hb1 := bot_len hBot
      have hend : stepsM (tl form) [(40, .nil)] = some (stM S) := by
        rw [← hst, List.drop_of_length_le (by rw [tl_len]; exact Nat.le_refl _)]; rfl
      rw [hend] at hpm
      obtain ⟨x, hx⟩ : ∃ x, (opE S)[0]? = some x := ⟨_, List.getElem?_eq_getElem (by rw [opE_len]; omega)⟩
      have hat := hRw.atE (S := kS) hx
      by_cases h1 : N = 1
      · refine rS [.v, .o (ins := [((.tmp 95), .slice (some ⟨bo, 0, none⟩) N cap), ((.const (.int .i64 0)), .int .i64 0)]) (v := .pointer (some ⟨bo, 0 + 0 * 2, none⟩)) (fun ρ o w ho hi2 => idxR_run (kd := .i64) (t := 35) (e := 37) (K := 2) (bytes := 32) kr (x := (.tmp 95)) (y := (.const (.int .i64 0))) bo 0 N cap 0 rfl ho hi2.1 hi2.2.1 (by omega) w), .lp 1 (C := cur) (off := 0 * 2) (n := 2) (W := #[.int .u8 ((x.a : Nat) : Int), .slice x.p x.n x.c]) hat.1 hat.2, .v, .v, .e (v := .bool (((N : Nat) : Int) == 1)) (v' := .bool true) (bool_eq (beq_iff_eq.2 (by omega))), .s 0, .v] H7 kr fun gs6 w7 H8 => ?_
        refine rRr [.cell 2 37, .tmp 3] [0] (.tuple #[knd x.a x.p x.n x.c, .bool true]) (outT w.heap.size w (okParse form)) H8 kr ?_
        have H9 : St w.heap.size w w7 (((gs1 0).b, kdO x.a x.p x.n x.c) :: (bo, kR cur) :: (rowsS S ++ T)) := H8.as kr
        rcases S with _ | ⟨e, _ | ⟨e', r⟩⟩
        · exact hBot.elim
        · obtain rfl : e.el = x := by simpa [opE] using hx
          have he := hS e (List.mem_cons_self ..)
          have hg : e.g = 40 := by
            rcases hBot with ⟨_, h⟩ | h
            · exact h
            · exact h.elim
          refine ⟨e.row ++ T, .inl ⟨e.p, e.n, e.c, toFr e.M, ?_, ?_, he.row.rIn (by decide) he.all (by have := he.le; show e.n ≤ 1000; omega)⟩, ?_⟩
          · rw [hpm]; rfl
          · show Value.tuple #[knd e.g e.p e.n e.c, .bool true] = _
            rw [hg]
          · have H10 := H9.sub (List.Sublist.cons _ (List.sublist_cons_self ..))
            have e2 : rowsS [e] ++ T = e.row ++ T := by show (e.row ++ []) ++ T = _; rw [List.append_nil]
            rw [e2] at H10; exact H10
        · exact absurd (hN.symm.trans h1) (by simp)
      · refine rS [.v, .o (ins := [((.tmp 95), .slice (some ⟨bo, 0, none⟩) N cap), ((.const (.int .i64 0)), .int .i64 0)]) (v := .pointer (some ⟨bo, 0 + 0 * 2, none⟩)) (fun ρ o w ho hi2 => idxR_run (kd := .i64) (t := 35) (e := 37) (K := 2) (bytes := 32) kr (x := (.tmp 95)) (y := (.const (.int .i64 0))) bo 0 N cap 0 rfl ho hi2.1 hi2.2.1 (by omega) w), .lp 1 (C := cur) (off := 0 * 2) (n := 2) (W := #[.int .u8 ((x.a : Nat) : Int), .slice x.p x.n x.c]) hat.1 hat.2, .v, .v, .e (v := .bool (((N : Nat) : Int) == 1)) (v' := .bool false) (bool_eq (beq_eq_false_iff_ne.2 (by omega))), .s 0, .v] H7 kr fun gs6 w7 H8 => ?_
        refine rRr [.cell 2 37, .tmp 3] [0] (.tuple #[knd x.a x.p x.n x.c, .bool false]) (outT w.heap.size w (okParse form)) H8 kr ?_
        refine ⟨[], .inr ⟨?_, _, _, _, _, rfl⟩, H8.sub (List.nil_sublist _)⟩
        rw [hpm]
        rcases S with _ | ⟨e, _ | ⟨e', r⟩⟩
        · exact hBot.elim
        · exact absurd hN h1
        · rfl
end Go.Proofs.YtkkbkpneodecnaaDoor

namespace Go.Proofs.YtkkbkpneodecnaaDoor
open Go Go.RowKit
set_option linter.unusedVariables false
def recV (x : ByteArray × Nat) : Value := .tuple #[.string x.1, .int .i64 ((x.2 : Nat) : Int)]
set_option maxRecDepth 100000 in
set_option maxHeartbeats 4000000 in
theorem written_fn (g : Nat) (p : Option Addr) (n c : Nat) (b : Kf) (m : Nat) (s : ByteArray) (p2 : Option Addr) (n2 c2 : Nat) (l : Fe) (hm : m < 18446744073709551616) (hs : s.size ≤ 140737488355328) :
    FnP Tryd.prog 10 #[knd g p n c, fld m s p2 n2 c2] (fun w => SlR kS w.heap.size w p n b ∧ SlR fS w.heap.size w p2 n2 l) (recV (writeM g b (m, s) l)) := by
  refine FnP.intro (c := codeOf Tryd.f10) [.tmp 4, .tmp 5] 16 Tryd.func10 kr kr kr fun w hpre => ?_
  have H0 := St.start w
  obtain ⟨hK, hF⟩ := hpre
  refine rS [.b, .b, .v, .v] H0 kr fun gs1 w1 H1 => ?_
  clear H0
  refine g_seq kr ?_
  unfold writeM
  by_cases hl : left1 g b (m, s) l 1001 < 0
  · rw [if_pos hl]
    refine rS [.l 0, .l 1, .cp (pre := fun w => SlR kS w.heap.size w p n b ∧ SlR fS w.heap.size w p2 n2 l) (fleft_fn l g p n c b m s p2 n2 c2 1001) [] (fun w hb hd => ⟨hK.call hb, hF.call hb⟩), .e (v := .bool (decide (left1 g b (m, s) l 1001 < 0))) (v' := .bool true) (bool_eq (decide_eq_true hl))] H1 kr fun gs2 w2 H2 => ?_
    refine g_cond_t kr kr ?_
    refine rS [.v, .v] H2 kr fun gs3 w3 H3 => ?_
    exact rR [.tmp 4, .tmp 5] [] (recV (⟨#[]⟩, 1)) H3 kr
  · rw [if_neg hl]
    refine rS [.l 0, .l 1, .cp (pre := fun w => SlR kS w.heap.size w p n b ∧ SlR fS w.heap.size w p2 n2 l) (fleft_fn l g p n c b m s p2 n2 c2 1001) [] (fun w hb hd => ⟨hK.call hb, hF.call hb⟩), .e (v := .bool (decide (left1 g b (m, s) l 1001 < 0))) (v' := .bool false) (bool_eq (decide_eq_false hl))] H1 kr fun gs2 w2 H2 => ?_
    refine g_cond_f kr kr ?_
    refine g_skip kr ?_
    show WP _ _ _ _ _ _
    refine g_sreg [0, 1, 2, 3, 4, 5, 6, 7] kr kr ?_
    refine rp [.l 0, .l 1] H2 kr fun gs3 w3 H3 => ?_
    show WPs _ _ _ _ [2, 3, 4, 5, 6, 7] _ _
    refine s_callFT H3 (some 12) 15 #[knd g p n c, fld m s p2 n2 c2] (itemOf_fn l g p n c b m s p2 n2 c2 1001 hm (Int.not_lt.1 hl)) ⟨hK.call H3.below, hF.call H3.below⟩ kr kr ?_
    intro v T w4 hok H4
    obtain ⟨q1, q2, q3, rfl, hsl⟩ := hok
    refine s_callP H4 (some 13) 14 #[itm (lstM g) (bytM g (m, s)) q1 q2 q3] _ _ (encode_fn (lstM g) (bytM g (m, s)) q1 q2 q3 (item1 g b l) (bytM_size hs)) (hsl.at H4 fun e he => List.mem_append_left _ he) (fun w => by kernel_rfl) kr ?_
    intro w5 H5
    rw [hsl.1]
    have H6 := H5.sub (List.nil_sublist _)
    refine rp [.v, .v, .v, .v] H6 kr fun gs4 w6 H7 => ?_
    show WPs _ _ _ _ [] _ _
    refine s_nil ?_
    exact rR [.tmp 4, .tmp 5] [] (recV (encS (lstM g) (bytM g (m, s)) (item1 g b l).len (item1 g b l))) H7 kr
def wrV (form : ByteArray) (l : Fe) : ByteArray × Nat := match parseM form with
  | none => (⟨#[]⟩, 1)
  | some k => writeM 40 k (0, ⟨#[]⟩) l
set_option maxRecDepth 100000 in
set_option maxHeartbeats 4000000 in
theorem fWrite_fn (form : ByteArray) (p : Option Addr) (n c : Nat) (l : Fe) : FnP Tryd.prog 5 #[.string form, .slice p n c] (fun w => SlR fS w.heap.size w p n l) (recV (wrV form l)) := by
  refine FnP.intro (c := codeOf Tryd.f5) [.tmp 4, .tmp 5] 21 Tryd.func5 kr kr kr fun w hF => ?_
  have H0 := St.start w
  refine rS [.v, .v] H0 kr fun gs1 w1 H1 => ?_
  clear H0
  refine g_sreg [0, 1, 2, 3, 4, 5, 6, 7] kr kr ?_
  refine rp [.v] H1 kr fun gs2 w2 H2 => ?_
  show WPs _ _ _ _ [1, 2, 3, 4, 5, 6, 7] _ _
  refine s_callFT H2 (some 10) 9 #[.string form] (parse_fn form) trivial kr kr ?_
  intro v T w3 hok H3
  unfold wrV
  rcases hok with ⟨q1, q2, q3, k, hp, rfl, hk⟩ | ⟨hp, g', q1, q2, q3, rfl⟩
  · rw [hp]
    refine rp [.v, .v, .v] H3 kr fun gs3 w4 H4 => ?_
    show WPs _ _ _ _ [5, 6, 7] _ _
    have H5 : St w.heap.size w w4 (T ++ []) := H4.as kr
    refine s_alloc H5 (some 6) 37 (.agg #[.int .u8 0, .slice none 0 0]) kr kr kr ?_
    intro b6 w5 H6
    refine rp [.s 0, .v] H6 kr fun gs4 w6 H7 => ?_
    show WPs _ _ _ _ [] _ _
    refine s_nil ?_
    refine g_seq kr ?_
    refine rS [.v, .v] H7 kr fun gs5 w7 H8 => ?_
    refine g_cond_f kr kr ?_
    refine g_skip kr ?_
    show WP _ _ _ _ _ _
    refine g_sreg [0, 1, 2, 3, 4, 5, 6, 7] kr kr ?_
    refine rp [.l 0, .v, .v] H8 kr fun gs6 w8 H9 => ?_
    show WPs _ _ _ _ [3, 4, 5, 6, 7] _ _
    have H10 : St w.heap.size w w8 ((b6, kdO 40 q1 q2 q3) :: (T ++ [])) := H9.as kr
    refine s_callP H10 (some 18) 10 #[knd 40 q1 q2 q3, fld 0 ⟨#[]⟩ p n c] _ _ (written_fn 40 q1 q2 q3 k 0 ⟨#[]⟩ p n c l (by decide) (by decide)) ⟨hk.at H10 fun e he => List.mem_cons_of_mem _ (List.mem_append_left _ he), hF.call H10.below⟩ (fun w => by kernel_rfl) kr ?_
    intro w9 H11
    have H12 := H11.sub (List.nil_sublist _)
    refine rp [.v, .v, .v, .v] H12 kr fun gs7 w10 H13 => ?_
    show WPs _ _ _ _ [] _ _
    refine s_nil ?_
    exact rR [.tmp 4, .tmp 5] [] (recV (writeM 40 k (0, ⟨#[]⟩) l)) H13 kr
  · rw [hp]
    refine rp [.v, .v, .v] H3 kr fun gs3 w4 H4 => ?_
    show WPs _ _ _ _ [5, 6, 7] _ _
    have H5 : St w.heap.size w w4 (T ++ []) := H4.as kr
    refine s_alloc H5 (some 6) 37 (.agg #[.int .u8 0, .slice none 0 0]) kr kr kr ?_
    intro b6 w5 H6
    refine rp [.s 0, .v] H6 kr fun gs4 w6 H7 => ?_
    show WPs _ _ _ _ [] _ _
    refine s_nil ?_
    refine g_seq kr ?_
    refine rS [.v, .v] H7 kr fun gs5 w7 H8 => ?_
    refine g_cond_t kr kr ?_
    have H9 := H8.sub (List.nil_sublist _)
    refine rS [.v, .v] H9 kr fun gs6 w8 H10 => ?_
    exact rR [.tmp 4, .tmp 5] [] (recV (⟨#[]⟩, 1)) H10 kr
/-- What Read answers. -/
def okRd (form s : ByteArray) (v : Value) (T : List (Nat × Obj)) : Prop :=
  (∃ (p : Option Addr) (n c : Nat) (l : Fe) (k : Kf), parseM form = some k ∧ v = .tuple #[.slice p n c, .int .i64 0] ∧ RIn fS T p n l ∧ writeM 40 k (0, ⟨#[]⟩) l = (s, 0)) ∨
  (∃ e : Int, e ≠ 0 ∧ v = .tuple #[.slice none 0 0, .int .i64 e] ∧ ∀ (k : Kf) (l : Fe), parseM form = some k → l.all fS.ok → writeM 40 k (0, ⟨#[]⟩) l ≠ (s, 0))
theorem encS_two (l : Bool) (s : ByteArray) (n : Nat) (k : Fo) : (encS l s n k).2 = 0 ∨ (encS l s n k).1 = ⟨#[]⟩ := by
  unfold encS
  split
  · exact .inr rfl
  · split
    · exact .inr rfl
    · split
      · exact .inr rfl
      · exact .inl rfl
theorem writeM_ok {k : Kf} {l : Fe} {s : ByteArray} (h : writeM 40 k (0, ⟨#[]⟩) l = (s, 0)) : ¬ left1 40 k (0, ⟨#[]⟩) l 1001 < 0 ∧ encS true ⟨#[]⟩ (item1 40 k l).len (item1 40 k l) = (s, 0) := by
  unfold writeM at h
  by_cases hl : left1 40 k (0, ⟨#[]⟩) l 1001 < 0
  · rw [if_pos hl] at h; exact absurd (congrArg Prod.snd h) Nat.one_ne_zero
  · rw [if_neg hl] at h; exact ⟨hl, h⟩
theorem writeM_two (k : Kf) (l : Fe) : (writeM 40 k (0, ⟨#[]⟩) l).2 = 0 ∨ (writeM 40 k (0, ⟨#[]⟩) l).1 = ⟨#[]⟩ := by
  unfold writeM
  split
  · exact .inr rfl
  · exact encS_two ..
/-- The fields that have a record are those of its item. -/
theorem field_rec {k : Kf} {l : Fe} {s : ByteArray} {v : Value} {T : List (Nat × Obj)} (h : writeM 40 k (0, ⟨#[]⟩) l = (s, 0)) (ho : l.all fS.ok) (hd : okDec s v T) :
    ∃ (p : Option Addr) (n c : Nat), v = .tuple #[.agg #[.bool true, .string ⟨#[]⟩, .slice p n c], .int .i64 0] ∧ SlIn T p n (item1 40 k l) ∧ field1 40 k (item1 40 k l) = l := by
  obtain ⟨hl, he⟩ := writeM_ok h
  have h1 : (encS true ⟨#[]⟩ (item1 40 k l).len (item1 40 k l)).2 = 0 := by rw [he]
  have h2 : okDec (encS true ⟨#[]⟩ (item1 40 k l).len (item1 40 k l)).1 v T := by rw [he]; exact hd
  obtain ⟨p, n, c, hv, hT⟩ := dec_enc h1 h2
  exact ⟨p, n, c, hv, hT, (writeM_field (by decide) ho hl).2.2⟩
theorem item_ne {t : ByteArray} {l : Bool} {s : ByteArray} {k : Fo} (h : itIs t l s k ⟨#[]⟩) : t ≠ ⟨#[]⟩ := fun e => by
  obtain ⟨hm, hp, hi⟩ := h
  have h1 := (wr1_len hm hp rfl).1
  have h2 := congrArg List.length hi
  rw [e, List.length_append] at h2
  have h3 : (tl (⟨#[]⟩ : ByteArray)).length = 0 := rfl
  omega
end Go.Proofs.YtkkbkpneodecnaaDoor
