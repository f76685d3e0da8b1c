/-
  Texts of the proof, part 3.
-/
import Derived.Test.YtlhfgbjhngkicaaGreatDoorProg
import Derived.ChangeKeysEq
import Derived.Laws.StructEq
import Derived.Laws.Externs
import Derived.Below
import Derived.Test.YtlhfgbjhngkicaaGreatDoorTM1
import Derived.Test.YtlhfgbjhngkicaaGreatDoorTM2

namespace Go.Proofs.YtlhfgbjhngkicaaGreatDoor
open Go Go.RowKit
set_option linter.unusedVariables false
theorem bless_lex : ∀ x y : List UInt8, Op.bytesLess x y = lexB x y
  | [], [] => rfl
  | [], _ :: _ => rfl
  | _ :: _, [] => rfl
  | a :: x, b :: y => by
    unfold Op.bytesLess lexB
    rw [bless_lex x y]
    by_cases h : a.toNat < b.toNat
    · rw [if_pos h, decide_eq_true (show a < b from h)]; rfl
    · rw [if_neg h, decide_eq_false (show ¬ a < b from h)]
      by_cases e : a = b
      · rw [if_pos e, e]; simp
      · rw [if_neg e]; simp [e]
theorem hi_nat (a : UInt8) : (a >>> 4).toNat = a.toNat / 16 := u8_all (p := fun a => (a >>> 4).toNat = a.toNat / 16) (by decide +kernel) a
theorem lo_nat (a : UInt8) : (a &&& 15).toNat = a.toNat % 16 := u8_all (p := fun a => (a &&& 15).toNat = a.toNat % 16) (by decide +kernel) a
/-- Parts stand as their keys. -/
theorem hv_lex : ∀ x y : List UInt8, lexB (hv x) (hv y) = lexB x y
  | [], [] => rfl
  | [], _ :: _ => rfl
  | _ :: _, [] => rfl
  | a :: x, b :: y => by
    simp only [hv, lexB]
    have h1 := hi_nat a; have h2 := hi_nat b; have h3 := lo_nat a; have h4 := lo_nat b
    have e1 : (a >>> 4 = b >>> 4) ↔ a.toNat / 16 = b.toNat / 16 := by rw [← h1, ← h2]; exact ⟨fun h => by rw [h], fun h => UInt8.toNat_inj.1 h⟩
    have e2 : (a &&& 15 = b &&& 15) ↔ a.toNat % 16 = b.toNat % 16 := by rw [← h3, ← h4]; exact ⟨fun h => by rw [h], fun h => UInt8.toNat_inj.1 h⟩
    have e3 : a = b ↔ a.toNat = b.toNat := ⟨fun h => by rw [h], fun h => UInt8.toNat_inj.1 h⟩
    rw [hv_lex x y, h1, h2, h3, h4]
    by_cases c1 : a.toNat / 16 < b.toNat / 16
    · rw [if_pos c1, if_pos (by omega)]
    · rw [if_neg c1]
      by_cases c2 : a.toNat / 16 = b.toNat / 16
      · rw [if_pos (e1.2 c2)]
        by_cases c3 : a.toNat % 16 < b.toNat % 16
        · rw [if_pos c3, if_pos (by omega)]
        · rw [if_neg c3]
          by_cases c4 : a.toNat % 16 = b.toNat % 16
          · rw [if_pos (e2.2 c4), if_neg (by omega), if_pos (e3.2 (by omega))]
          · rw [if_neg (fun h => c4 (e2.1 h)), if_neg (by omega), if_neg (fun h => by have := e3.1 h; omega)]
      · rw [if_neg (fun h => c2 (e1.1 h)), if_neg (by omega), if_neg (fun h => by have := e3.1 h; omega)]
theorem key_rise {L : List Pr} : Rise (entsOf L) ↔ L.Pairwise fun a b => lexB (tl a.1) (tl b.1) = true := by
  unfold Rise entsOf
  rw [List.pairwise_map]
  simp only [hv_lex]
/-- Two nodes are the same. -/
def ndB (x y : Nd) : Bool := (x.kind == y.kind) && ((x.part.toList == y.part.toList) && ((x.value.toList == y.value.toList) && (List.range 16).all fun i => x.kids.getD i (-1) == y.kids.getD i (-1)))
theorem itemsI {P : Program} {w : World} (d e : Nat) (xs ys : Array Value) (f g : Nat → Int) (n : Nat) (he : P.underlying e = some (.int .i64)) (hk : P.plainKey e = true)
    (hx : ∀ i, i < n → xs[i]? = some (.int .i64 (f i))) (hy : ∀ i, i < n → ys[i]? = some (.int .i64 (g i))) :
    ∀ is : List Nat, (∀ i ∈ is, i < n) → (Op.eqItems (d + 1) e 1 xs ys is).run P w = .ok (is.all fun i => f i == g i) w
  | [], _ => by simp [Op.eqItems]
  | i :: is, h => by
    have p1 : (part e xs (i * 1)).run P w = .ok (.int .i64 (f i)) w := by
      rw [Nat.mul_one]; exact run_part_plain w hk (hx i (h i (by simp)))
    have p2 : (part e ys (i * 1)).run P w = .ok (.int .i64 (g i)) w := by
      rw [Nat.mul_one]; exact run_part_plain w hk (hy i (h i (by simp)))
    have p3 : (Op.equalIn (d + 1) e (.int .i64 (f i)) (.int .i64 (g i))).run P w = .ok (f i == g i) w := run_equalIn_int w d e .i64 .i64 _ _ he
    have ih := itemsI (w := w) d e xs ys f g n he hk hx hy is (fun j hj => h j (by simp [hj]))
    simp only [Op.eqItems, Sem.run_bind, p1, p2, p3, Result.andThen_ok, List.all_cons]
    cases f i == g i
    · simp
    · simpa using ih
theorem kids_eq (x y : List Int) (w : World) : (Op.equalIn 9999 56 (.agg (kidC x).toArray) (.agg (kidC y).toArray)).run Tryz.prog w = .ok ((List.range 16).all fun i => x.getD i (-1) == y.getD i (-1)) w := by
  obtain ⟨it, hi, hsz⟩ := Option.map_eq_some_iff.1 (show (Tryz.prog.info? 3).map (·.size) = some 1 by kernel_rfl)
  rw [run_equalIn_array w 9998 _ _ Tryz.underlying56 hi, show Tryz.prog.cellsOf 3 = 1 by kernel_rfl]
  have hg : ∀ (z : List Int) (i : Nat), i < 16 → (kidC z).toArray[i]? = some (.int .i64 (z.getD i (-1))) := fun z i h => by
    rw [List.getElem?_toArray]; exact arrF_get (f := fun j => Value.int .i64 (z.getD j (-1))) h
  exact itemsI 9997 3 _ _ (fun i => x.getD i (-1)) (fun i => y.getD i (-1)) 16 Tryz.underlying3 kr (hg x) (hg y) _ (fun i h => by simpa using h)
theorem eqF_cons {P : Program} {w : World} {d : Nat} {xs ys : Array Value} {f : Field} {fs : List Field} {a b : Value} {r : Bool} (hn : f.name ≠ "_") (ha : (part f.type xs f.offset).run P w = .ok a w) (hb : (part f.type ys f.offset).run P w = .ok b w) (hr : (Op.equalIn d f.type a b).run P w = .ok r w) {q : Bool} (hq : (Op.eqFields d xs ys fs).run P w = .ok q w) :
    (Op.eqFields d xs ys (f :: fs)).run P w = .ok (r && q) w := by
  unfold Op.eqFields
  rw [if_pos hn]
  simp only [Sem.run_bind, ha, hb, hr, Result.andThen_ok]
  cases r
  · simp
  · simpa using hq
theorem node_eq (x y : Nd) (w : World) : (Op.equalIn 10000 58 (.agg (nS.cs x).toArray) (.agg (nS.cs y).toArray)).run Tryz.prog w = .ok (ndB x y) w := by
  rw [run_equalIn_agg w 9999 58 _ _ kr kr]
  have pk : ∀ z : Nd, (part 56 (nS.cs z).toArray 3).run Tryz.prog w = .ok (.agg (kidC z.kids).toArray) w := fun z => by
    obtain ⟨it, hi, hsz⟩ := Option.map_eq_some_iff.1 (show (Tryz.prog.info? 56).map (·.size) = some 16 by kernel_rfl)
    unfold part isAgg
    simp [run_underlying Tryz.underlying56, sizeOf, typeInfo, hi, hsz]
    rfl
  rw [show (Tryz.prog.fieldsOf 58).toList = [{ name := "Kind", type := 3, offset := 0, embedded := false, tag := "", pkgPath := "", byteOffset := 0 }, { name := "Part", type := 9, offset := 1, embedded := false, tag := "", pkgPath := "", byteOffset := 8 }, { name := "Value", type := 9, offset := 2, embedded := false, tag := "", pkgPath := "", byteOffset := 24 }, { name := "Kids", type := 56, offset := 3, embedded := false, tag := "", pkgPath := "", byteOffset := 40 }] by kernel_rfl]
  have e4 : (Op.eqFields 9999 (nS.cs x).toArray (nS.cs y).toArray []).run Tryz.prog w = .ok true w := by simp [Op.eqFields]
  have h := eqF_cons (P := Tryz.prog) (w := w) (d := 9999) (xs := (nS.cs x).toArray) (ys := (nS.cs y).toArray) (f := { name := "Kids", type := 56, offset := 3, embedded := false, tag := "", pkgPath := "", byteOffset := 40 }) (by decide) (pk x) (pk y) (kids_eq x.kids y.kids w) e4
  have h2 := eqF_cons (P := Tryz.prog) (w := w) (d := 9999) (xs := (nS.cs x).toArray) (ys := (nS.cs y).toArray) (f := { name := "Value", type := 9, offset := 2, embedded := false, tag := "", pkgPath := "", byteOffset := 24 }) (a := .string x.value) (b := .string y.value) (by decide) (run_part_plain w kr rfl) (run_part_plain w kr rfl) (run_equalIn_string w 9998 _ _ _ Tryz.underlying9) h
  have h3 := eqF_cons (P := Tryz.prog) (w := w) (d := 9999) (xs := (nS.cs x).toArray) (ys := (nS.cs y).toArray) (f := { name := "Part", type := 9, offset := 1, embedded := false, tag := "", pkgPath := "", byteOffset := 8 }) (a := .string x.part) (b := .string y.part) (by decide) (run_part_plain w kr rfl) (run_part_plain w kr rfl) (run_equalIn_string w 9998 _ _ _ Tryz.underlying9) h2
  have h4 := eqF_cons (P := Tryz.prog) (w := w) (d := 9999) (xs := (nS.cs x).toArray) (ys := (nS.cs y).toArray) (f := { name := "Kind", type := 3, offset := 0, embedded := false, tag := "", pkgPath := "", byteOffset := 0 }) (a := .int .i64 x.kind) (b := .int .i64 y.kind) (by decide) (run_part_plain w kr rfl) (run_part_plain w kr rfl) (run_equalIn_int w 9998 3 .i64 .i64 _ _ Tryz.underlying3) h3
  rw [h4]; unfold ndB; rw [Bool.and_true]
theorem node_neq_run {ρ : Env} (x y : Nd) {a b : Operand} {o : Oper} (w : World) (ho : o.op = .binOp .neq 58 a b 58) (hx : ev ρ a = ndV x) (hy : ev ρ b = ndV y) :
    (execOp (ev ρ) o).run Tryz.prog w = .ok (.value (.bool (!(ndB x y)))) w := by
  have q := node_eq x y w
  have hg := fun X Y => run_eqGuard_agg (P := Tryz.prog) w .neq 58 a b X Y kr
  have hn := fun X Y => run_neq_struct (P := Tryz.prog) w 58 X Y
  unfold ndV at hx hy
  generalize (nS.cs x).toArray = X at q hx
  generalize (nS.cs y).toArray = Y at q hy
  unfold execOp
  simp only [ho, hx, hy, Sem.run_bind, hg, hn, q, Result.andThen_ok, Sem.run_pure]
/-- Rows of nodes are the same. -/
def ndsB : List Nd → List Nd → Bool
  | [], [] => true
  | x :: a, y :: b => ndB x y && ndsB a b
  | _, _ => false
theorem ndB_self (x : Nd) : ndB x x = true := by unfold ndB; simp
end Go.Proofs.YtlhfgbjhngkicaaGreatDoor

namespace Go.Proofs.YtlhfgbjhngkicaaGreatDoor
open Go Go.RowKit
set_option linter.unusedVariables false
def riseB : List Pr → Bool
  | a :: b :: r => lexB (tl a.1) (tl b.1) && riseB (b :: r)
  | _ => true
theorem riseB_iff : ∀ L : List Pr, riseB L = true ↔ L.Pairwise fun a b => lexB (tl a.1) (tl b.1) = true
  | [] => by simp [riseB]
  | [a] => by simp [riseB]
  | a :: b :: r => by
    have ih := riseB_iff (b :: r)
    unfold riseB
    rw [Bool.and_eq_true, ih]
    constructor
    · rintro ⟨h1, h2⟩
      refine List.pairwise_cons.2 ⟨fun x hx => ?_, h2⟩
      rcases List.mem_cons.1 hx with rfl | hx
      · exact h1
      · exact lexB_trans h1 ((List.pairwise_cons.1 h2).1 x hx)
    · intro h
      obtain ⟨h1, h2⟩ := List.pairwise_cons.1 h
      exact ⟨h1 b (List.mem_cons_self ..), h2⟩
theorem riseB_two (a b : Pr) (r : List Pr) : riseB (a :: b :: r) = (lexB (tl a.1) (tl b.1) && riseB (b :: r)) := rfl
theorem PrAt.row {w : World} {p : Option Addr} {n : Nat} {L : List Pr} (h : PrAt w p n L) (h0 : 0 < n) : ∃ b off C T fz, p = some ⟨b, off, none⟩ ∧ w.heap[b]? = some (.cells C T fz) ∧ RowAt pS C off L := by
  rcases h.2 with h2 | h2
  · rw [h.1, h2] at h0; simp at h0
  · exact h2
theorem NdAt.row {w : World} {p : Option Addr} {n : Nat} {L : List Nd} (h : NdAt w p n L) (h0 : 0 < n) : ∃ b off C T fz, p = some ⟨b, off, none⟩ ∧ w.heap[b]? = some (.cells C T fz) ∧ RowAt nS C off L := by
  rcases h.2 with h2 | h2
  · rw [h.1, h2] at h0; simp at h0
  · exact h2
theorem drop_two {α : Type} {L : List α} {i : Nat} {a b : α} (ha : L[i]? = some a) (hb : L[i + 1]? = some b) : L.drop i = a :: b :: L.drop (i + 2) := by
  obtain ⟨h1, e1⟩ := List.getElem?_eq_some_iff.1 ha
  obtain ⟨h2, e2⟩ := List.getElem?_eq_some_iff.1 hb
  rw [List.drop_eq_getElem_cons h1, List.drop_eq_getElem_cons h2, e1, e2]
theorem bl_tl (a b : ByteArray) : Op.bytesLess a.toList b.toList = lexB (tl a) (tl b) := by
  rw [ByteArray.toList_eq, ByteArray.toList_eq]; exact bless_lex _ _
set_option maxRecDepth 100000 in
set_option maxHeartbeats 4000000 in
theorem rise_fn (p : Option Addr) (n c : Nat) (L : List Pr) (hL : L.length ≤ 1000000) : FnP Tryz.prog 43 #[.slice p n c] (fun w => PrAt w p n L) (.bool (riseB L)) := by
  refine FnP.intro (c := codeOf Tryz.f43) [.tmp 2] 22 Tryz.func43 kr kr kr fun w hP => ?_
  have H0 := St.start w
  have hn := hP.1
  refine rS [.v] H0 kr fun gs1 w1 H1 => ?_
  refine g_seq kr ?_
  refine rS [.v] H1 kr fun gs2 w2 H2 => ?_
  refine g_block 0 kr ?_
  have H3 : St w.heap.size w w2 [] := H2.as kr
  refine g_loop kr (fun mz ρ ww => ∃ (i : Nat), n - i = mz ∧ riseB (L.drop i) = riseB L ∧ (i + 1 ≤ n ∨ i = 0) ∧ St w.heap.size w ww [] ∧ Is [(0, .slice p n c), (3, .int .i64 ((i + 1 : Nat) : Int))] ρ) (n - 0) ⟨0, rfl, rfl, .inr rfl, H3, (Is.of ⟨kr, kr, trivial⟩)⟩ ?_
  clear H0 H1 H2 H3
  rintro _ _ w4 ⟨i, rfl, hri, hin, H4, _, rfl⟩
  refine g_seq kr ?_
  refine g_seq kr ?_
  by_cases hi : i + 1 < n
  · refine rL [.v, .v, .v, .e (v := .bool (decide (((i + 1 : Nat) : Int) < ((n : Nat) : Int)))) (v' := .bool true) (bool_eq (decide_eq_true (by omega)))] H4 kr fun gs3 w5 H5 => ?_
    show WP _ _ _ _ _ _
    refine g_cond_t kr kr ?_
    refine g_skip kr ?_
    show WP _ _ _ _ _ _
    obtain ⟨a, ha⟩ : ∃ a, L[i]? = some a := ⟨_, List.getElem?_eq_getElem (by omega)⟩
    obtain ⟨b, hb⟩ : ∃ b, L[i + 1]? = some b := ⟨_, List.getElem?_eq_getElem (by omega)⟩
    obtain ⟨bl, off, C, T, fz, hp, hh, hR⟩ := hP.row (by omega)
    have c1 : C[off + i * 2]? = some (.string a.1) := hR.cell ha 0 (by decide)
    have c2 : C[off + (i + 1) * 2]? = some (.string b.1) := hR.cell hb 0 (by decide)
    have hdr := drop_two ha hb
    have hd1 : L.drop (i + 1) = b :: L.drop (i + 2) := by
      obtain ⟨h2, e2⟩ := List.getElem?_eq_some_iff.1 hb
      rw [List.drop_eq_getElem_cons h2, e2]
    refine g_seq kr ?_
    refine g_block 1 kr ?_
    cases hlt : lexB (tl a.1) (tl b.1) with
    | true =>
      refine g_seq kr ?_
      refine dL [.v, .v, .e (v := .int .i64 (IntKind.i64.wrap (((i + 1 : Nat) : Int) - 1))) (v' := iN i) (int_eq (by rw [show (((i + 1 : Nat) : Int) - 1) = ((i : Nat) : Int) by omega]; exact wrapN_i64 (by omega))), .o (ins := [((.tmp 10), .slice p n c), ((.tmp 12), iN i)]) (v := .pointer (some ⟨bl, off + i * 2, none⟩)) (fun ρ o w ho hi2 => idxP_run (kd := .i64) (t := 23) (e := 48) (K := 2) (bytes := 32) kr (x := (.tmp 10)) (y := (.tmp 12)) bl off n c i hp ho hi2.1 hi2.2.1 (by omega) w), .v, .fs (off := off + i * 2) (v := .string a.1) hh (lt_of_heap hh) c1, .v, .v, .o (ins := [((.tmp 16), .slice p n c), ((.tmp 17), iN (i + 1))]) (v := .pointer (some ⟨bl, off + (i + 1) * 2, none⟩)) (fun ρ o w ho hi2 => idxP_run (kd := .i64) (t := 23) (e := 48) (K := 2) (bytes := 32) kr (x := (.tmp 16)) (y := (.tmp 17)) bl off n c (i + 1) hp ho hi2.1 hi2.2.1 hi w), .v, .fs (off := off + (i + 1) * 2) (v := .string b.1) hh (lt_of_heap hh) c2, .e (v := .bool (!(Op.bytesLess a.1.toList b.1.toList))) (v' := .bool (!true)) (bool_eq (by rw [bl_tl, hlt]))] H5 kr fun w6 H6 => ?_
      show WP _ _ _ _ _ _
      refine g_cond_f kr kr ?_
      refine g_skip kr ?_
      show WP _ _ _ _ _ _
      refine rL [.v, .e (v := .int .i64 (IntKind.i64.wrap (((i + 1 : Nat) : Int) + 1))) (v' := .int .i64 ((i + 1 + 1 : Nat) : Int)) (int_eq (wrapAdd_i64 (a := i + 1) (b := 1) (by omega))), .v] H6 kr fun gs4 w7 H7 => ?_
      show ∃ m, _ ∧ _
      refine ⟨_, (by omega), i + 1, rfl, ?_, .inl (by omega), H7.as kr, (Is.of ⟨kr, kr, trivial⟩)⟩
      rw [← hri, hdr, hd1, riseB_two, hlt]; rfl
    | false =>
      refine g_seq kr ?_
      refine dL [.v, .v, .e (v := .int .i64 (IntKind.i64.wrap (((i + 1 : Nat) : Int) - 1))) (v' := iN i) (int_eq (by rw [show (((i + 1 : Nat) : Int) - 1) = ((i : Nat) : Int) by omega]; exact wrapN_i64 (by omega))), .o (ins := [((.tmp 10), .slice p n c), ((.tmp 12), iN i)]) (v := .pointer (some ⟨bl, off + i * 2, none⟩)) (fun ρ o w ho hi2 => idxP_run (kd := .i64) (t := 23) (e := 48) (K := 2) (bytes := 32) kr (x := (.tmp 10)) (y := (.tmp 12)) bl off n c i hp ho hi2.1 hi2.2.1 (by omega) w), .v, .fs (off := off + i * 2) (v := .string a.1) hh (lt_of_heap hh) c1, .v, .v, .o (ins := [((.tmp 16), .slice p n c), ((.tmp 17), iN (i + 1))]) (v := .pointer (some ⟨bl, off + (i + 1) * 2, none⟩)) (fun ρ o w ho hi2 => idxP_run (kd := .i64) (t := 23) (e := 48) (K := 2) (bytes := 32) kr (x := (.tmp 16)) (y := (.tmp 17)) bl off n c (i + 1) hp ho hi2.1 hi2.2.1 hi w), .v, .fs (off := off + (i + 1) * 2) (v := .string b.1) hh (lt_of_heap hh) c2, .e (v := .bool (!(Op.bytesLess a.1.toList b.1.toList))) (v' := .bool (!false)) (bool_eq (by rw [bl_tl, hlt]))] H5 kr fun w6 H6 => ?_
      show WP _ _ _ _ _ _
      refine g_cond_t kr kr ?_
      refine rS [.v] H6 kr fun gs4 w7 H7 => ?_
      exact rRe [.tmp 2] [] (v := .bool false) (v' := .bool (riseB L)) H7 (bool_eq (by rw [← hri, hdr, riseB_two, hlt]; rfl)) kr
  · refine rL [.v, .v, .v, .e (v := .bool (decide (((i + 1 : Nat) : Int) < ((n : Nat) : Int)))) (v' := .bool false) (bool_eq (decide_eq_false (by omega)))] H4 kr fun gs3 w5 H5 => ?_
    show WP _ _ _ _ _ _
    refine g_cond_f kr kr ?_
    refine g_exit 0 kr ?_
    show WP _ _ _ _ _ _
    refine rS [.v] H5 kr fun gs4 w6 H6 => ?_
    have hl : (L.drop i).length ≤ 1 := by rw [List.length_drop]; omega
    exact rRe [.tmp 2] [] (v := .bool true) (v' := .bool (riseB L)) H6 (bool_eq (by
      rw [← hri]
      match L.drop i, hl with
      | [], _ => rfl
      | [x], _ => rfl)) kr
theorem ndsB_len : ∀ {a b : List Nd}, a.length ≠ b.length → ndsB a b = false
  | [], [], h => absurd rfl h
  | [], _ :: _, _ => rfl
  | _ :: _, [], _ => rfl
  | x :: a, y :: b, h => by
    unfold ndsB
    rw [ndsB_len (a := a) (b := b) (by simpa using h), Bool.and_false]
theorem drop_one {α : Type} {L : List α} {i : Nat} {a : α} (ha : L[i]? = some a) : L.drop i = a :: L.drop (i + 1) := by
  obtain ⟨h1, e1⟩ := List.getElem?_eq_some_iff.1 ha
  rw [List.drop_eq_getElem_cons h1, e1]
set_option maxRecDepth 100000 in
set_option maxHeartbeats 4000000 in
theorem equal_fn (p : Option Addr) (n c : Nat) (A : List Nd) (p' : Option Addr) (n' c' : Nat) (A' : List Nd) (hA : A.length ≤ 1000000000000) :
    FnP Tryz.prog 70 #[.slice p n c, .slice p' n' c'] (fun w => NdAt w p n A ∧ NdAt w p' n' A') (.bool (ndsB A A')) := by
  refine FnP.intro (c := codeOf Tryz.f70) [.tmp 4] 26 Tryz.func70 kr kr kr fun w hP => ?_
  have H0 := St.start w
  obtain ⟨hN, hN'⟩ := hP
  have hn := hN.1
  have hn' := hN'.1
  refine rS [.v] H0 kr fun gs1 w1 H1 => ?_
  refine g_seq kr ?_
  by_cases hne : n = n'
  · obtain rfl := hne
    refine rS [.v, .v, .v, .v, .e (v := .bool (!(((n : Nat) : Int) == ((n : Nat) : Int)))) (v' := .bool false) (bool_eq (by rw [beq_self_eq_true]; rfl))] H1 kr fun gs2 w2 H2 => ?_
    refine g_cond_f kr kr ?_
    refine g_skip kr ?_
    show WP _ _ _ _ _ _
    refine g_seq kr ?_
    refine rS [.v, .v, .v] H2 kr fun gs3 w3 H3 => ?_
    refine g_block 0 kr ?_
    have H4 : St w.heap.size w w3 [] := H3.as kr
    refine g_loop kr (fun mz ρ ww => ∃ (i : Nat), n - i = mz ∧ i ≤ n ∧ ndsB (A.drop i) (A'.drop i) = ndsB A A' ∧ St w.heap.size w ww [] ∧ Is [(0, .slice p n c), (1, .slice p' n c'), (12, iN n), (13, iN i)] ρ) (n - 0) ⟨0, rfl, Nat.zero_le _, rfl, H4, (Is.of ⟨kr, kr, kr, kr, trivial⟩)⟩ ?_
    clear H0 H1 H2 H3 H4
    rintro _ _ w4 ⟨i, rfl, hin, heq, H5, _, rfl⟩
    by_cases hi : i < n
    · refine rS [.e (v := .bool (decide (((i : Nat) : Int) < ((n : Nat) : Int)))) (v' := .bool true) (bool_eq (decide_eq_true (by omega)))] H5 kr fun gs4 w5 H6 => ?_
      refine g_seq kr ?_
      refine g_cond_t kr kr ?_
      refine g_skip kr ?_
      show WP _ _ _ _ _ _
      obtain ⟨x, hx⟩ : ∃ x, A[i]? = some x := ⟨_, List.getElem?_eq_getElem (by omega)⟩
      obtain ⟨y, hy⟩ : ∃ y, A'[i]? = some y := ⟨_, List.getElem?_eq_getElem (by omega)⟩
      obtain ⟨b1, o1, C1, T1, fz1, hp1, hh1, hR1⟩ := hN.row (by omega)
      obtain ⟨b2, o2, C2, T2, fz2, hp2, hh2, hR2⟩ := hN'.row (by omega)
      rw [drop_one hx, drop_one hy] at heq
      refine g_seq kr ?_
      refine g_block 1 kr ?_
      refine rS [.v, .v] H6 kr fun gs5 w6 H7 => ?_
      refine g_seq kr ?_
      cases hb : ndB x y with
      | true =>
        refine dL [.v, .v, .o (ins := [((.tmp 16), .slice p n c), ((.tmp 17), iN i)]) (v := .pointer (some ⟨b1, o1 + i * 19, none⟩)) (fun ρ o w ho hi2 => idxP_run (kd := .i64) (t := 24) (e := 58) (K := 19) (bytes := 168) kr (x := (.tmp 16)) (y := (.tmp 17)) b1 o1 n c i hp1 ho hi2.1 hi2.2.1 (by omega) w), .fp (off := o1 + i * 19) (n := 19) (W := (nS.cs x).toArray) hh1 (lt_of_heap hh1) (hR1 i x hx).1 (hR1 i x hx).2, .v, .v, .o (ins := [((.tmp 20), .slice p' n c'), ((.tmp 21), iN i)]) (v := .pointer (some ⟨b2, o2 + i * 19, none⟩)) (fun ρ o w ho hi2 => idxP_run (kd := .i64) (t := 24) (e := 58) (K := 19) (bytes := 168) kr (x := (.tmp 20)) (y := (.tmp 21)) b2 o2 n c' i hp2 ho hi2.1 hi2.2.1 (by omega) w), .fp (off := o2 + i * 19) (n := 19) (W := (nS.cs y).toArray) hh2 (lt_of_heap hh2) (hR2 i y hy).1 (hR2 i y hy).2, .oe (ins := [((.tmp 19), ndV x), ((.tmp 23), ndV y)]) (v := .bool (!(ndB x y))) (v' := .bool (!true)) (fun ρ o w ho hi2 => node_neq_run x y w ho hi2.1 hi2.2.1) (by rw [hb])] H7 kr fun w7 H8 => ?_
        show WP _ _ _ _ _ _
        refine g_cond_f kr kr ?_
        refine g_skip kr ?_
        show WP _ _ _ _ _ _
        refine rL [.e (v := .int .i64 (IntKind.i64.wrap (((i : Nat) : Int) + 1))) (v' := .int .i64 ((i + 1 : Nat) : Int)) (int_eq (wrapAdd_i64 (a := i) (b := 1) (by omega))), .v] H8 kr fun gs7 w10 H9 => ?_
        show ∃ m, _ ∧ _
        refine ⟨_, (by omega), i + 1, rfl, hi, ?_, H9.as kr, (Is.of ⟨kr, kr, kr, kr, trivial⟩)⟩
        rw [← heq]; simp only [ndsB, hb, Bool.true_and]
      | false =>
        refine dL [.v, .v, .o (ins := [((.tmp 16), .slice p n c), ((.tmp 17), iN i)]) (v := .pointer (some ⟨b1, o1 + i * 19, none⟩)) (fun ρ o w ho hi2 => idxP_run (kd := .i64) (t := 24) (e := 58) (K := 19) (bytes := 168) kr (x := (.tmp 16)) (y := (.tmp 17)) b1 o1 n c i hp1 ho hi2.1 hi2.2.1 (by omega) w), .fp (off := o1 + i * 19) (n := 19) (W := (nS.cs x).toArray) hh1 (lt_of_heap hh1) (hR1 i x hx).1 (hR1 i x hx).2, .v, .v, .o (ins := [((.tmp 20), .slice p' n c'), ((.tmp 21), iN i)]) (v := .pointer (some ⟨b2, o2 + i * 19, none⟩)) (fun ρ o w ho hi2 => idxP_run (kd := .i64) (t := 24) (e := 58) (K := 19) (bytes := 168) kr (x := (.tmp 20)) (y := (.tmp 21)) b2 o2 n c' i hp2 ho hi2.1 hi2.2.1 (by omega) w), .fp (off := o2 + i * 19) (n := 19) (W := (nS.cs y).toArray) hh2 (lt_of_heap hh2) (hR2 i y hy).1 (hR2 i y hy).2, .oe (ins := [((.tmp 19), ndV x), ((.tmp 23), ndV y)]) (v := .bool (!(ndB x y))) (v' := .bool (!false)) (fun ρ o w ho hi2 => node_neq_run x y w ho hi2.1 hi2.2.1) (by rw [hb])] H7 kr fun w7 H8 => ?_
        show WP _ _ _ _ _ _
        refine g_cond_t kr kr ?_
        refine rS [.v] H8 kr fun gs6 w8 H9 => ?_
        exact rRe [.tmp 4] [] (v := .bool false) (v' := .bool (ndsB A A')) H9 (bool_eq (by rw [← heq]; simp only [ndsB, hb, Bool.false_and])) kr
    · refine rS [.e (v := .bool (decide (((i : Nat) : Int) < ((n : Nat) : Int)))) (v' := .bool false) (bool_eq (decide_eq_false (by omega)))] H5 kr fun gs4 w5 H6 => ?_
      refine g_seq kr ?_
      refine g_cond_f kr kr ?_
      refine g_exit 0 kr ?_
      show WP _ _ _ _ _ _
      refine rS [.v] H6 kr fun gs5 w6 H7 => ?_
      exact rRe [.tmp 4] [] (v := .bool true) (v' := .bool (ndsB A A')) H7 (bool_eq (by rw [← heq, List.drop_of_length_le (by omega), List.drop_of_length_le (by omega)]; rfl)) kr
  · refine rS [.v, .v, .v, .v, .e (v := .bool (!(((n : Nat) : Int) == ((n' : Nat) : Int)))) (v' := .bool true) (bool_eq (by rw [beq_eq_false_iff_ne.2 (by omega)]; rfl))] H1 kr fun gs2 w2 H2 => ?_
    refine g_cond_t kr kr ?_
    refine rS [.v] H2 kr fun gs3 w3 H3 => ?_
    exact rRe [.tmp 4] [] (v := .bool false) (v' := .bool (ndsB A A')) H3 (bool_eq (ndsB_len (by omega)).symm) kr
set_option maxRecDepth 100000 in
set_option maxHeartbeats 4000000 in
theorem same_fn (p : Option Addr) (n c : Nat) (a : Int) (A : List Nd) (p' : Option Addr) (n' c' : Nat) (a' : Int) (A' : List Nd) (hA : A.length ≤ 1000000000000) :
    FnP Tryz.prog 44 #[.agg #[.slice p n c, .int .i64 a], .agg #[.slice p' n' c', .int .i64 a']] (fun w => NdAt w p n A ∧ NdAt w p' n' A') (.bool (decide (a = a') && ndsB A A')) := by
  refine FnP.intro (c := codeOf Tryz.f44) [.tmp 4] 17 Tryz.func44 kr kr kr fun w hP => ?_
  have H0 := St.start w
  refine rS [.b, .b, .v] H0 kr fun gs1 w1 H1 => ?_
  by_cases h : a = a'
  · refine rS [.v, .l 0, .v, .l 1, .e (v := .bool (a == a')) (v' := .bool true) (bool_eq (beq_iff_eq.2 h)), .v, .v, .l 0, .v, .l 1, .cp (pre := fun w => NdAt w p n A ∧ NdAt w p' n' A') (equal_fn p n c A p' n' c' A' hA) [] (fun w hb hd => ⟨hP.1.call hb, hP.2.call hb⟩), .v, .v] H1 kr fun gs2 w2 H2 => ?_
    exact rRe [.tmp 4] [] (v := .bool (ndsB A A')) (v' := .bool (decide (a = a') && ndsB A A')) H2 (bool_eq (by rw [decide_eq_true h]; rfl)) kr
  · refine rS [.v, .l 0, .v, .l 1, .e (v := .bool (a == a')) (v' := .bool false) (bool_eq (beq_eq_false_iff_ne.2 h)), .v, .n, .n, .n, .n, .n, .v, .v] H1 kr fun gs2 w2 H2 => ?_
    exact rRe [.tmp 4] [] (v := .bool false) (v' := .bool (decide (a = a') && ndsB A A')) H2 (bool_eq (by rw [decide_eq_false h]; rfl)) kr
end Go.Proofs.YtlhfgbjhngkicaaGreatDoor

namespace Go.Proofs.YtlhfgbjhngkicaaGreatDoor
open Go Go.RowKit
set_option linter.unusedVariables false
theorem kidsR_may {go : Int → List UInt8 → Nat × List Pr → Nat × List Pr} (hg : ∀ a p s, ∀ x ∈ (go a p s).2, x ∈ s.2 ∨ mayM x.1 x.2 = true) (nd : Nd) (part : List UInt8) : ∀ (n : Nat) (s : Nat × List Pr), ∀ x ∈ (kidsR go nd part n s).2, x ∈ s.2 ∨ mayM x.1 x.2 = true
  | 0, s, x, hx => .inl hx
  | n + 1, s, x, hx => by
    unfold kidsR at hx
    split at hx
    · exact kidsR_may hg nd part n s x hx
    · rcases hg _ _ _ x hx with h | h
      · exact kidsR_may hg nd part n s x h
      · exact .inr h
theorem walkM_may (A : List Nd) : ∀ (f : Nat) (a : Int) (p : List UInt8) (s : Nat × List Pr), ∀ x ∈ (walkM A f a p s).2, x ∈ s.2 ∨ mayM x.1 x.2 = true
  | 0, _, _, s, x, hx => .inl hx
  | f + 1, a, p, s, x, hx => by
    unfold walkM at hx
    split at hx
    · exact .inl hx
    · cases hn : A[a.toNat]? with
      | none => rw [hn] at hx; exact .inl hx
      | some nd =>
        rw [hn] at hx
        simp only at hx
        split at hx
        · exact .inl hx
        · rcases kidsR_may (walkM_may A f) nd _ 16 _ x hx with h | h
          · unfold foundM at h
            simp only at h
            split at h
            · rename_i hm
              rcases List.mem_append.1 h with h | h
              · exact .inl h
              · obtain rfl := List.mem_singleton.1 h; exact .inr hm
            · exact .inl h
          · exact .inr h
theorem may_size {k v : ByteArray} (h : mayM k v = true) : (1 ≤ k.size ∧ k.size ≤ 32) ∧ 1 ≤ v.size ∧ v.size ≤ 500 := by
  unfold mayM at h
  simp only [Bool.and_eq_true, decide_eq_true_eq] at h
  exact h
def walked (A : List Nd) (root : Int) : List Pr := (walkM A 192 root [] (192, [])).2
def builtM (L : List Pr) : List Nd × Int := layM 65 (entsOf L) []
def readM (A : List Nd) (root : Int) : Option (List Pr) :=
  if (walked A root).length ≤ 64 ∧ riseB (walked A root) = true ∧ (decide ((builtM (walked A root)).2 = root) && ndsB (builtM (walked A root)).1 A) = true then some (walked A root) else none
theorem walked_may (A : List Nd) (root : Int) : ∀ x ∈ walked A root, mayM x.1 x.2 = true := fun x hx => (walkM_may A 192 root [] (192, []) x hx).resolve_left (by simp)
theorem walked_len (A : List Nd) (root : Int) : (walked A root).length ≤ 192 := by
  have := (walkM_less A 192 root [] (192, [])).2
  unfold walked; simp only [List.length_nil] at this; omega
theorem RowF.prAt {ty : TypeId} {p : Option Addr} {n c : Nat} {row : List (Nat × Obj)} {L : List Pr} (h : RowF pS ty p n c row L) {B : Nat} {w0 w : World} {l : List (Nat × Obj)} (hS : St B w0 w l) (hl : ∀ e ∈ row, e ∈ l) : PrAt w p n L := by
  refine ⟨h.len.symm, ?_⟩
  rcases h with ⟨_, _, _, _, hA⟩ | ⟨b, cur, hp, rfl, hr⟩
  · exact .inl hA
  · exact .inr ⟨b, 0, cur, ty, (0, 0), hp, (hS.own _ (hl _ (List.mem_cons_self ..))).2, hr.rowAt⟩
def okRead (r : Option (List Pr)) (v : Value) (T : List (Nat × Obj)) : Prop := match r with
  | none => v = .tuple #[.slice none 0 0, .bool false]
  | some L => ∃ (p : Option Addr) (n c : Nat), v = .tuple #[.slice p n c, .bool true] ∧ RowF pS 48 p n c T L
theorem D2.two.get {k : Nat} {Pre : World → Prop} {Post : D2.Gh → World → Prop} {L : Nat → Bool} {g : Nat → D2.Gh} {w : World} {Φ : Prop} (h : D2.two k Pre Post L g w) (h1 : Pre w → Φ) (h2 : ∀ x, Post x w → Φ) : Φ := by
  unfold D2.two at h
  cases hk : L k with
  | true => rw [hk] at h; exact h2 _ h
  | false => rw [hk] at h; exact h1 h
def pG (y : D2.Gh) : Option Addr := match y.l with
  | [] => none
  | _ => some ⟨y.b, 0, none⟩
set_option maxRecDepth 100000 in
set_option maxHeartbeats 4000000 in
theorem read_fn (p : Option Addr) (n c : Nat) (root : Int) (A : List Nd) (hA : ∀ x ∈ A, x.part.size ≤ 140737488355328) (hAl : A.length ≤ 1000000000000) :
    FnT Tryz.prog 25 #[.agg #[.slice p n c, .int .i64 root]] (fun w => NdAt w p n A) (okRead (readM A root)) := by
  refine FnT.intro (c := codeOf Tryz.f25) [.tmp 2, .tmp 3] 31 Tryz.func25 kr kr kr fun w hN => ?_
  have hN0 := hN
  have H0 := St.start w
  refine rS [.b, .v, .v] H0 kr fun gs1 w1 H1 => ?_
  refine rS [.v, .l 0, .v, .a, .s 1] H1 kr fun gs2 w2 H2 => ?_
  have H3 : St w.heap.size w w2 [((gs1 0).b, trO p n c root), ((gs2 3).b, rdO p n c none 0 0 192)] := H2.as kr
  refine g_sreg [0, 1, 2] kr kr ?_
  refine rp [.v, .l 0] H3 kr fun gs3 w3 H4 => ?_
  show WPs _ _ _ _ [2] _ _
  have H5 : St w.heap.size w w3 [((gs1 0).b, trO p n c root), ((gs2 3).b, rdO p n c none 0 0 192)] := H4.as kr
  have R1 : Rdr w.heap.size w w3 (gs2 3).b p n c (192, []) [((gs1 0).b, trO p n c root)] := ⟨none, 0, 0, [], .inl ⟨rfl, rfl, rfl, rfl, rfl⟩, H5.perm (List.Perm.swap _ _ _)⟩
  refine s_callC (some 10) 42 #[.pointer (some ⟨(gs2 3).b, 0, none⟩), .int .i64 root, .string ⟨#[]⟩] (walk_all A hA 192 root [] (gs2 3).b p n c (192, []) R1 ((NdS.below hN).mono (fun _ h => nomatch h)) (Nat.le_refl _) (by simp) (by simp)) kr kr ?_
  rintro _ w4 ⟨p2, n2, c2, row, hrow, H6⟩
  refine s_nil ?_
  have hwl := walked_len A root
  have hwm := walked_may A root
  obtain ⟨L, hL⟩ : ∃ L, walked A root = L := ⟨_, rfl⟩
  have hrow' : RowF pS 48 p2 n2 c2 row L := by rw [← hL]; exact hrow
  obtain ⟨lf, hlf⟩ : ∃ lf, (walkM A 192 root [] (192, [])).1 = lf := ⟨_, rfl⟩
  have H7 : St w.heap.size w w4 (((gs2 3).b, rdO p n c p2 n2 c2 lf) :: ((gs1 0).b, trO p n c root) :: row) := by
    rw [← hlf]; exact H6.perm (List.Perm.cons _ (List.perm_append_comm (l₁ := [((gs1 0).b, trO p n c root)]) (l₂ := row)))
  have hrm : readM A root = if L.length ≤ 64 ∧ riseB L = true ∧ (decide ((builtM L).2 = root) && ndsB (builtM L).1 A) = true then some L else none := by rw [← hL]; rfl
  rw [hL] at hwl hwm
  rw [hrm]
  have hn2 := hrow'.len
  clear H0 H1 H2 H3 H4 H5 H6 hrow R1 hrm
  refine g_keep [1, 4] fun ρ1 => ?_
  refine g_seq kr ?_
  refine g_seq kr ?_
  by_cases h64 : 64 < n2
  · rw [if_neg (fun h => by omega)]
    refine dL [.v, .l 0, .v, .e (v := .bool (decide ((64 : Int) < ((n2 : Nat) : Int)))) (v' := .bool true) (bool_eq (decide_eq_true (by omega))), .v, .n, .n, .n, .n, .v, .v, .n, .n, .n, .n, .n, .n, .v] H7 kr fun w5 H8 => ?_
    show WP _ _ _ _ _ _
    refine g_cond_t kr kr ?_
    refine rS [.v, .v] H8 kr fun gs4 w6 H9 => ?_
    refine rRr [.tmp 2, .tmp 3] [] (.tuple #[.slice none 0 0, .bool false]) (outT w.heap.size w (okRead none)) H9 kr ?_
    exact ⟨[], rfl, H9.sub (List.nil_sublist _)⟩
  · have hmemR : ∀ e ∈ row, e ∈ ((gs2 3).b, rdO p n c p2 n2 c2 lf) :: ((gs1 0).b, trO p n c root) :: row := fun e he => List.mem_cons_of_mem _ (List.mem_cons_of_mem _ he)
    have hrise := rise_fn p2 n2 c2 L (by omega)
    cases hrb : riseB L with
    | false =>
      rw [hrb] at hrise
      rw [if_neg (fun h => by simp at h)]
      refine D2.g_draw0 [0, 1, 2, 3, 4, 5, 6, 7, 8, 9, 10, 11, 12, 13, 14, 15, 16, 17] [(some 11, fun _ => .pointer (some ⟨(gs2 3).b, 1, none⟩)), (some 12, fun _ => .slice p2 n2 c2), (some 13, fun _ => iN n2), (some 14, fun _ => .bool false), (some 15, fun _ => .bool false), (some 16, fun _ => .pointer (some ⟨(gs2 3).b, 1, none⟩)), (some 17, fun _ => .slice p2 n2 c2), (some 18, fun _ => .bool false), (some 19, fun _ => .bool true), (some 20, fun _ => .bool true), (some 21, fun _ => .bool true), (some 22, fun _ => undef), (some 23, fun _ => undef), (some 24, fun _ => undef), (some 25, fun _ => undef), (some 26, fun _ => undef), (some 27, fun _ => undef), (some 28, fun _ => .bool true)]
        (fun _ _ ww => St w.heap.size w ww (((gs2 3).b, rdO p n c p2 n2 c2 lf) :: ((gs1 0).b, trO p n c root) :: row)) kr kr kr H7.drew ⟨?_, ?_, ?_, ?_, ?_, ?_, ?_, ?_, ?_, ?_, ?_, ?_, ?_, ?_, ?_, ?_, ?_, ?_, trivial⟩ ?_
      · exact D2.gv_val (fun _ _ _ h => h) (fun g w => by kernel_rfl)
      · exact D2.gv_ld (fun _ _ _ h => h) 23 (.tmp 11) (fun _ => (gs2 3).b) 1 #[.slice p n c, .slice p2 n2 c2, .int .i64 ((lf : Nat) : Int)] 80 (0, 0) (fun g => by kernel_rfl) (fun g => by kernel_rfl) (fun L g w hN hp => St.get hp 0 kr) kr kr
      · exact D2.gv_val (fun _ _ _ h => h) (fun g w => by kernel_rfl)
      · exact D2.gv_valE (fun _ _ _ h => h) (fun g w => by kernel_rfl) (bool_eq (decide_eq_false (p := (64 : Int) < ((n2 : Nat) : Int)) (by omega)))
      · exact D2.gv_val (fun _ _ _ h => h) (fun g w => by kernel_rfl)
      · exact D2.gv_val (fun _ _ _ h => h) (fun g w => by kernel_rfl)
      · exact D2.gv_ld (fun _ _ _ h => h) 23 (.tmp 16) (fun _ => (gs2 3).b) 1 #[.slice p n c, .slice p2 n2 c2, .int .i64 ((lf : Nat) : Int)] 80 (0, 0) (fun g => by kernel_rfl) (fun g => by kernel_rfl) (fun L g w hN hp => St.get hp 0 kr) kr kr
      · exact D2.gv_cpW (fun _ _ _ h => h) 43 #[.slice p2 n2 c2] hrise (fun L g w hN hp => hrow'.prAt hp hmemR) (fun L g w w' hN hp hb => St.call hp hb) (fun g w => by kernel_rfl)
      · exact D2.gv_val (fun _ _ _ h => h) (fun g w => by kernel_rfl)
      · exact D2.gv_val (fun _ _ _ h => h) (fun g w => by kernel_rfl)
      · exact D2.gv_val (fun _ _ _ h => h) (fun g w => by kernel_rfl)
      · exact D2.gv_not (fun _ _ _ h => h) (fun g => by kernel_rfl)
      · exact D2.gv_not (fun _ _ _ h => h) (fun g => by kernel_rfl)
      · exact D2.gv_not (fun _ _ _ h => h) (fun g => by kernel_rfl)
      · exact D2.gv_not (fun _ _ _ h => h) (fun g => by kernel_rfl)
      · exact D2.gv_not (fun _ _ _ h => h) (fun g => by kernel_rfl)
      · exact D2.gv_not (fun _ _ _ h => h) (fun g => by kernel_rfl)
      · exact D2.gv_val (fun _ _ _ h => h) (fun g w => by kernel_rfl)
      · intro L1 gg w5 hall H8
        show WP _ _ _ _ _ _
        refine g_cond_t kr kr ?_
        refine rS [.v, .v] H8 kr fun gs4 w6 H9 => ?_
        refine rRr [.tmp 2, .tmp 3] [] (.tuple #[.slice none 0 0, .bool false]) (outT w.heap.size w (okRead none)) H9 kr ?_
        exact ⟨[], rfl, H9.sub (List.nil_sublist _)⟩
    | true =>
      rw [hrb] at hrise
      have hbuild := build_fn p2 n2 c2 L (by omega) (fun x hx => (may_size (hwm x hx)).1.2) (key_rise.2 ((riseB_iff L).1 hrb))
      obtain ⟨sb, hsb⟩ : ∃ sb, (decide ((builtM L).2 = root) && ndsB (builtM L).1 A) = sb := ⟨_, rfl⟩
      have hbl : (builtM L).1.length ≤ 1000000000000 := by
        have := layM_len 65 (entsOf L) []
        have h2 : (entsOf L).length = L.length := by unfold entsOf; rw [List.length_map]
        unfold builtM
        simp only [List.length_nil] at this; omega
      rw [hsb]
      have hif : (if L.length ≤ 64 ∧ true = true ∧ sb = true then some L else none) = if sb = true then some L else none := by
        cases sb
        · rw [if_neg (fun h => by simp at h), if_neg (by decide)]
        · rw [if_pos ⟨by omega, rfl, rfl⟩, if_pos rfl]
      rw [hif]
      refine D2.g_draw0 [0, 1, 2, 3, 4, 5, 6, 7, 8, 9, 10, 11, 12, 13, 14, 15, 16, 17] [(some 11, fun _ => .pointer (some ⟨(gs2 3).b, 1, none⟩)), (some 12, fun _ => .slice p2 n2 c2), (some 13, fun _ => iN n2), (some 14, fun _ => .bool false), (some 15, fun _ => .bool false), (some 16, fun _ => .pointer (some ⟨(gs2 3).b, 1, none⟩)), (some 17, fun _ => .slice p2 n2 c2), (some 18, fun _ => .bool true), (some 19, fun _ => .bool false), (some 20, fun _ => .bool false), (some 21, fun _ => .bool false), (some 22, fun _ => .pointer (some ⟨(gs2 3).b, 1, none⟩)), (some 23, fun _ => .slice p2 n2 c2), (some 24, fun y => .agg #[.slice (pG y) y.n y.cap, .int .i64 (builtM L).2]), (some 25, fun _ => .agg #[.slice p n c, .int .i64 root]), (some 26, fun _ => .bool sb), (some 27, fun _ => .bool (!sb)), (some 28, fun _ => .bool (!sb))]
        (D2.two 13 (fun ww => St w.heap.size w ww (((gs2 3).b, rdO p n c p2 n2 c2 lf) :: ((gs1 0).b, trO p n c root) :: row)) (fun y ww => ∃ T, RowF nS 58 (pG y) y.n y.cap T (builtM L).1 ∧ St w.heap.size w ww (((gs2 3).b, rdO p n c p2 n2 c2 lf) :: ((gs1 0).b, trO p n c root) :: (row ++ T)))) kr kr kr H7.drew ⟨?_, ?_, ?_, ?_, ?_, ?_, ?_, ?_, ?_, ?_, ?_, ?_, ?_, ?_, ?_, ?_, ?_, ?_, trivial⟩ ?_
      · exact D2.gv_val (fun _ _ _ h => h) (fun g w => by kernel_rfl)
      · exact D2.gv_ld (fun _ _ _ h => h) 23 (.tmp 11) (fun _ => (gs2 3).b) 1 #[.slice p n c, .slice p2 n2 c2, .int .i64 ((lf : Nat) : Int)] 80 (0, 0) (fun g => by kernel_rfl) (fun g => by kernel_rfl) (fun L g w hN hp => hp.get (fun h => St.get h 0 kr) (fun _ ⟨_, _, h⟩ => St.get h 0 kr)) kr kr
      · exact D2.gv_val (fun _ _ _ h => h) (fun g w => by kernel_rfl)
      · exact D2.gv_valE (fun _ _ _ h => h) (fun g w => by kernel_rfl) (bool_eq (decide_eq_false (p := (64 : Int) < ((n2 : Nat) : Int)) (by omega)))
      · exact D2.gv_val (fun _ _ _ h => h) (fun g w => by kernel_rfl)
      · exact D2.gv_val (fun _ _ _ h => h) (fun g w => by kernel_rfl)
      · exact D2.gv_ld (fun _ _ _ h => h) 23 (.tmp 16) (fun _ => (gs2 3).b) 1 #[.slice p n c, .slice p2 n2 c2, .int .i64 ((lf : Nat) : Int)] 80 (0, 0) (fun g => by kernel_rfl) (fun g => by kernel_rfl) (fun L g w hN hp => hp.get (fun h => St.get h 0 kr) (fun _ ⟨_, _, h⟩ => St.get h 0 kr)) kr kr
      · exact D2.gv_cpW (fun _ _ _ h => h) 43 #[.slice p2 n2 c2] hrise (fun L g w hN hp => hp.get (fun h => hrow'.prAt h hmemR) (fun _ ⟨_, _, h⟩ => hrow'.prAt h fun e he => List.mem_cons_of_mem _ (List.mem_cons_of_mem _ (List.mem_append_left _ he)))) (fun L g w w' hN hp hb => hp.call (fun h => h.call hb) (fun _ ⟨T, h1, h2⟩ => ⟨T, h1, h2.call hb⟩)) (fun g w => by kernel_rfl)
      · exact D2.gv_val (fun _ _ _ h => h) (fun g w => by kernel_rfl)
      · exact D2.gv_val (fun _ _ _ h => h) (fun g w => by kernel_rfl)
      · exact D2.gv_val (fun _ _ _ h => h) (fun g w => by kernel_rfl)
      · exact D2.gv_val (fun _ _ _ h => h) (fun g w => by kernel_rfl)
      · exact D2.gv_ld (fun _ _ _ h => h) 23 (.tmp 22) (fun _ => (gs2 3).b) 1 #[.slice p n c, .slice p2 n2 c2, .int .i64 ((lf : Nat) : Int)] 80 (0, 0) (fun g => by kernel_rfl) (fun g => by kernel_rfl) (fun L g w hN hp => hp.get (fun h => St.get h 0 kr) (fun _ ⟨_, _, h⟩ => St.get h 0 kr)) kr kr
      · refine D2.gv_ft 36 #[.slice p2 n2 c2] hbuild (fun L g w hN hp => hrow'.prAt (hp.bef hN.1) hmemR) (fun L1 g ww v T w' hN hp hok hT => ?_) (fun g w => by kernel_rfl)
        obtain ⟨p3, n3, c3, hr3, rfl⟩ := hok
        have hS := (St.addAll (hp.bef hN.1) hT).perm (List.perm_append_comm (l₁ := ((gs2 3).b, rdO p n c p2 n2 c2 lf) :: ((gs1 0).b, trO p n c root) :: row) (l₂ := T))
        rcases hr3 with ⟨rfl, rfl, rfl, rfl, hA0⟩ | ⟨b3, cur3, rfl, rfl, hr4⟩
        · exact ⟨{ n := 0, cap := 0 }, rfl, D2.two.to ⟨[], .inl ⟨rfl, rfl, rfl, rfl, hA0⟩, hS⟩⟩
        · exact ⟨{ b := b3, n := n3, cap := c3, l := [1] }, rfl, D2.two.to ⟨[_], .inr ⟨b3, cur3, rfl, rfl, hr4⟩, hS⟩⟩
      · exact D2.gv_ld (fun _ _ _ h => h) 26 (.tmp 1) (fun _ => (gs1 0).b) 0 #[.slice p n c, .int .i64 root] 26 (0, 0) (fun g => by kernel_rfl) (fun g => by kernel_rfl) (fun L g w hN hp => hp.get (fun h => St.get h 1 kr) (fun _ ⟨_, _, h⟩ => St.get h 1 kr)) kr kr
      · refine D2.gives_of fun L1 gg ww hp hN => ?_
        have h13 := hN.bef 13 kr
        obtain ⟨T, hr, hS⟩ := hp.aft h13
        obtain ⟨o, ho, hd, hw, hrun⟩ := opv_some (show opv _ _ 15 _ ww = some (some 26, true, .ok (.enter 44 #[.agg #[.slice (pG (gg 13)) (gg 13).n (gg 13).cap, .int .i64 (builtM L).2], .agg #[.slice p n c, .int .i64 root]]) ww) by kernel_rfl)
        refine ⟨o, ho, hd, .inr ⟨hw, ?_⟩⟩
        rw [hrun]
        refine Calls.mono (same_fn (pG (gg 13)) (gg 13).n (gg 13).cap (builtM L).2 (builtM L).1 p n c root A hbl ww ⟨NdS.own hr ww _ hS fun e he => List.mem_cons_of_mem _ (List.mem_cons_of_mem _ (List.mem_append_right _ he)), hN0.call hS.below⟩) ?_
        rintro e w' ⟨rfl, hb⟩
        rw [hsb]
        refine ⟨_, rfl, gg 15, rfl, ?_⟩
        rw [D2.setN_self]
        unfold D2.two
        rw [show D2.put1 L1 15 13 = true from h13]
        exact ⟨T, hr, hS.call hb⟩
      · exact D2.gv_val (fun _ _ _ h => h) (fun g w => by kernel_rfl)
      · exact D2.gv_val (fun _ _ _ h => h) (fun g w => by kernel_rfl)
      · intro L1 gg w5 hall hp
        obtain ⟨T, _, H8⟩ := hp.aft (hall 13 (Nat.le_of_ble_eq_true kr))
        show WP _ _ _ _ _ _
        cases sb with
        | false =>
          refine g_cond_t kr kr ?_
          refine rS [.v, .v] H8 kr fun gs4 w6 H9 => ?_
          refine rRr [.tmp 2, .tmp 3] [] (.tuple #[.slice none 0 0, .bool false]) (outT w.heap.size w (okRead none)) H9 kr ?_
          exact ⟨[], rfl, H9.sub (List.nil_sublist _)⟩
        | true =>
          refine g_cond_f kr kr ?_
          refine g_skip kr ?_
          show WP _ _ _ _ _ _
          refine rS [.v, .l 0, .v, .v] H8 kr fun gs4 w6 H9 => ?_
          refine rRr [.tmp 2, .tmp 3] [] (.tuple #[.slice p2 n2 c2, .bool true]) (outT w.heap.size w (okRead (some L))) H9 kr ?_
          have H10 : St w.heap.size w w6 (((gs2 3).b, rdO p n c p2 n2 c2 lf) :: ((gs1 0).b, trO p n c root) :: (row ++ T)) := H9.as kr
          exact ⟨row, ⟨p2, n2, c2, rfl, hrow'⟩, H10.sub (List.Sublist.cons _ (List.Sublist.cons _ (List.sublist_append_left _ _)))⟩
end Go.Proofs.YtlhfgbjhngkicaaGreatDoor

namespace Go.Proofs.YtlhfgbjhngkicaaGreatDoor
open Go Go.RowKit
set_option linter.unusedVariables false
/-- Two texts compared, as -1, 0 or 1. -/
def cmpM (x y : List UInt8) : Int := if lexB x y = true then -1 else if x = y then 0 else 1
def cmpF (x y : List UInt8) : Int :=
  match (List.range (min x.length y.length)).find? fun i => x.getD i 0 != y.getD i 0 with
  | some i => if x.getD i 0 < y.getD i 0 then -1 else 1
  | none => if x.length < y.length then -1 else if x.length > y.length then 1 else 0
theorem cmpF_eq : ∀ x y : List UInt8, cmpF x y = cmpM x y
  | [], [] => rfl
  | [], _ :: _ => by simp [cmpF, cmpM, lexB]
  | _ :: _, [] => by simp [cmpF, cmpM, lexB]
  | a :: x, b :: y => by
    have ih := cmpF_eq x y
    unfold cmpF cmpM at ih ⊢
    rw [List.length_cons, List.length_cons, Nat.add_min_add_right, List.range_succ_eq_map, List.find?_cons]
    by_cases e : a = b
    · subst e
      have h0 : ((a :: x).getD 0 0 != (a :: y).getD 0 0) = false := by simp
      rw [h0, List.find?_map]
      have hf : ((fun i => (a :: x).getD i 0 != (a :: y).getD i 0) ∘ Nat.succ) = fun i => x.getD i 0 != y.getD i 0 := by funext i; simp
      rw [hf]
      have hl : lexB (a :: x) (a :: y) = lexB x y := by simp [lexB]
      rw [hl]
      simp only [List.cons.injEq, true_and]
      rw [← ih]
      cases (List.range (min x.length y.length)).find? fun i => x.getD i 0 != y.getD i 0 with
      | some i => simp
      | none => simp
    · have h0 : ((a :: x).getD 0 0 != (b :: y).getD 0 0) = true := by simpa using e
      rw [h0]
      simp only [lexB, List.cons.injEq, e, false_and, if_false]
      by_cases c : a < b
      · simp [c, UInt8.lt_iff_toNat_lt.1 c]
      · simp [c, mt UInt8.lt_iff_toNat_lt.2 c]
theorem getD_tl (a : ByteArray) (i : Nat) : a[i]! = (tl a).getD i 0 := by
  unfold tl
  rw [List.getD_eq_getElem?_getD, Array.getElem?_toList]
  by_cases h : i < a.size
  · rw [getElem!_pos a i h, Array.getElem?_eq_getElem (show i < a.data.size from h)]; rfl
  · rw [getElem!_neg a i h, Array.getElem?_eq_none (show a.data.size ≤ i from Nat.not_lt.1 h)]; rfl
theorem cmp_is (a b : ByteArray) : Go.Extern.BytealgCompare.cmp a b = cmpM (tl a) (tl b) := by
  rw [← cmpF_eq]
  unfold Go.Extern.BytealgCompare.cmp cmpF
  simp only [getD_tl]
  rfl
theorem cmpM_lt (x y : List UInt8) : decide (cmpM x y < 0) = lexB x y := by
  unfold cmpM
  cases lexB x y with
  | true => rfl
  | false => rw [if_neg (by decide)]; by_cases h : x = y <;> simp [h]
theorem cmpM_zero (x y : List UInt8) : (cmpM x y == 0) = decide (x = y) := by
  unfold cmpM
  by_cases h : x = y
  · subst h; rw [lexB_self, if_neg (by decide), if_pos rfl]; simp
  · rw [decide_eq_false h]
    cases lexB x y with
    | true => rfl
    | false => rw [if_neg (by decide), if_neg h]; rfl
theorem cmpS_fn (a b : ByteArray) : Fn Tryz.prog 86 #[.string a, .string b] (.int .i64 (cmpM (tl a) (tl b))) := by
  refine Fn.intro (c := codeOf Tryz.f86) [.tmp 4] 8 Tryz.func86 kr kr kr fun w => ?_
  have H0 := St.start w
  refine rS [.v] H0 kr fun gs1 w1 H1 => ?_
  refine rS [.v, .v, .e (v := .int .i64 (Go.Extern.BytealgCompare.cmp a b)) (v' := .int .i64 (cmpM (tl a) (tl b))) (int_eq (cmp_is a b)), .v] H1 kr fun gs2 w2 H2 => ?_
  exact rRe [.tmp 4] [] (v := .int .i64 (cmpM (tl a) (tl b))) (v' := .int .i64 (cmpM (tl a) (tl b))) H2 rfl kr
theorem cmp_fn (a b : ByteArray) : Fn Tryz.prog 61 #[.string a, .string b] (.int .i64 (cmpM (tl a) (tl b))) := by
  refine Fn.intro (c := codeOf Tryz.f61) [.tmp 4] 8 Tryz.func61 kr kr kr fun w => ?_
  have H0 := St.start w
  refine rS [.v] H0 kr fun gs1 w1 H1 => ?_
  refine rS [.v, .v, .c (cmpS_fn a b), .v] H1 kr fun gs2 w2 H2 => ?_
  exact rRe [.tmp 4] [] (v := .int .i64 (cmpM (tl a) (tl b))) (v' := .int .i64 (cmpM (tl a) (tl b))) H2 rfl kr
theorem by_fn (k v key : ByteArray) : Fn Tryz.prog 60 #[.agg #[.string k, .string v], .string key] (.int .i64 (cmpM (tl k) (tl key))) := by
  refine Fn.intro (c := codeOf Tryz.f60) [.tmp 4] 9 Tryz.func60 kr kr kr fun w => ?_
  have H0 := St.start w
  refine rS [.b, .v] H0 kr fun gs1 w1 H1 => ?_
  refine rS [.v, .l 0, .v, .c (cmp_fn k key), .v] H1 kr fun gs2 w2 H2 => ?_
  exact rRe [.tmp 4] [] (v := .int .i64 (cmpM (tl k) (tl key))) (v' := .int .i64 (cmpM (tl k) (tl key))) H2 rfl kr
/-- Where a key stands among pairs whose keys rise, or would. -/
def posM (k : ByteArray) (L : List Pr) : Nat := (L.takeWhile fun x => lexB (tl x.1) (tl k)).length
def hasM (k : ByteArray) (L : List Pr) : Bool := match L[posM k L]? with
  | some x => decide (tl x.1 = tl k)
  | none => false
theorem posM_is (k : ByteArray) : ∀ (L : List Pr) (i : Nat), i ≤ L.length → (∀ t x, t < i → L[t]? = some x → lexB (tl x.1) (tl k) = true) → (∀ x, L[i]? = some x → lexB (tl x.1) (tl k) = false) → posM k L = i
  | [], i, h, _, _ => by unfold posM; simp at h; simp [h]
  | x :: L, 0, _, _, h => by unfold posM; rw [List.takeWhile_cons, h x rfl]; rfl
  | x :: L, i + 1, h, h1, h2 => by
    have ih := posM_is k L i (by simpa using h) (fun t y ht hy => h1 (t + 1) y (by omega) hy) (fun y hy => h2 y hy)
    unfold posM at ih ⊢
    rw [List.takeWhile_cons, h1 0 x (by omega) rfl, if_pos rfl, List.length_cons, ih]
end Go.Proofs.YtlhfgbjhngkicaaGreatDoor

namespace Go.Proofs.YtlhfgbjhngkicaaGreatDoor
open Go Go.RowKit
set_option linter.unusedVariables false
theorem less_below {L : List Pr} {k : ByteArray} (hr : L.Pairwise fun a b => lexB (tl a.1) (tl b.1) = true) {h t : Nat} {x y : Pr} (hx : L[h]? = some x) (hl : lexB (tl x.1) (tl k) = true) (hy : L[t]? = some y) (ht : t ≤ h) : lexB (tl y.1) (tl k) = true := by
  rcases Nat.lt_or_eq_of_le ht with ht | rfl
  · obtain ⟨h1, rfl⟩ := List.getElem?_eq_some_iff.1 hx
    obtain ⟨h2, rfl⟩ := List.getElem?_eq_some_iff.1 hy
    exact lexB_trans (List.pairwise_iff_getElem.1 hr t h h2 h1 ht) hl
  · rw [hx] at hy; cases hy; exact hl
theorem less_above {L : List Pr} {k : ByteArray} (hr : L.Pairwise fun a b => lexB (tl a.1) (tl b.1) = true) {h t : Nat} {x y : Pr} (hx : L[h]? = some x) (hl : lexB (tl x.1) (tl k) = false) (hy : L[t]? = some y) (ht : h ≤ t) : lexB (tl y.1) (tl k) = false := by
  cases e : lexB (tl y.1) (tl k) with
  | false => rfl
  | true => rw [less_below hr hy e hx ht] at hl; exact hl
set_option maxRecDepth 100000 in
set_option maxHeartbeats 4000000 in
theorem search_fn (p : Option Addr) (n c : Nat) (L : List Pr) (key : ByteArray) (hL : L.length ≤ 1000000) (hr : L.Pairwise fun a b => lexB (tl a.1) (tl b.1) = true) :
    FnP Tryz.prog 59 #[.slice p n c, .string key, .func (.func 60) #[] #[]] (fun w => PrAt w p n L) (.tuple #[iN (posM key L), .bool (hasM key L)]) := by
  refine FnP.intro (c := codeOf Tryz.f59) [.tmp 6, .tmp 7] 49 Tryz.func59 kr kr kr fun w hP => ?_
  have H0 := St.start w
  have hn := hP.1
  refine rS [.v, .v] H0 kr fun gs1 w1 H1 => ?_
  refine rS [.v, .v, .v] H1 kr fun gs2 w2 H2 => ?_
  refine rS [.v, .v, .v] H2 kr fun gs3 w3 H3 => ?_
  refine g_seq kr ?_
  refine g_block 0 kr ?_
  have H4 : St w.heap.size w w3 [] := H3.as kr
  refine g_loop kr (fun mz ρ ww => ∃ (i j : Nat), j - i = mz ∧ i ≤ j ∧ j ≤ n ∧ (∀ t x, t < i → L[t]? = some x → lexB (tl x.1) (tl key) = true) ∧ (∀ x, L[j]? = some x → lexB (tl x.1) (tl key) = false) ∧ St w.heap.size w ww [] ∧ Is [(0, .slice p n c), (1, .string key), (2, .func (.func 60) #[] #[]), (8, iN n), (9, iN i), (10, iN j)] ρ) (n - 0) ⟨0, n, rfl, Nat.zero_le _, Nat.le_refl _, fun t x h => absurd h (Nat.not_lt_zero _), fun x h => (by rw [List.getElem?_eq_none (by omega)] at h; cases h), H4, (Is.of ⟨kr, kr, kr, kr, kr, kr, trivial⟩)⟩ ?_
  clear H0 H1 H2 H3 H4
  rintro _ _ w4 ⟨i, j, rfl, hij, hjn, hlo, hhi, H4, _, rfl⟩
  refine g_seq kr ?_
  refine g_seq kr ?_
  by_cases hi : i < j
  · refine rL [.v, .v, .e (v := .bool (decide (((i : Nat) : Int) < ((j : Nat) : Int)))) (v' := .bool true) (bool_eq (decide_eq_true (by omega)))] H4 kr fun gs4 w5 H5 => ?_
    show WP _ _ _ _ _ _
    refine g_cond_t kr kr ?_
    refine g_skip kr ?_
    show WP _ _ _ _ _ _
    refine g_block 1 kr ?_
    refine rS [.v, .v, .e (v := .int .i64 (IntKind.i64.wrap (((i : Nat) : Int) + ((j : Nat) : Int)))) (v' := iN (i + j)) (int_eq (wrapAdd_i64 (a := i) (b := j) (by omega))), .e (v := .int .u64 (IntKind.u64.wrap ((i + j : Nat) : Int))) (v' := .int .u64 ((i + j : Nat) : Int)) (int_eq (by rw [IntKind.wrap_u64]; omega)), .e (v := .int .u64 (Int.fdiv ((i + j : Nat) : Int) (2 ^ 1))) (v' := .int .u64 (((i + j) / 2 : Nat) : Int)) (int_eq (shrN (k := 1) (i + j) 2 rfl)), .e (v := .int .i64 (IntKind.i64.wrap (((i + j) / 2 : Nat) : Int))) (v' := iN ((i + j) / 2)) (int_eq (wrapN_i64 (by omega))), .v] H5 kr fun gs5 w6 H6 => ?_
    have hL2 : (i + j) / 2 < L.length := by omega
    obtain ⟨⟨k, v⟩, hx⟩ : ∃ x, L[(i + j) / 2]? = some x := ⟨_, List.getElem?_eq_getElem hL2⟩
    obtain ⟨bl, off, C, T, fz, hp, hh, hR⟩ := hP.row (by omega)
    refine g_seq kr ?_
    cases hlt : lexB (tl k) (tl key) with
    | true =>
      refine rL [.v, .v, .v, .o (ins := [((.tmp 25), .slice p n c), ((.tmp 26), iN ((i + j) / 2))]) (v := .pointer (some ⟨bl, off + (i + j) / 2 * 2, none⟩)) (fun ρ o w ho hi2 => idxP_run (kd := .i64) (t := 23) (e := 48) (K := 2) (bytes := 32) kr (x := (.tmp 25)) (y := (.tmp 26)) bl off n c ((i + j) / 2) hp ho hi2.1 hi2.2.1 (by omega) w), .fp (off := off + (i + j) / 2 * 2) (n := 2) (W := #[.string k, .string v]) hh (lt_of_heap hh) (hR _ _ hx).1 (hR _ _ hx).2, .v, .c (by_fn k v key), .e (v := .bool (decide (cmpM (tl k) (tl key) < 0))) (v' := .bool true) (bool_eq (by rw [cmpM_lt, hlt]))] H6 kr fun gs6 w7 H7 => ?_
      show WP _ _ _ _ _ _
      refine g_cond_t kr kr ?_
      refine rL [.v, .e (v := .int .i64 (IntKind.i64.wrap (((i + j) / 2 : Nat) + 1))) (v' := iN ((i + j) / 2 + 1)) (int_eq (wrapAdd_i64 (a := (i + j) / 2) (b := 1) (by omega))), .v] H7 kr fun gs7 w8 H8 => ?_
      show ∃ m, _ ∧ _
      refine ⟨_, (by omega), (i + j) / 2 + 1, j, rfl, by omega, hjn, fun t x ht he => less_below hr hx hlt he (by omega), hhi, H8.as kr, (Is.of ⟨kr, kr, kr, kr, kr, kr, trivial⟩)⟩
    | false =>
      refine rL [.v, .v, .v, .o (ins := [((.tmp 25), .slice p n c), ((.tmp 26), iN ((i + j) / 2))]) (v := .pointer (some ⟨bl, off + (i + j) / 2 * 2, none⟩)) (fun ρ o w ho hi2 => idxP_run (kd := .i64) (t := 23) (e := 48) (K := 2) (bytes := 32) kr (x := (.tmp 25)) (y := (.tmp 26)) bl off n c ((i + j) / 2) hp ho hi2.1 hi2.2.1 (by omega) w), .fp (off := off + (i + j) / 2 * 2) (n := 2) (W := #[.string k, .string v]) hh (lt_of_heap hh) (hR _ _ hx).1 (hR _ _ hx).2, .v, .c (by_fn k v key), .e (v := .bool (decide (cmpM (tl k) (tl key) < 0))) (v' := .bool false) (bool_eq (by rw [cmpM_lt, hlt]))] H6 kr fun gs6 w7 H7 => ?_
      show WP _ _ _ _ _ _
      refine g_cond_f kr kr ?_
      refine rL [.v, .v] H7 kr fun gs7 w8 H8 => ?_
      show ∃ m, _ ∧ _
      refine ⟨_, (by omega), i, (i + j) / 2, rfl, by omega, by omega, hlo, fun x he => less_above hr hx hlt he (Nat.le_refl _), H8.as kr, (Is.of ⟨kr, kr, kr, kr, kr, kr, trivial⟩)⟩
  · refine rL [.v, .v, .e (v := .bool (decide (((i : Nat) : Int) < ((j : Nat) : Int)))) (v' := .bool false) (bool_eq (decide_eq_false (by omega)))] H4 kr fun gs4 w5 H5 => ?_
    show WP _ _ _ _ _ _
    refine g_cond_f kr kr ?_
    refine g_exit 0 kr ?_
    show WP _ _ _ _ _ _
    obtain rfl : i = j := by omega
    have hpos := posM_is key L i (by omega) hlo hhi
    by_cases hin : i < n
    · obtain ⟨⟨k, v⟩, hx⟩ : ∃ x, L[i]? = some x := ⟨_, List.getElem?_eq_getElem (by omega)⟩
      obtain ⟨bl, off, C, T, fz, hp, hh, hR⟩ := hP.row (by omega)
      have hh2 : hasM key L = decide (tl k = tl key) := by unfold hasM; rw [hpos, hx]
      refine rS [.v, .v, .v, .e (v := .bool (decide (((i : Nat) : Int) < ((n : Nat) : Int)))) (v' := .bool true) (bool_eq (decide_eq_true (by omega))), .v, .v, .v, .v, .o (ins := [((.tmp 41), .slice p n c), ((.tmp 42), iN i)]) (v := .pointer (some ⟨bl, off + i * 2, none⟩)) (fun ρ o w ho hi2 => idxP_run (kd := .i64) (t := 23) (e := 48) (K := 2) (bytes := 32) kr (x := (.tmp 41)) (y := (.tmp 42)) bl off n c i hp ho hi2.1 hi2.2.1 (by omega) w), .fp (off := off + i * 2) (n := 2) (W := #[.string k, .string v]) hh (lt_of_heap hh) (hR _ _ hx).1 (hR _ _ hx).2, .v, .c (by_fn k v key), .e (v := .bool (cmpM (tl k) (tl key) == 0)) (v' := .bool (hasM key L)) (bool_eq (by rw [cmpM_zero, hh2])), .v, .v, .v] H5 kr fun gs6 w6 H6 => ?_
      exact rRe [.tmp 6, .tmp 7] [] (v := .tuple #[iN i, .bool (hasM key L)]) (v' := .tuple #[iN (posM key L), .bool (hasM key L)]) H6 (by rw [hpos]) kr
    · have hh2 : hasM key L = false := by unfold hasM; rw [hpos, List.getElem?_eq_none (by omega)]
      refine rS [.v, .v, .v, .e (v := .bool (decide (((i : Nat) : Int) < ((n : Nat) : Int)))) (v' := .bool false) (bool_eq (decide_eq_false (by omega))), .v, .n, .n, .n, .n, .n, .n, .n, .n, .v, .v, .v] H5 kr fun gs6 w6 H6 => ?_
      exact rRe [.tmp 6, .tmp 7] [] (v := .tuple #[iN i, .bool false]) (v' := .tuple #[iN (posM key L), .bool (hasM key L)]) H6 (by rw [hpos, hh2]) kr
set_option maxRecDepth 100000 in
set_option maxHeartbeats 4000000 in
theorem find_fn (p : Option Addr) (n c : Nat) (L : List Pr) (key : ByteArray) (hL : L.length ≤ 1000000) (hr : L.Pairwise fun a b => lexB (tl a.1) (tl b.1) = true) :
    FnP Tryz.prog 33 #[.slice p n c, .string key] (fun w => PrAt w p n L) (.tuple #[iN (posM key L), .bool (hasM key L)]) := by
  refine FnP.intro (c := codeOf Tryz.f33) [.tmp 4, .tmp 5] 11 Tryz.func33 kr kr kr fun w hP => ?_
  have H0 := St.start w
  refine rS [.v, .v] H0 kr fun gs1 w1 H1 => ?_
  refine rS [.v, .v, .cp (pre := fun w => PrAt w p n L) (search_fn p n c L key hL hr) [] (fun w hb hd => hP.call hb), .v, .v, .v, .v] H1 kr fun gs2 w2 H2 => ?_
  exact rRe [.tmp 4, .tmp 5] [] (v := .tuple #[iN (posM key L), .bool (hasM key L)]) (v' := .tuple #[iN (posM key L), .bool (hasM key L)]) H2 rfl kr
end Go.Proofs.YtlhfgbjhngkicaaGreatDoor

namespace Go.Proofs.YtlhfgbjhngkicaaGreatDoor
open Go Go.RowKit
set_option linter.unusedVariables false
theorem rwB (s : ByteArray) (h : ByteArray.size s ≤ maxLen) : Rw 1 (cellsB (tl s)).toArray (ByteArray.size s) (ByteArray.size s) (cellsB (tl s)) :=
  ⟨by rw [cellsB_len, tl_len]; omega, Nat.le_refl _, h, by rw [List.take_of_length_le (by simp [cellsB_len, tl_len])], by simp [cellsB_len, tl_len]⟩
theorem idx0_run {P : Program} {ρ : Env} {t e : TypeId} {bytes : Nat} (ht : sliceOf P t = some (e, 1, bytes)) {x y : Operand} {o : Oper} {kd : IntKind} (b n c : Nat) (ho : o.op = .indexAddr t x y) (hx : ev ρ x = .slice (some ⟨b, 0, none⟩) n c) (hy : ev ρ y = .int kd 0) (hk : 0 < n) :
    ∀ w, (execOp (ev ρ) o).run P w = .ok (.value (.pointer (some ⟨b, 0, none⟩))) w := fun w =>
  idxS_run (P := P) (kd := kd) ht b 0 n c 0 ho hx hy hk w
set_option maxRecDepth 100000 in
set_option maxHeartbeats 2000000 in
theorem slCloneS_fn (s : ByteArray) (hs : ByteArray.size s ≤ 100000) : Fn Tryz.prog 45 #[.string s] (.string s) := by
  refine Fn.intro (c := codeOf Tryz.f45) [.tmp 2] 18 Tryz.func45 kr kr kr fun w => ?_
  have H0 := St.start w
  refine g_sreg [0] kr kr ?_
  refine s_val (some 2) (.string (⟨#[]⟩)) (fun w => by kernel_rfl) kr ?_
  refine s_nil ?_
  refine g_seq kr ?_
  refine g_sreg [0, 1, 2] kr kr ?_
  refine s_val (some 4) (.string s) (fun w => by kernel_rfl) kr ?_
  refine s_val (some 5) (.int .i64 ((ByteArray.size s : Nat) : Int)) (fun w => by kernel_rfl) kr ?_
  by_cases hc1 : (ByteArray.size s : Nat) = 0
  · skip
    refine s_valE (some 6) (.bool (((ByteArray.size s : Nat) : Int) == 0)) (.bool true) (fun w => by kernel_rfl) (bool_eq (beq_iff_eq.2 (by omega))) kr ?_
    refine s_nil ?_
    refine g_cond_t kr kr ?_
    refine g_sreg [0] kr kr ?_
    refine s_val (some 2) (.string (⟨#[]⟩)) (fun w => by kernel_rfl) kr ?_
    refine s_nil ?_
    refine g_ret kr ?_
    show ∃ vs, Res _ _ _ _ vs ∧ _
    refine ⟨[.string (⟨#[]⟩)], (.tmp (.string (⟨#[]⟩)) kr .nil), ?_, H0.below⟩
    exact congrArg Value.string (tl_inj (List.eq_nil_of_length_eq_zero (by rw [tl_len]; omega) : tl s = []).symm)
  · skip
    refine s_valE (some 6) (.bool (((ByteArray.size s : Nat) : Int) == 0)) (.bool false) (fun w => by kernel_rfl) (bool_eq (beq_eq_false_iff_ne.2 (by omega))) kr ?_
    refine s_nil ?_
    refine g_cond_f kr kr ?_
    refine g_skip kr ?_
    show WP _ _ _ _ _ _
    refine g_sreg [0, 1, 2, 3] kr kr ?_
    refine s_val (some 7) (.string s) (fun w => by kernel_rfl) kr ?_
    refine s_val (some 8) (.int .i64 ((ByteArray.size s : Nat) : Int)) (fun w => by kernel_rfl) kr ?_
    refine s_make H0 (some 9) 88 5 1 (.int .u8 0) (.tmp 8) (.tmp 8) .i64 .i64 (ByteArray.size s) kr kr kr kr rfl kr kr (by omega) (by unfold maxLen; omega) ?_
    intro b_1 cur_2 w1 H1 hr_3; clear H0
    have hr_3z : Rw 1 cur_2 (ByteArray.size s) (ByteArray.size s) (cellsB (List.replicate (ByteArray.size s) 0)) := by rw [cellsB_zeros']; exact hr_3
    refine s_val (some 3) (.slice (some ⟨b_1, 0, none⟩) (ByteArray.size s) (ByteArray.size s)) (fun w => by kernel_rfl) kr ?_
    refine s_nil ?_
    refine g_sreg [0, 1, 2] kr kr ?_
    refine s_val (some 10) (.slice (some ⟨b_1, 0, none⟩) (ByteArray.size s) (ByteArray.size s)) (fun w => by kernel_rfl) kr ?_
    refine s_val (some 11) (.string s) (fun w => by kernel_rfl) kr ?_
    refine s_copyStr H1 (some 12) 88 9 5 1 (.tmp 10) (.tmp 11) 0 b_1 (ByteArray.size s) (ByteArray.size s) s cur_2 ((cellsB (tl s)).toArray) 5 [(b_1, Obj.cells ((cellsB (tl s)).toArray) 5 (0, 0))] kr kr kr kr kr kr (by omega) (Nat.le_of_eq (by have h := hr_3z.sz; rw [h]; omega)) (by rw [List.drop_of_length_le (by have h := hr_3z.sz; rw [Array.length_toList, h]; omega), List.append_nil]) kr ?_
    intro w2 H2; clear H1
    refine s_nil ?_
    refine g_sreg [0, 1, 2, 3, 4, 5] kr kr ?_
    refine s_val (some 13) (.slice (some ⟨b_1, 0, none⟩) (ByteArray.size s) (ByteArray.size s)) (fun w => by kernel_rfl) kr ?_
    refine s_op (some 14) _ (.pointer (some ⟨b_1, 0, none⟩)) kr kr (fun o w ho => idx0_run (kd := .i64) (t := 88) (e := 5) (bytes := 1) kr (x := (.tmp 13)) (y := (.const (.int .i64 0))) b_1 (ByteArray.size s) (ByteArray.size s) ho kr kr (by omega) w) ?_
    refine s_val (some 15) (.slice (some ⟨b_1, 0, none⟩) (ByteArray.size s) (ByteArray.size s)) (fun w => by kernel_rfl) kr ?_
    refine s_val (some 16) (.int .i64 ((ByteArray.size s : Nat) : Int)) (fun w => by kernel_rfl) kr ?_
    refine s_unsafeStr H2 (some 17) 116 3 5 (.tmp 14) (.tmp 16) (ByteArray.size s) (ByteArray.size s) (tl s) kr kr kr kr rfl kr kr (rwB s (by unfold maxLen; omega)) (by omega) (by omega) ?_
    intro w3 H3; clear H2
    refine s_val (some 2) (.string (strB (tl s))) (fun w => by kernel_rfl) kr ?_
    refine s_nil ?_
    refine g_ret kr ?_
    show ∃ vs, Res _ _ _ _ vs ∧ _
    refine ⟨[.string (strB (tl s))], (.tmp (.string (strB (tl s))) kr .nil), ?_, H3.below⟩
    rfl
set_option maxRecDepth 100000 in
set_option maxHeartbeats 2000000 in
theorem cloneS_fn (s : ByteArray) (hs : ByteArray.size s ≤ 100000) : Fn Tryz.prog 26 #[.string s] (.string s) := by
  refine Fn.intro (c := codeOf Tryz.f26) [.tmp 2] 5 Tryz.func26 kr kr kr fun w => ?_
  have H0 := St.start w
  refine g_sreg [0] kr kr ?_
  refine s_val (some 2) (.string (⟨#[]⟩)) (fun w => by kernel_rfl) kr ?_
  refine s_nil ?_
  refine g_sreg [0, 1, 2] kr kr ?_
  refine s_val (some 3) (.string s) (fun w => by kernel_rfl) kr ?_
  refine s_call H0 (some 4) 45 #[.string s] (.string s) (slCloneS_fn s (by omega)) (fun w => by kernel_rfl) kr ?_
  intro w1 H1; clear H0
  refine s_val (some 2) (.string s) (fun w => by kernel_rfl) kr ?_
  refine s_nil ?_
  refine g_ret kr ?_
  show ∃ vs, Res _ _ _ _ vs ∧ _
  refine ⟨[.string s], (.tmp (.string s) kr .nil), ?_, H1.below⟩
  rfl
end Go.Proofs.YtlhfgbjhngkicaaGreatDoor

namespace Go.Proofs.YtlhfgbjhngkicaaGreatDoor
open Go Go.RowKit
set_option linter.unusedVariables false
theorem put_same {C : Array Value} {off : Nat} {v : Value} (hv : v.cells = #[v]) (h : C[off]? = some v) : (C.toList.take off ++ v.cells.toList ++ C.toList.drop (off + v.cells.size)).toArray = C := by
  obtain ⟨h1, h2⟩ := Array.getElem?_eq_some_iff.1 h
  rw [hv]
  apply Array.toList_inj.1
  simp only [List.append_assoc]
  have h3 : C.toList.drop off = v :: C.toList.drop (off + 1) := by
    rw [List.drop_eq_getElem_cons (by simpa using h1)]
    simp [h2]
  show C.toList.take off ++ ([v] ++ C.toList.drop (off + 1)) = C.toList
  rw [List.singleton_append, ← h3, List.take_append_drop]
def okPairs (r : Option (List Pr)) (v : Value) (T : List (Nat × Obj)) : Prop := match r with
  | none => v = .tuple #[.slice none 0 0, .int .i64 1]
  | some L => ∃ (p : Option Addr) (n c : Nat), v = .tuple #[.slice p n c, .int .i64 0] ∧ RowF pS 48 p n c T L
abbrev boT (p : Option Addr) (n c : Nat) (root : Int) : Obj := .cells #[.slice p n c, .int .i64 root] 26 (0, 0)
theorem readM_may {A : List Nd} {root : Int} {L : List Pr} (h : readM A root = some L) : ∀ x ∈ L, mayM x.1 x.2 = true := by
  unfold readM at h
  split at h
  · cases h; exact walked_may A root
  · cases h
theorem readM_len {A : List Nd} {root : Int} {L : List Pr} (h : readM A root = some L) : L.length ≤ 64 := by
  unfold readM at h
  split at h
  · rename_i hc; cases h; exact hc.1
  · cases h
theorem readM_rise {A : List Nd} {root : Int} {L : List Pr} (h : readM A root = some L) : L.Pairwise fun a b => lexB (tl a.1) (tl b.1) = true := by
  unfold readM at h
  split at h
  · rename_i hc; cases h; exact (riseB_iff _).1 hc.2.1
  · cases h
set_option maxRecDepth 100000 in
set_option maxHeartbeats 4000000 in
theorem pairs_fn (p : Option Addr) (n c : Nat) (root : Int) (A : List Nd) (hA : ∀ x ∈ A, x.part.size ≤ 140737488355328) (hAl : A.length ≤ 1000000000000) :
    FnT Tryz.prog 10 #[.agg #[.slice p n c, .int .i64 root]] (fun w => NdAt w p n A) (okPairs (readM A root)) := by
  refine FnT.intro (c := codeOf Tryz.f10) [.tmp 2, .tmp 3] 31 Tryz.func10 kr kr kr fun w hN => ?_
  have H0 := St.start w
  refine rS [.b, .v, .v] H0 kr fun gs1 w1 H1 => ?_
  refine g_sreg [0, 1, 2, 3, 4, 5, 6] kr kr ?_
  refine rp [.l 0] H1 kr fun gs2 w2 H2 => ?_
  show WPs _ _ _ _ [1, 2, 3, 4, 5, 6] _ _
  have H2 : St w.heap.size w w2 [((gs1 0).b, boT p n c root)] := H2.as kr
  refine s_callFT H2 (some 10) 25 #[.agg #[.slice p n c, .int .i64 root]] (read_fn p n c root A hA hAl) (hN.call H2.below) kr kr ?_
  intro v T w3 hok H3
  cases hr : readM A root with
  | none =>
    rw [hr] at hok
    have hok : v = .tuple #[.slice none 0 0, .bool false] := hok
    subst hok
    refine rp [.v, .v, .v, .v, .v] (H3.sub (List.nil_sublist _)) kr fun gs3 w4 H4 => ?_
    show WPs _ _ _ _ [] _ _
    refine s_nil ?_
    refine g_seq kr ?_
    refine rS [.v, .v] H4 kr fun gs4 w5 H5 => ?_
    refine g_cond_t kr kr ?_
    refine rS [.v, .v] H5 kr fun gs5 w6 H6 => ?_
    refine rRr [.tmp 2, .tmp 3] [] (.tuple #[.slice none 0 0, .int .i64 1]) (outT w.heap.size w (okPairs none)) H6 kr ?_
    exact ⟨[], rfl, H6.as kr⟩
  | some L =>
    rw [hr] at hok
    obtain ⟨q, m, k, rfl, hrow⟩ := hok
    have hlen := hrow.len
    have hl64 := readM_len hr
    have hmay := readM_may hr
    refine rp [.v, .v, .v, .v, .v] (H3.sub (List.sublist_append_left ..)) kr fun gs3 w4 H4 => ?_
    show WPs _ _ _ _ [] _ _
    refine s_nil ?_
    refine g_seq kr ?_
    refine rS [.v, .v] H4 kr fun gs4 w5 H5 => ?_
    refine g_cond_f kr kr ?_
    refine g_skip kr ?_
    show WP _ _ _ _ _ _
    refine g_seq kr ?_
    refine rS [.v, .v, .v] H5 kr fun gs5 w6 H6 => ?_
    refine g_block 0 kr ?_
    have H7 : St w.heap.size w w6 T := H6.as kr
    refine g_loop kr (fun mz ρ ww => ∃ (i : Nat), m - i = mz ∧ i ≤ m ∧ St w.heap.size w ww T ∧ Is [(4, .slice q m k), (15, .slice q m k), (16, iN m), (17, iN i)] ρ) (m - 0) ⟨0, rfl, Nat.zero_le _, H7, (Is.of ⟨kr, kr, kr, kr, trivial⟩)⟩ ?_
    clear H0 H1 H2 H3 H4 H5 H6 H7
    rintro _ _ w4 ⟨i, rfl, him, H5, _, rfl⟩
    by_cases hi : i < m
    · obtain ⟨⟨kk, vv⟩, hx⟩ : ∃ x, L[i]? = some x := ⟨_, List.getElem?_eq_getElem (by omega)⟩
      have hv : vv.size ≤ 500 := (may_size (hmay _ (List.mem_of_getElem? hx))).2.2
      rcases hrow with ⟨_, h0, _⟩ | ⟨bw, cur, rfl, rfl, hrw⟩
      · omega
      have hR := hrw.rowAt
      refine rS [.e (v := .bool (decide (((i : Nat) : Int) < ((m : Nat) : Int)))) (v' := .bool true) (bool_eq (decide_eq_true (by omega)))] H5 kr fun gs4 w5 H6 => ?_
      refine g_seq kr ?_
      refine g_cond_t kr kr ?_
      refine g_skip kr ?_
      show WP _ _ _ _ _ _
      refine g_seq kr ?_
      refine g_block 1 kr ?_
      refine rS [.v, .o (ins := [((.tmp 15), .slice (some ⟨bw, 0, none⟩) m k), ((.tmp 17), iN i)]) (v := .pointer (some ⟨bw, 0 + i * 2, none⟩)) (fun ρ o w ho hi2 => idxP_run (kd := .i64) (t := 23) (e := 48) (K := 2) (bytes := 32) kr (x := (.tmp 15)) (y := (.tmp 17)) bw 0 m k i rfl ho hi2.1 hi2.2.1 hi w), .lp 0 (C := cur) (W := #[.string kk, .string vv]) (off := 0 + i * 2) (n := 2) (hR _ _ hx).1 (hR _ _ hx).2, .a, .v, .s 1] H6 kr fun gs5 w6 H7 => ?_
      refine rL [.v, .v, .v, .l 1, .c (cloneS_fn vv (by omega)), .o (ins := [((.tmp 22), .slice (some ⟨bw, 0, none⟩) m k), ((.tmp 23), iN i)]) (v := .pointer (some ⟨bw, 0 + i * 2, none⟩)) (fun ρ o w ho hi2 => idxP_run (kd := .i64) (t := 23) (e := 48) (K := 2) (bytes := 32) kr (x := (.tmp 22)) (y := (.tmp 23)) bw 0 m k i rfl ho hi2.1 hi2.2.1 hi w), .v, .se 0 (C := cur) (C' := cur) (off := 0 + i * 2 + 1) (v := .string vv) (by
        have := (hR _ _ hx).1
        show _ + 1 ≤ _
        simp only [pS] at this; omega) (put_same rfl (hR.cell hx 1 (by decide)))] H7 kr fun gs6 w7 H8 => ?_
      show WP _ _ _ _ _ _
      refine rL [.e (v := .int .i64 (IntKind.i64.wrap (((i : Nat) : Int) + 1))) (v' := .int .i64 ((i + 1 : Nat) : Int)) (int_eq (wrapAdd_i64 (a := i) (b := 1) (by omega))), .v] H8 kr fun gs7 w10 H9 => ?_
      show ∃ m, _ ∧ _
      have H10 : St w.heap.size w w10 [(bw, .cells cur 48 (0, 0)), ((gs5 3).b, .cells #[.string kk, .string vv] 48 (0, 0))] := H9.as kr
      exact ⟨_, (by omega), i + 1, rfl, hi, H10.sub (List.sublist_append_left [_] [_]), (Is.of ⟨kr, kr, kr, kr, trivial⟩)⟩
    · refine rS [.e (v := .bool (decide (((i : Nat) : Int) < ((m : Nat) : Int)))) (v' := .bool false) (bool_eq (decide_eq_false (by omega)))] H5 kr fun gs4 w5 H6 => ?_
      refine g_seq kr ?_
      refine g_cond_f kr kr ?_
      refine g_exit 0 kr ?_
      show WP _ _ _ _ _ _
      refine rS [.v, .v, .v] H6 kr fun gs5 w6 H7 => ?_
      refine rRr [.tmp 2, .tmp 3] [] (.tuple #[.slice q m k, .int .i64 0]) (outT w.heap.size w (okPairs (some L))) H7 kr ?_
      exact ⟨T, ⟨q, m, k, rfl, hrow⟩, H7.as kr⟩
end Go.Proofs.YtlhfgbjhngkicaaGreatDoor

namespace Go.Proofs.YtlhfgbjhngkicaaGreatDoor
open Go Go.RowKit
set_option linter.unusedVariables false
set_option maxRecDepth 100000 in
set_option maxHeartbeats 4000000 in
theorem right_fn (p : Option Addr) (n c : Nat) (root : Int) (A : List Nd) (hA : ∀ x ∈ A, x.part.size ≤ 140737488355328) (hAl : A.length ≤ 1000000000000) :
    FnP Tryz.prog 9 #[.agg #[.slice p n c, .int .i64 root]] (fun w => NdAt w p n A) (.bool (readM A root).isSome) := by
  refine FnP.intro (c := codeOf Tryz.f9) [.tmp 2] 11 Tryz.func9 kr kr kr fun w hN => ?_
  have H0 := St.start w
  refine rS [.b, .v] H0 kr fun gs1 w1 H1 => ?_
  refine g_sreg [0, 1, 2, 3, 4, 5, 6] kr kr ?_
  refine rp [.l 0] H1 kr fun gs2 w2 H2 => ?_
  show WPs _ _ _ _ [1, 2, 3, 4, 5, 6] _ _
  refine s_callFT H2 (some 7) 25 #[.agg #[.slice p n c, .int .i64 root]] (read_fn p n c root A hA hAl) (hN.call H2.below) kr kr ?_
  intro v T w3 hok H3
  have H3 := H3.sub (List.nil_sublist _)
  cases hr : readM A root with
  | none =>
    rw [hr] at hok
    have hok : v = .tuple #[.slice none 0 0, .bool false] := hok
    subst hok
    refine rp [.v, .v, .v, .v, .v] H3 kr fun gs3 w4 H4 => ?_
    show WPs _ _ _ _ [] _ _
    refine s_nil ?_
    refine rS [.v, .v] H4 kr fun gs4 w5 H5 => ?_
    exact rRe [.tmp 2] [] (v := .bool false) (v' := .bool false) H5 rfl kr
  | some L =>
    rw [hr] at hok
    obtain ⟨q, m, k, rfl, hrow⟩ := hok
    refine rp [.v, .v, .v, .v, .v] H3 kr fun gs3 w4 H4 => ?_
    show WPs _ _ _ _ [] _ _
    refine s_nil ?_
    refine rS [.v, .v] H4 kr fun gs4 w5 H5 => ?_
    exact rRe [.tmp 2] [] (v := .bool true) (v' := .bool true) H5 rfl kr
set_option maxRecDepth 100000 in
set_option maxHeartbeats 4000000 in
theorem new_fn : FnT Tryz.prog 19 #[] (fun _ => True) (okTrie []) := by
  refine FnT.intro (c := codeOf Tryz.f19) [.cell 0 26] 2 Tryz.func19 kr kr kr fun w _ => ?_
  have H0 := St.start w
  refine rS [.a] H0 kr fun gs1 w1 H1 => ?_
  refine g_sreg [0, 1] kr kr ?_
  have H2 : St w.heap.size w w1 [((gs1 0).b, boT none 0 0 0)] := H1.as kr
  refine s_callFT H2 (some 1) 36 #[.slice none 0 0] (build_fn none 0 0 [] (by decide) (fun _ h => by simp at h) List.Pairwise.nil) ⟨rfl, .inl rfl⟩ kr kr ?_
  rintro v T w3 ⟨q, m, k, hrow, rfl⟩ H3
  have H4 := H3.perm (List.perm_append_comm (l₁ := [((gs1 0).b, boT none 0 0 0)]) (l₂ := T))
  refine rp [.s 0] H4 kr fun gs3 w4 H5 => ?_
  show WPs _ _ _ _ [] _ _
  refine s_nil ?_
  have H6 : St w.heap.size w w4 (((gs1 0).b, boT q m k (layM 65 (entsOf []) []).2) :: T) := H5.as kr
  refine rRr [.cell 0 26] [0] (.agg #[.slice q m k, .int .i64 (layM 65 (entsOf []) []).2]) (outT w.heap.size w (okTrie [])) H6 kr ?_
  exact ⟨T, ⟨q, m, k, hrow, rfl⟩, H6.sub (List.sublist_cons_self ..)⟩
def getM (r : Option (List Pr)) (key : ByteArray) : ByteArray × Bool := match r with
  | none => (⟨#[]⟩, false)
  | some L => match L[posM key L]? with
    | some x => if tl x.1 = tl key then (x.2, true) else (⟨#[]⟩, false)
    | none => (⟨#[]⟩, false)
set_option maxRecDepth 100000 in
set_option maxHeartbeats 4000000 in
theorem get_fn (p : Option Addr) (n c : Nat) (root : Int) (A : List Nd) (hA : ∀ x ∈ A, x.part.size ≤ 140737488355328) (hAl : A.length ≤ 1000000000000) (key : ByteArray) :
    FnP Tryz.prog 15 #[.agg #[.slice p n c, .int .i64 root], .string key] (fun w => NdAt w p n A) (.tuple #[.string (getM (readM A root) key).1, .bool (getM (readM A root) key).2]) := by
  refine FnP.intro (c := codeOf Tryz.f15) [.tmp 4, .tmp 5] 29 Tryz.func15 kr kr kr fun w hN => ?_
  have H0 := St.start w
  refine rS [.b, .v, .v] H0 kr fun gs1 w1 H1 => ?_
  refine g_sreg [0, 1, 2, 3, 4, 5, 6] kr kr ?_
  refine rp [.l 0] H1 kr fun gs2 w2 H2 => ?_
  show WPs _ _ _ _ [1, 2, 3, 4, 5, 6] _ _
  have H2 : St w.heap.size w w2 [((gs1 0).b, boT p n c root)] := H2.as kr
  refine s_callFT H2 (some 12) 25 #[.agg #[.slice p n c, .int .i64 root]] (read_fn p n c root A hA hAl) (hN.call H2.below) kr kr ?_
  intro v T w3 hok H3
  cases hr : readM A root with
  | none =>
    rw [hr] at hok
    have hok : v = .tuple #[.slice none 0 0, .bool false] := hok
    subst hok
    refine rp [.v, .v, .v, .v, .v] (H3.sub (List.nil_sublist _)) kr fun gs3 w4 H4 => ?_
    show WPs _ _ _ _ [] _ _
    refine s_nil ?_
    refine rS [.v, .v, .cp (pre := fun w => PrAt w none 0 []) (find_fn none 0 0 [] key (by decide) List.Pairwise.nil) [] (fun w hb hd => ⟨rfl, .inl rfl⟩), .v, .v, .v, .v, .v] H4 kr fun gs4 w5 H5 => ?_
    refine g_seq kr ?_
    refine rS [.v, .v] H5 kr fun gs4 w6 H6 => ?_
    refine g_cond_t kr kr ?_
    refine rS [.v, .v] H6 kr fun gs5 w7 H7 => ?_
    exact rRe [.tmp 4, .tmp 5] [] (v := .tuple #[.string ⟨#[]⟩, .bool false]) (v' := .tuple #[.string ⟨#[]⟩, .bool false]) H7 rfl kr
  | some L =>
    rw [hr] at hok
    obtain ⟨q, m, k, rfl, hrow⟩ := hok
    have hlen := hrow.len
    have hl64 := readM_len hr
    have hmay := readM_may hr
    have hrise := readM_rise hr
    have hH : hasM key L = (getM (some L) key).2 := by
      unfold hasM getM
      cases h0 : L[posM key L]? with
      | none => simp only [h0]
      | some x => by_cases h : tl x.1 = tl key <;> simp [h0, h]
    refine rp [.v, .v, .v, .v, .v] (H3.sub (List.sublist_append_left ..)) kr fun gs3 w4 H4 => ?_
    show WPs _ _ _ _ [] _ _
    refine s_nil ?_
    have H5 : St w.heap.size w w4 T := H4.as kr
    refine g_sreg [0, 1, 2, 3, 4, 5, 6, 7] kr kr ?_
    refine rp [.v, .v] H5 kr fun gs4 w5 H6 => ?_
    show WPs _ _ _ _ [2, 3, 4, 5, 6, 7] _ _
    have H6 : St w.heap.size w w5 T := H6.as kr
    refine s_callP H6 (some 18) 33 #[.slice q m k, .string key] _ _ (find_fn q m k L key (by omega) hrise) (hrow.prAt H6 fun e he => he) (fun w => by kernel_rfl) kr ?_
    intro w6 H7
    refine rp [.v, .v, .v, .v, .v] H7 kr fun gs5 w7 H8 => ?_
    show WPs _ _ _ _ [] _ _
    refine s_nil ?_
    refine g_seq kr ?_
    rw [hH]
    cases hg : L[posM key L]? with
    | none =>
      have e : getM (some L) key = (⟨#[]⟩, false) := by unfold getM; simp only [hg]
      rw [e]
      refine rS [.v, .v] H8 kr fun gs4 w6 H6 => ?_
      refine g_cond_t kr kr ?_
      refine rS [.v, .v] H6 kr fun gs5 w7 H7 => ?_
      exact rRe [.tmp 4, .tmp 5] [] (v := .tuple #[.string ⟨#[]⟩, .bool false]) (v' := .tuple #[.string ⟨#[]⟩, .bool false]) H7 rfl kr
    | some x =>
      by_cases hk : tl x.1 = tl key
      · have e : getM (some L) key = (x.2, true) := by unfold getM; simp only [hg]; rw [if_pos hk]
        rw [e]
        rcases hrow with ⟨_, h0, _, _, rfl⟩ | ⟨bw, cur, rfl, rfl, hrw⟩
        · simp at hg
        have hR := hrw.rowAt
        have hpm : posM key L < m := by rw [← hlen]; exact (List.getElem?_eq_some_iff.1 hg).1
        have hsz : x.2.size ≤ 500 := (may_size (hmay _ (List.mem_of_getElem? hg))).2.2
        refine rS [.v, .v] H8 kr fun gs4 w6 H6 => ?_
        refine g_cond_f kr kr ?_
        refine g_skip kr ?_
        show WP _ _ _ _ _ _
        refine rS [.v, .v, .o (ins := [((.tmp 23), .slice (some ⟨bw, 0, none⟩) m k), ((.tmp 24), iN (posM key L))]) (v := .pointer (some ⟨bw, 0 + posM key L * 2, none⟩)) (fun ρ o w ho hi2 => idxP_run (kd := .i64) (t := 23) (e := 48) (K := 2) (bytes := 32) kr (x := (.tmp 23)) (y := (.tmp 24)) bw 0 m k (posM key L) rfl ho hi2.1 hi2.2.1 hpm w), .v, .ls 0 (C := cur) (off := 0 + posM key L * 2 + 1) (v := .string x.2) (hR.cell hg 1 (by decide)), .c (cloneS_fn x.2 (by omega)), .v, .v] H6 kr fun gs5 w7 H7 => ?_
        exact rRe [.tmp 4, .tmp 5] [] (v := .tuple #[.string x.2, .bool true]) (v' := .tuple #[.string x.2, .bool true]) H7 rfl kr
      · have e : getM (some L) key = (⟨#[]⟩, false) := by unfold getM; simp only [hg]; rw [if_neg hk]
        rw [e]
        refine rS [.v, .v] H8 kr fun gs4 w6 H6 => ?_
        refine g_cond_t kr kr ?_
        refine rS [.v, .v] H6 kr fun gs5 w7 H7 => ?_
        exact rRe [.tmp 4, .tmp 5] [] (v := .tuple #[.string ⟨#[]⟩, .bool false]) (v' := .tuple #[.string ⟨#[]⟩, .bool false]) H7 rfl kr
end Go.Proofs.YtlhfgbjhngkicaaGreatDoor

namespace Go.Proofs.YtlhfgbjhngkicaaGreatDoor
open Go Go.RowKit
set_option linter.unusedVariables false
abbrev pwO (x : Pr) : Obj := .cells #[.string x.1, .string x.2] 48 (0, 0)
/-- A pair stands behind the others. -/
def Ins1 (B : Nat) (w0 : World) (Lr : List (Nat × Obj)) (L : List Pr) (v : Value) (w : World) : Prop := ∃ (q : Option Addr) (m k : Nat) (row : List (Nat × Obj)), v = .slice q m k ∧ RowF pS 48 q m k row L ∧ St B w0 w (row ++ Lr)
set_option maxRecDepth 100000 in
set_option maxHeartbeats 4000000 in
theorem insertEnd_c (p : Option Addr) (n c : Nat) (L : List Pr) (x : Pr) (bv : Nat) (row Lr : List (Nat × Obj)) {B : Nat} {w0 w : World} (hrow : RowF pS 48 p n c row L) (h : St B w0 w (row ++ ((bv, pwO x) :: Lr))) (hL : L.length ≤ 1000000) :
    Calls Tryz.prog 35 #[.slice p n c, iN n, .slice (some ⟨bv, 0, none⟩) 1 1] w fun e w' => ∃ v, e = .returned v ∧ Ins1 B w0 Lr (L ++ [x]) v w' := by
  refine calls_intro (c := codeOf Tryz.f35) (rs := [.tmp 6]) (N := 95) Tryz.func35 kr kr kr ?_
  have hlen := hrow.len
  rcases hrow with ⟨rfl, rfl, rfl, rfl, rfl⟩ | ⟨bw, cur, rfl, rfl, hrw⟩
  · refine rS [.v] h kr fun gs1 w1 H1 => ?_
    refine rS [.v, .v, .v] H1 kr fun gs2 w2 H2 => ?_
    refine rS [.v, .v, .v] H2 kr fun gs3 w3 H3 => ?_
    refine g_seq kr ?_
    refine rS [.v, .v] H3 kr fun gs4 w4 H4 => ?_
    refine g_cond_f kr kr ?_
    refine g_skip kr ?_
    show WP _ _ _ _ _ _
    refine rS [.v, .v, .v] H4 kr fun gs5 w5 H5 => ?_
    refine g_seq kr ?_
    refine rS [.v, .v, .v] H5 kr fun gs6 w6 H6 => ?_
    refine g_cond_t kr kr ?_
    refine g_sreg [0, 1, 2, 3] kr kr ?_
    refine rp [.v, .v] H6 kr fun gs7 w7 H7 => ?_
    show WPs _ _ _ _ [2, 3] _ _
    have H8 : St B w0 w7 ((bv, pwO x) :: Lr) := H7.as kr
    refine s_growNil (K' := 2) H8 (some 25) 23 48 32 (.tmp 23) (.tmp 24) 0 bv 1 #[.string x.1, .string x.2] kr kr kr kr kr kr rfl (one_all rfl) (by omega) ?_
    intro b' cap' cur' w8 H9 hrw
    refine rp [.v] H9 kr fun gs8 w9 H10 => ?_
    show WPs _ _ _ _ [] _ _
    refine s_nil ?_
    have H11 : St B w0 w9 ((b', .cells cur' 48 (0, 0)) :: (bv, pwO x) :: Lr) := H10.as kr
    refine rRr [.tmp 6] [] (.slice (some ⟨b', 0, none⟩) 1 cap') (Ins1 B w0 Lr ([] ++ [x])) H10 kr ?_
    refine ⟨some ⟨b', 0, none⟩, 1, cap', _, rfl, .inr ⟨b', cur', rfl, rfl, hrw⟩, H11.sub ?_⟩
    exact List.Sublist.cons_cons _ (List.sublist_cons_self ..)
  · have hin : ((n : Nat) : Int) ≠ -1 := by omega
    refine rS [.v] h kr fun gs1 w1 H1 => ?_
    refine rS [.v, .v, .o (ins := [((.tmp 10), .slice (some ⟨bw, 0, none⟩) n c), ((.tmp 11), iN n)]) (v := .slice (some ⟨bw, if c = n then 0 else 0 + n * 2, none⟩) (n - n) (c - n)) (fun ρ o w ho hi2 => cutL_run (kz := .i64) (t := 23) (e := 48) (size := 2) (bytes := 32) kr (x := (.tmp 10)) (z := (.tmp 11)) bw 0 n c n ho hi2.1 hi2.2.1 (Nat.le_refl _) hrw.le w)] H1 kr fun gs2 w2 H2 => ?_
    refine rS [.v, .v, .v] H2 kr fun gs3 w3 H3 => ?_
    refine g_seq kr ?_
    refine rS [.v, .v] H3 kr fun gs4 w4 H4 => ?_
    refine g_cond_f kr kr ?_
    refine g_skip kr ?_
    show WP _ _ _ _ _ _
    refine rS [.v, .v, .v] H4 kr fun gs5 w5 H5 => ?_
    refine g_seq kr ?_
    refine rS [.v, .v, .e (v := .bool (((n : Nat) : Int) == ((n : Nat) : Int))) (v' := .bool true) (bool_eq (beq_self_eq_true _))] H5 kr fun gs6 w6 H6 => ?_
    refine g_cond_t kr kr ?_
    refine g_sreg [0, 1, 2, 3] kr kr ?_
    refine rp [.v, .v] H6 kr fun gs7 w7 H7 => ?_
    show WPs _ _ _ _ [2, 3] _ _
    have H8 : St B w0 w7 ((bw, .cells cur 48 (0, 0)) :: (bv, pwO x) :: Lr) := H7.as kr
    refine s_grow (K' := 2) H8 (some 25) 23 48 32 (.tmp 23) (.tmp 24) 0 1 bw bv n c 1 cur #[.string x.1, .string x.2] (cellsF pS L) kr kr kr kr kr hrw kr kr rfl (one_all rfl) (by omega) (by unfold maxLen; omega) ?_
    intro b' cap' cur' w8 H9 hrw'
    refine rp [.v] H9 kr fun gs8 w9 H10 => ?_
    show WPs _ _ _ _ [] _ _
    refine s_nil ?_
    have H11 : St B w0 w9 ((b', .cells cur' 48 (0, 0)) :: (bv, pwO x) :: Lr) := H10.as kr
    refine rRr [.tmp 6] [] (.slice (some ⟨b', 0, none⟩) (n + 1) cap') (Ins1 B w0 Lr (L ++ [x])) H10 kr ?_
    refine ⟨some ⟨b', 0, none⟩, n + 1, cap', _, rfl, .inr ⟨b', cur', rfl, rfl, ?_⟩, H11.sub ?_⟩
    · rw [cellsF_snoc]; exact hrw'
    · exact List.Sublist.cons_cons _ (List.sublist_cons_self ..)
end Go.Proofs.YtlhfgbjhngkicaaGreatDoor

namespace Go.Proofs.YtlhfgbjhngkicaaGreatDoor
open Go Go.RowKit
set_option linter.unusedVariables false
def okPut (L : List Pr) (v : Value) (T : List (Nat × Obj)) : Prop := ∃ (p : Option Addr) (n c : Nat), RowF nS 58 p n c T (layM 65 (entsOf L) []).1 ∧ v = .tuple #[.agg #[.slice p n c, .int .i64 (layM 65 (entsOf L) []).2], .int .i64 0]
theorem posM_less {k : ByteArray} : ∀ {L : List Pr}, posM k L = L.length → ∀ x ∈ L, lexB (tl x.1) (tl k) = true
  | [], _, x, hx => by simp at hx
  | y :: L, h, x, hx => by
    unfold posM at h
    rw [List.takeWhile_cons] at h
    by_cases hy : lexB (tl y.1) (tl k) = true
    · rw [if_pos hy, List.length_cons, List.length_cons] at h
      rcases List.mem_cons.1 hx with rfl | hx
      · exact hy
      · exact posM_less (by unfold posM; omega) x hx
    · rw [if_neg hy] at h; simp at h
theorem rise_snoc {L : List Pr} {k v : ByteArray} (h : L.Pairwise fun a b => lexB (tl a.1) (tl b.1) = true) (hp : posM k L = L.length) : (L ++ [(k, v)]).Pairwise fun a b => lexB (tl a.1) (tl b.1) = true := by
  rw [List.pairwise_append]
  exact ⟨h, List.pairwise_singleton .., fun a ha b hb => by rw [List.mem_singleton.1 hb]; exact posM_less hp a ha⟩
theorem putLast {cur : Array Value} {cap n : Nat} {L : List Pr} {k u v : ByteArray} (h : Rw 2 cur cap n (cellsF pS (L ++ [(k, u)]))) (hn : L.length + 1 = n) : 0 + L.length * 2 + 1 + 1 ≤ cur.size ∧ Rw 2 (Go.Proofs.YtlhfgbjhngkicaaGreatDoor.putA cur (0 + L.length * 2 + 1) (.string v)) cap n (cellsF pS (L ++ [(k, v)])) := by
  have := h.putA (0 + L.length * 2 + 1) (.string v) (by show _ + 1 ≤ _; omega)
  refine ⟨this.1, ?_⟩
  have e : (cellsF pS (L ++ [(k, u)])).take (0 + L.length * 2 + 1) ++ (Value.string v).cells.toList ++ (cellsF pS (L ++ [(k, u)])).drop (0 + L.length * 2 + 1 + (Value.string v).cells.size) = cellsF pS (L ++ [(k, v)]) := by
    have e1 : cellsF pS (L ++ [(k, u)]) = (cellsF pS L ++ [.string k]) ++ [.string u] := by rw [cellsF_snoc]; show _ ++ [_, _] = _; simp
    have e2 : cellsF pS (L ++ [(k, v)]) = (cellsF pS L ++ [.string k]) ++ [.string v] := by rw [cellsF_snoc]; show _ ++ [_, _] = _; simp
    rw [e1, e2]
    exact put_last (X := cellsF pS L ++ [.string k]) (Z := [.string u]) (V := [.string v]) (off := 0 + L.length * 2 + 1) (by rw [List.length_append, cellsF_len]; show _ * 2 + 1 = _; omega) rfl
  rw [← e]; exact this.2
end Go.Proofs.YtlhfgbjhngkicaaGreatDoor

namespace Go.Proofs.YtlhfgbjhngkicaaGreatDoor
open Go Go.RowKit
set_option linter.unusedVariables false
set_option maxRecDepth 100000 in
set_option maxHeartbeats 4000000 in
theorem put_end (p : Option Addr) (n c : Nat) (root : Int) (A : List Nd) (hA : ∀ x ∈ A, x.part.size ≤ 140737488355328) (hAl : A.length ≤ 1000000000000) (key value : ByteArray) {L : List Pr} (hr : readM A root = some L) (hm : mayM key value = true) (hp : posM key L = L.length) (h64 : L.length < 64) :
    FnT Tryz.prog 16 #[.agg #[.slice p n c, .int .i64 root], .string key, .string value] (fun w => NdAt w p n A) (okPut (L ++ [(key, value)])) := by
  refine FnT.intro (c := codeOf Tryz.f16) [.cell 6 26, .tmp 7] 53 Tryz.func16 kr kr kr fun w hN => ?_
  have H0 := St.start w
  have hmay := readM_may hr
  have hrise := readM_rise hr
  have hsz := may_size hm
  have hH : hasM key L = false := by unfold hasM; rw [hp, List.getElem?_eq_none (Nat.le_refl _)]
  refine rS [.b, .a, .v] H0 kr fun gs1 w1 H1 => ?_
  refine g_sreg [0, 1, 2, 3, 4, 5, 6] kr kr ?_
  refine rp [.l 0] H1 kr fun gs2 w2 H2 => ?_
  show WPs _ _ _ _ [1, 2, 3, 4, 5, 6] _ _
  have H2 : St w.heap.size w w2 [((gs1 0).b, boT p n c root), ((gs1 1).b, boT none 0 0 0)] := H2.as kr
  refine s_callFT H2 (some 14) 10 #[.agg #[.slice p n c, .int .i64 root]] (pairs_fn p n c root A hA hAl) (hN.call H2.below) kr kr ?_
  intro v T w3 hok H3
  rw [hr] at hok
  obtain ⟨q, m, k, rfl, hrow⟩ := hok
  have hlen := hrow.len
  have H4 : St w.heap.size w w3 (T ++ [((gs1 1).b, boT none 0 0 0)]) := H3.sub (List.Sublist.append_left (List.sublist_cons_self ..) T)
  refine rp [.v, .v, .v, .v, .v] H4 kr fun gs3 w4 H5 => ?_
  show WPs _ _ _ _ [] _ _
  refine s_nil ?_
  refine g_seq kr ?_
  have hmf := tmay_fn key value
  rw [hm] at hmf
  refine rS [.v, .v, .v, .v, .v, .v, .c hmf, .v, .v] H5 kr fun gs4 w5 H6 => ?_
  refine g_cond_f kr kr ?_
  refine g_skip kr ?_
  show WP _ _ _ _ _ _
  refine g_sreg [0, 1, 2, 3, 4, 5, 6, 7] kr kr ?_
  refine rp [.v, .v] H6 kr fun gs5 w6 H7 => ?_
  show WPs _ _ _ _ [2, 3, 4, 5, 6, 7] _ _
  have H8 : St w.heap.size w w6 (T ++ [((gs1 1).b, boT none 0 0 0)]) := H7.as kr
  refine s_callP H8 (some 30) 33 #[.slice q m k, .string key] _ _ (find_fn q m k L key (by omega) hrise) (hrow.prAt H8 fun e he => List.mem_append_left _ he) (fun w => by kernel_rfl) kr ?_
  intro w7 H9
  rw [hH, hp, hlen]
  refine rp [.v, .v, .v, .v, .v] H9 kr fun gs6 w8 H10 => ?_
  show WPs _ _ _ _ [] _ _
  refine s_nil ?_
  refine g_seq kr ?_
  refine rS [.v, .v] H10 kr fun gs7 w9 H11 => ?_
  refine g_cond_t kr kr ?_
  refine g_seq kr ?_
  refine rS [.v, .v, .e (v := .bool (((m : Nat) : Int) == 64)) (v' := .bool false) (bool_eq (beq_eq_false_iff_ne.2 (by omega)))] H11 kr fun gs8 w10 H12 => ?_
  refine g_cond_f kr kr ?_
  refine g_skip kr ?_
  show WP _ _ _ _ _ _
  refine g_reg0 [0, 1, 2, 3, 4, 5, 6] kr ?_
  refine rp [.v, .v, .v, .v, .nw (fun b => .slice (some ⟨b, 0, none⟩) 1 1) #[.string key, .string ⟨#[]⟩] 48] H12 kr fun gs9 w11 H13 => ?_
  show WPs _ _ _ _ [5, 6] _ _
  have H14 : St w.heap.size w w11 ((T ++ [((gs1 1).b, boT none 0 0 0)]) ++ [((gs9 4).b, pwO (key, ⟨#[]⟩))]) := H13.as kr
  have H15 : St w.heap.size w w11 (T ++ (((gs9 4).b, pwO (key, ⟨#[]⟩)) :: [((gs1 1).b, boT none 0 0 0)])) := H14.perm (by rw [List.append_assoc]; exact List.Perm.append_left T (List.Perm.swap ..))
  refine s_callC (some 44) 35 #[.slice q m k, iN m, .slice (some ⟨(gs9 4).b, 0, none⟩) 1 1] (insertEnd_c q m k L (key, ⟨#[]⟩) (gs9 4).b T [((gs1 1).b, boT none 0 0 0)] hrow H15 (by omega)) kr kr ?_
  rintro v w12 ⟨q2, m2, k2, row2, rfl, hrow2, H16⟩
  refine rp [.v] H16 kr fun gs10 w13 H17 => ?_
  show WPs _ _ _ _ [] _ _
  refine s_nil ?_
  show WP _ _ _ _ _ _
  have hlen2 := hrow2.len
  rw [List.length_append, List.length_singleton] at hlen2
  rcases hrow2 with ⟨_, _, _, _, h0⟩ | ⟨bw, cur, rfl, rfl, hrw⟩
  · simp at h0
  have hput := putLast (v := value) hrw hlen2
  refine rS [.v, .v, .v, .c (cloneS_fn value (by omega)), .o (ins := [((.tmp 45), .slice (some ⟨bw, 0, none⟩) m2 k2), ((.tmp 46), iN m)]) (v := .pointer (some ⟨bw, 0 + m * 2, none⟩)) (fun ρ o w ho hi2 => idxP_run (kd := .i64) (t := 23) (e := 48) (K := 2) (bytes := 32) kr (x := (.tmp 45)) (y := (.tmp 46)) bw 0 m2 k2 m rfl ho hi2.1 hi2.2.1 (by omega) w), .v, .se 0 (C := cur) (C' := putA cur (0 + m * 2 + 1) (.string value)) (off := 0 + m * 2 + 1) (v := .string value) (by rw [← hlen]; exact hput.1) rfl] H17 kr fun gs11 w14 H18 => ?_
  rw [hlen] at hput
  have H19 : St w.heap.size w w14 [(bw, .cells (putA cur (0 + m * 2 + 1) (.string value)) 48 (0, 0)), ((gs1 1).b, boT none 0 0 0)] := H18.as kr
  have hrow3 : RowF pS 48 (some ⟨bw, 0, none⟩) m2 k2 [(bw, .cells (putA cur (0 + m * 2 + 1) (.string value)) 48 (0, 0))] (L ++ [(key, value)]) := .inr ⟨bw, _, rfl, rfl, hput.2⟩
  refine g_sreg [0, 1, 2, 3] kr kr ?_
  refine rp [.v] H18 kr fun gs12 w15 H20 => ?_
  show WPs _ _ _ _ [1, 2, 3] _ _
  have H21 : St w.heap.size w w15 [(bw, .cells (putA cur (0 + m * 2 + 1) (.string value)) 48 (0, 0)), ((gs1 1).b, boT none 0 0 0)] := H20.as kr
  refine s_callFT H21 (some 52) 36 #[.slice (some ⟨bw, 0, none⟩) m2 k2] (build_fn (some ⟨bw, 0, none⟩) m2 k2 (L ++ [(key, value)]) (by rw [List.length_append]; show _ + 1 ≤ _; omega) (fun x hx => ?_) (key_rise.2 (rise_snoc hrise hp))) (hrow3.prAt H21 fun e he => List.mem_of_mem_head? (by rw [List.mem_singleton.1 he]; rfl)) kr kr ?_
  · rcases List.mem_append.1 hx with hx | hx
    · exact (may_size (hmay x hx)).1.2
    · rw [List.mem_singleton.1 hx]; exact hsz.1.2
  rintro v T2 w16 ⟨p3, n3, c3, hrow4, rfl⟩ H22
  have H23 : St w.heap.size w w16 (((gs1 1).b, boT none 0 0 0) :: T2) := (H22.sub (List.Sublist.append_left (List.sublist_cons_self ..) T2)).perm (List.perm_append_comm (l₁ := [((gs1 1).b, boT none 0 0 0)]) (l₂ := T2))
  refine rp [.s 0, .v] H23 kr fun gs13 w17 H24 => ?_
  show WPs _ _ _ _ [] _ _
  refine s_nil ?_
  have H25 : St w.heap.size w w17 (((gs1 1).b, boT p3 n3 c3 (layM 65 (entsOf (L ++ [(key, value)])) []).2) :: T2) := H24.as kr
  refine rRr [.cell 6 26, .tmp 7] [0] (.tuple #[.agg #[.slice p3 n3 c3, .int .i64 (layM 65 (entsOf (L ++ [(key, value)])) []).2], .int .i64 0]) (outT w.heap.size w (okPut (L ++ [(key, value)]))) H25 kr ?_
  exact ⟨T2, ⟨p3, n3, c3, hrow4, rfl⟩, H25.sub (List.sublist_cons_self ..)⟩
end Go.Proofs.YtlhfgbjhngkicaaGreatDoor

namespace Go.Proofs.YtlhfgbjhngkicaaGreatDoor
open Go Go.RowKit
set_option linter.unusedVariables false
def okRow (L : List Pr) (v : Value) (T : List (Nat × Obj)) : Prop := ∃ (p : Option Addr) (n c : Nat), v = .slice p n c ∧ RowF pS 48 p n c T L
def partP (x : Pr) : Pr := (strB (hv (tl x.1)), x.2)
theorem hv_length : ∀ l : List UInt8, (hv l).length = 2 * l.length
  | [] => rfl
  | a :: l => by simp only [hv, List.length_cons, hv_length l]; omega
theorem take_one {α : Type} {L : List α} {i : Nat} {a : α} (ha : L[i]? = some a) : L.take (i + 1) = L.take i ++ [a] := by
  rw [List.take_add_one, ha]; rfl
set_option maxRecDepth 100000 in
set_option maxHeartbeats 4000000 in
theorem parts_fn (p : Option Addr) (n c : Nat) (L : List Pr) (hL : L.length ≤ 1000000) (hk : ∀ x ∈ L, x.1.size ≤ 1000000) :
    FnT Tryz.prog 24 #[.slice p n c] (fun w => PrAt w p n L) (okRow (L.map partP)) := by
  refine FnT.intro (c := codeOf Tryz.f24) [.tmp 2] 24 Tryz.func24 kr kr kr fun w hP => ?_
  have H0 := St.start w
  have hn := hP.1
  refine rS [.v] H0 kr fun gs1 w1 H1 => ?_
  refine rS [.nw (fun b => .slice (some ⟨b, 0, none⟩) 0 0) #[] 48, .v] H1 kr fun gs2 w2 H2 => ?_
  refine g_seq kr ?_
  refine rS [.v, .v, .v] H2 kr fun gs3 w3 H3 => ?_
  refine g_block 0 kr ?_
  have H4 : St w.heap.size w w3 [((gs2 0).b, .cells #[] 48 (0, 0))] := H3.as kr
  refine g_loop kr (fun mz ρ ww => ∃ (i b k : Nat) (cur : Array Value), n - i = mz ∧ i ≤ n ∧ Rw 2 cur k i (cellsF pS ((L.take i).map partP)) ∧ St w.heap.size w ww [(b, .cells cur 48 (0, 0))] ∧ Is [(3, .slice (some ⟨b, 0, none⟩) i k), (7, .slice p n c), (8, iN n), (9, iN i)] ρ) (n - 0) ⟨0, (gs2 0).b, 0, #[], rfl, Nat.zero_le _, ⟨rfl, Nat.le_refl _, Nat.zero_le _, rfl, rfl⟩, H4, (Is.of ⟨kr, kr, kr, kr, trivial⟩)⟩ ?_
  clear H0 H1 H2 H3 H4
  rintro _ _ w4 ⟨i, b, k, cur, rfl, hin, hrw, H5, _, rfl⟩
  by_cases hi : i < n
  · obtain ⟨⟨kk, vv⟩, hx⟩ : ∃ x, L[i]? = some x := ⟨_, List.getElem?_eq_getElem (by omega)⟩
    have hks : kk.size ≤ 1000000 := hk _ (List.mem_of_getElem? hx)
    obtain ⟨bl, off, C, T, fz, hp, hh, hR⟩ := hP.row (by omega)
    refine rS [.e (v := .bool (decide (((i : Nat) : Int) < ((n : Nat) : Int)))) (v' := .bool true) (bool_eq (decide_eq_true (by omega)))] H5 kr fun gs4 w5 H6 => ?_
    refine g_seq kr ?_
    refine g_cond_t kr kr ?_
    refine g_skip kr ?_
    show WP _ _ _ _ _ _
    refine g_seq kr ?_
    refine g_block 1 kr ?_
    refine rS [.o (ins := [((.tmp 7), .slice p n c), ((.tmp 9), iN i)]) (v := .pointer (some ⟨bl, off + i * 2, none⟩)) (fun ρ o w ho hi2 => idxP_run (kd := .i64) (t := 23) (e := 48) (K := 2) (bytes := 32) kr (x := (.tmp 7)) (y := (.tmp 9)) bl off n c i hp ho hi2.1 hi2.2.1 hi w), .fp (off := off + i * 2) (n := 2) (W := #[.string kk, .string vv]) hh (lt_of_heap hh) (hR _ _ hx).1 (hR _ _ hx).2, .a, .s 1] H6 kr fun gs5 w6 H7 => ?_
    have H8 : St w.heap.size w w6 ([(b, .cells cur 48 (0, 0))] ++ [((gs5 2).b, pwO (kk, vv))]) := H7.as kr
    have hof := ofR_fn kk (by show kk.size ≤ _; omega)
    refine D2.g_draw0 [0, 1, 2, 3, 4, 5, 6, 7, 8, 9] [(some 13, fun _ => .slice (some ⟨b, 0, none⟩) i k), (some 14, fun _ => .pointer (some ⟨(gs5 2).b, 0, none⟩)), (some 15, fun _ => .string kk), (some 16, fun _ => .string (strB (hv (tl kk)))), (some 17, fun _ => .pointer (some ⟨(gs5 2).b, 1, none⟩)), (some 18, fun _ => .string vv), (some 19, fun _ => .agg #[.string (strB (hv (tl kk))), .string vv]), (some 20, fun y => .slice (some ⟨y.b, 0, none⟩) 1 1), (some 21, fun y => .slice (some ⟨y.b, 0, none⟩) (i + 1) y.cap), (some 3, fun y => .slice (some ⟨y.b, 0, none⟩) (i + 1) y.cap)]
      (D2.ApP 7 8 9 (D2.ap0 w.heap.size w [(b, .cells cur 48 (0, 0))] [((gs5 2).b, pwO (kk, vv))]) (D2.ap1 w.heap.size w [(b, .cells cur 48 (0, 0))] [((gs5 2).b, pwO (kk, vv))] #[.string (strB (hv (tl kk))), .string vv] 48) (D2.ap2 w.heap.size w [((gs5 2).b, pwO (kk, vv))] #[.string (strB (hv (tl kk))), .string vv] 48 2 i (cellsF pS ((L.take i).map partP)))) kr kr kr H8.drew ⟨?_, ?_, ?_, ?_, ?_, ?_, ?_, ?_, ?_, ?_, trivial⟩ ?_
    · exact D2.gv_val (fun _ _ _ h => h) (fun g w => by kernel_rfl)
    · exact D2.gv_val (fun _ _ _ h => h) (fun g w => by kernel_rfl)
    · exact D2.gv_ld (fun _ _ _ h => h) 9 (.tmp 14) (fun _ => (gs5 2).b) 0 #[.string kk, .string vv] 48 (0, 0) (fun g => by kernel_rfl) (fun g => by kernel_rfl) (fun L g w hN hp => hp.get (fun h => St.get h 1 kr) (fun _ h => St.get h 2 kr) (fun _ h => St.get h.2 1 kr)) kr kr
    · exact D2.gv_cW (fun _ _ _ h => h) 41 #[.string kk] hof (fun L g w w' hN hp hb => hp.call (fun h => St.call h hb) (fun _ h => St.call h hb) (fun _ h => ⟨h.1, St.call h.2 hb⟩)) (fun g w => by kernel_rfl)
    · exact D2.gv_val (fun _ _ _ h => h) (fun g w => by kernel_rfl)
    · exact D2.gv_ld (fun _ _ _ h => h) 9 (.tmp 17) (fun _ => (gs5 2).b) 1 #[.string kk, .string vv] 48 (0, 0) (fun g => by kernel_rfl) (fun g => by kernel_rfl) (fun L g w hN hp => hp.get (fun h => St.get h 1 kr) (fun _ h => St.get h 2 kr) (fun _ h => St.get h.2 1 kr)) kr kr
    · exact D2.gv_val (fun _ _ _ h => h) (fun g w => by kernel_rfl)
    · exact D2.gv_ap1 7 8 9 kr kr (fun L hN => ⟨hN.post 8 kr, hN.post 9 kr⟩) (fun g w => by kernel_rfl)
    · exact D2.gv_ap2 7 8 9 kr k 23 32 (.tmp 13) (.tmp 20) (some ⟨b, 0, none⟩) (fun L hN => ⟨hN.bef 7 kr, hN.post 9 kr⟩) (fun g => by kernel_rfl) kr (fun g => by kernel_rfl) (fun g => by kernel_rfl) (.inr ⟨b, cur, rfl, rfl, hrw⟩) rfl (one_all rfl) (by omega) (by unfold maxLen; omega)
    · exact D2.gv_ap3 7 8 9 (fun L hN => hN.bef 8 kr) (fun g w => by kernel_rfl)
    · intro L1 gg w14 hall hp
      unfold D2.ApP at hp
      rw [hall 9 (Nat.le_of_ble_eq_true kr)] at hp
      obtain ⟨hr', HS⟩ := hp
      show WP _ _ _ _ _ _
      refine rL [.e (v := .int .i64 (IntKind.i64.wrap (((i : Nat) : Int) + 1))) (v' := .int .i64 ((i + 1 : Nat) : Int)) (int_eq (wrapAdd_i64 (a := i) (b := 1) (by omega))), .v] HS kr fun gs7 w10 H9 => ?_
      show ∃ m, _ ∧ _
      have H10 : St w.heap.size w w10 [((gg 9).b, .cells (gg 9).cur 48 (0, 0)), ((gs5 2).b, pwO (kk, vv))] := H9.as kr
      refine ⟨_, (by omega), i + 1, (gg 9).b, (gg 9).cap, (gg 9).cur, rfl, hi, ?_, H10.sub (List.Sublist.cons_cons _ (List.sublist_cons_self ..)), (Is.of ⟨kr, kr, kr, kr, trivial⟩)⟩
      rw [take_one hx, List.map_append, List.map_singleton, cellsF_snoc]
      exact hr'
  · refine rS [.e (v := .bool (decide (((i : Nat) : Int) < ((n : Nat) : Int)))) (v' := .bool false) (bool_eq (decide_eq_false (by omega)))] H5 kr fun gs4 w5 H6 => ?_
    refine g_seq kr ?_
    refine g_cond_f kr kr ?_
    refine g_exit 0 kr ?_
    show WP _ _ _ _ _ _
    refine rS [.v, .v] H6 kr fun gs5 w6 H7 => ?_
    refine rRr [.tmp 2] [] (.slice (some ⟨b, 0, none⟩) i k) (outT w.heap.size w (okRow (L.map partP))) H7 kr ?_
    rw [List.take_of_length_le (by omega)] at hrw
    exact ⟨_, ⟨some ⟨b, 0, none⟩, i, k, rfl, .inr ⟨b, cur, rfl, rfl, hrw⟩⟩, H7.as kr⟩
end Go.Proofs.YtlhfgbjhngkicaaGreatDoor

namespace Go.Proofs.YtlhfgbjhngkicaaGreatDoor
open Go Go.RowKit
set_option linter.unusedVariables false
def pE (e : Ent) : Pr := (strB e.1, e.2)
def keepE (a : Nat) : List UInt8 → Bool
  | [] => a == 16
  | b :: _ => a == 16 || b.toNat == a
def cutG (a m : Nat) (l : List Ent) : List Ent := (l.filter fun e => keepE a e.1).map fun e => (e.1.drop m, e.2)
theorem cutG_snoc (a m : Nat) (l : List Ent) (e : Ent) : cutG a m (l ++ [e]) = if keepE a e.1 = true then cutG a m l ++ [(e.1.drop m, e.2)] else cutG a m l := by
  unfold cutG
  rw [List.filter_append, List.map_append, List.filter_cons, List.filter_nil]
  cases keepE a e.1 <;> simp
theorem cutG_all (m : Nat) (l : List Ent) : cutG 16 m l = dropE m l := by
  unfold cutG dropE
  rw [List.filter_eq_self.2 fun e _ => by unfold keepE; split <;> simp]
theorem cutG_one (c : Nat) (hc : c < 16) : ∀ l : List Ent, cutG c 1 l = cutE c l
  | [] => rfl
  | e :: l => by
    have ih := cutG_one c hc l
    unfold cutG cutE at ih ⊢
    rw [List.filter_cons, List.filterMap_cons]
    obtain ⟨k, v⟩ := e
    cases k with
    | nil => rw [if_neg (by simp [keepE]; omega)]; exact ih
    | cons b t =>
      by_cases h : b.toNat = c
      · rw [if_pos (by simp [keepE, h])]
        simp only [h, if_true, List.map_cons, List.drop_succ_cons, List.drop_zero]
        rw [ih]
      · rw [if_neg (by simp [keepE, h]; omega)]
        simp only [h, if_false]
        exact ih
theorem ext_drop (x : List UInt8) (m : Nat) (h : m ≤ x.length) : (strB x).extract m (strB x).size = strB (x.drop m) := by
  have := ext_pre (x.take m) (x.drop m) m (by rw [List.length_take]; omega)
  rwa [List.take_append_drop] at this
theorem pE_get {l : List Ent} {i : Nat} {e : Ent} (h : l[i]? = some e) : (l.map pE)[i]? = some (pE e) := by rw [List.getElem?_map, h]; rfl
set_option maxRecDepth 100000 in
set_option maxHeartbeats 4000000 in
theorem cut_fn (p : Option Addr) (n c a m : Nat) (l : List Ent) (hL : l.length ≤ 1000000) (hk : ∀ e ∈ l, e.1.length ≤ 1000000) (hm : ∀ e ∈ l, keepE a e.1 = true → m ≤ e.1.length) (ha : a ≤ 1000) :
    FnT Tryz.prog 40 #[.slice p n c, iN a, iN m] (fun w => PrAt w p n (l.map pE)) (okRow ((cutG a m l).map pE)) := by
  refine FnT.intro (c := codeOf Tryz.f40) [.tmp 6] 45 Tryz.func40 kr kr kr fun w hP => ?_
  have H0 := St.start w
  have hn := hP.1
  rw [List.length_map] at hn
  refine rS [.v] H0 kr fun gs1 w1 H1 => ?_
  refine rS [.nw (fun b => .slice (some ⟨b, 0, none⟩) 0 0) #[] 48, .v] H1 kr fun gs2 w2 H2 => ?_
  refine g_seq kr ?_
  refine rS [.v, .v, .v] H2 kr fun gs3 w3 H3 => ?_
  refine g_block 0 kr ?_
  have H4 : St w.heap.size w w3 [((gs2 0).b, .cells #[] 48 (0, 0))] := H3.as kr
  refine g_loop kr (fun mz ρ ww => ∃ (i b k r : Nat) (cur : Array Value), n - i = mz ∧ i ≤ n ∧ r ≤ i ∧ Rw 2 cur k r (cellsF pS ((cutG a m (l.take i)).map pE)) ∧ St w.heap.size w ww [(b, .cells cur 48 (0, 0))] ∧ Is [(1, iN a), (2, iN m), (7, .slice (some ⟨b, 0, none⟩) r k), (11, .slice p n c), (12, iN n), (13, iN i)] ρ) (n - 0) ⟨0, (gs2 0).b, 0, 0, #[], rfl, Nat.zero_le _, Nat.le_refl _, ⟨rfl, Nat.le_refl _, Nat.zero_le _, rfl, rfl⟩, H4, (Is.of ⟨kr, kr, kr, kr, kr, kr, trivial⟩)⟩ ?_
  clear H0 H1 H2 H3 H4
  rintro _ _ w4 ⟨i, b, k, r, cur, rfl, hin, hri, hrw, H5, _, rfl⟩
  by_cases hi : i < n
  · obtain ⟨⟨kk, vv⟩, hx0⟩ : ∃ x, l[i]? = some x := ⟨_, List.getElem?_eq_getElem (by omega)⟩
    have hx := pE_get hx0
    have hks : kk.length ≤ 1000000 := hk _ (List.mem_of_getElem? hx0)
    have hmm : keepE a kk = true → m ≤ kk.length := hm _ (List.mem_of_getElem? hx0)
    have htk := take_one hx0
    obtain ⟨bl, off, C, T, fz, hp, hh, hR⟩ := hP.row (by omega)
    refine rS [.e (v := .bool (decide (((i : Nat) : Int) < ((n : Nat) : Int)))) (v' := .bool true) (bool_eq (decide_eq_true (by omega)))] H5 kr fun gs4 w5 H6 => ?_
    refine g_seq kr ?_
    refine g_cond_t kr kr ?_
    refine g_skip kr ?_
    show WP _ _ _ _ _ _
    refine g_seq kr ?_
    refine g_block 1 kr ?_
    refine rS [.o (ins := [((.tmp 11), .slice p n c), ((.tmp 13), iN i)]) (v := .pointer (some ⟨bl, off + i * 2, none⟩)) (fun ρ o w ho hi2 => idxP_run (kd := .i64) (t := 23) (e := 48) (K := 2) (bytes := 32) kr (x := (.tmp 11)) (y := (.tmp 13)) bl off n c i hp ho hi2.1 hi2.2.1 hi w), .fp (off := off + i * 2) (n := 2) (W := #[.string (strB kk), .string vv]) hh (lt_of_heap hh) (hR _ _ hx).1 (hR _ _ hx).2, .a, .s 1] H6 kr fun gs5 w6 H7 => ?_
    have H8 : St w.heap.size w w6 ([(b, .cells cur 48 (0, 0))] ++ [((gs5 2).b, pwO (strB kk, vv))]) := H7.as kr
    by_cases h16 : a = 16
    · have hkeep : keepE a kk = true := by unfold keepE; split <;> simp [h16]
      refine rS [.v, .e (v := .bool (((a : Nat) : Int) == 16)) (v' := .bool true) (bool_eq (beq_iff_eq.2 (by omega))), .v, .n, .n, .n, .n, .n, .n, .n, .n, .n, .n, .n, .n, .v] H7 kr fun gs6 w7 H9 => ?_
      refine g_cond_t kr kr ?_
      have H10 : St w.heap.size w w7 ([(b, .cells cur 48 (0, 0))] ++ [((gs5 2).b, pwO (strB kk, vv))]) := H9.as kr
      have hext := ext_drop kk m (hmm hkeep)
      refine D2.g_draw0 [0, 1, 2, 3, 4, 5, 6, 7, 8, 9, 10] [(some 33, fun _ => .slice (some ⟨b, 0, none⟩) r k), (some 34, fun _ => .pointer (some ⟨(gs5 2).b, 0, none⟩)), (some 35, fun _ => .string (strB kk)), (some 36, fun _ => iN m), (some 37, fun _ => .string (strB (kk.drop m))), (some 38, fun _ => .pointer (some ⟨(gs5 2).b, 1, none⟩)), (some 39, fun _ => .string vv), (some 40, fun _ => .agg #[.string (strB (kk.drop m)), .string vv]), (some 41, fun y => .slice (some ⟨y.b, 0, none⟩) 1 1), (some 42, fun y => .slice (some ⟨y.b, 0, none⟩) (r + 1) y.cap), (some 7, fun y => .slice (some ⟨y.b, 0, none⟩) (r + 1) y.cap)]
        (D2.ApP 8 9 10 (D2.ap0 w.heap.size w [(b, .cells cur 48 (0, 0))] [((gs5 2).b, pwO (strB kk, vv))]) (D2.ap1 w.heap.size w [(b, .cells cur 48 (0, 0))] [((gs5 2).b, pwO (strB kk, vv))] #[.string (strB (kk.drop m)), .string vv] 48) (D2.ap2 w.heap.size w [((gs5 2).b, pwO (strB kk, vv))] #[.string (strB (kk.drop m)), .string vv] 48 2 r (cellsF pS ((cutG a m (l.take i)).map pE)))) kr kr kr H10.drew ⟨?_, ?_, ?_, ?_, ?_, ?_, ?_, ?_, ?_, ?_, ?_, trivial⟩ ?_
      · exact D2.gv_val (fun _ _ _ h => h) (fun g w => by kernel_rfl)
      · exact D2.gv_val (fun _ _ _ h => h) (fun g w => by kernel_rfl)
      · exact D2.gv_ld (fun _ _ _ h => h) 9 (.tmp 34) (fun _ => (gs5 2).b) 0 #[.string (strB kk), .string vv] 48 (0, 0) (fun g => by kernel_rfl) (fun g => by kernel_rfl) (fun L g w hN hp => hp.get (fun h => St.get h 1 kr) (fun _ h => St.get h 2 kr) (fun _ h => St.get h.2 1 kr)) kr kr
      · exact D2.gv_val (fun _ _ _ h => h) (fun g w => by kernel_rfl)
      · exact D2.gv_opE (V' := .string ((strB kk).extract m (strB kk).size)) (fun _ _ _ h => h) (.slice 9 (.tmp 35) (some (.tmp 36)) none none) (fun g => by kernel_rfl) (fun g o w ho => scut3_run (t := 9) (kz := .i64) kr (x := .tmp 35) (z := .tmp 36) (strB kk) m ho kr kr (by rw [strB_size]; exact hmm hkeep) w) (by rw [hext])
      · exact D2.gv_val (fun _ _ _ h => h) (fun g w => by kernel_rfl)
      · exact D2.gv_ld (fun _ _ _ h => h) 9 (.tmp 38) (fun _ => (gs5 2).b) 1 #[.string (strB kk), .string vv] 48 (0, 0) (fun g => by kernel_rfl) (fun g => by kernel_rfl) (fun L g w hN hp => hp.get (fun h => St.get h 1 kr) (fun _ h => St.get h 2 kr) (fun _ h => St.get h.2 1 kr)) kr kr
      · exact D2.gv_val (fun _ _ _ h => h) (fun g w => by kernel_rfl)
      · exact D2.gv_ap1 8 9 10 kr kr (fun L hN => ⟨hN.post 9 kr, hN.post 10 kr⟩) (fun g w => by kernel_rfl)
      · exact D2.gv_ap2 8 9 10 kr k 23 32 (.tmp 33) (.tmp 41) (some ⟨b, 0, none⟩) (fun L hN => ⟨hN.bef 8 kr, hN.post 10 kr⟩) (fun g => by kernel_rfl) kr (fun g => by kernel_rfl) (fun g => by kernel_rfl) (.inr ⟨b, cur, rfl, rfl, hrw⟩) rfl (one_all rfl) (by omega) (by unfold maxLen; omega)
      · exact D2.gv_ap3 8 9 10 (fun L hN => hN.bef 9 kr) (fun g w => by kernel_rfl)
      · intro L1 gg w14 hall hp
        unfold D2.ApP at hp
        rw [hall 10 (Nat.le_of_ble_eq_true kr)] at hp
        obtain ⟨hr', HS⟩ := hp
        show WP _ _ _ _ _ _
        refine rL [.e (v := .int .i64 (IntKind.i64.wrap (((i : Nat) : Int) + 1))) (v' := .int .i64 ((i + 1 : Nat) : Int)) (int_eq (wrapAdd_i64 (a := i) (b := 1) (by omega))), .v] HS kr fun gs7 w10 H9 => ?_
        show ∃ m, _ ∧ _
        have H12 : St w.heap.size w w10 [((gg 10).b, .cells (gg 10).cur 48 (0, 0)), ((gs5 2).b, pwO (strB kk, vv))] := H9.as kr
        refine ⟨_, (by omega), i + 1, (gg 10).b, (gg 10).cap, r + 1, (gg 10).cur, rfl, hi, by omega, ?_, H12.sub (List.Sublist.cons_cons _ (List.sublist_cons_self ..)), (Is.of ⟨kr, kr, kr, kr, kr, kr, trivial⟩)⟩
        rw [htk, cutG_snoc, if_pos hkeep, List.map_append, List.map_singleton, cellsF_snoc]
        exact hr'
    · cases kk with
      | nil =>
        have hkeep : keepE a [] = false := by simp [keepE, h16]
        refine rS [.v, .e (v := .bool (((a : Nat) : Int) == 16)) (v' := .bool false) (bool_eq (beq_eq_false_iff_ne.2 (by omega))), .v, .v, .l 1, .v, .v, .v, .n, .n, .n, .n, .n, .n, .v, .v] H7 kr fun gs6 w7 H9 => ?_
        refine g_cond_f kr kr ?_
        refine g_skip kr ?_
        show WP _ _ _ _ _ _
        refine rL [.e (v := .int .i64 (IntKind.i64.wrap (((i : Nat) : Int) + 1))) (v' := .int .i64 ((i + 1 : Nat) : Int)) (int_eq (wrapAdd_i64 (a := i) (b := 1) (by omega))), .v] H9 kr fun gs7 w10 H11 => ?_
        show ∃ m, _ ∧ _
        have H12 : St w.heap.size w w10 [(b, .cells cur 48 (0, 0)), ((gs5 2).b, pwO (strB [], vv))] := H11.as kr
        refine ⟨_, (by omega), i + 1, b, k, r, cur, rfl, hi, by omega, ?_, H12.sub (List.Sublist.cons_cons _ (List.sublist_cons_self ..)), (Is.of ⟨kr, kr, kr, kr, kr, kr, trivial⟩)⟩
        rw [htk, cutG_snoc, if_neg (by rw [hkeep]; decide)]
        exact hrw
      | cons c0 t0 =>
        have hsz : (strB (c0 :: t0)).size = t0.length + 1 := by rw [strB_size]; rfl
        cases hkeep : keepE a (c0 :: t0) with
        | true =>
          have hca : c0.toNat = a := by simp [keepE, h16] at hkeep; exact hkeep
          refine rS [.v, .e (v := .bool (((a : Nat) : Int) == 16)) (v' := .bool false) (bool_eq (beq_eq_false_iff_ne.2 (by omega))), .v, .v, .l 1, .v, .e (v := .bool (decide ((0 : Int) < (((strB (c0 :: t0)).size : Nat) : Int)))) (v' := .bool true) (bool_eq (decide_eq_true (by omega))), .v, .v, .l 1, .oe (ins := [((.tmp 26), .string (strB (c0 :: t0)))]) (v := .int .u8 ((by_ (strB (c0 :: t0)) 0 : Nat) : Int)) (v' := .int .u8 ((c0.toNat : Nat) : Int)) (fun ρ o w ho hi2 => sindex_run (t := 9) (kd := .i64) kr (x := (.tmp 26)) (y := .const (.int .i64 0)) (strB (c0 :: t0)) 0 ho hi2.1 rfl (by omega) w) rfl, .e (v := .int .i64 (IntKind.i64.wrap ((c0.toNat : Nat) : Int))) (v' := iN c0.toNat) (int_eq (wrapN_i64 (by have := UInt8.toNat_lt c0; omega))), .v, .e (v := .bool (((c0.toNat : Nat) : Int) == ((a : Nat) : Int))) (v' := .bool true) (bool_eq (beq_iff_eq.2 (by omega))), .v, .v] H7 kr fun gs6 w7 H9 => ?_
          refine g_cond_t kr kr ?_
          have H10 : St w.heap.size w w7 ([(b, .cells cur 48 (0, 0))] ++ [((gs5 2).b, pwO (strB (c0 :: t0), vv))]) := H9.as kr
          have hext := ext_drop (c0 :: t0) m (hmm hkeep)
          refine D2.g_draw0 [0, 1, 2, 3, 4, 5, 6, 7, 8, 9, 10] [(some 33, fun _ => .slice (some ⟨b, 0, none⟩) r k), (some 34, fun _ => .pointer (some ⟨(gs5 2).b, 0, none⟩)), (some 35, fun _ => .string (strB (c0 :: t0))), (some 36, fun _ => iN m), (some 37, fun _ => .string (strB ((c0 :: t0).drop m))), (some 38, fun _ => .pointer (some ⟨(gs5 2).b, 1, none⟩)), (some 39, fun _ => .string vv), (some 40, fun _ => .agg #[.string (strB ((c0 :: t0).drop m)), .string vv]), (some 41, fun y => .slice (some ⟨y.b, 0, none⟩) 1 1), (some 42, fun y => .slice (some ⟨y.b, 0, none⟩) (r + 1) y.cap), (some 7, fun y => .slice (some ⟨y.b, 0, none⟩) (r + 1) y.cap)]
            (D2.ApP 8 9 10 (D2.ap0 w.heap.size w [(b, .cells cur 48 (0, 0))] [((gs5 2).b, pwO (strB (c0 :: t0), vv))]) (D2.ap1 w.heap.size w [(b, .cells cur 48 (0, 0))] [((gs5 2).b, pwO (strB (c0 :: t0), vv))] #[.string (strB ((c0 :: t0).drop m)), .string vv] 48) (D2.ap2 w.heap.size w [((gs5 2).b, pwO (strB (c0 :: t0), vv))] #[.string (strB ((c0 :: t0).drop m)), .string vv] 48 2 r (cellsF pS ((cutG a m (l.take i)).map pE)))) kr kr kr H10.drew ⟨?_, ?_, ?_, ?_, ?_, ?_, ?_, ?_, ?_, ?_, ?_, trivial⟩ ?_
          · exact D2.gv_val (fun _ _ _ h => h) (fun g w => by kernel_rfl)
          · exact D2.gv_val (fun _ _ _ h => h) (fun g w => by kernel_rfl)
          · exact D2.gv_ld (fun _ _ _ h => h) 9 (.tmp 34) (fun _ => (gs5 2).b) 0 #[.string (strB (c0 :: t0)), .string vv] 48 (0, 0) (fun g => by kernel_rfl) (fun g => by kernel_rfl) (fun L g w hN hp => hp.get (fun h => St.get h 1 kr) (fun _ h => St.get h 2 kr) (fun _ h => St.get h.2 1 kr)) kr kr
          · exact D2.gv_val (fun _ _ _ h => h) (fun g w => by kernel_rfl)
          · exact D2.gv_opE (V' := .string ((strB (c0 :: t0)).extract m (strB (c0 :: t0)).size)) (fun _ _ _ h => h) (.slice 9 (.tmp 35) (some (.tmp 36)) none none) (fun g => by kernel_rfl) (fun g o w ho => scut3_run (t := 9) (kz := .i64) kr (x := .tmp 35) (z := .tmp 36) (strB (c0 :: t0)) m ho kr kr (by rw [strB_size]; exact hmm hkeep) w) (by rw [hext])
          · exact D2.gv_val (fun _ _ _ h => h) (fun g w => by kernel_rfl)
          · exact D2.gv_ld (fun _ _ _ h => h) 9 (.tmp 38) (fun _ => (gs5 2).b) 1 #[.string (strB (c0 :: t0)), .string vv] 48 (0, 0) (fun g => by kernel_rfl) (fun g => by kernel_rfl) (fun L g w hN hp => hp.get (fun h => St.get h 1 kr) (fun _ h => St.get h 2 kr) (fun _ h => St.get h.2 1 kr)) kr kr
          · exact D2.gv_val (fun _ _ _ h => h) (fun g w => by kernel_rfl)
          · exact D2.gv_ap1 8 9 10 kr kr (fun L hN => ⟨hN.post 9 kr, hN.post 10 kr⟩) (fun g w => by kernel_rfl)
          · exact D2.gv_ap2 8 9 10 kr k 23 32 (.tmp 33) (.tmp 41) (some ⟨b, 0, none⟩) (fun L hN => ⟨hN.bef 8 kr, hN.post 10 kr⟩) (fun g => by kernel_rfl) kr (fun g => by kernel_rfl) (fun g => by kernel_rfl) (.inr ⟨b, cur, rfl, rfl, hrw⟩) rfl (one_all rfl) (by omega) (by unfold maxLen; omega)
          · exact D2.gv_ap3 8 9 10 (fun L hN => hN.bef 9 kr) (fun g w => by kernel_rfl)
          · intro L1 gg w14 hall hp
            unfold D2.ApP at hp
            rw [hall 10 (Nat.le_of_ble_eq_true kr)] at hp
            obtain ⟨hr', HS⟩ := hp
            show WP _ _ _ _ _ _
            refine rL [.e (v := .int .i64 (IntKind.i64.wrap (((i : Nat) : Int) + 1))) (v' := .int .i64 ((i + 1 : Nat) : Int)) (int_eq (wrapAdd_i64 (a := i) (b := 1) (by omega))), .v] HS kr fun gs7 w10 H9 => ?_
            show ∃ m, _ ∧ _
            have H12 : St w.heap.size w w10 [((gg 10).b, .cells (gg 10).cur 48 (0, 0)), ((gs5 2).b, pwO (strB (c0 :: t0), vv))] := H9.as kr
            refine ⟨_, (by omega), i + 1, (gg 10).b, (gg 10).cap, r + 1, (gg 10).cur, rfl, hi, by omega, ?_, H12.sub (List.Sublist.cons_cons _ (List.sublist_cons_self ..)), (Is.of ⟨kr, kr, kr, kr, kr, kr, trivial⟩)⟩
            rw [htk, cutG_snoc, if_pos hkeep, List.map_append, List.map_singleton, cellsF_snoc]
            exact hr'
        | false =>
          have hca : c0.toNat ≠ a := by simp [keepE, h16] at hkeep; exact hkeep
          refine rS [.v, .e (v := .bool (((a : Nat) : Int) == 16)) (v' := .bool false) (bool_eq (beq_eq_false_iff_ne.2 (by omega))), .v, .v, .l 1, .v, .e (v := .bool (decide ((0 : Int) < (((strB (c0 :: t0)).size : Nat) : Int)))) (v' := .bool true) (bool_eq (decide_eq_true (by omega))), .v, .v, .l 1, .oe (ins := [((.tmp 26), .string (strB (c0 :: t0)))]) (v := .int .u8 ((by_ (strB (c0 :: t0)) 0 : Nat) : Int)) (v' := .int .u8 ((c0.toNat : Nat) : Int)) (fun ρ o w ho hi2 => sindex_run (t := 9) (kd := .i64) kr (x := (.tmp 26)) (y := .const (.int .i64 0)) (strB (c0 :: t0)) 0 ho hi2.1 rfl (by omega) w) rfl, .e (v := .int .i64 (IntKind.i64.wrap ((c0.toNat : Nat) : Int))) (v' := iN c0.toNat) (int_eq (wrapN_i64 (by have := UInt8.toNat_lt c0; omega))), .v, .e (v := .bool (((c0.toNat : Nat) : Int) == ((a : Nat) : Int))) (v' := .bool false) (bool_eq (beq_eq_false_iff_ne.2 (by omega))), .v, .v] H7 kr fun gs6 w7 H9 => ?_
          refine g_cond_f kr kr ?_
          refine g_skip kr ?_
          show WP _ _ _ _ _ _
          refine rL [.e (v := .int .i64 (IntKind.i64.wrap (((i : Nat) : Int) + 1))) (v' := .int .i64 ((i + 1 : Nat) : Int)) (int_eq (wrapAdd_i64 (a := i) (b := 1) (by omega))), .v] H9 kr fun gs7 w10 H11 => ?_
          show ∃ m, _ ∧ _
          have H12 : St w.heap.size w w10 [(b, .cells cur 48 (0, 0)), ((gs5 2).b, pwO (strB (c0 :: t0), vv))] := H11.as kr
          refine ⟨_, (by omega), i + 1, b, k, r, cur, rfl, hi, by omega, ?_, H12.sub (List.Sublist.cons_cons _ (List.sublist_cons_self ..)), (Is.of ⟨kr, kr, kr, kr, kr, kr, trivial⟩)⟩
          rw [htk, cutG_snoc, if_neg (by rw [hkeep]; decide)]
          exact hrw
  · refine rS [.e (v := .bool (decide (((i : Nat) : Int) < ((n : Nat) : Int)))) (v' := .bool false) (bool_eq (decide_eq_false (by omega)))] H5 kr fun gs4 w5 H6 => ?_
    refine g_seq kr ?_
    refine g_cond_f kr kr ?_
    refine g_exit 0 kr ?_
    show WP _ _ _ _ _ _
    refine rS [.v, .v] H6 kr fun gs5 w6 H7 => ?_
    refine rRr [.tmp 6] [] (.slice (some ⟨b, 0, none⟩) r k) (outT w.heap.size w (okRow ((cutG a m l).map pE))) H7 kr ?_
    rw [List.take_of_length_le (by omega)] at hrw
    exact ⟨_, ⟨some ⟨b, 0, none⟩, r, k, rfl, .inr ⟨b, cur, rfl, rfl, hrw⟩⟩, H7.as kr⟩
end Go.Proofs.YtlhfgbjhngkicaaGreatDoor

namespace Go.Proofs.YtlhfgbjhngkicaaGreatDoor
open Go Go.RowKit
set_option linter.unusedVariables false
theorem cmL_snoc (x : List UInt8) (e : Ent) : ∀ (l : List Ent) (n : Nat), cmL x (l ++ [e]) n = min (shr e.1 x) (cmL x l n)
  | [], n => rfl
  | p :: l, n => by show cmL x (l ++ [e]) _ = _; rw [cmL_snoc x e l]; rfl
set_option maxRecDepth 100000 in
set_option maxHeartbeats 4000000 in
theorem kidsR_fn : Fn Tryz.prog 38 #[] (.agg (kidC aloneL).toArray) := by
  refine Fn.intro (c := codeOf Tryz.f38) [.cell 0 56] 11 Tryz.func38 kr kr kr fun w => ?_
  have H0 := St.start w
  refine rS [.a] H0 kr fun gs1 w1 H1 => ?_
  refine rS [.v, .a, .s 1] H1 kr fun gs2 w2 H2 => ?_
  refine g_seq kr ?_
  refine rS [.v] H2 kr fun gs3 w3 H3 => ?_
  refine g_block 0 kr ?_
  have H4 : St w.heap.size w w3 [((gs1 0).b, .cells (arrF 16 fun _ => .int .i64 0).toArray 56 (0, 0)), ((gs2 1).b, .cells (arrF 16 fun _ => .int .i64 0).toArray 56 (0, 0))] := H3.as kr
  clear H0 H1 H2 H3
  refine g_loop kr (fun mz ρ ww => ∃ (i : Nat), 16 - i = mz ∧ i ≤ 16 ∧ St w.heap.size w ww [((gs1 0).b, .cells (arrF 16 fun _ => .int .i64 0).toArray 56 (0, 0)), ((gs2 1).b, .cells (arrF 16 fun j => .int .i64 (if j < i then -1 else 0)).toArray 56 (0, 0))] ∧ Is [(0, .pointer (some ⟨(gs1 0).b, 0, none⟩)), (1, .pointer (some ⟨(gs2 1).b, 0, none⟩)), (2, .int .i64 ((i : Nat) : Int))] ρ) (16 - 0) ⟨0, rfl, Nat.zero_le _, H4, (Is.of ⟨kr, kr, kr, trivial⟩)⟩ ?_
  clear H4
  rintro _ _ w4 ⟨i, rfl, hi16, H5, _, rfl⟩
  by_cases hi : i < 16
  · refine g_seq kr ?_
    refine rS [.v, .e (v := .bool (decide (((i : Nat) : Int) < 16))) (v' := .bool true) (bool_eq (decide_eq_true (by omega)))] H5 kr fun gs4 w5 H6 => ?_
    refine g_cond_t kr kr ?_
    refine g_skip kr ?_
    show WP _ _ _ _ _ _
    refine g_seq kr ?_
    refine g_block 1 kr ?_
    refine rL [.v, .o (ins := [((.tmp 1), .pointer (some ⟨(gs2 1).b, 0, none⟩)), ((.tmp 8), .int .i64 ((i : Nat) : Int))]) (v := .pointer (some ⟨(gs2 1).b, 0 + i * 1, none⟩)) (fun ρ o w ho hi2 => idxA_run (t := 56) (n := 16) (size := 1) (kd := .i64) kr (x := (.tmp 1)) (y := (.tmp 8)) (gs2 1).b 0 i ho hi2.1 hi2.2.1 hi w),
      .se 1 (C := (arrF 16 fun j => .int .i64 (if j < i then -1 else 0)).toArray) (C' := (arrF 16 fun j => .int .i64 (if j < i + 1 then -1 else 0)).toArray) (off := 0 + i * 1) (v := .int .i64 (-1)) (by show 0 + i * 1 + 1 ≤ _; rw [List.size_toArray, arrF_len]; omega) (by
        have := seg_put (C := (arrF 16 fun j => Value.int .i64 (if j < i then -1 else 0)).toArray) (pre := []) (post := []) (n := 16) (f := fun j => .int .i64 (if j < i then -1 else 0)) (g := fun j => .int .i64 (if j < i + 1 then -1 else 0)) (by simp) (off := 0 + i * 1) (k := i) (v := .int .i64 (-1)) rfl (by simp) hi (fun j _ => by
          by_cases h1 : j = i
          · subst h1; simp
          · rw [if_neg h1]; by_cases h2 : j < i
            · rw [if_pos h2, if_pos (by omega)]
            · rw [if_neg h2, if_neg (by omega)])
        simpa using this)] H6 kr fun gs6 w7 H8 => ?_
    show WP _ _ _ _ _ _
    refine rL [.v, .e (v := .int .i64 (IntKind.i64.wrap (((i : Nat) : Int) + 1))) (v' := .int .i64 ((i + 1 : Nat) : Int)) (int_eq (wrapAdd_i64 (a := i) (b := 1) (by omega))), .v] H8 kr fun gs7 w8 H9 => ?_
    show ∃ m, _ ∧ _
    exact ⟨_, (by omega), i + 1, rfl, hi, H9.as kr, (Is.of ⟨kr, kr, kr, trivial⟩)⟩
  · obtain rfl : i = 16 := by omega
    refine g_seq kr ?_
    refine rS [.v, .v] H5 kr fun gs4 w5 H6 => ?_
    refine g_cond_f kr kr ?_
    refine g_exit 0 kr ?_
    show WP _ _ _ _ _ _
    refine rS [.l 1, .s 0] H6 kr fun gs5 w6 H7 => ?_
    exact rR [.cell 0 56] [0] (.agg (kidC aloneL).toArray) H7 kr
set_option maxRecDepth 100000 in
set_option maxHeartbeats 4000000 in
theorem commonR_fn (p : Option Addr) (n c : Nat) (e0 : Ent) (l0 : List Ent) (hL : (e0 :: l0).length ≤ 1000000) (hk : ∀ e ∈ e0 :: l0, e.1.length ≤ 1000000) :
    FnP Tryz.prog 39 #[.slice p n c] (fun w => PrAt w p n ((e0 :: l0).map pE)) (iN (commonM (e0 :: l0))) := by
  refine FnP.intro (c := codeOf Tryz.f39) [.tmp 2] 31 Tryz.func39 kr kr kr fun w hP => ?_
  have H0 := St.start w
  have hn := hP.1
  rw [List.length_map] at hn
  obtain ⟨bl, off, C, T, fz, hp, hh, hR⟩ := hP.row (by rw [hn, List.length_cons]; omega)
  obtain ⟨x0, v0⟩ := e0
  have c0 : C[off + 0 * 2 + 0]? = some (.string (strB x0)) := hR.cell (i := 0) (x := (strB x0, v0)) rfl 0 (by decide)
  have hx00 : x0.length ≤ 1000000 := hk (x0, v0) (List.mem_cons_self ..)
  have hn0 : 0 < n := by rw [hn, List.length_cons]; omega
  generalize hl : ((x0, v0) :: l0 : List Ent) = l at *
  have hc0 : commonM l = cmL x0 l x0.length := by rw [← hl]; rfl
  refine rS [.v] H0 kr fun gs1 w1 H1 => ?_
  refine rS [.v, .o (ins := [((.tmp 7), .slice p n c)]) (v := .pointer (some ⟨bl, off + 0 * 2, none⟩)) (fun ρ o w ho hi2 => idxP_run (kd := .i64) (t := 23) (e := 48) (K := 2) (bytes := 32) kr (x := (.tmp 7)) (y := .const (.int .i64 0)) bl off n c 0 hp ho hi2.1 rfl (by omega) w), .v, .fs (off := off + 0 * 2 + 0) (v := .string (strB x0)) hh (lt_of_heap hh) c0, .e (v := iN (strB x0).size) (v' := iN x0.length) rfl, .v] H1 kr fun gs2 w2 H2 => ?_
  refine g_seq kr ?_
  refine rS [.v, .v, .v] H2 kr fun gs3 w3 H3 => ?_
  refine g_block 0 kr ?_
  have H4 : St w.heap.size w w3 [] := H3.as kr
  refine g_loop kr (fun mz ρ ww => ∃ (i : Nat), n - i = mz ∧ i ≤ n ∧ St w.heap.size w ww [] ∧ Is [(0, .slice p n c), (3, iN (cmL x0 (l.take i) x0.length)), (12, .slice p n c), (13, iN n), (14, iN i)] ρ) (n - 0) ⟨0, rfl, Nat.zero_le _, H4, (Is.of ⟨kr, kr, kr, kr, kr, trivial⟩)⟩ ?_
  clear H0 H1 H2 H3 H4
  rintro _ _ w4 ⟨i, rfl, hin, H5, _, rfl⟩
  by_cases hi : i < n
  · obtain ⟨⟨kk, vv⟩, hx1⟩ : ∃ x, l[i]? = some x := ⟨_, List.getElem?_eq_getElem (by omega)⟩
    have hx := pE_get hx1
    have hks : kk.length ≤ 1000000 := hk _ (List.mem_of_getElem? hx1)
    have htk := take_one hx1
    have hsh := shareR_fn (strB kk) (strB x0) (by rw [strB_size]; omega) (by rw [strB_size]; omega)
    rw [tl_strB, tl_strB] at hsh
    refine rS [.e (v := .bool (decide (((i : Nat) : Int) < ((n : Nat) : Int)))) (v' := .bool true) (bool_eq (decide_eq_true (by omega)))] H5 kr fun gs4 w5 H6 => ?_
    refine g_seq kr ?_
    refine g_cond_t kr kr ?_
    refine g_skip kr ?_
    show WP _ _ _ _ _ _
    refine g_seq kr ?_
    refine g_block 1 kr ?_
    refine rS [.o (ins := [((.tmp 12), .slice p n c), ((.tmp 14), iN i)]) (v := .pointer (some ⟨bl, off + i * 2, none⟩)) (fun ρ o w ho hi2 => idxP_run (kd := .i64) (t := 23) (e := 48) (K := 2) (bytes := 32) kr (x := (.tmp 12)) (y := (.tmp 14)) bl off n c i hp ho hi2.1 hi2.2.1 hi w), .fp (off := off + i * 2) (n := 2) (W := #[.string (strB kk), .string vv]) hh (lt_of_heap hh) (hR _ _ hx).1 (hR _ _ hx).2, .a, .s 0] H6 kr fun gs5 w6 H7 => ?_
    refine dS [.v, .l 0, .v, .o (ins := [((.tmp 20), .slice p n c)]) (v := .pointer (some ⟨bl, off + 0 * 2, none⟩)) (fun ρ o w ho hi2 => idxP_run (kd := .i64) (t := 23) (e := 48) (K := 2) (bytes := 32) kr (x := (.tmp 20)) (y := .const (.int .i64 0)) bl off n c 0 hp ho hi2.1 rfl (by omega) w), .v, .fs (off := off + 0 * 2 + 0) (v := .string (strB x0)) hh (lt_of_heap hh) c0, .c hsh, .v] H7 kr fun w7 H8 => ?_
    by_cases hlt : shr kk x0 < cmL x0 (l.take i) x0.length
    · refine rS [.v, .v, .e (v := .bool (decide (((shr kk x0 : Nat) : Int) < ((cmL x0 (l.take i) x0.length : Nat) : Int)))) (v' := .bool true) (bool_eq (decide_eq_true (by omega)))] H8 kr fun gs6 w8 H9 => ?_
      refine g_cond_t kr kr ?_
      refine rL [.v, .v] H9 kr fun gs7 w9 H10 => ?_
      show WP _ _ _ _ _ _
      refine rL [.e (v := .int .i64 (IntKind.i64.wrap (((i : Nat) : Int) + 1))) (v' := .int .i64 ((i + 1 : Nat) : Int)) (int_eq (wrapAdd_i64 (a := i) (b := 1) (by omega))), .v] H10 kr fun gs8 w10 H11 => ?_
      show ∃ m, _ ∧ _
      refine ⟨_, (by omega), i + 1, rfl, hi, H11.sub (List.nil_sublist _), (Is.of ⟨kr, ?_, kr, kr, kr, trivial⟩)⟩
      rw [htk, cmL_snoc, Nat.min_eq_left (by show shr kk x0 ≤ _; omega)]; kernel_rfl
    · refine rS [.v, .v, .e (v := .bool (decide (((shr kk x0 : Nat) : Int) < ((cmL x0 (l.take i) x0.length : Nat) : Int)))) (v' := .bool false) (bool_eq (decide_eq_false (by omega)))] H8 kr fun gs6 w8 H9 => ?_
      refine g_cond_f kr kr ?_
      refine g_skip kr ?_
      show WP _ _ _ _ _ _
      refine rL [.e (v := .int .i64 (IntKind.i64.wrap (((i : Nat) : Int) + 1))) (v' := .int .i64 ((i + 1 : Nat) : Int)) (int_eq (wrapAdd_i64 (a := i) (b := 1) (by omega))), .v] H9 kr fun gs8 w10 H11 => ?_
      show ∃ m, _ ∧ _
      refine ⟨_, (by omega), i + 1, rfl, hi, H11.sub (List.nil_sublist _), (Is.of ⟨kr, ?_, kr, kr, kr, trivial⟩)⟩
      rw [htk, cmL_snoc, Nat.min_eq_right (by show _ ≤ shr kk x0; omega)]; kernel_rfl
  · refine rS [.e (v := .bool (decide (((i : Nat) : Int) < ((n : Nat) : Int)))) (v' := .bool false) (bool_eq (decide_eq_false (by omega)))] H5 kr fun gs4 w5 H6 => ?_
    refine g_seq kr ?_
    refine g_cond_f kr kr ?_
    refine g_exit 0 kr ?_
    show WP _ _ _ _ _ _
    refine rS [.v, .v] H6 kr fun gs5 w6 H7 => ?_
    exact rRe [.tmp 2] [] (v := iN (cmL x0 (l.take i) x0.length)) (v' := iN (commonM l)) H7 (by rw [hc0, List.take_of_length_le (by omega)]) kr
def hasE (l : List Ent) : Bool := l.any fun e => e.1.isEmpty
theorem valE_drop {l : List Ent} {i : Nat} {e : Ent} (h : l[i]? = some e) (hd : valE (l.drop i) = valE l ∧ hasE (l.drop i) = hasE l) : (e.1 = [] → valE l = e.2 ∧ hasE l = true) ∧ (e.1 ≠ [] → valE (l.drop (i + 1)) = valE l ∧ hasE (l.drop (i + 1)) = hasE l) := by
  rw [drop_one h] at hd
  refine ⟨fun he => ⟨?_, ?_⟩, fun he => ⟨?_, ?_⟩⟩
  · rw [← hd.1, valE, if_pos he]
  · rw [← hd.2]; simp [hasE, he]
  · rw [← hd.1, valE, if_neg he]
  · rw [← hd.2]; simp [hasE, he]
set_option maxRecDepth 100000 in
set_option maxHeartbeats 4000000 in
theorem getE_fn (p : Option Addr) (n c : Nat) (l : List Ent) (hL : l.length ≤ 1000000) :
    FnP Tryz.prog 20 #[.slice p n c, .string ⟨#[]⟩] (fun w => PrAt w p n (l.map pE)) (.tuple #[.string (valE l), .bool (hasE l)]) := by
  refine FnP.intro (c := codeOf Tryz.f20) [.tmp 4, .tmp 5] 21 Tryz.func20 kr kr kr fun w hP => ?_
  have H0 := St.start w
  have hn := hP.1
  rw [List.length_map] at hn
  refine rS [.v, .v] H0 kr fun gs1 w1 H1 => ?_
  refine g_seq kr ?_
  refine rS [.v, .v, .v] H1 kr fun gs3 w3 H3 => ?_
  refine g_block 0 kr ?_
  have H4 : St w.heap.size w w3 [] := H3.as kr
  refine g_loop kr (fun mz ρ ww => ∃ (i : Nat), n - i = mz ∧ i ≤ n ∧ (valE (l.drop i) = valE l ∧ hasE (l.drop i) = hasE l) ∧ St w.heap.size w ww [] ∧ Is [(1, .string ⟨#[]⟩), (8, .slice p n c), (9, iN n), (10, iN i)] ρ) (n - 0) ⟨0, rfl, Nat.zero_le _, ⟨rfl, rfl⟩, H4, (Is.of ⟨kr, kr, kr, kr, trivial⟩)⟩ ?_
  clear H0 H1 H3 H4
  rintro _ _ w4 ⟨i, rfl, hin, hdr, H5, _, rfl⟩
  by_cases hi : i < n
  · obtain ⟨⟨kk, vv⟩, hx1⟩ : ∃ x, l[i]? = some x := ⟨_, List.getElem?_eq_getElem (by omega)⟩
    have hx := pE_get hx1
    have hvd := valE_drop hx1 hdr
    obtain ⟨bl, off, C, T, fz, hp, hh, hR⟩ := hP.row (by omega)
    refine rS [.e (v := .bool (decide (((i : Nat) : Int) < ((n : Nat) : Int)))) (v' := .bool true) (bool_eq (decide_eq_true (by omega)))] H5 kr fun gs4 w5 H6 => ?_
    refine g_seq kr ?_
    refine g_cond_t kr kr ?_
    refine g_skip kr ?_
    show WP _ _ _ _ _ _
    refine g_seq kr ?_
    refine g_block 1 kr ?_
    refine rS [.o (ins := [((.tmp 8), .slice p n c), ((.tmp 10), iN i)]) (v := .pointer (some ⟨bl, off + i * 2, none⟩)) (fun ρ o w ho hi2 => idxP_run (kd := .i64) (t := 23) (e := 48) (K := 2) (bytes := 32) kr (x := (.tmp 8)) (y := (.tmp 10)) bl off n c i hp ho hi2.1 hi2.2.1 hi w), .fp (off := off + i * 2) (n := 2) (W := #[.string (strB kk), .string vv]) hh (lt_of_heap hh) (hR _ _ hx).1 (hR _ _ hx).2, .a, .s 0] H6 kr fun gs5 w6 H7 => ?_
    cases kk with
    | nil =>
      refine rS [.v, .l 0, .v, .e (v := .bool ((strB []).toList == (⟨#[]⟩ : ByteArray).toList)) (v' := .bool true) (bool_eq (str_same _ _ rfl))] H7 kr fun gs6 w8 H9 => ?_
      refine g_cond_t kr kr ?_
      refine rS [.v, .l 0, .v, .v] H9 kr fun gs7 w9 H10 => ?_
      exact rRe [.tmp 4, .tmp 5] [] (v := .tuple #[.string vv, .bool true]) (v' := .tuple #[.string (valE l), .bool (hasE l)]) H10 (by rw [(hvd.1 rfl).1, (hvd.1 rfl).2]) kr
    | cons c0 t0 =>
      refine rS [.v, .l 0, .v, .e (v := .bool ((strB (c0 :: t0)).toList == (⟨#[]⟩ : ByteArray).toList)) (v' := .bool false) (bool_eq (str_other _ _ (fun h => by have := congrArg tl h; rw [tl_strB] at this; cases this)))] H7 kr fun gs6 w8 H9 => ?_
      refine g_cond_f kr kr ?_
      refine g_skip kr ?_
      show WP _ _ _ _ _ _
      refine rL [.e (v := .int .i64 (IntKind.i64.wrap (((i : Nat) : Int) + 1))) (v' := .int .i64 ((i + 1 : Nat) : Int)) (int_eq (wrapAdd_i64 (a := i) (b := 1) (by omega))), .v] H9 kr fun gs8 w10 H11 => ?_
      show ∃ m, _ ∧ _
      exact ⟨_, (by omega), i + 1, rfl, hi, hvd.2 (by simp), H11.sub (List.nil_sublist _), (Is.of ⟨kr, kr, kr, kr, trivial⟩)⟩
  · refine rS [.e (v := .bool (decide (((i : Nat) : Int) < ((n : Nat) : Int)))) (v' := .bool false) (bool_eq (decide_eq_false (by omega)))] H5 kr fun gs4 w5 H6 => ?_
    refine g_seq kr ?_
    refine g_cond_f kr kr ?_
    refine g_exit 0 kr ?_
    show WP _ _ _ _ _ _
    refine rS [.v, .v] H6 kr fun gs5 w6 H7 => ?_
    rw [List.drop_of_length_le (by omega)] at hdr
    exact rRe [.tmp 4, .tmp 5] [] (v := .tuple #[.string ⟨#[]⟩, .bool false]) (v' := .tuple #[.string (valE l), .bool (hasE l)]) H7 (by rw [← hdr.1, ← hdr.2]; rfl) kr
end Go.Proofs.YtlhfgbjhngkicaaGreatDoor

namespace Go.Proofs.YtlhfgbjhngkicaaGreatDoor
open Go Go.RowKit
set_option linter.unusedVariables false
def okLay (pa : Addr) (n c : Nat) (l : List Ent) (R : List Nd × Int) (v : Value) (T : List (Nat × Obj)) : Prop :=
  (l = [] ∧ T = [] ∧ v = .tuple #[.slice (some pa) n c, .int .i64 (-1)]) ∨ (∃ (b m k : Nat) (cur : Array Value), v = .tuple #[.slice (some ⟨b, 0, none⟩) m k, .int .i64 R.2] ∧ T = [(b, .cells cur 58 (0, 0))] ∧ Rw 19 cur k m (cellsF nS R.1))
def LayC (f : Nat) : Prop := ∀ (l : List Ent) (A : List Nd) (pa : Addr) (n c : Nat) (p : Option Addr) (m k : Nat), Okl f l → l.length ≤ 1000000 → f ≤ 1000 → A.length + f * l.length ≤ 1000000000 →
  FnT Tryz.prog 23 #[.slice (some pa) n c, .slice p m k] (fun w => NdAt w (some pa) n A ∧ PrAt w p m (l.map pE)) (okLay pa n c l (layM f l A))
theorem ext_take (x : List UInt8) (k : Nat) : (strB x).extract 0 k = strB (x.take k) := ext_mid [] x 0 k k rfl (Nat.zero_add _).symm
/-- Nodes that lie, and one that is behind them. -/
def FinL (w : World) (R : List Nd × Int) (ρ : Env) (ww : World) : Prop := ∃ (b6 : Nat) (pa : Addr) (n c : Nat) (A' : List Nd) (x : Nd) (Tn : List (Nat × Obj)), NdS w.heap.size w Tn (some pa) n A' ∧ St w.heap.size w ww ((b6, ndO x) :: Tn) ∧ A'.length ≤ 1000000000 ∧ R = (A' ++ [x], (A'.length : Int)) ∧ Is [(0, .slice (some pa) n c), (6, .pointer (some ⟨b6, 0, none⟩))] ρ
theorem layM_nil : ∀ (f : Nat) (A : List Nd), layM f [] A = (A, -1)
  | 0, _ => rfl
  | _ + 1, _ => rfl
theorem okl_len {f : Nat} {l : List Ent} (h : Okl f l) (hf : f ≤ 1000) : ∀ e ∈ l, e.1.length ≤ 1000000 := fun e he => by have := (h e he).1; omega
set_option maxRecDepth 100000 in
set_option maxHeartbeats 4000000 in
theorem lay_nil (pa : Addr) (n c : Nat) (p : Option Addr) (m k : Nat) (A : List Nd) (R : List Nd × Int) : FnT Tryz.prog 23 #[.slice (some pa) n c, .slice p m k] (fun w => NdAt w (some pa) n A ∧ PrAt w p m (([] : List Ent).map pE)) (okLay pa n c [] R) := by
  refine FnT.intro (c := codeOf Tryz.f23) [.tmp 4, .tmp 5] 97 Tryz.func23 kr kr kr fun w hP => ?_
  have H0 := St.start w
  have hm : m = 0 := hP.2.1
  subst hm
  refine rS [.v, .v] H0 kr fun gs1 w1 H1 => ?_
  refine g_seq kr ?_
  refine rS [.v, .v, .v] H1 kr fun gs2 w2 H2 => ?_
  refine g_cond_t kr kr ?_
  refine rS [.v, .v, .v] H2 kr fun gs3 w3 H3 => ?_
  refine rRr [.tmp 4, .tmp 5] [] (.tuple #[.slice (some pa) n c, .int .i64 (-1)]) (outT w.heap.size w (okLay pa n c [] R)) H3 kr ?_
  exact ⟨[], .inl ⟨rfl, rfl, rfl⟩, H3.as kr⟩
set_option maxRecDepth 100000 in
set_option maxHeartbeats 8000000 in
theorem lay_all : ∀ f, LayC f
  | 0 => fun l A pa n c p m k hok _ _ _ w hP => by
    cases l with
    | nil => exact lay_nil pa n c p m k A _ w hP
    | cons e r => exact absurd (hok e (List.mem_cons_self ..)).1 (Nat.not_lt_zero _)
  | f + 1 => fun l A pa n c p m k hok hl hf hroom => by
    cases l with
    | nil => exact lay_nil pa n c p m k A _
    | cons e r =>
      refine FnT.intro (c := codeOf Tryz.f23) [.tmp 4, .tmp 5] 97 Tryz.func23 kr kr kr fun w hP => ?_
      have ih := lay_all f
      obtain ⟨hN, hP⟩ := hP
      have hm := hP.1
      rw [List.length_map] at hm
      have hlen := okl_len hok hf
      have hN0 : NdS w.heap.size w [] (some pa) n A := NdS.below hN
      obtain ⟨br, off, C, T, fz, hp, hh, hR⟩ := hP.row (by rw [hm, List.length_cons]; omega)
      obtain ⟨x0, v0⟩ := e
      have c0 : C[off + 0 * 2 + 0]? = some (.string (strB x0)) := hR.cell (i := 0) (x := (strB x0, v0)) rfl 0 (by decide)
      have c1 : C[off + 0 * 2 + 1]? = some (.string v0) := hR.cell (i := 0) (x := (strB x0, v0)) rfl 1 (by decide)
      have hx0 : x0.length ≤ 1000000 := hlen (x0, v0) (List.mem_cons_self ..)
      have hm0 : 0 < m := by rw [hm, List.length_cons]; omega
      have hcomm := commonR_fn p m k (x0, v0) r hl hlen
      generalize hL : ((x0, v0) :: r : List Ent) = L at *
      have H0 := St.start w
      refine rS [.v, .v] H0 kr fun gs1 w1 H1 => ?_
      refine g_seq kr ?_
      refine rS [.v, .v, .e (v := .bool (((m : Nat) : Int) == 0)) (v' := .bool false) (bool_eq (beq_eq_false_iff_ne.2 (by omega)))] H1 kr fun gs2 w2 H2 => ?_
      refine g_cond_f kr kr ?_
      refine g_skip kr ?_
      show WP _ _ _ _ _ _
      refine rS [.c kidsR_fn, .v, .a, .s 0] H2 kr fun gs3 w3 H3 => ?_
      refine rS [.v, .cp (pre := fun w => PrAt w p m (L.map pE)) hcomm [] (fun w hb hd => hP.call hb), .v] H3 kr fun gs4 w4 H4 => ?_
      have H5 : St w.heap.size w w4 [((gs3 2).b, ndO ⟨0, ⟨#[]⟩, ⟨#[]⟩, aloneL⟩)] := H4.as kr
      refine g_seq kr ?_
      refine g_mono (Q := fun e ρ ww => e = .normal ∧ FinL w (layM (f + 1) L A) ρ ww) ?_ ?_
      · cases r with
        | nil =>
          refine rS [.v, .v, .e (v := .bool (((m : Nat) : Int) == 1)) (v' := .bool true) (bool_eq (beq_iff_eq.2 (by rw [hm, ← hL]; rfl)))] H5 kr fun gs5 w5 H6 => ?_
          refine g_cond_t kr kr ?_
          refine rS [.v, .s 0] H6 kr fun gs6 w6 H7 => ?_
          refine rS [.v, .o (ins := [((.tmp 28), .slice p m k)]) (v := .pointer (some ⟨br, off + 0 * 2, none⟩)) (fun ρ o w ho hi2 => idxP_run (kd := .i64) (t := 23) (e := 48) (K := 2) (bytes := 32) kr (x := (.tmp 28)) (y := .const (.int .i64 0)) br off m k 0 hp ho hi2.1 rfl hm0 w), .v, .fs (off := off + 0 * 2 + 0) (v := .string (strB x0)) hh (lt_of_heap hh) c0, .v, .s 0] H7 kr fun gs7 w7 H8 => ?_
          refine rL [.v, .o (ins := [((.tmp 33), .slice p m k)]) (v := .pointer (some ⟨br, off + 0 * 2, none⟩)) (fun ρ o w ho hi2 => idxP_run (kd := .i64) (t := 23) (e := 48) (K := 2) (bytes := 32) kr (x := (.tmp 33)) (y := .const (.int .i64 0)) br off m k 0 hp ho hi2.1 rfl hm0 w), .v, .fs (off := off + 0 * 2 + 1) (v := .string v0) hh (lt_of_heap hh) c1, .v, .s 0] H8 kr fun gs8 w8 H9 => ?_
          refine ⟨rfl, (gs3 2).b, pa, n, c, A, ⟨1, strB x0, v0, aloneL⟩, [], hN0, H9.as kr, by omega, by rw [← hL]; rfl, Is.of ⟨kr, kr, trivial⟩⟩
        | cons e' r =>
          have hok' := hok
          refine rS [.v, .v, .e (v := .bool (((m : Nat) : Int) == 1)) (v' := .bool false) (bool_eq (beq_eq_false_iff_ne.2 (by rw [hm, ← hL]; simp only [List.length_cons]; omega)))] H5 kr fun gs5 w5 H6 => ?_
          refine g_cond_f kr kr ?_
          by_cases hk : 0 < commonM L
          · refine rS [.v, .e (v := .bool (decide ((0 : Int) < ((commonM L : Nat) : Int)))) (v' := .bool true) (bool_eq (decide_eq_true (by omega)))] H6 kr fun gs6 w6 H7 => ?_
            refine g_cond_t kr kr ?_
            have hkl : commonM L ≤ x0.length := by
              rw [← hL]; exact Nat.le_trans (commonM_le rfl _ (List.mem_cons_self ..)) (shr_le_left _ _)
            have hkall : ∀ e ∈ L, commonM L ≤ e.1.length := fun e he => Nat.le_trans (commonM_le (e := (x0, v0)) (by rw [← hL]; rfl) e he) (shr_le_left _ _)
            have hext := ext_take x0 (commonM L)
            refine rS [.v, .s 0] H7 kr fun gs7 w7 H8 => ?_
            refine rS [.v, .o (ins := [((.tmp 41), .slice p m k)]) (v := .pointer (some ⟨br, off + 0 * 2, none⟩)) (fun ρ o w ho hi2 => idxP_run (kd := .i64) (t := 23) (e := 48) (K := 2) (bytes := 32) kr (x := (.tmp 41)) (y := .const (.int .i64 0)) br off m k 0 hp ho hi2.1 rfl hm0 w), .v, .fs (off := off + 0 * 2 + 0) (v := .string (strB x0)) hh (lt_of_heap hh) c0, .v, .oe (ins := [((.tmp 44), .string (strB x0)), ((.tmp 45), iN (commonM L))]) (v := .string ((strB x0).extract 0 (commonM L))) (v' := .string (strB (x0.take (commonM L)))) (fun ρ o w ho hi2 => scut_run (t := 9) (kd := .i64) kr (x := (.tmp 44)) (y := (.tmp 45)) (strB x0) (commonM L) ho hi2.1 hi2.2.1 (by rw [strB_size]; exact hkl) w) (by rw [hext]), .v, .s 0] H8 kr fun gs8 w8 H9 => ?_
            have hdl : (dropE (commonM L) L).length = L.length := dropE_len _ _
            have hdok : Okl f (dropE (commonM L) L) := dropE_ok (e := (x0, v0)) (by rw [← hL]; rfl) hk hok'
            have hcut := cut_fn p m k 16 (commonM L) L hl hlen (fun e he _ => hkall e he) (by omega)
            rw [cutG_all] at hcut
            refine g_sreg [0, 1, 2, 3, 4, 5, 6, 7, 8, 9] kr kr ?_
            refine rp [.v, .v, .v] H9 kr fun gs9 w9 H10 => ?_
            show WPs _ _ _ _ [3, 4, 5, 6, 7, 8, 9] _ _
            have H11 : St w.heap.size w w9 [((gs3 2).b, ndO ⟨2, strB (x0.take (commonM L)), ⟨#[]⟩, aloneL⟩)] := H10.as kr
            refine s_callFT H11 (some 52) 40 #[.slice p m k, iN 16, iN (commonM L)] hcut (hP.call H11.below) kr kr ?_
            rintro _ T1 w10 ⟨p1, n1, c1', rfl, hrow1⟩ H12
            have hP1 := hrow1.prAt H12 fun e he => List.mem_append_left _ he
            refine s_callFT H12 (some 53) 23 #[.slice (some pa) n c, .slice p1 n1 c1'] (ih (dropE (commonM L) L) A pa n c p1 n1 c1' hdok (by omega) (by omega) (by rw [hdl]; rw [Nat.add_mul] at hroom; omega)) ⟨hN.call H12.below, hP1⟩ kr kr ?_
            rintro _ T2 w11 hlay H13
            rcases hlay with ⟨h0, _⟩ | ⟨b2, m2, k2, cur2, rfl, rfl, hrw2⟩
            · exfalso; rw [h0, ← hL] at hdl; simp at hdl
            have H14 : St w.heap.size w w11 [((gs3 2).b, ndO ⟨2, strB (x0.take (commonM L)), ⟨#[]⟩, aloneL⟩), (b2, .cells cur2 58 (0, 0))] := (H13.sub (List.Sublist.cons_cons _ (List.sublist_append_right T1 _))).perm (List.Perm.swap ..)
            refine rp [.v, .v, .v, .v, .v] H14 kr fun gs10 w12 H15 => ?_
            show WPs _ _ _ _ [] _ _
            refine s_nil ?_
            refine rS [.v, .v] H15 kr fun gs11 w13 H16 => ?_
            refine rL [.v, .v, .v, .s 0] H16 kr fun gs12 w14 H17 => ?_
            have hlm : (layM f (dropE (commonM L) L) A).1.length ≤ A.length + f * L.length := by rw [← hdl]; exact layM_len ..
            refine ⟨rfl, (gs3 2).b, ⟨b2, 0, none⟩, m2, k2, (layM f (dropE (commonM L) L) A).1, ⟨2, strB (x0.take (commonM L)), ⟨#[]⟩, (layM f (dropE (commonM L) L) A).2 :: List.replicate 15 (-1)⟩, [(b2, .cells cur2 58 (0, 0))], NdS.own (.inr ⟨b2, cur2, rfl, rfl, hrw2⟩), H17.as kr, ?_, ?_, Is.of ⟨kr, kr, trivial⟩⟩
            · rw [Nat.add_mul] at hroom; omega
            · subst hL; rw [layM, if_pos hk]
          · refine rS [.v, .e (v := .bool (decide ((0 : Int) < ((commonM L : Nat) : Int)))) (v' := .bool false) (bool_eq (decide_eq_false (by omega)))] H6 kr fun gs6 w6 H7 => ?_
            refine g_cond_f kr kr ?_
            refine rS [.v, .s 0] H7 kr fun gs7 w7 H8 => ?_
            refine rS [.v, .cp (pre := fun w => PrAt w p m (L.map pE)) (getE_fn p m k L hl) [] (fun w hb hd => hP.call hb), .v, .v, .v, .v, .v] H8 kr fun gs8 w8 H9 => ?_
            refine rS [.v, .v, .s 0] H9 kr fun gs9 w9 H10 => ?_
            refine rS [.v] H10 kr fun gs10 w10 H11 => ?_
            refine g_block 0 kr ?_
            have H12 : St w.heap.size w w10 [((gs3 2).b, bnO (valE L) fun _ => .int .i64 (-1))] := H11.as kr
            clear H0 H1 H2 H3 H4 H5 H6 H7 H8 H9 H10 H11
            let kd : Nat → Int := fun j => (layM f (cutE j L) (kidsW (layM f) L j A).1).2
            have hkd : ∀ j, (layM f (cutE j L) (kidsW (layM f) L j A).1).2 = kd j := fun _ => rfl
            generalize kd = kd at hkd
            refine g_loop kr (fun mz ρ ww => ∃ (i : Nat) (pa : Addr) (n c : Nat) (Tn : List (Nat × Obj)), 16 - i = mz ∧ i ≤ 16 ∧ NdS w.heap.size w Tn (some pa) n (kidsW (layM f) L i A).1 ∧ St w.heap.size w ww (((gs3 2).b, bnO (valE L) fun j => .int .i64 (if j < i then kd j else -1)) :: Tn) ∧ Is [(0, .slice (some pa) n c), (1, .slice p m k), (6, .pointer (some ⟨(gs3 2).b, 0, none⟩)), (12, iN i)] ρ) (16 - 0) ⟨0, pa, n, c, [], rfl, Nat.zero_le _, hN0, H12, (Is.of ⟨kr, kr, kr, kr, trivial⟩)⟩ ?_
            clear H12
            rintro _ _ w9 ⟨i, pa, n, c, Tn, rfl, hi16, hNd, H13, _, rfl⟩
            refine g_seq kr ?_
            by_cases hi : i < 16
            · refine rS [.v, .e (v := .bool (decide (((i : Nat) : Int) < 16))) (v' := .bool true) (bool_eq (decide_eq_true (by omega)))] H13 kr fun gs6 w10 H14 => ?_
              refine g_cond_t kr kr ?_
              refine g_skip kr ?_
              show WP _ _ _ _ _ _
              refine g_seq kr ?_
              refine g_block 1 kr ?_
              have hcut := cut_fn p m k i 1 L hl hlen (fun e he hk1 => by
                unfold keepE at hk1
                split at hk1
                · simp at hk1; omega
                · rename_i b t heq; rw [heq, List.length_cons]; omega) (by omega)
              rw [cutG_one i hi] at hcut
              have hcl : (cutE i L).length ≤ L.length := List.length_filterMap_le ..
              have hroom2 := kidsW_room f L A i
              refine g_sreg [0, 1, 2, 3, 4, 5, 6, 7, 8, 9] kr kr ?_
              refine rp [.v, .v, .v] H14 kr fun gs7 w11 H15 => ?_
              show WPs _ _ _ _ [3, 4, 5, 6, 7, 8, 9] _ _
              have H16 : St w.heap.size w w11 (((gs3 2).b, bnO (valE L) fun j => .int .i64 (if j < i then kd j else -1)) :: Tn) := H15.as kr
              refine s_callFT H16 (some 76) 40 #[.slice p m k, iN i, iN 1] hcut (hP.call H16.below) kr kr ?_
              rintro _ T1 w12 ⟨p1, n1, c1', rfl, hrow1⟩ H17
              have hP1 := hrow1.prAt H17 fun e he => List.mem_append_left _ he
              have hN1 := hNd w12 _ H17 fun e he => List.mem_append_right _ (List.mem_cons_of_mem _ he)
              refine s_callFT H17 (some 77) 23 #[.slice (some pa) n c, .slice p1 n1 c1'] (ih (cutE i L) (kidsW (layM f) L i A).1 pa n c p1 n1 c1' (cutE_ok i hok') (by omega) (by omega) (by rw [Nat.add_mul] at hroom; omega)) ⟨hN1, hP1⟩ kr kr ?_
              rintro v2 T2 w13 hlay H18
              have hnext : ∃ (pa' : Addr) (n' c' : Nat) (Tn' : List (Nat × Obj)), v2 = .tuple #[.slice (some pa') n' c', .int .i64 (kd i)] ∧ NdS w.heap.size w Tn' (some pa') n' (kidsW (layM f) L (i + 1) A).1 ∧ St w.heap.size w w13 (((gs3 2).b, bnO (valE L) fun j => .int .i64 (if j < i then kd j else -1)) :: Tn') := by
                have hk1 := hkd i
                rcases hlay with ⟨h0, rfl, rfl⟩ | ⟨b2, m2, k2, cur2, rfl, rfl, hrw2⟩
                · rw [h0, layM_nil] at hk1
                  refine ⟨pa, n, c, Tn, by rw [← hk1], ?_, H18.sub (List.sublist_append_right T1 _)⟩
                  show NdS _ _ _ _ _ (layM f (cutE i L) (kidsW (layM f) L i A).1).1
                  rw [h0, layM_nil]; exact hNd
                · rw [hk1]
                  refine ⟨⟨b2, 0, none⟩, m2, k2, [(b2, .cells cur2 58 (0, 0))], rfl, NdS.own (.inr ⟨b2, cur2, rfl, rfl, hrw2⟩), ?_⟩
                  exact (H18.sub (List.Sublist.cons_cons _ ((List.Sublist.cons_cons _ (List.nil_sublist Tn)).trans (List.sublist_append_right T1 _)))).perm (List.Perm.swap ..)
              clear hlay H18
              obtain ⟨pa', n', c', Tn', rfl, hNd', H18⟩ := hnext
              refine rp [.v, .v, .v, .v, .v] H18 kr fun gs8 w14 H19 => ?_
              show WPs _ _ _ _ [] _ _
              refine s_nil ?_
              refine rS [.v, .v] H19 kr fun gs9 w15 H20 => ?_
              refine rL [.v, .v, .v, .o (ins := [((.tmp 83), .pointer (some ⟨(gs3 2).b, 3, none⟩)), ((.tmp 81), iN i)]) (v := .pointer (some ⟨(gs3 2).b, 3 + i * 1, none⟩)) (fun ρ o w ho hi2 => idxA_run (t := 56) (n := 16) (size := 1) (kd := .i64) kr (x := (.tmp 83)) (y := (.tmp 81)) (gs3 2).b 3 i ho hi2.1 hi2.2.1 hi w),
                .se 0 (C := ([Value.int .i64 3, Value.string ⟨#[]⟩, Value.string (valE L)] ++ arrF 16 fun j => .int .i64 (if j < i then kd j else -1)).toArray) (C' := ([Value.int .i64 3, Value.string ⟨#[]⟩, Value.string (valE L)] ++ arrF 16 fun j => .int .i64 (if j < i + 1 then kd j else -1)).toArray) (off := 3 + i * 1) (v := .int .i64 (kd i)) (by show 3 + i * 1 + 1 ≤ _; rw [List.size_toArray, List.length_append, arrF_len]; simp only [List.length_cons, List.length_nil]; omega) (by
                  have := seg_put (C := ([Value.int .i64 3, Value.string ⟨#[]⟩, Value.string (valE L)] ++ arrF 16 fun j => Value.int .i64 (if j < i then kd j else -1)).toArray) (pre := [Value.int .i64 3, Value.string ⟨#[]⟩, Value.string (valE L)]) (post := []) (n := 16) (f := fun j => .int .i64 (if j < i then kd j else -1)) (g := fun j => .int .i64 (if j < i + 1 then kd j else -1)) (by simp) (off := 3 + i * 1) (k := i) (v := .int .i64 (kd i)) rfl (by simp) hi (fun j _ => by
                    by_cases h1 : j = i
                    · subst h1; simp
                    · rw [if_neg h1]; by_cases h2 : j < i
                      · rw [if_pos h2, if_pos (by omega)]
                      · rw [if_neg h2, if_neg (by omega)])
                  rw [List.append_nil] at this
                  exact this)] H20 kr fun gs10 w16 H21 => ?_
              show WP _ _ _ _ _ _
              refine rL [.v, .e (v := .int .i64 (IntKind.i64.wrap (((i : Nat) : Int) + 1))) (v' := .int .i64 ((i + 1 : Nat) : Int)) (int_eq (wrapAdd_i64 (a := i) (b := 1) (by omega))), .v] H21 kr fun gs11 w17 H22 => ?_
              show ∃ m, _ ∧ _
              exact ⟨_, (by omega), i + 1, pa', n', c', Tn', rfl, hi, hNd', H22.as kr, (Is.of ⟨kr, kr, kr, kr, trivial⟩)⟩
            · obtain rfl : i = 16 := by omega
              refine rS [.v, .v] H13 kr fun gs6 w10 H14 => ?_
              refine g_cond_f kr kr ?_
              refine g_exit 0 kr ?_
              have hnd : bnO (valE L) (fun j => .int .i64 (if j < 16 then kd j else -1)) = ndO ⟨3, ⟨#[]⟩, valE L, (kidsW (layM f) L 16 A).2⟩ := by
                have e1 : arrF 16 (fun j => Value.int .i64 (if j < 16 then kd j else -1)) = kidC (kidsW (layM f) L 16 A).2 := arrF_congr fun j hj => by
                  rw [if_pos hj, kidsW_get (layM f) L A 16 j hj, hkd j]
                unfold bnO ndO
                rw [e1]; rfl
              have H15 : St w.heap.size w w10 (((gs3 2).b, bnO (valE L) fun j => .int .i64 (if j < 16 then kd j else -1)) :: Tn) := H14.as kr
              rw [hnd] at H15
              have hsz := kidsW_size f L A 16
              have hsz2 := Nat.mul_le_mul_left f (cutE_len L 16)
              refine ⟨rfl, (gs3 2).b, pa, n, c, (kidsW (layM f) L 16 A).1, ⟨3, ⟨#[]⟩, valE L, (kidsW (layM f) L 16 A).2⟩, Tn, hNd, H15, ?_, ?_, Is.of ⟨kr, kr, trivial⟩⟩
              · rw [Nat.add_mul] at hroom; omega
              · subst hL; rw [layM, if_neg hk]
      · rintro _ _ w5 ⟨rfl, b6, pb, q, cc, A', x, Tn, hNd, H6, hA', hRe, _, rfl⟩
        show WP _ _ _ _ _ _
        clear H0 H1 H2 H3 H4 H5
        rw [hRe]
        refine rS [.nw (fun b => .slice (some ⟨b, 0, none⟩) 0 0) #[] 58, .v] H6 kr fun gs5 w6 H7 => ?_
        have H8 : St w.heap.size w w6 (((b6, ndO x) :: Tn) ++ [((gs5 0).b, .cells #[] 58 (0, 0))]) := H7.as kr
        have H9 : St w.heap.size w w6 (((gs5 0).b, .cells #[] 58 (0, 0)) :: (b6, ndO x) :: Tn) := H8.perm (List.perm_append_comm (l₁ := [((gs5 0).b, Obj.cells #[] 58 (0, 0))]) (l₂ := (b6, ndO x) :: Tn))
        refine g_sreg [0, 1, 2, 3] kr kr ?_
        refine rp [.v, .v] H9 kr fun gs6 w7 H10 => ?_
        show WPs _ _ _ _ [2, 3] _ _
        have H11 : St w.heap.size w w7 (((gs5 0).b, .cells #[] 58 (0, 0)) :: (b6, ndO x) :: Tn) := H10.as kr
        have hNw := hNd w7 _ H11 (fun e he => List.mem_cons_of_mem _ (List.mem_cons_of_mem _ he))
        have hn := hNw.1
        refine s_growAll (S := nS) H11 (some 88) 24 58 168 (.tmp 86) (.tmp 87) 0 (gs5 0).b 0 0 q cc pb #[] [] A' kr kr kr kr kr ⟨rfl, Nat.le_refl _, Nat.zero_le _, rfl, rfl⟩ kr hn ?_ (by omega) (by unfold maxLen; omega) ?_
        · rcases hNw.2 with h | ⟨bx, ox, C, T, fz, hp, hh, hR⟩
          · exact .inl h
          · exact .inr ⟨bx, ox, C, T, fz, (Option.some.inj hp), hh, hR⟩
        intro b' cap' cur' w8 H12 hrw
        rw [Nat.zero_add, List.nil_append] at hrw
        refine rp [.v] H12 kr fun gs7 w9 H13 => ?_
        show WPs _ _ _ _ [] _ _
        refine s_nil ?_
        have H14 : St w.heap.size w w9 [(b', .cells cur' 58 (0, 0)), (b6, ndO x)] := (H13.as kr : St w.heap.size w w9 ((b', .cells cur' 58 (0, 0)) :: (b6, ndO x) :: Tn)).sub (List.Sublist.cons_cons _ (List.Sublist.cons_cons _ (List.nil_sublist _)))
        refine g_sreg [0, 1, 2, 3, 4] kr kr ?_
        refine rp [.v, .l 1, .nw (fun b => .slice (some ⟨b, 0, none⟩) 1 1) (nS.cs x).toArray 58] H14 kr fun gs8 w10 H15 => ?_
        show WPs _ _ _ _ [3, 4] _ _
        have H16 : St w.heap.size w w10 [(b', .cells cur' 58 (0, 0)), (b6, ndO x), ((gs8 2).b, ndO x)] := H15.as kr
        refine s_grow (K' := 19) H16 (some 92) 24 58 168 (.tmp 89) (.tmp 91) 0 2 b' (gs8 2).b (0 + q) cap' 1 cur' (nS.cs x).toArray (cellsF nS A') kr kr kr kr kr (by rw [Nat.zero_add]; exact hrw) kr kr rfl (nS.one x) (by omega) (by unfold maxLen; omega) ?_
        intro b2 cap2 cur2 w11 H17 hrw2
        refine rp [.v] H17 kr fun gs9 w12 H18 => ?_
        show WPs _ _ _ _ [] _ _
        refine s_nil ?_
        refine rS [.v, .v, .v, .e (v := .int .i64 (IntKind.i64.wrap (((0 + q + 1 : Nat) : Int) - 1))) (v' := iN q) (int_eq (by rw [show (((0 + q + 1 : Nat) : Int) - 1) = ((q : Nat) : Int) by omega]; exact wrapN_i64 (by omega))), .v, .v] H18 kr fun gs10 w13 H19 => ?_
        refine rRr [.tmp 4, .tmp 5] [] (.tuple #[.slice (some ⟨b2, 0, none⟩) (0 + q + 1) cap2, iN q]) (outT w.heap.size w (okLay pa n c L (A' ++ [x], (A'.length : Int)))) H19 kr ?_
        have H20 : St w.heap.size w w13 [(b2, .cells cur2 58 (0, 0)), (b6, ndO x), ((gs8 2).b, ndO x)] := H19.as kr
        refine ⟨[(b2, .cells cur2 58 (0, 0))], .inr ⟨b2, 0 + q + 1, cap2, cur2, by rw [hn], rfl, ?_⟩, H20.sub (List.Sublist.cons_cons _ (List.nil_sublist _))⟩
        rw [cellsF_snoc]; exact hrw2
end Go.Proofs.YtlhfgbjhngkicaaGreatDoor

namespace Go.Proofs.YtlhfgbjhngkicaaGreatDoor
open Go Go.RowKit
set_option linter.unusedVariables false
theorem parts_ents (L : List Pr) : L.map partP = (entsOf L).map pE := by
  unfold entsOf; rw [List.map_map]; rfl
theorem okl_ents {L : List Pr} (h : ∀ x ∈ L, x.1.size ≤ 32) : Okl 65 (entsOf L) := fun e he => by
  unfold entsOf at he
  obtain ⟨x, hx, rfl⟩ := List.mem_map.1 he
  refine ⟨?_, hv_low _⟩
  have := h x hx
  rw [hv_length, tl_len]; omega
set_option maxRecDepth 100000 in
set_option maxHeartbeats 4000000 in
theorem ofT_fn (p : Option Addr) (n c : Nat) (L : List Pr) (hL : L.length ≤ 1000000) (hk : ∀ x ∈ L, x.1.size ≤ 32) :
    FnT Tryz.prog 8 #[.slice p n c] (fun w => PrAt w p n L) (okTrie L) := by
  refine FnT.intro (c := codeOf Tryz.f8) [.cell 2 26] 15 Tryz.func8 kr kr kr fun w hP => ?_
  have H0 := St.start w
  refine rS [.a] H0 kr fun gs1 w1 H1 => ?_
  refine g_sreg [0, 1, 2, 3, 4, 5, 6, 7, 8] kr kr ?_
  refine rp [.nw (fun b => .slice (some ⟨b, 0, none⟩) 0 0) #[] 58, .v] H1 kr fun gs2 w2 H2 => ?_
  show WPs _ _ _ _ [2, 3, 4, 5, 6, 7, 8] _ _
  have H3 : St w.heap.size w w2 [((gs1 0).b, boT none 0 0 0), ((gs2 0).b, .cells #[] 58 (0, 0))] := H2.as kr
  refine s_callFT H3 (some 8) 24 #[.slice p n c] (parts_fn p n c L hL (fun x hx => by have := hk x hx; omega)) (hP.call H3.below) kr kr ?_
  rintro _ T1 w3 ⟨p1, n1, c1, rfl, hrow1⟩ H4
  rw [parts_ents] at hrow1
  have hel : (entsOf L).length = L.length := by unfold entsOf; rw [List.length_map]
  refine s_callFT H4 (some 9) 23 #[.slice (some ⟨(gs2 0).b, 0, none⟩) 0 0, .slice p1 n1 c1] (lay_all 65 (entsOf L) [] ⟨(gs2 0).b, 0, none⟩ 0 0 p1 n1 c1 (okl_ents hk) (by omega) (by omega) (by show 0 + _ ≤ _; omega)) ⟨⟨rfl, .inl rfl⟩, hrow1.prAt H4 fun e he => List.mem_append_left _ he⟩ kr kr ?_
  intro v2 T2 w4 hlay H5
  have hnext : ∃ (p3 : Option Addr) (n3 c3 : Nat) (T3 : List (Nat × Obj)), v2 = .tuple #[.slice p3 n3 c3, .int .i64 (layM 65 (entsOf L) []).2] ∧ RowF nS 58 p3 n3 c3 T3 (layM 65 (entsOf L) []).1 ∧ St w.heap.size w w4 (((gs1 0).b, boT none 0 0 0) :: T3) := by
    rcases hlay with ⟨h0, rfl, rfl⟩ | ⟨b2, m2, k2, cur2, rfl, rfl, hrw2⟩
    · rw [h0, layM_nil]
      exact ⟨_, _, _, _, rfl, .inr ⟨(gs2 0).b, #[], rfl, rfl, ⟨rfl, Nat.le_refl _, Nat.zero_le _, rfl, rfl⟩⟩, H5.sub (List.sublist_append_right T1 _)⟩
    · exact ⟨_, _, _, _, rfl, .inr ⟨b2, cur2, rfl, rfl, hrw2⟩, (H5.sub (List.Sublist.cons_cons _ ((List.Sublist.cons_cons _ (List.nil_sublist [_])).trans (List.sublist_append_right T1 _)))).perm (List.Perm.swap ..)⟩
  obtain ⟨p3, n3, c3, T3, rfl, hrow3, H6⟩ := hnext
  refine rp [.v, .v, .v, .v, .v] H6 kr fun gs3 w5 H7 => ?_
  show WPs _ _ _ _ [] _ _
  refine s_nil ?_
  refine rS [.v, .v, .v, .s 0] H7 kr fun gs4 w6 H8 => ?_
  have H9 : St w.heap.size w w6 (((gs1 0).b, boT p3 n3 c3 (layM 65 (entsOf L) []).2) :: T3) := H8.as kr
  refine rRr [.cell 2 26] [0] (.agg #[.slice p3 n3 c3, .int .i64 (layM 65 (entsOf L) []).2]) (outT w.heap.size w (okTrie L)) H9 kr ?_
  exact ⟨T3, ⟨p3, n3, c3, hrow3, rfl⟩, H9.sub (List.sublist_cons_self ..)⟩
set_option maxRecDepth 100000 in
set_option maxHeartbeats 4000000 in
theorem like_fn (p : Option Addr) (n c : Nat) (a : Int) (A : List Nd) (p' : Option Addr) (n' c' : Nat) (a' : Int) (A' : List Nd) (hA : A.length ≤ 1000000000000) :
    FnP Tryz.prog 7 #[.agg #[.slice p n c, .int .i64 a], .agg #[.slice p' n' c', .int .i64 a']] (fun w => NdAt w p n A ∧ NdAt w p' n' A') (.bool (decide (a = a') && ndsB A A')) := by
  refine FnP.intro (c := codeOf Tryz.f7) [.tmp 4] 38 Tryz.func7 kr kr kr fun w hP => ?_
  have H0 := St.start w
  obtain ⟨hN, hN'⟩ := hP
  have hn := hN.1
  have hn' := hN'.1
  refine rS [.b, .b, .v] H0 kr fun gs1 w1 H1 => ?_
  refine g_seq kr ?_
  by_cases h : a = a'
  · by_cases hne : n = n'
    · rw [decide_eq_true h, Bool.true_and]
      obtain rfl := hne
      refine rS [.v, .l 0, .v, .l 1, .e (v := .bool (!(a == a'))) (v' := .bool false) (bool_eq (by rw [beq_iff_eq.2 h]; rfl)), .v, .v, .l 0, .v, .v, .l 1, .v, .e (v := .bool (!(((n : Nat) : Int) == ((n : Nat) : Int)))) (v' := .bool false) (bool_eq (by rw [beq_self_eq_true]; rfl)), .v] H1 kr fun gs2 w2 H2 => ?_
      refine g_cond_f kr kr ?_
      refine g_skip kr ?_
      show WP _ _ _ _ _ _
      refine g_seq kr ?_
      refine rS [.v, .l 0, .v, .v] H2 kr fun gs3 w3 H3 => ?_
      refine g_block 0 kr ?_
      have H4 : St w.heap.size w w3 [((gs1 0).b, boT p n c a), ((gs1 1).b, boT p' n c' a')] := H3.as kr
      refine g_loop kr (fun mz ρ ww => ∃ (i : Nat), n - i = mz ∧ i ≤ n ∧ ndsB (A.drop i) (A'.drop i) = ndsB A A' ∧ St w.heap.size w ww [((gs1 0).b, boT p n c a), ((gs1 1).b, boT p' n c' a')] ∧ Is [(2, .pointer (some ⟨(gs1 0).b, 0, none⟩)), (3, .pointer (some ⟨(gs1 1).b, 0, none⟩)), (22, iN n), (23, iN i)] ρ) (n - 0) ⟨0, rfl, Nat.zero_le _, rfl, H4, (Is.of ⟨kr, kr, kr, kr, trivial⟩)⟩ ?_
      clear H0 H1 H2 H3 H4
      rintro _ _ w4 ⟨i, rfl, hin, heq, H5, _, rfl⟩
      by_cases hi : i < n
      · refine rS [.e (v := .bool (decide (((i : Nat) : Int) < ((n : Nat) : Int)))) (v' := .bool true) (bool_eq (decide_eq_true (by omega)))] H5 kr fun gs4 w5 H6 => ?_
        refine g_seq kr ?_
        refine g_cond_t kr kr ?_
        refine g_skip kr ?_
        show WP _ _ _ _ _ _
        obtain ⟨x, hx⟩ : ∃ x, A[i]? = some x := ⟨_, List.getElem?_eq_getElem (by omega)⟩
        obtain ⟨y, hy⟩ : ∃ y, A'[i]? = some y := ⟨_, List.getElem?_eq_getElem (by omega)⟩
        obtain ⟨b1, o1, C1, T1, fz1, hp1, hh1, hR1⟩ := hN.row (by omega)
        obtain ⟨b2, o2, C2, T2, fz2, hp2, hh2, hR2⟩ := hN'.row (by omega)
        rw [drop_one hx, drop_one hy] at heq
        refine g_seq kr ?_
        refine g_block 1 kr ?_
        refine rS [.v, .v] H6 kr fun gs5 w6 H7 => ?_
        cases hb : ndB x y with
        | true =>
          refine dS [.v, .l 0, .v, .o (ins := [((.tmp 27), .slice p n c), ((.tmp 28), iN i)]) (v := .pointer (some ⟨b1, o1 + i * 19, none⟩)) (fun ρ o w ho hi2 => idxP_run (kd := .i64) (t := 24) (e := 58) (K := 19) (bytes := 168) kr (x := (.tmp 27)) (y := (.tmp 28)) b1 o1 n c i hp1 ho hi2.1 hi2.2.1 (by omega) w), .fp (off := o1 + i * 19) (n := 19) (W := (nS.cs x).toArray) hh1 (lt_of_heap hh1) (hR1 i x hx).1 (hR1 i x hx).2, .v, .l 1, .v, .o (ins := [((.tmp 32), .slice p' n c'), ((.tmp 33), iN i)]) (v := .pointer (some ⟨b2, o2 + i * 19, none⟩)) (fun ρ o w ho hi2 => idxP_run (kd := .i64) (t := 24) (e := 58) (K := 19) (bytes := 168) kr (x := (.tmp 32)) (y := (.tmp 33)) b2 o2 n c' i hp2 ho hi2.1 hi2.2.1 (by omega) w), .fp (off := o2 + i * 19) (n := 19) (W := (nS.cs y).toArray) hh2 (lt_of_heap hh2) (hR2 i y hy).1 (hR2 i y hy).2, .oe (ins := [((.tmp 30), ndV x), ((.tmp 35), ndV y)]) (v := .bool (!(ndB x y))) (v' := .bool (!true)) (fun ρ o w ho hi2 => node_neq_run x y w ho hi2.1 hi2.2.1) (by rw [hb])] H7 kr fun w7 H8 => ?_
          show WP _ _ _ _ _ _
          refine g_cond_f kr kr ?_
          refine g_skip kr ?_
          show WP _ _ _ _ _ _
          refine rL [.e (v := .int .i64 (IntKind.i64.wrap (((i : Nat) : Int) + 1))) (v' := .int .i64 ((i + 1 : Nat) : Int)) (int_eq (wrapAdd_i64 (a := i) (b := 1) (by omega))), .v] H8 kr fun gs7 w10 H9 => ?_
          show ∃ m, _ ∧ _
          refine ⟨_, (by omega), i + 1, rfl, hi, ?_, H9.as kr, (Is.of ⟨kr, kr, kr, kr, trivial⟩)⟩
          rw [← heq]; simp only [ndsB, hb, Bool.true_and]
        | false =>
          refine dS [.v, .l 0, .v, .o (ins := [((.tmp 27), .slice p n c), ((.tmp 28), iN i)]) (v := .pointer (some ⟨b1, o1 + i * 19, none⟩)) (fun ρ o w ho hi2 => idxP_run (kd := .i64) (t := 24) (e := 58) (K := 19) (bytes := 168) kr (x := (.tmp 27)) (y := (.tmp 28)) b1 o1 n c i hp1 ho hi2.1 hi2.2.1 (by omega) w), .fp (off := o1 + i * 19) (n := 19) (W := (nS.cs x).toArray) hh1 (lt_of_heap hh1) (hR1 i x hx).1 (hR1 i x hx).2, .v, .l 1, .v, .o (ins := [((.tmp 32), .slice p' n c'), ((.tmp 33), iN i)]) (v := .pointer (some ⟨b2, o2 + i * 19, none⟩)) (fun ρ o w ho hi2 => idxP_run (kd := .i64) (t := 24) (e := 58) (K := 19) (bytes := 168) kr (x := (.tmp 32)) (y := (.tmp 33)) b2 o2 n c' i hp2 ho hi2.1 hi2.2.1 (by omega) w), .fp (off := o2 + i * 19) (n := 19) (W := (nS.cs y).toArray) hh2 (lt_of_heap hh2) (hR2 i y hy).1 (hR2 i y hy).2, .oe (ins := [((.tmp 30), ndV x), ((.tmp 35), ndV y)]) (v := .bool (!(ndB x y))) (v' := .bool (!false)) (fun ρ o w ho hi2 => node_neq_run x y w ho hi2.1 hi2.2.1) (by rw [hb])] H7 kr fun w7 H8 => ?_
          show WP _ _ _ _ _ _
          refine g_cond_t kr kr ?_
          refine rS [.v] H8 kr fun gs6 w8 H9 => ?_
          exact rRe [.tmp 4] [] (v := .bool false) (v' := .bool (ndsB A A')) H9 (bool_eq (by rw [← heq]; simp only [ndsB, hb, Bool.false_and])) kr
      · refine rS [.e (v := .bool (decide (((i : Nat) : Int) < ((n : Nat) : Int)))) (v' := .bool false) (bool_eq (decide_eq_false (by omega)))] H5 kr fun gs4 w5 H6 => ?_
        refine g_seq kr ?_
        refine g_cond_f kr kr ?_
        refine g_exit 0 kr ?_
        show WP _ _ _ _ _ _
        refine rS [.v] H6 kr fun gs5 w6 H7 => ?_
        exact rRe [.tmp 4] [] (v := .bool true) (v' := .bool (ndsB A A')) H7 (bool_eq (by rw [← heq, List.drop_of_length_le (by omega), List.drop_of_length_le (by omega)]; rfl)) kr
    · refine rS [.v, .l 0, .v, .l 1, .e (v := .bool (!(a == a'))) (v' := .bool false) (bool_eq (by rw [beq_iff_eq.2 h]; rfl)), .v, .v, .l 0, .v, .v, .l 1, .v, .e (v := .bool (!(((n : Nat) : Int) == ((n' : Nat) : Int)))) (v' := .bool true) (bool_eq (by rw [beq_eq_false_iff_ne.2 (by omega)]; rfl)), .v] H1 kr fun gs2 w2 H2 => ?_
      refine g_cond_t kr kr ?_
      refine rS [.v] H2 kr fun gs3 w3 H3 => ?_
      exact rRe [.tmp 4] [] (v := .bool false) (v' := .bool (decide (a = a') && ndsB A A')) H3 (bool_eq (by rw [ndsB_len (by omega), Bool.and_false])) kr
  · refine rS [.v, .l 0, .v, .l 1, .e (v := .bool (!(a == a'))) (v' := .bool true) (bool_eq (by rw [beq_eq_false_iff_ne.2 h]; rfl)), .v, .n, .n, .n, .n, .n, .n, .n, .v] H1 kr fun gs2 w2 H2 => ?_
    refine g_cond_t kr kr ?_
    refine rS [.v] H2 kr fun gs3 w3 H3 => ?_
    exact rRe [.tmp 4] [] (v := .bool false) (v' := .bool (decide (a = a') && ndsB A A')) H3 (bool_eq (by rw [decide_eq_false h]; rfl)) kr
end Go.Proofs.YtlhfgbjhngkicaaGreatDoor

namespace Go.Proofs.Kec
set_option linter.unusedVariables false
set_option maxRecDepth 10000
abbrev B64 := BitVec 64
def nth (s : List B64) (k : Nat) : B64 := s.getD k 0
def rl (x : B64) (n : Nat) : B64 := x.rotateLeft n
def rowX (v w x : B64) : B64 := v ^^^ (x &&& ~~~ w)
def cC (s : List B64) (x : Nat) : B64 := nth s x ^^^ nth s (x + 5) ^^^ nth s (x + 10) ^^^ nth s (x + 15) ^^^ nth s (x + 20)
def dD (c : Nat → B64) (x : Nat) : B64 := c ((x + 4) % 5) ^^^ rl (c ((x + 1) % 5)) 1
def srcT : List Nat := [0,6,12,18,24, 3,9,10,16,22, 1,7,13,19,20, 4,5,11,17,23, 2,8,14,15,21]
def rotT : List Nat := [0,44,43,21,14, 28,20,3,45,61, 1,6,25,8,18, 27,36,10,15,56, 62,55,39,41,2]
def th (s : List B64) (i : Nat) : B64 := nth s i ^^^ dD (cC s) (i % 5)
def pI (s : List B64) (k : Nat) : B64 := rl (th s (srcT.getD k 0)) (rotT.getD k 0)
def xI (b : Nat → B64) (k : Nat) : B64 := rowX (b k) (b (k / 5 * 5 + (k % 5 + 1) % 5)) (b (k / 5 * 5 + (k % 5 + 2) % 5))
def rnd (s : List B64) : List B64 := (List.range 25).map (xI (pI s))
/-! ### turning -/
theorem rl_bit (a : B64) (n i : Nat) (hi : i < 64) : (rl a n).getLsbD i = a.getLsbD ((i + 64 - n % 64) % 64) := by
  unfold rl
  rw [BitVec.getLsbD_rotateLeft]
  by_cases h : i < n % 64
  · rw [decide_eq_true h, cond_true]; congr 1; omega
  · rw [decide_eq_false h, cond_false, decide_eq_true hi, Bool.true_and]; congr 1; omega
/-! ### bits that cancel -/
/-! ### a row -/
/-! ### a round -/
theorem rnd_len (s : List B64) : (rnd s).length = 25 := by unfold rnd; simp
/-! ### all rounds -/
def markX (m : B64) (s : List B64) : List B64 := (nth s 0 ^^^ m) :: s.drop 1
def rm (s : List B64) (m : B64) : List B64 := markX m (rnd s)
def marks : List B64 := [0x0000000000000001, 0x0000000000008082, 0x800000000000808A, 0x8000000080008000,
  0x000000000000808B, 0x0000000080000001, 0x8000000080008081, 0x8000000000008009,
  0x000000000000008A, 0x0000000000000088, 0x0000000080008009, 0x000000008000000A,
  0x000000008000808B, 0x800000000000008B, 0x8000000000008089, 0x8000000000008003,
  0x8000000000008002, 0x8000000000000080, 0x000000000000800A, 0x800000008000000A,
  0x8000000080008081, 0x8000000000008080, 0x0000000080000001, 0x8000000080008008]
def mix (s : List B64) : List B64 := marks.foldl rm s
theorem markX_len (m : B64) {s : List B64} (h : s.length = 25) : (markX m s).length = 25 := by unfold markX; simp [h]
theorem rm_len (s : List B64) (m : B64) : (rm s m).length = 25 := markX_len m (rnd_len s)
theorem foldl_rm_len : ∀ (ms : List B64) {s : List B64}, s.length = 25 → (ms.foldl rm s).length = 25
  | [], _, h => h
  | m :: ms, s, _ => foldl_rm_len ms (rm_len s m)
theorem mix_len {s : List B64} (h : s.length = 25) : (mix s).length = 25 := foldl_rm_len _ h
/-! ### sums -/
def byteB (b : UInt8) : B64 := BitVec.ofNat 64 b.toNat
def liftB (b : B64) (i : Nat) : B64 := b <<< (i % 8 * 8)
/-- The state with a byte laid at a place. -/
def lay (s : List B64) (n : Nat) (b : B64) : List B64 := s.set (n / 8) (nth s (n / 8) ^^^ liftB b n)
def step1 (st : List B64 × Nat) (b : UInt8) : List B64 × Nat :=
  if st.2 + 1 = 136 then (mix (lay st.1 st.2 (byteB b)), 0) else (lay st.1 st.2 (byteB b), st.2 + 1)
def takeB (st : List B64 × Nat) (l : List UInt8) : List B64 × Nat := l.foldl step1 st
def endB (st : List B64 × Nat) : List B64 := lay (lay st.1 st.2 1) 135 0x80
def firstB (s : List B64) : List UInt8 := (List.range 32).map fun i => UInt8.ofNat ((nth s (i / 8)).toNat / 2 ^ (i % 8 * 8))
def zeroS : List B64 := List.replicate 25 0
def sumB (l : List UInt8) : List UInt8 := firstB (mix (endB (takeB (zeroS, 0) l)))
theorem lay_len {s : List B64} (n : Nat) (b : B64) (h : s.length = 25) : (lay s n b).length = 25 := by unfold lay; simp [h]
structure StOK (st : List B64 × Nat) : Prop where
  len : st.1.length = 25
  lt : st.2 < 136
theorem step1_ok {st : List B64 × Nat} (b : UInt8) (h : StOK st) : StOK (step1 st b) := by
  unfold step1
  split
  · exact ⟨mix_len (lay_len _ _ h.len), (by decide : 0 < 136)⟩
  · exact ⟨lay_len _ _ h.len, by have := h.lt; simp only; omega⟩
theorem takeB_ok : ∀ (l : List UInt8) {st : List B64 × Nat}, StOK st → StOK (takeB st l)
  | [], _, h => h
  | b :: l, st, h => takeB_ok l (step1_ok b h)
theorem takeB_append (st : List B64 × Nat) (l m : List UInt8) : takeB st (l ++ m) = takeB (takeB st l) m := by unfold takeB; exact List.foldl_append
theorem takeB_snoc (st : List B64 × Nat) (l : List UInt8) (b : UInt8) : takeB st (l ++ [b]) = step1 (takeB st l) b := by rw [takeB_append]; rfl
theorem zero_ok : StOK (zeroS, 0) := ⟨by decide, by decide⟩
theorem firstB_len (s : List B64) : (firstB s).length = 32 := by unfold firstB; simp
theorem sumB_len (l : List UInt8) : (sumB l).length = 32 := firstB_len _
end Go.Proofs.Kec

namespace Go.Proofs.YtlhfgbjhngkicaaGreatDoor.Ke
open Go Go.RowKit Go.Proofs.Kec
set_option linter.unusedVariables false
theorem rl_of (x : BitVec 64) (n : Nat) (h : n < 64) : x <<< n ||| x >>> (64 - n) = rl x n := by
  unfold rl BitVec.rotateLeft BitVec.rotateLeftAux; rw [Nat.mod_eq_of_lt h]
theorem and63 (n : Nat) (h : n < 64) : Value.int .u64 (Go.bits .and .u64 ((n : Nat) : Int) 63) = .int .u64 ((n : Nat) : Int) := by
  rw [show (63 : Int) = ((63 : Nat) : Int) from rfl, u64_and_nat n 63 (by omega) (by omega), show (63 : Nat) = 2 ^ 6 - 1 from rfl, Nat.and_two_pow_sub_one_eq_mod, Nat.mod_eq_of_lt (by omega)]
set_option maxRecDepth 100000 in
set_option maxHeartbeats 2000000 in
theorem rotl_fn (x : BitVec 64) (n : Nat) (hn : n < 64) : Fn Tryz.prog 122 #[.int .u64 ((BitVec.toNat x : Nat) : Int), .int .i64 ((n : Nat) : Int)] (.int .u64 ((BitVec.toNat (rl x n) : Nat) : Int)) := by
  refine Fn.intro (c := codeOf Tryz.f122) [.tmp 4] 17 Tryz.func122 kr kr kr fun w => ?_
  have H0 := St.start w
  refine rS [.v] H0 kr fun gs1 w1 H1 => ?_
  clear H0
  refine rS [.v, .e (v := .int .u64 (IntKind.u64.wrap (((n : Nat) : Int)))) (v' := .int .u64 ((n : Nat) : Int)) (int_eq (wrapN_u64 (a := n) (by omega))), .e (v := .int .u64 (Go.bits .and .u64 ((n : Nat) : Int) 63)) (v' := .int .u64 ((n : Nat) : Int)) (and63 n hn), .v] H1 kr fun gs2 w2 H2 => ?_
  clear H1
  refine rS [.v, .v, .e (v := .int .u64 (IntKind.u64.wrap ((((BitVec.toNat x : Nat) : Int)) * 2 ^ (min n 64)))) (v' := .int .u64 ((BitVec.toNat (x <<< n) : Nat) : Int)) (bv_shl_u64 x n), .v, .v, .e (v := .int .u64 (IntKind.u64.wrap (64 - ((n : Nat) : Int)))) (v' := .int .u64 ((64 - n : Nat) : Int)) (int_eq (wrapSub_u64 (a := 64) (b := n) (by omega))), .e (v := .int .u64 (Int.fdiv (((BitVec.toNat x : Nat) : Int)) (2 ^ (min (64 - n) 64)))) (v' := .int .u64 ((BitVec.toNat (x >>> (64 - n)) : Nat) : Int)) (bv_shr_u64 x (64 - n)), .e (v := .int .u64 (Go.bits .or .u64 (((BitVec.toNat (x <<< n) : Nat) : Int)) (((BitVec.toNat (x >>> (64 - n)) : Nat) : Int)))) (v' := .int .u64 ((BitVec.toNat ((x <<< n) ||| (x >>> (64 - n))) : Nat) : Int)) (bv_or_u64 (x <<< n) (x >>> (64 - n))), .v] H2 kr fun gs3 w3 H3 => ?_
  clear H2
  refine g_ret kr ?_
  show ∃ vs, Res _ _ _ _ vs ∧ _
  refine ⟨[.int .u64 ((BitVec.toNat ((x <<< n) ||| (x >>> (64 - n))) : Nat) : Int)], (.tmp (.int .u64 ((BitVec.toNat ((x <<< n) ||| (x >>> (64 - n))) : Nat) : Int)) kr .nil), ?_, H3.below⟩
  rw [← rl_of x n hn]; rfl
set_option maxRecDepth 100000 in
set_option maxHeartbeats 2000000 in
theorem turn_fn (x : BitVec 64) (n : Nat) (hn : n < 64) : Fn Tryz.prog 115 #[.int .u64 ((BitVec.toNat x : Nat) : Int), .int .i64 ((n : Nat) : Int)] (.int .u64 ((BitVec.toNat (rl x n) : Nat) : Int)) := by
  refine Fn.intro (c := codeOf Tryz.f115) [.tmp 4] 8 Tryz.func115 kr kr kr fun w => ?_
  have H0 := St.start w
  refine rS [.v] H0 kr fun gs1 w1 H1 => ?_
  clear H0
  refine rS [.v, .v, .c (rotl_fn x n (by omega)), .v] H1 kr fun gs2 w2 H2 => ?_
  clear H1
  refine g_ret kr ?_
  show ∃ vs, Res _ _ _ _ vs ∧ _
  refine ⟨[.int .u64 ((BitVec.toNat (rl x n) : Nat) : Int)], (.tmp (.int .u64 ((BitVec.toNat (rl x n) : Nat) : Int)) kr .nil), ?_, H2.below⟩
  rfl
set_option maxRecDepth 100000 in
set_option maxHeartbeats 2000000 in
theorem row_fn (xa xb xc xd xe : BitVec 64) : Fn Tryz.prog 116 #[.int .u64 ((BitVec.toNat xa : Nat) : Int), .int .u64 ((BitVec.toNat xb : Nat) : Int), .int .u64 ((BitVec.toNat xc : Nat) : Int), .int .u64 ((BitVec.toNat xd : Nat) : Int), .int .u64 ((BitVec.toNat xe : Nat) : Int)] (.tuple #[.int .u64 ((BitVec.toNat (rowX xa xb xc) : Nat) : Int), .int .u64 ((BitVec.toNat (rowX xb xc xd) : Nat) : Int), .int .u64 ((BitVec.toNat (rowX xc xd xe) : Nat) : Int), .int .u64 ((BitVec.toNat (rowX xd xe xa) : Nat) : Int), .int .u64 ((BitVec.toNat (rowX xe xa xb) : Nat) : Int)]) := by
  refine Fn.intro (c := codeOf Tryz.f116) [.tmp 10, .tmp 11, .tmp 12, .tmp 13, .tmp 14] 40 Tryz.func116 kr kr kr fun w => ?_
  have H0 := St.start w
  refine rS [.v, .v, .v, .v, .v] H0 kr fun gs1 w1 H1 => ?_
  clear H0
  refine rS [.v, .v, .v, .e (v := .int .u64 (Go.bits .andNot .u64 (((BitVec.toNat xc : Nat) : Int)) (((BitVec.toNat xb : Nat) : Int)))) (v' := .int .u64 ((BitVec.toNat (xc &&& ~~~xb) : Nat) : Int)) (bv_andNot_u64 xc xb), .e (v := .int .u64 (Go.bits .xor .u64 (((BitVec.toNat xa : Nat) : Int)) (((BitVec.toNat (xc &&& ~~~xb) : Nat) : Int)))) (v' := .int .u64 ((BitVec.toNat (xa ^^^ (xc &&& ~~~xb)) : Nat) : Int)) (bv_xor_u64 xa (xc &&& ~~~xb)), .v, .v, .v, .e (v := .int .u64 (Go.bits .andNot .u64 (((BitVec.toNat xd : Nat) : Int)) (((BitVec.toNat xc : Nat) : Int)))) (v' := .int .u64 ((BitVec.toNat (xd &&& ~~~xc) : Nat) : Int)) (bv_andNot_u64 xd xc), .e (v := .int .u64 (Go.bits .xor .u64 (((BitVec.toNat xb : Nat) : Int)) (((BitVec.toNat (xd &&& ~~~xc) : Nat) : Int)))) (v' := .int .u64 ((BitVec.toNat (xb ^^^ (xd &&& ~~~xc)) : Nat) : Int)) (bv_xor_u64 xb (xd &&& ~~~xc)), .v, .v, .v, .e (v := .int .u64 (Go.bits .andNot .u64 (((BitVec.toNat xe : Nat) : Int)) (((BitVec.toNat xd : Nat) : Int)))) (v' := .int .u64 ((BitVec.toNat (xe &&& ~~~xd) : Nat) : Int)) (bv_andNot_u64 xe xd), .e (v := .int .u64 (Go.bits .xor .u64 (((BitVec.toNat xc : Nat) : Int)) (((BitVec.toNat (xe &&& ~~~xd) : Nat) : Int)))) (v' := .int .u64 ((BitVec.toNat (xc ^^^ (xe &&& ~~~xd)) : Nat) : Int)) (bv_xor_u64 xc (xe &&& ~~~xd)), .v, .v, .v, .e (v := .int .u64 (Go.bits .andNot .u64 (((BitVec.toNat xa : Nat) : Int)) (((BitVec.toNat xe : Nat) : Int)))) (v' := .int .u64 ((BitVec.toNat (xa &&& ~~~xe) : Nat) : Int)) (bv_andNot_u64 xa xe), .e (v := .int .u64 (Go.bits .xor .u64 (((BitVec.toNat xd : Nat) : Int)) (((BitVec.toNat (xa &&& ~~~xe) : Nat) : Int)))) (v' := .int .u64 ((BitVec.toNat (xd ^^^ (xa &&& ~~~xe)) : Nat) : Int)) (bv_xor_u64 xd (xa &&& ~~~xe)), .v, .v, .v, .e (v := .int .u64 (Go.bits .andNot .u64 (((BitVec.toNat xb : Nat) : Int)) (((BitVec.toNat xa : Nat) : Int)))) (v' := .int .u64 ((BitVec.toNat (xb &&& ~~~xa) : Nat) : Int)) (bv_andNot_u64 xb xa), .e (v := .int .u64 (Go.bits .xor .u64 (((BitVec.toNat xe : Nat) : Int)) (((BitVec.toNat (xb &&& ~~~xa) : Nat) : Int)))) (v' := .int .u64 ((BitVec.toNat (xe ^^^ (xb &&& ~~~xa)) : Nat) : Int)) (bv_xor_u64 xe (xb &&& ~~~xa)), .v, .v, .v, .v, .v] H1 kr fun gs2 w2 H2 => ?_
  clear H1
  refine g_ret kr ?_
  show ∃ vs, Res _ _ _ _ vs ∧ _
  refine ⟨[.int .u64 ((BitVec.toNat (xa ^^^ (xc &&& ~~~xb)) : Nat) : Int), .int .u64 ((BitVec.toNat (xb ^^^ (xd &&& ~~~xc)) : Nat) : Int), .int .u64 ((BitVec.toNat (xc ^^^ (xe &&& ~~~xd)) : Nat) : Int), .int .u64 ((BitVec.toNat (xd ^^^ (xa &&& ~~~xe)) : Nat) : Int), .int .u64 ((BitVec.toNat (xe ^^^ (xb &&& ~~~xa)) : Nat) : Int)], (.tmp (.int .u64 ((BitVec.toNat (xa ^^^ (xc &&& ~~~xb)) : Nat) : Int)) kr (.tmp (.int .u64 ((BitVec.toNat (xb ^^^ (xd &&& ~~~xc)) : Nat) : Int)) kr (.tmp (.int .u64 ((BitVec.toNat (xc ^^^ (xe &&& ~~~xd)) : Nat) : Int)) kr (.tmp (.int .u64 ((BitVec.toNat (xd ^^^ (xa &&& ~~~xe)) : Nat) : Int)) kr (.tmp (.int .u64 ((BitVec.toNat (xe ^^^ (xb &&& ~~~xa)) : Nat) : Int)) kr .nil))))), ?_, H2.below⟩
  rfl
def svn (s : List (BitVec 64)) : Value := .agg #[.int .u64 ((BitVec.toNat (nth s 0) : Nat) : Int), .int .u64 ((BitVec.toNat (nth s 1) : Nat) : Int), .int .u64 ((BitVec.toNat (nth s 2) : Nat) : Int), .int .u64 ((BitVec.toNat (nth s 3) : Nat) : Int), .int .u64 ((BitVec.toNat (nth s 4) : Nat) : Int), .int .u64 ((BitVec.toNat (nth s 5) : Nat) : Int), .int .u64 ((BitVec.toNat (nth s 6) : Nat) : Int), .int .u64 ((BitVec.toNat (nth s 7) : Nat) : Int), .int .u64 ((BitVec.toNat (nth s 8) : Nat) : Int), .int .u64 ((BitVec.toNat (nth s 9) : Nat) : Int), .int .u64 ((BitVec.toNat (nth s 10) : Nat) : Int), .int .u64 ((BitVec.toNat (nth s 11) : Nat) : Int), .int .u64 ((BitVec.toNat (nth s 12) : Nat) : Int), .int .u64 ((BitVec.toNat (nth s 13) : Nat) : Int), .int .u64 ((BitVec.toNat (nth s 14) : Nat) : Int), .int .u64 ((BitVec.toNat (nth s 15) : Nat) : Int), .int .u64 ((BitVec.toNat (nth s 16) : Nat) : Int), .int .u64 ((BitVec.toNat (nth s 17) : Nat) : Int), .int .u64 ((BitVec.toNat (nth s 18) : Nat) : Int), .int .u64 ((BitVec.toNat (nth s 19) : Nat) : Int), .int .u64 ((BitVec.toNat (nth s 20) : Nat) : Int), .int .u64 ((BitVec.toNat (nth s 21) : Nat) : Int), .int .u64 ((BitVec.toNat (nth s 22) : Nat) : Int), .int .u64 ((BitVec.toNat (nth s 23) : Nat) : Int), .int .u64 ((BitVec.toNat (nth s 24) : Nat) : Int)]
theorem rl0 (x : BitVec 64) : rl x 0 = x := by
  apply BitVec.eq_of_getLsbD_eq
  intro i hi
  rw [rl_bit _ _ _ hi]; congr 1; omega
theorem pI0 (s : List (BitVec 64)) : pI s 0 = th s 0 := rl0 _
theorem row0_fn (s : List (BitVec 64)) : Fn Tryz.prog 116 #[.int .u64 ((BitVec.toNat (th s 0) : Nat) : Int), .int .u64 ((BitVec.toNat (pI s 1) : Nat) : Int), .int .u64 ((BitVec.toNat (pI s 2) : Nat) : Int), .int .u64 ((BitVec.toNat (pI s 3) : Nat) : Int), .int .u64 ((BitVec.toNat (pI s 4) : Nat) : Int)] (.tuple #[.int .u64 ((BitVec.toNat (xI (pI s) 0) : Nat) : Int), .int .u64 ((BitVec.toNat (xI (pI s) 1) : Nat) : Int), .int .u64 ((BitVec.toNat (xI (pI s) 2) : Nat) : Int), .int .u64 ((BitVec.toNat (xI (pI s) 3) : Nat) : Int), .int .u64 ((BitVec.toNat (xI (pI s) 4) : Nat) : Int)]) := by
  rw [← pI0 s]; exact row_fn (pI s 0) (pI s 1) (pI s 2) (pI s 3) (pI s 4)
set_option maxRecDepth 100000 in
set_option maxHeartbeats 2000000 in
theorem round_fn (s : List (BitVec 64)) : Fn Tryz.prog 98 #[svn s] (svn (rnd s)) := by
  refine Fn.intro (c := codeOf Tryz.f98) [.cell 2 96] 288 Tryz.func98 kr kr kr fun w => ?_
  have H0 := St.start w
  refine rS [.b, .a] H0 kr fun gs1 w1 H1 => ?_
  clear H0
  refine rS [.v, .l 0, .v, .l 0, .e (v := .int .u64 (Go.bits .xor .u64 (((BitVec.toNat (nth s 0) : Nat) : Int)) (((BitVec.toNat (nth s 5) : Nat) : Int)))) (v' := .int .u64 ((BitVec.toNat ((nth s 0) ^^^ (nth s 5)) : Nat) : Int)) (bv_xor_u64 (nth s 0) (nth s 5)), .v, .l 0, .e (v := .int .u64 (Go.bits .xor .u64 (((BitVec.toNat ((nth s 0) ^^^ (nth s 5)) : Nat) : Int)) (((BitVec.toNat (nth s 10) : Nat) : Int)))) (v' := .int .u64 ((BitVec.toNat (((nth s 0) ^^^ (nth s 5)) ^^^ (nth s 10)) : Nat) : Int)) (bv_xor_u64 ((nth s 0) ^^^ (nth s 5)) (nth s 10)), .v, .l 0, .e (v := .int .u64 (Go.bits .xor .u64 (((BitVec.toNat (((nth s 0) ^^^ (nth s 5)) ^^^ (nth s 10)) : Nat) : Int)) (((BitVec.toNat (nth s 15) : Nat) : Int)))) (v' := .int .u64 ((BitVec.toNat ((((nth s 0) ^^^ (nth s 5)) ^^^ (nth s 10)) ^^^ (nth s 15)) : Nat) : Int)) (bv_xor_u64 (((nth s 0) ^^^ (nth s 5)) ^^^ (nth s 10)) (nth s 15)), .v, .l 0, .e (v := .int .u64 (Go.bits .xor .u64 (((BitVec.toNat ((((nth s 0) ^^^ (nth s 5)) ^^^ (nth s 10)) ^^^ (nth s 15)) : Nat) : Int)) (((BitVec.toNat (nth s 20) : Nat) : Int)))) (v' := .int .u64 ((BitVec.toNat (cC s 0) : Nat) : Int)) (bv_xor_u64 ((((nth s 0) ^^^ (nth s 5)) ^^^ (nth s 10)) ^^^ (nth s 15)) (nth s 20)), .v] H1 kr fun gs2 w2 H2 => ?_
  clear H1
  refine g_keep [0, 1, 2, 3] fun ρ1 => ?_
  have HK1 := H2.keep
  clear H2
  refine rS [.v, .l 0, .v, .l 0, .e (v := .int .u64 (Go.bits .xor .u64 (((BitVec.toNat (nth s 1) : Nat) : Int)) (((BitVec.toNat (nth s 6) : Nat) : Int)))) (v' := .int .u64 ((BitVec.toNat ((nth s 1) ^^^ (nth s 6)) : Nat) : Int)) (bv_xor_u64 (nth s 1) (nth s 6)), .v, .l 0, .e (v := .int .u64 (Go.bits .xor .u64 (((BitVec.toNat ((nth s 1) ^^^ (nth s 6)) : Nat) : Int)) (((BitVec.toNat (nth s 11) : Nat) : Int)))) (v' := .int .u64 ((BitVec.toNat (((nth s 1) ^^^ (nth s 6)) ^^^ (nth s 11)) : Nat) : Int)) (bv_xor_u64 ((nth s 1) ^^^ (nth s 6)) (nth s 11)), .v, .l 0, .e (v := .int .u64 (Go.bits .xor .u64 (((BitVec.toNat (((nth s 1) ^^^ (nth s 6)) ^^^ (nth s 11)) : Nat) : Int)) (((BitVec.toNat (nth s 16) : Nat) : Int)))) (v' := .int .u64 ((BitVec.toNat ((((nth s 1) ^^^ (nth s 6)) ^^^ (nth s 11)) ^^^ (nth s 16)) : Nat) : Int)) (bv_xor_u64 (((nth s 1) ^^^ (nth s 6)) ^^^ (nth s 11)) (nth s 16)), .v, .l 0, .e (v := .int .u64 (Go.bits .xor .u64 (((BitVec.toNat ((((nth s 1) ^^^ (nth s 6)) ^^^ (nth s 11)) ^^^ (nth s 16)) : Nat) : Int)) (((BitVec.toNat (nth s 21) : Nat) : Int)))) (v' := .int .u64 ((BitVec.toNat (cC s 1) : Nat) : Int)) (bv_xor_u64 ((((nth s 1) ^^^ (nth s 6)) ^^^ (nth s 11)) ^^^ (nth s 16)) (nth s 21)), .v] HK1 kr fun gs3 w3 H3 => ?_
  clear HK1
  refine rS [.v, .l 0, .v, .l 0, .e (v := .int .u64 (Go.bits .xor .u64 (((BitVec.toNat (nth s 2) : Nat) : Int)) (((BitVec.toNat (nth s 7) : Nat) : Int)))) (v' := .int .u64 ((BitVec.toNat ((nth s 2) ^^^ (nth s 7)) : Nat) : Int)) (bv_xor_u64 (nth s 2) (nth s 7)), .v, .l 0, .e (v := .int .u64 (Go.bits .xor .u64 (((BitVec.toNat ((nth s 2) ^^^ (nth s 7)) : Nat) : Int)) (((BitVec.toNat (nth s 12) : Nat) : Int)))) (v' := .int .u64 ((BitVec.toNat (((nth s 2) ^^^ (nth s 7)) ^^^ (nth s 12)) : Nat) : Int)) (bv_xor_u64 ((nth s 2) ^^^ (nth s 7)) (nth s 12)), .v, .l 0, .e (v := .int .u64 (Go.bits .xor .u64 (((BitVec.toNat (((nth s 2) ^^^ (nth s 7)) ^^^ (nth s 12)) : Nat) : Int)) (((BitVec.toNat (nth s 17) : Nat) : Int)))) (v' := .int .u64 ((BitVec.toNat ((((nth s 2) ^^^ (nth s 7)) ^^^ (nth s 12)) ^^^ (nth s 17)) : Nat) : Int)) (bv_xor_u64 (((nth s 2) ^^^ (nth s 7)) ^^^ (nth s 12)) (nth s 17)), .v, .l 0, .e (v := .int .u64 (Go.bits .xor .u64 (((BitVec.toNat ((((nth s 2) ^^^ (nth s 7)) ^^^ (nth s 12)) ^^^ (nth s 17)) : Nat) : Int)) (((BitVec.toNat (nth s 22) : Nat) : Int)))) (v' := .int .u64 ((BitVec.toNat (cC s 2) : Nat) : Int)) (bv_xor_u64 ((((nth s 2) ^^^ (nth s 7)) ^^^ (nth s 12)) ^^^ (nth s 17)) (nth s 22)), .v] H3 kr fun gs4 w4 H4 => ?_
  clear H3
  refine g_keep [0, 1, 2, 3, 4, 5] fun ρ2 => ?_
  have HK2 := H4.keep
  clear H4
  refine rS [.v, .l 0, .v, .l 0, .e (v := .int .u64 (Go.bits .xor .u64 (((BitVec.toNat (nth s 3) : Nat) : Int)) (((BitVec.toNat (nth s 8) : Nat) : Int)))) (v' := .int .u64 ((BitVec.toNat ((nth s 3) ^^^ (nth s 8)) : Nat) : Int)) (bv_xor_u64 (nth s 3) (nth s 8)), .v, .l 0, .e (v := .int .u64 (Go.bits .xor .u64 (((BitVec.toNat ((nth s 3) ^^^ (nth s 8)) : Nat) : Int)) (((BitVec.toNat (nth s 13) : Nat) : Int)))) (v' := .int .u64 ((BitVec.toNat (((nth s 3) ^^^ (nth s 8)) ^^^ (nth s 13)) : Nat) : Int)) (bv_xor_u64 ((nth s 3) ^^^ (nth s 8)) (nth s 13)), .v, .l 0, .e (v := .int .u64 (Go.bits .xor .u64 (((BitVec.toNat (((nth s 3) ^^^ (nth s 8)) ^^^ (nth s 13)) : Nat) : Int)) (((BitVec.toNat (nth s 18) : Nat) : Int)))) (v' := .int .u64 ((BitVec.toNat ((((nth s 3) ^^^ (nth s 8)) ^^^ (nth s 13)) ^^^ (nth s 18)) : Nat) : Int)) (bv_xor_u64 (((nth s 3) ^^^ (nth s 8)) ^^^ (nth s 13)) (nth s 18)), .v, .l 0, .e (v := .int .u64 (Go.bits .xor .u64 (((BitVec.toNat ((((nth s 3) ^^^ (nth s 8)) ^^^ (nth s 13)) ^^^ (nth s 18)) : Nat) : Int)) (((BitVec.toNat (nth s 23) : Nat) : Int)))) (v' := .int .u64 ((BitVec.toNat (cC s 3) : Nat) : Int)) (bv_xor_u64 ((((nth s 3) ^^^ (nth s 8)) ^^^ (nth s 13)) ^^^ (nth s 18)) (nth s 23)), .v] HK2 kr fun gs5 w5 H5 => ?_
  clear HK2
  refine rS [.v, .l 0, .v, .l 0, .e (v := .int .u64 (Go.bits .xor .u64 (((BitVec.toNat (nth s 4) : Nat) : Int)) (((BitVec.toNat (nth s 9) : Nat) : Int)))) (v' := .int .u64 ((BitVec.toNat ((nth s 4) ^^^ (nth s 9)) : Nat) : Int)) (bv_xor_u64 (nth s 4) (nth s 9)), .v, .l 0, .e (v := .int .u64 (Go.bits .xor .u64 (((BitVec.toNat ((nth s 4) ^^^ (nth s 9)) : Nat) : Int)) (((BitVec.toNat (nth s 14) : Nat) : Int)))) (v' := .int .u64 ((BitVec.toNat (((nth s 4) ^^^ (nth s 9)) ^^^ (nth s 14)) : Nat) : Int)) (bv_xor_u64 ((nth s 4) ^^^ (nth s 9)) (nth s 14)), .v, .l 0, .e (v := .int .u64 (Go.bits .xor .u64 (((BitVec.toNat (((nth s 4) ^^^ (nth s 9)) ^^^ (nth s 14)) : Nat) : Int)) (((BitVec.toNat (nth s 19) : Nat) : Int)))) (v' := .int .u64 ((BitVec.toNat ((((nth s 4) ^^^ (nth s 9)) ^^^ (nth s 14)) ^^^ (nth s 19)) : Nat) : Int)) (bv_xor_u64 (((nth s 4) ^^^ (nth s 9)) ^^^ (nth s 14)) (nth s 19)), .v, .l 0, .e (v := .int .u64 (Go.bits .xor .u64 (((BitVec.toNat ((((nth s 4) ^^^ (nth s 9)) ^^^ (nth s 14)) ^^^ (nth s 19)) : Nat) : Int)) (((BitVec.toNat (nth s 24) : Nat) : Int)))) (v' := .int .u64 ((BitVec.toNat (cC s 4) : Nat) : Int)) (bv_xor_u64 ((((nth s 4) ^^^ (nth s 9)) ^^^ (nth s 14)) ^^^ (nth s 19)) (nth s 24)), .v] H5 kr fun gs6 w6 H6 => ?_
  clear H5
  refine g_keep [0, 1, 2, 3, 4, 5, 6, 7] fun ρ3 => ?_
  have HK3 := H6.keep
  clear H6
  refine rS [.v, .v, .c (turn_fn (cC s 1) 1 (by omega)), .e (v := .int .u64 (Go.bits .xor .u64 (((BitVec.toNat (cC s 4) : Nat) : Int)) (((BitVec.toNat (rl (cC s 1) 1) : Nat) : Int)))) (v' := .int .u64 ((BitVec.toNat (dD (cC s) 0) : Nat) : Int)) (bv_xor_u64 (cC s 4) (rl (cC s 1) 1)), .v] HK3 kr fun gs7 w7 H7 => ?_
  clear HK3
  refine rS [.v, .v, .c (turn_fn (cC s 2) 1 (by omega)), .e (v := .int .u64 (Go.bits .xor .u64 (((BitVec.toNat (cC s 0) : Nat) : Int)) (((BitVec.toNat (rl (cC s 2) 1) : Nat) : Int)))) (v' := .int .u64 ((BitVec.toNat (dD (cC s) 1) : Nat) : Int)) (bv_xor_u64 (cC s 0) (rl (cC s 2) 1)), .v] H7 kr fun gs8 w8 H8 => ?_
  clear H7
  refine rS [.v, .v, .c (turn_fn (cC s 3) 1 (by omega)), .e (v := .int .u64 (Go.bits .xor .u64 (((BitVec.toNat (cC s 1) : Nat) : Int)) (((BitVec.toNat (rl (cC s 3) 1) : Nat) : Int)))) (v' := .int .u64 ((BitVec.toNat (dD (cC s) 2) : Nat) : Int)) (bv_xor_u64 (cC s 1) (rl (cC s 3) 1)), .v] H8 kr fun gs9 w9 H9 => ?_
  clear H8
  refine rS [.v, .v, .c (turn_fn (cC s 4) 1 (by omega)), .e (v := .int .u64 (Go.bits .xor .u64 (((BitVec.toNat (cC s 2) : Nat) : Int)) (((BitVec.toNat (rl (cC s 4) 1) : Nat) : Int)))) (v' := .int .u64 ((BitVec.toNat (dD (cC s) 3) : Nat) : Int)) (bv_xor_u64 (cC s 2) (rl (cC s 4) 1)), .v] H9 kr fun gs10 w10 H10 => ?_
  clear H9
  refine g_keep [0, 1, 2, 3, 4, 5, 6, 7, 8, 9, 10, 11] fun ρ4 => ?_
  have HK4 := H10.keep
  clear H10
  refine rS [.v, .v, .c (turn_fn (cC s 0) 1 (by omega)), .e (v := .int .u64 (Go.bits .xor .u64 (((BitVec.toNat (cC s 3) : Nat) : Int)) (((BitVec.toNat (rl (cC s 0) 1) : Nat) : Int)))) (v' := .int .u64 ((BitVec.toNat (dD (cC s) 4) : Nat) : Int)) (bv_xor_u64 (cC s 3) (rl (cC s 0) 1)), .v] HK4 kr fun gs11 w11 H11 => ?_
  clear HK4
  refine dS [.v, .l 0, .v, .e (v := .int .u64 (Go.bits .xor .u64 (((BitVec.toNat (nth s 0) : Nat) : Int)) (((BitVec.toNat (dD (cC s) 0) : Nat) : Int)))) (v' := .int .u64 ((BitVec.toNat (th s 0) : Nat) : Int)) (bv_xor_u64 (nth s 0) (dD (cC s) 0)), .v, .l 0, .v, .e (v := .int .u64 (Go.bits .xor .u64 (((BitVec.toNat (nth s 6) : Nat) : Int)) (((BitVec.toNat (dD (cC s) 1) : Nat) : Int)))) (v' := .int .u64 ((BitVec.toNat (th s 6) : Nat) : Int)) (bv_xor_u64 (nth s 6) (dD (cC s) 1)), .c (turn_fn (th s 6) 44 (by omega)), .v, .l 0, .v, .e (v := .int .u64 (Go.bits .xor .u64 (((BitVec.toNat (nth s 12) : Nat) : Int)) (((BitVec.toNat (dD (cC s) 2) : Nat) : Int)))) (v' := .int .u64 ((BitVec.toNat (th s 12) : Nat) : Int)) (bv_xor_u64 (nth s 12) (dD (cC s) 2)), .c (turn_fn (th s 12) 43 (by omega)), .v, .l 0, .v, .e (v := .int .u64 (Go.bits .xor .u64 (((BitVec.toNat (nth s 18) : Nat) : Int)) (((BitVec.toNat (dD (cC s) 3) : Nat) : Int)))) (v' := .int .u64 ((BitVec.toNat (th s 18) : Nat) : Int)) (bv_xor_u64 (nth s 18) (dD (cC s) 3)), .c (turn_fn (th s 18) 21 (by omega)), .v, .l 0, .v, .e (v := .int .u64 (Go.bits .xor .u64 (((BitVec.toNat (nth s 24) : Nat) : Int)) (((BitVec.toNat (dD (cC s) 4) : Nat) : Int)))) (v' := .int .u64 ((BitVec.toNat (th s 24) : Nat) : Int)) (bv_xor_u64 (nth s 24) (dD (cC s) 4)), .c (turn_fn (th s 24) 14 (by omega)), .c (row0_fn s), .v, .v, .v, .v, .v, .v, .v, .s 1, .v, .s 1, .v, .s 1, .v, .s 1, .v, .s 1] H11 kr fun w12 H12 => ?_
  clear H11
  refine g_keep [0, 1, 2, 3, 4, 5, 6, 7, 8, 9, 10, 11, 12] fun ρ5 => ?_
  have HK5 := H12.keep
  clear H12
  refine dS [.v, .l 0, .v, .e (v := .int .u64 (Go.bits .xor .u64 (((BitVec.toNat (nth s 3) : Nat) : Int)) (((BitVec.toNat (dD (cC s) 3) : Nat) : Int)))) (v' := .int .u64 ((BitVec.toNat (th s 3) : Nat) : Int)) (bv_xor_u64 (nth s 3) (dD (cC s) 3)), .c (turn_fn (th s 3) 28 (by omega)), .v, .l 0, .v, .e (v := .int .u64 (Go.bits .xor .u64 (((BitVec.toNat (nth s 9) : Nat) : Int)) (((BitVec.toNat (dD (cC s) 4) : Nat) : Int)))) (v' := .int .u64 ((BitVec.toNat (th s 9) : Nat) : Int)) (bv_xor_u64 (nth s 9) (dD (cC s) 4)), .c (turn_fn (th s 9) 20 (by omega)), .v, .l 0, .v, .e (v := .int .u64 (Go.bits .xor .u64 (((BitVec.toNat (nth s 10) : Nat) : Int)) (((BitVec.toNat (dD (cC s) 0) : Nat) : Int)))) (v' := .int .u64 ((BitVec.toNat (th s 10) : Nat) : Int)) (bv_xor_u64 (nth s 10) (dD (cC s) 0)), .c (turn_fn (th s 10) 3 (by omega)), .v, .l 0, .v, .e (v := .int .u64 (Go.bits .xor .u64 (((BitVec.toNat (nth s 16) : Nat) : Int)) (((BitVec.toNat (dD (cC s) 1) : Nat) : Int)))) (v' := .int .u64 ((BitVec.toNat (th s 16) : Nat) : Int)) (bv_xor_u64 (nth s 16) (dD (cC s) 1)), .c (turn_fn (th s 16) 45 (by omega)), .v, .l 0, .v, .e (v := .int .u64 (Go.bits .xor .u64 (((BitVec.toNat (nth s 22) : Nat) : Int)) (((BitVec.toNat (dD (cC s) 2) : Nat) : Int)))) (v' := .int .u64 ((BitVec.toNat (th s 22) : Nat) : Int)) (bv_xor_u64 (nth s 22) (dD (cC s) 2)), .c (turn_fn (th s 22) 61 (by omega)), .c (row_fn (pI s 5) (pI s 6) (pI s 7) (pI s 8) (pI s 9)), .v, .v, .v, .v, .v, .v, .v, .s 1, .v, .s 1, .v, .s 1, .v, .s 1, .v, .s 1] HK5 kr fun w13 H13 => ?_
  clear HK5
  refine g_keep [0, 1, 2, 3, 4, 5, 6, 7, 8, 9, 10, 11, 12] fun ρ6 => ?_
  have HK6 := H13.keep
  clear H13
  refine dS [.v, .l 0, .v, .e (v := .int .u64 (Go.bits .xor .u64 (((BitVec.toNat (nth s 1) : Nat) : Int)) (((BitVec.toNat (dD (cC s) 1) : Nat) : Int)))) (v' := .int .u64 ((BitVec.toNat (th s 1) : Nat) : Int)) (bv_xor_u64 (nth s 1) (dD (cC s) 1)), .c (turn_fn (th s 1) 1 (by omega)), .v, .l 0, .v, .e (v := .int .u64 (Go.bits .xor .u64 (((BitVec.toNat (nth s 7) : Nat) : Int)) (((BitVec.toNat (dD (cC s) 2) : Nat) : Int)))) (v' := .int .u64 ((BitVec.toNat (th s 7) : Nat) : Int)) (bv_xor_u64 (nth s 7) (dD (cC s) 2)), .c (turn_fn (th s 7) 6 (by omega)), .v, .l 0, .v, .e (v := .int .u64 (Go.bits .xor .u64 (((BitVec.toNat (nth s 13) : Nat) : Int)) (((BitVec.toNat (dD (cC s) 3) : Nat) : Int)))) (v' := .int .u64 ((BitVec.toNat (th s 13) : Nat) : Int)) (bv_xor_u64 (nth s 13) (dD (cC s) 3)), .c (turn_fn (th s 13) 25 (by omega)), .v, .l 0, .v, .e (v := .int .u64 (Go.bits .xor .u64 (((BitVec.toNat (nth s 19) : Nat) : Int)) (((BitVec.toNat (dD (cC s) 4) : Nat) : Int)))) (v' := .int .u64 ((BitVec.toNat (th s 19) : Nat) : Int)) (bv_xor_u64 (nth s 19) (dD (cC s) 4)), .c (turn_fn (th s 19) 8 (by omega)), .v, .l 0, .v, .e (v := .int .u64 (Go.bits .xor .u64 (((BitVec.toNat (nth s 20) : Nat) : Int)) (((BitVec.toNat (dD (cC s) 0) : Nat) : Int)))) (v' := .int .u64 ((BitVec.toNat (th s 20) : Nat) : Int)) (bv_xor_u64 (nth s 20) (dD (cC s) 0)), .c (turn_fn (th s 20) 18 (by omega)), .c (row_fn (pI s 10) (pI s 11) (pI s 12) (pI s 13) (pI s 14)), .v, .v, .v, .v, .v, .v, .v, .s 1, .v, .s 1, .v, .s 1, .v, .s 1, .v, .s 1] HK6 kr fun w14 H14 => ?_
  clear HK6
  refine g_keep [0, 1, 2, 3, 4, 5, 6, 7, 8, 9, 10, 11, 12] fun ρ7 => ?_
  have HK7 := H14.keep
  clear H14
  refine dS [.v, .l 0, .v, .e (v := .int .u64 (Go.bits .xor .u64 (((BitVec.toNat (nth s 4) : Nat) : Int)) (((BitVec.toNat (dD (cC s) 4) : Nat) : Int)))) (v' := .int .u64 ((BitVec.toNat (th s 4) : Nat) : Int)) (bv_xor_u64 (nth s 4) (dD (cC s) 4)), .c (turn_fn (th s 4) 27 (by omega)), .v, .l 0, .v, .e (v := .int .u64 (Go.bits .xor .u64 (((BitVec.toNat (nth s 5) : Nat) : Int)) (((BitVec.toNat (dD (cC s) 0) : Nat) : Int)))) (v' := .int .u64 ((BitVec.toNat (th s 5) : Nat) : Int)) (bv_xor_u64 (nth s 5) (dD (cC s) 0)), .c (turn_fn (th s 5) 36 (by omega)), .v, .l 0, .v, .e (v := .int .u64 (Go.bits .xor .u64 (((BitVec.toNat (nth s 11) : Nat) : Int)) (((BitVec.toNat (dD (cC s) 1) : Nat) : Int)))) (v' := .int .u64 ((BitVec.toNat (th s 11) : Nat) : Int)) (bv_xor_u64 (nth s 11) (dD (cC s) 1)), .c (turn_fn (th s 11) 10 (by omega)), .v, .l 0, .v, .e (v := .int .u64 (Go.bits .xor .u64 (((BitVec.toNat (nth s 17) : Nat) : Int)) (((BitVec.toNat (dD (cC s) 2) : Nat) : Int)))) (v' := .int .u64 ((BitVec.toNat (th s 17) : Nat) : Int)) (bv_xor_u64 (nth s 17) (dD (cC s) 2)), .c (turn_fn (th s 17) 15 (by omega)), .v, .l 0, .v, .e (v := .int .u64 (Go.bits .xor .u64 (((BitVec.toNat (nth s 23) : Nat) : Int)) (((BitVec.toNat (dD (cC s) 3) : Nat) : Int)))) (v' := .int .u64 ((BitVec.toNat (th s 23) : Nat) : Int)) (bv_xor_u64 (nth s 23) (dD (cC s) 3)), .c (turn_fn (th s 23) 56 (by omega)), .c (row_fn (pI s 15) (pI s 16) (pI s 17) (pI s 18) (pI s 19)), .v, .v, .v, .v, .v, .v, .v, .s 1, .v, .s 1, .v, .s 1, .v, .s 1, .v, .s 1] HK7 kr fun w15 H15 => ?_
  clear HK7
  refine g_keep [0, 1, 2, 3, 4, 5, 6, 7, 8, 9, 10, 11, 12] fun ρ8 => ?_
  have HK8 := H15.keep
  clear H15
  refine dS [.v, .l 0, .v, .e (v := .int .u64 (Go.bits .xor .u64 (((BitVec.toNat (nth s 2) : Nat) : Int)) (((BitVec.toNat (dD (cC s) 2) : Nat) : Int)))) (v' := .int .u64 ((BitVec.toNat (th s 2) : Nat) : Int)) (bv_xor_u64 (nth s 2) (dD (cC s) 2)), .c (turn_fn (th s 2) 62 (by omega)), .v, .l 0, .v, .e (v := .int .u64 (Go.bits .xor .u64 (((BitVec.toNat (nth s 8) : Nat) : Int)) (((BitVec.toNat (dD (cC s) 3) : Nat) : Int)))) (v' := .int .u64 ((BitVec.toNat (th s 8) : Nat) : Int)) (bv_xor_u64 (nth s 8) (dD (cC s) 3)), .c (turn_fn (th s 8) 55 (by omega)), .v, .l 0, .v, .e (v := .int .u64 (Go.bits .xor .u64 (((BitVec.toNat (nth s 14) : Nat) : Int)) (((BitVec.toNat (dD (cC s) 4) : Nat) : Int)))) (v' := .int .u64 ((BitVec.toNat (th s 14) : Nat) : Int)) (bv_xor_u64 (nth s 14) (dD (cC s) 4)), .c (turn_fn (th s 14) 39 (by omega)), .v, .l 0, .v, .e (v := .int .u64 (Go.bits .xor .u64 (((BitVec.toNat (nth s 15) : Nat) : Int)) (((BitVec.toNat (dD (cC s) 0) : Nat) : Int)))) (v' := .int .u64 ((BitVec.toNat (th s 15) : Nat) : Int)) (bv_xor_u64 (nth s 15) (dD (cC s) 0)), .c (turn_fn (th s 15) 41 (by omega)), .v, .l 0, .v, .e (v := .int .u64 (Go.bits .xor .u64 (((BitVec.toNat (nth s 21) : Nat) : Int)) (((BitVec.toNat (dD (cC s) 1) : Nat) : Int)))) (v' := .int .u64 ((BitVec.toNat (th s 21) : Nat) : Int)) (bv_xor_u64 (nth s 21) (dD (cC s) 1)), .c (turn_fn (th s 21) 2 (by omega)), .c (row_fn (pI s 20) (pI s 21) (pI s 22) (pI s 23) (pI s 24)), .v, .v, .v, .v, .v, .v, .v, .s 1, .v, .s 1, .v, .s 1, .v, .s 1, .v, .s 1] HK8 kr fun w16 H16 => ?_
  clear HK8
  refine g_keep [0, 1, 2, 3, 4, 5, 6, 7, 8, 9, 10, 11, 12] fun ρ9 => ?_
  have HK9 := H16.keep
  clear H16
  refine rS [.l 1, .s 1] HK9 kr fun gs17 w17 H17 => ?_
  clear HK9
  refine g_ret kr ?_
  show ∃ vs, Res _ _ _ _ vs ∧ _
  refine ⟨[.agg #[.int .u64 ((BitVec.toNat (xI (pI s) 0) : Nat) : Int), .int .u64 ((BitVec.toNat (xI (pI s) 1) : Nat) : Int), .int .u64 ((BitVec.toNat (xI (pI s) 2) : Nat) : Int), .int .u64 ((BitVec.toNat (xI (pI s) 3) : Nat) : Int), .int .u64 ((BitVec.toNat (xI (pI s) 4) : Nat) : Int), .int .u64 ((BitVec.toNat (xI (pI s) 5) : Nat) : Int), .int .u64 ((BitVec.toNat (xI (pI s) 6) : Nat) : Int), .int .u64 ((BitVec.toNat (xI (pI s) 7) : Nat) : Int), .int .u64 ((BitVec.toNat (xI (pI s) 8) : Nat) : Int), .int .u64 ((BitVec.toNat (xI (pI s) 9) : Nat) : Int), .int .u64 ((BitVec.toNat (xI (pI s) 10) : Nat) : Int), .int .u64 ((BitVec.toNat (xI (pI s) 11) : Nat) : Int), .int .u64 ((BitVec.toNat (xI (pI s) 12) : Nat) : Int), .int .u64 ((BitVec.toNat (xI (pI s) 13) : Nat) : Int), .int .u64 ((BitVec.toNat (xI (pI s) 14) : Nat) : Int), .int .u64 ((BitVec.toNat (xI (pI s) 15) : Nat) : Int), .int .u64 ((BitVec.toNat (xI (pI s) 16) : Nat) : Int), .int .u64 ((BitVec.toNat (xI (pI s) 17) : Nat) : Int), .int .u64 ((BitVec.toNat (xI (pI s) 18) : Nat) : Int), .int .u64 ((BitVec.toNat (xI (pI s) 19) : Nat) : Int), .int .u64 ((BitVec.toNat (xI (pI s) 20) : Nat) : Int), .int .u64 ((BitVec.toNat (xI (pI s) 21) : Nat) : Int), .int .u64 ((BitVec.toNat (xI (pI s) 22) : Nat) : Int), .int .u64 ((BitVec.toNat (xI (pI s) 23) : Nat) : Int), .int .u64 ((BitVec.toNat (xI (pI s) 24) : Nat) : Int)]], (.agg (b := (gs1 1).b) #[.int .u64 ((BitVec.toNat (xI (pI s) 0) : Nat) : Int), .int .u64 ((BitVec.toNat (xI (pI s) 1) : Nat) : Int), .int .u64 ((BitVec.toNat (xI (pI s) 2) : Nat) : Int), .int .u64 ((BitVec.toNat (xI (pI s) 3) : Nat) : Int), .int .u64 ((BitVec.toNat (xI (pI s) 4) : Nat) : Int), .int .u64 ((BitVec.toNat (xI (pI s) 5) : Nat) : Int), .int .u64 ((BitVec.toNat (xI (pI s) 6) : Nat) : Int), .int .u64 ((BitVec.toNat (xI (pI s) 7) : Nat) : Int), .int .u64 ((BitVec.toNat (xI (pI s) 8) : Nat) : Int), .int .u64 ((BitVec.toNat (xI (pI s) 9) : Nat) : Int), .int .u64 ((BitVec.toNat (xI (pI s) 10) : Nat) : Int), .int .u64 ((BitVec.toNat (xI (pI s) 11) : Nat) : Int), .int .u64 ((BitVec.toNat (xI (pI s) 12) : Nat) : Int), .int .u64 ((BitVec.toNat (xI (pI s) 13) : Nat) : Int), .int .u64 ((BitVec.toNat (xI (pI s) 14) : Nat) : Int), .int .u64 ((BitVec.toNat (xI (pI s) 15) : Nat) : Int), .int .u64 ((BitVec.toNat (xI (pI s) 16) : Nat) : Int), .int .u64 ((BitVec.toNat (xI (pI s) 17) : Nat) : Int), .int .u64 ((BitVec.toNat (xI (pI s) 18) : Nat) : Int), .int .u64 ((BitVec.toNat (xI (pI s) 19) : Nat) : Int), .int .u64 ((BitVec.toNat (xI (pI s) 20) : Nat) : Int), .int .u64 ((BitVec.toNat (xI (pI s) 21) : Nat) : Int), .int .u64 ((BitVec.toNat (xI (pI s) 22) : Nat) : Int), .int .u64 ((BitVec.toNat (xI (pI s) 23) : Nat) : Int), .int .u64 ((BitVec.toNat (xI (pI s) 24) : Nat) : Int)] 96 (0, 0) kr (H17.get 1 kr) kr .nil), ?_, H17.below⟩
  rfl
end Go.Proofs.YtlhfgbjhngkicaaGreatDoor.Ke

namespace Go.Proofs.YtlhfgbjhngkicaaGreatDoor.Ke
open Go Go.RowKit Go.Proofs.Kec
set_option linter.unusedVariables false
def marksC : Array Value := (Kec.marks.map fun m => Value.int .u64 ((BitVec.toNat m : Nat) : Int)).toArray
def Marks (w : World) : Prop := ∃ T fz, w.heap[0]? = some (.cells marksC T fz)
theorem marks_at (k q : Nat) (hq : q = k) (h : k < 24) : marksC[q]? = some (Value.int .u64 ((BitVec.toNat (Kec.marks.getD k 0) : Nat) : Int)) := by
  subst hq
  have hl : Kec.marks.length = 24 := rfl
  unfold marksC; simp [hl, h]
def mixK (s : List (BitVec 64)) (j : Nat) : List (BitVec 64) := (Kec.marks.take j).foldl rm s
theorem mixK_succ (s : List (BitVec 64)) (j : Nat) (h : j < 24) : mixK s (j + 1) = rm (mixK s j) (Kec.marks.getD j 0) := by
  have hl : Kec.marks.length = 24 := rfl
  unfold mixK
  rw [List.take_add_one, List.foldl_append, List.getElem?_eq_getElem (by omega)]
  simp [hl, h]
theorem mixK_all (s : List (BitVec 64)) : mixK s 24 = mix s := by
  unfold mixK mix; rw [List.take_of_length_le (by decide)]
theorem nth_rmS (s : List (BitVec 64)) (m : BitVec 64) (k : Nat) : nth (rm s m) (k + 1) = nth (rnd s) (k + 1) := by
  unfold rm markX nth; simp
theorem svn_rm (s : List (BitVec 64)) (m : BitVec 64) : ((Value.cells (svn (rnd s))).toList.take 0 ++ (Value.cells (.int .u64 ((BitVec.toNat (nth (rnd s) 0 ^^^ m) : Nat) : Int))).toList ++ (Value.cells (svn (rnd s))).toList.drop (0 + 1)).toArray = Value.cells (svn (rm s m)) := by
  have e1 : nth (rm s m) 1 = nth (rnd s) 1 := nth_rmS s m 0
  have e2 : nth (rm s m) 2 = nth (rnd s) 2 := nth_rmS s m 1
  have e3 : nth (rm s m) 3 = nth (rnd s) 3 := nth_rmS s m 2
  have e4 : nth (rm s m) 4 = nth (rnd s) 4 := nth_rmS s m 3
  have e5 : nth (rm s m) 5 = nth (rnd s) 5 := nth_rmS s m 4
  have e6 : nth (rm s m) 6 = nth (rnd s) 6 := nth_rmS s m 5
  have e7 : nth (rm s m) 7 = nth (rnd s) 7 := nth_rmS s m 6
  have e8 : nth (rm s m) 8 = nth (rnd s) 8 := nth_rmS s m 7
  have e9 : nth (rm s m) 9 = nth (rnd s) 9 := nth_rmS s m 8
  have e10 : nth (rm s m) 10 = nth (rnd s) 10 := nth_rmS s m 9
  have e11 : nth (rm s m) 11 = nth (rnd s) 11 := nth_rmS s m 10
  have e12 : nth (rm s m) 12 = nth (rnd s) 12 := nth_rmS s m 11
  have e13 : nth (rm s m) 13 = nth (rnd s) 13 := nth_rmS s m 12
  have e14 : nth (rm s m) 14 = nth (rnd s) 14 := nth_rmS s m 13
  have e15 : nth (rm s m) 15 = nth (rnd s) 15 := nth_rmS s m 14
  have e16 : nth (rm s m) 16 = nth (rnd s) 16 := nth_rmS s m 15
  have e17 : nth (rm s m) 17 = nth (rnd s) 17 := nth_rmS s m 16
  have e18 : nth (rm s m) 18 = nth (rnd s) 18 := nth_rmS s m 17
  have e19 : nth (rm s m) 19 = nth (rnd s) 19 := nth_rmS s m 18
  have e20 : nth (rm s m) 20 = nth (rnd s) 20 := nth_rmS s m 19
  have e21 : nth (rm s m) 21 = nth (rnd s) 21 := nth_rmS s m 20
  have e22 : nth (rm s m) 22 = nth (rnd s) 22 := nth_rmS s m 21
  have e23 : nth (rm s m) 23 = nth (rnd s) 23 := nth_rmS s m 22
  have e24 : nth (rm s m) 24 = nth (rnd s) 24 := nth_rmS s m 23
  have e0 : nth (rm s m) 0 = nth (rnd s) 0 ^^^ m := rfl
  unfold svn
  rw [e0, e1, e2, e3, e4, e5, e6, e7, e8, e9, e10, e11, e12, e13, e14, e15, e16, e17, e18, e19, e20, e21, e22, e23, e24]; rfl
set_option maxRecDepth 100000 in
set_option maxHeartbeats 2000000 in
theorem mix_fnT (s : List (BitVec 64)) (T : TypeId) (fz : Nat × Nat) : FnP Tryz.prog 81 #[svn s] (fun w => w.heap[0]? = some (.cells marksC T fz)) (svn (mix s)) := by
  refine FnP.intro (c := codeOf Tryz.f81) [.cell 2 96] 18 Tryz.func81 kr kr kr fun w hpre => ?_
  have H0 := St.start w
  refine rS [.b, .a] H0 kr fun gs1 w1 H1 => ?_
  clear H0
  refine g_seq kr ?_
  refine rS [.f hpre (lt_of_heap hpre), .v] H1 kr fun gs2 w2 H2 => ?_
  clear H1
  refine g_block 0 kr ?_
  have HL1 : St w.heap.size w w2 [((gs1 0).b, Obj.cells (Value.cells (svn s)) 96 (0, 0)), ((gs1 1).b, Obj.cells #[.int .u64 0, .int .u64 0, .int .u64 0, .int .u64 0, .int .u64 0, .int .u64 0, .int .u64 0, .int .u64 0, .int .u64 0, .int .u64 0, .int .u64 0, .int .u64 0, .int .u64 0, .int .u64 0, .int .u64 0, .int .u64 0, .int .u64 0, .int .u64 0, .int .u64 0, .int .u64 0, .int .u64 0, .int .u64 0, .int .u64 0, .int .u64 0, .int .u64 0] 96 (0, 0))] := H2.as kr
  clear H2
  have HM2 : St w.heap.size w w2 [((gs1 0).b, Obj.cells (Value.cells (svn (mixK s 0))) 96 (0, 0)), ((gs1 1).b, Obj.cells #[.int .u64 0, .int .u64 0, .int .u64 0, .int .u64 0, .int .u64 0, .int .u64 0, .int .u64 0, .int .u64 0, .int .u64 0, .int .u64 0, .int .u64 0, .int .u64 0, .int .u64 0, .int .u64 0, .int .u64 0, .int .u64 0, .int .u64 0, .int .u64 0, .int .u64 0, .int .u64 0, .int .u64 0, .int .u64 0, .int .u64 0, .int .u64 0, .int .u64 0] 96 (0, 0))] := HL1
  refine g_loop kr (fun mz ρ ww => ∃ (j : Nat), 24 - j = mz ∧ (j ≤ 24) ∧ St w.heap.size w ww [((gs1 0).b, Obj.cells (Value.cells (svn (mixK s j))) 96 (0, 0)), ((gs1 1).b, Obj.cells #[.int .u64 0, .int .u64 0, .int .u64 0, .int .u64 0, .int .u64 0, .int .u64 0, .int .u64 0, .int .u64 0, .int .u64 0, .int .u64 0, .int .u64 0, .int .u64 0, .int .u64 0, .int .u64 0, .int .u64 0, .int .u64 0, .int .u64 0, .int .u64 0, .int .u64 0, .int .u64 0, .int .u64 0, .int .u64 0, .int .u64 0, .int .u64 0, .int .u64 0] 96 (0, 0))] ∧ Is [(0, svn s), (1, .pointer (some ⟨(gs1 0).b, 0, none⟩)), (2, .pointer (some ⟨(gs1 1).b, 0, none⟩)), (5, .agg marksC), (6, .int .i64 ((j : Nat) : Int))] ρ) (24 - 0) ⟨0, rfl, (by omega), HM2, (Is.of ⟨kr, kr, kr, kr, kr, trivial⟩)⟩ ?_
  clear HM2
  rintro _ _ w3 ⟨j, rfl, hj, H3, _, rfl⟩
  by_cases hc3 : (j : Nat) < 24
  · skip
    refine rS [.e (v := .bool (decide (((j : Nat) : Int) < 24))) (v' := .bool true) (bool_eq (decide_eq_true (by omega)))] H3 kr fun gs4 w4 H4 => ?_
    clear H3
    refine g_seq kr ?_
    refine g_cond_t kr kr ?_
    refine g_skip kr ?_
    show WP _ _ _ _ _ _
    refine g_seq kr ?_
    refine g_block 1 kr ?_
    refine rS [.o (ins := [((.tmp 5), .agg marksC), ((.tmp 6), .int .i64 ((j : Nat) : Int))]) (v := .int .u64 ((BitVec.toNat (List.getD Kec.marks j 0) : Nat) : Int)) (fun ρ o w ho hi => arr_index (t := 140) (e := 85) (kd := .i64) (n := 24) kr kr kr (x := (.tmp 5)) (y := (.tmp 6)) (Value.cells (.agg marksC)) j (.int .u64 ((BitVec.toNat (List.getD Kec.marks j 0) : Nat) : Int)) ho hi.1 hi.2.1 (by omega) (marks_at j _ (by omega) (by omega)) w), .v] H4 kr fun gs5 w5 H5 => ?_
    clear H4
    refine rS [.l 0, .c (round_fn (mixK s j)), .s 0] H5 kr fun gs6 w6 H6 => ?_
    clear H5
    refine rL [.v, .l 0, .v, .e (v := .int .u64 (Go.bits .xor .u64 (((BitVec.toNat (nth (rnd (mixK s j)) 0) : Nat) : Int)) (((BitVec.toNat (List.getD Kec.marks j 0) : Nat) : Int)))) (v' := .int .u64 ((BitVec.toNat ((nth (rnd (mixK s j)) 0) ^^^ (List.getD Kec.marks j 0)) : Nat) : Int)) (bv_xor_u64 (nth (rnd (mixK s j)) 0) (List.getD Kec.marks j 0)), .v, .se (C := (Value.cells (svn (rnd (mixK s j))))) (C' := (Value.cells (svn (rm (mixK s j) (List.getD Kec.marks j 0))))) (off := 0) (v := .int .u64 ((BitVec.toNat ((nth (rnd (mixK s j)) 0) ^^^ (List.getD Kec.marks j 0)) : Nat) : Int)) 0 (of_decide_eq_true kr) (svn_rm (mixK s j) (List.getD Kec.marks j 0))] H6 kr fun gs7 w7 H7 => ?_
    clear H6
    show WP _ _ _ _ _ _
    refine rL [.e (v := .int .i64 (IntKind.i64.wrap (((j : Nat) : Int) + 1))) (v' := .int .i64 ((j + 1 : Nat) : Int)) (int_eq (wrapAdd_i64 (a := j) (b := 1) (by omega))), .v] H7 kr fun gs8 w8 H8 => ?_
    clear H7
    have HL4 : St w.heap.size w w8 [((gs1 0).b, Obj.cells (Value.cells (svn (rm (mixK s j) (List.getD Kec.marks j 0)))) 96 (0, 0)), ((gs1 1).b, Obj.cells #[.int .u64 0, .int .u64 0, .int .u64 0, .int .u64 0, .int .u64 0, .int .u64 0, .int .u64 0, .int .u64 0, .int .u64 0, .int .u64 0, .int .u64 0, .int .u64 0, .int .u64 0, .int .u64 0, .int .u64 0, .int .u64 0, .int .u64 0, .int .u64 0, .int .u64 0, .int .u64 0, .int .u64 0, .int .u64 0, .int .u64 0, .int .u64 0, .int .u64 0] 96 (0, 0))] := H8.as kr
    clear H8
    have HM5 : St w.heap.size w w8 [((gs1 0).b, Obj.cells (Value.cells (svn (mixK s (j + 1)))) 96 (0, 0)), ((gs1 1).b, Obj.cells #[.int .u64 0, .int .u64 0, .int .u64 0, .int .u64 0, .int .u64 0, .int .u64 0, .int .u64 0, .int .u64 0, .int .u64 0, .int .u64 0, .int .u64 0, .int .u64 0, .int .u64 0, .int .u64 0, .int .u64 0, .int .u64 0, .int .u64 0, .int .u64 0, .int .u64 0, .int .u64 0, .int .u64 0, .int .u64 0, .int .u64 0, .int .u64 0, .int .u64 0] 96 (0, 0))] := by rw [mixK_succ s j (by omega)]; exact HL4
    show ∃ m, _ ∧ _
    exact ⟨_, (by omega), (j + 1), rfl, (by omega), HM5, (Is.of ⟨kr, kr, kr, kr, kr, trivial⟩)⟩
  · skip
    refine rS [.e (v := .bool (decide (((j : Nat) : Int) < 24))) (v' := .bool false) (bool_eq (decide_eq_false (by omega)))] H3 kr fun gs9 w9 H9 => ?_
    clear H3
    refine g_seq kr ?_
    refine g_cond_f kr kr ?_
    refine g_exit 0 kr ?_
    show WP _ _ _ _ _ _
    refine rS [.l 0, .s 1] H9 kr fun gs10 w10 H10 => ?_
    clear H9
    refine g_ret kr ?_
    show ∃ vs, Res _ _ _ _ vs ∧ _
    refine ⟨[svn (mixK s j)], (.agg (b := (gs1 1).b) (Value.cells (svn (mixK s j))) 96 (0, 0) kr (H10.get 1 kr) kr .nil), ?_, H10.below⟩
    obtain rfl : j = 24 := by omega
    exact congrArg svn (mixK_all s)
theorem mix_fn (s : List (BitVec 64)) : FnP Tryz.prog 81 #[svn s] Marks (svn (mix s)) := fun w ⟨T, fz, h⟩ => mix_fnT s T fz w h
end Go.Proofs.YtlhfgbjhngkicaaGreatDoor.Ke

namespace Go.Proofs.YtlhfgbjhngkicaaGreatDoor.Ke
open Go Go.RowKit Go.Proofs.Kec
set_option linter.unusedVariables false
theorem tcd {α : Type} (L : List α) (q : Nat) (x : α) (h : q < L.length) : L.take q ++ [x] ++ L.drop (q + 1) = L.set q x := by
  rw [List.set_eq_take_append_cons_drop, if_pos h, List.append_assoc]; rfl
theorem svn_list (s : List (BitVec 64)) : Value.cells (svn s) = ((List.range 25).map fun k => Value.int .u64 ((BitVec.toNat (nth s k) : Nat) : Int)).toArray := rfl
theorem svn_at (s : List (BitVec 64)) (k q : Nat) (hq : q = k) (hk : k < 25) : (Value.cells (svn s))[q]? = some (Value.int .u64 ((BitVec.toNat (nth s k) : Nat) : Int)) := by
  subst hq; rw [svn_list]; simp [hk]
theorem nth_set (s : List (BitVec 64)) (k j : Nat) (x : BitVec 64) (hk : k < s.length) : nth (s.set k x) j = if j = k then x else nth s j := by
  unfold nth
  rw [List.getD_eq_getElem?_getD, List.getD_eq_getElem?_getD, List.getElem?_set]
  by_cases h : k = j
  · subst h; simp [hk]
  · rw [if_neg h, if_neg (fun e => h e.symm)]
theorem svn_put (s : List (BitVec 64)) (k q : Nat) (x : BitVec 64) (hs : s.length = 25) (hq : q = k) (hk : k < 25) :
    ((Value.cells (svn s)).toList.take q ++ (Value.cells (.int .u64 ((BitVec.toNat x : Nat) : Int))).toList ++ (Value.cells (svn s)).toList.drop (q + (Value.cells (.int .u64 ((BitVec.toNat x : Nat) : Int))).size)).toArray = Value.cells (svn (s.set k x)) := by
  subst hq
  rw [svn_list, svn_list]
  congr 1
  show List.take q _ ++ [Value.int .u64 ((BitVec.toNat x : Nat) : Int)] ++ List.drop (q + 1) _ = _
  rw [tcd _ q _ (by simpa using hk)]
  apply List.ext_getElem?
  intro j
  rw [List.toList_toArray]
  rw [List.getElem?_set]
  by_cases h : q = j
  · subst h; simp [hk, nth_set s q q x (by omega)]
  · by_cases hj : j < 25
    · simp [h, hj, nth_set s q j x (by omega), show ¬ j = q from fun e => h e.symm]
    · simp [h, hj]
theorem Marks.oldB {B : Nat} {w0 w : World} (HS : Below B w0 w) (hB : B = w0.heap.size) (h : Marks w0) : Marks w := by
  obtain ⟨T, fz, h⟩ := h; exact ⟨T, fz, by rw [HS.block 0 (by rw [hB]; exact lt_of_heap h)]; exact h⟩
theorem take_step {s s1 : List (BitVec 64)} {n n1 k : Nat} {t : ByteArray} (h : takeB (s, n) ((tl t).take k) = (s1, n1)) (hk : k < ByteArray.size t) :
    takeB (s, n) ((tl t).take (k + 1)) = (if n1 + 1 = 136 then (mix (lay s1 n1 (BitVec.ofNat 64 (by_ t k))), 0) else (lay s1 n1 (BitVec.ofNat 64 (by_ t k)), n1 + 1)) := by
  have hk' : k < (tl t).length := hk
  rw [List.take_add_one, List.getElem?_eq_getElem hk', Option.toList_some, takeB_snoc, h]
  unfold step1 byteB by_
  rw [List.getD_eq_getElem?_getD, List.getElem?_eq_getElem hk', Option.getD_some]
set_option maxRecDepth 100000 in
set_option maxHeartbeats 2000000 in
theorem lift_fn (b i : Nat) (hi : i < 1000) : Fn Tryz.prog 97 #[.int .u8 ((b : Nat) : Int), .int .i64 ((i : Nat) : Int)] (.int .u64 ((BitVec.toNat (liftB (BitVec.ofNat 64 b) i) : Nat) : Int)) := by
  refine Fn.intro (c := codeOf Tryz.f97) [.tmp 4] 11 Tryz.func97 kr kr kr fun w => ?_
  have H0 := St.start w
  refine rS [.v] H0 kr fun gs1 w1 H1 => ?_
  clear H0
  refine rS [.v, .e (v := .int .u64 (IntKind.u64.wrap ((b : Nat) : Int))) (v' := .int .u64 ((BitVec.toNat (BitVec.ofNat 64 b) : Nat) : Int)) (bv_ofNat_u64 b), .v, .e (v := .int .i64 (Int.tmod ((i : Nat) : Int) 8)) (v' := .int .i64 ((i % 8 : Nat) : Int)) (int_eq (remN i 8)), .e (v := .int .i64 (IntKind.i64.wrap (((i % 8 : Nat) : Int) * 8))) (v' := .int .i64 (((i % 8) * 8 : Nat) : Int)) (int_eq (wrapMul_i64 (a := i % 8) (b := 8) (by omega))), .e (v := .int .u64 (IntKind.u64.wrap ((((BitVec.toNat (BitVec.ofNat 64 b) : Nat) : Int)) * 2 ^ (min ((i % 8) * 8) 64)))) (v' := .int .u64 ((BitVec.toNat ((BitVec.ofNat 64 b) <<< ((i % 8) * 8)) : Nat) : Int)) (bv_shl_u64 (BitVec.ofNat 64 b) ((i % 8) * 8)), .v] H1 kr fun gs2 w2 H2 => ?_
  clear H1
  refine g_ret kr ?_
  show ∃ vs, Res _ _ _ _ vs ∧ _
  refine ⟨[.int .u64 ((BitVec.toNat ((BitVec.ofNat 64 b) <<< ((i % 8) * 8)) : Nat) : Int)], (.tmp (.int .u64 ((BitVec.toNat ((BitVec.ofNat 64 b) <<< ((i % 8) * 8)) : Nat) : Int)) kr .nil), ?_, H2.below⟩
  rfl
set_option maxRecDepth 100000 in
set_option maxHeartbeats 2000000 in
theorem take_fn (s : List (BitVec 64)) (n : Nat) (t : ByteArray) (hs : s.length = 25) (hn : n < 136) (ht : ByteArray.size t < 4611686018427387904) : FnP Tryz.prog 79 #[svn s, .int .i64 ((n : Nat) : Int), .string t] (Marks) (.tuple #[svn (takeB (s, n) (tl t)).1, .int .i64 (((takeB (s, n) (tl t)).2 : Nat) : Int)]) := by
  refine FnP.intro (c := codeOf Tryz.f79) [.cell 6 96, .tmp 7] 34 Tryz.func79 kr kr kr fun w hpre => ?_
  have H0 := St.start w
  refine rS [.b, .a, .v] H0 kr fun gs1 w1 H1 => ?_
  clear H0
  refine g_seq kr ?_
  refine rS [.v, .v, .v] H1 kr fun gs2 w2 H2 => ?_
  clear H1
  refine g_block 0 kr ?_
  have HL1 : St w.heap.size w w2 [((gs1 0).b, Obj.cells (Value.cells (svn s)) 96 (0, 0)), ((gs1 1).b, Obj.cells #[.int .u64 0, .int .u64 0, .int .u64 0, .int .u64 0, .int .u64 0, .int .u64 0, .int .u64 0, .int .u64 0, .int .u64 0, .int .u64 0, .int .u64 0, .int .u64 0, .int .u64 0, .int .u64 0, .int .u64 0, .int .u64 0, .int .u64 0, .int .u64 0, .int .u64 0, .int .u64 0, .int .u64 0, .int .u64 0, .int .u64 0, .int .u64 0, .int .u64 0] 96 (0, 0))] := H2.as kr
  clear H2
  refine g_loop kr (fun mz ρ ww => ∃ (s1 : List (BitVec 64)) (n1 : Nat) (k : Nat), ByteArray.size t - k = mz ∧ (s1.length = 25) ∧ (n1 < 136) ∧ (k ≤ ByteArray.size t) ∧ (takeB (s, n) ((tl t).take k) = (s1, n1)) ∧ St w.heap.size w ww [((gs1 0).b, Obj.cells (Value.cells (svn s1)) 96 (0, 0)), ((gs1 1).b, Obj.cells #[.int .u64 0, .int .u64 0, .int .u64 0, .int .u64 0, .int .u64 0, .int .u64 0, .int .u64 0, .int .u64 0, .int .u64 0, .int .u64 0, .int .u64 0, .int .u64 0, .int .u64 0, .int .u64 0, .int .u64 0, .int .u64 0, .int .u64 0, .int .u64 0, .int .u64 0, .int .u64 0, .int .u64 0, .int .u64 0, .int .u64 0, .int .u64 0, .int .u64 0] 96 (0, 0))] ∧ Is [(0, svn s), (1, .int .i64 ((n1 : Nat) : Int)), (2, .string t), (3, .pointer (some ⟨(gs1 0).b, 0, none⟩)), (6, .pointer (some ⟨(gs1 1).b, 0, none⟩)), (7, .int .i64 0), (10, .int .i64 ((ByteArray.size t : Nat) : Int)), (11, .int .i64 ((k : Nat) : Int))] ρ) (ByteArray.size t - 0) ⟨s, n, 0, rfl, hs, hn, (by omega), rfl, HL1, (Is.of ⟨kr, kr, kr, kr, kr, kr, kr, kr, trivial⟩)⟩ ?_
  clear HL1
  rintro _ _ w3 ⟨s1, n1, k, rfl, hs1, hn1, hk, htk, H3, _, rfl⟩
  have hbl := by_lt t k
  by_cases hc2 : (k : Nat) < ByteArray.size t
  · skip
    refine rS [.e (v := .bool (decide (((k : Nat) : Int) < ((ByteArray.size t : Nat) : Int)))) (v' := .bool true) (bool_eq (decide_eq_true (by omega)))] H3 kr fun gs4 w4 H4 => ?_
    clear H3
    refine g_seq kr ?_
    refine g_cond_t kr kr ?_
    refine g_skip kr ?_
    show WP _ _ _ _ _ _
    refine g_seq kr ?_
    refine g_block 1 kr ?_
    refine rS [.v, .v] H4 kr fun gs5 w5 H5 => ?_
    clear H4
    refine dS [.v, .e (v := .int .i64 (IntKind.i64.wrap (((n1 : Nat) : Int).tdiv 8))) (v' := .int .i64 ((n1 / 8 : Nat) : Int)) (int_eq (quoN_i64 (a := n1) (b := 8) (by omega))), .o (ins := [((.tmp 3), .pointer (some ⟨(gs1 0).b, 0, none⟩)), ((.tmp 15), .int .i64 ((n1 / 8 : Nat) : Int))]) (v := .pointer (some ⟨(gs1 0).b, 0 + (n1 / 8) * 1, none⟩)) (fun ρ o w ho hi => idxA_run (kd := .i64) (t := 96) (n := 25) (size := 1) kr (x := (.tmp 3)) (y := (.tmp 15)) (gs1 0).b 0 (n1 / 8) ho hi.1 hi.2.1 (by omega) w), .ls (C := (Value.cells (svn s1))) (off := 0 + (n1 / 8) * 1) (v := .int .u64 ((BitVec.toNat (nth s1 (n1 / 8)) : Nat) : Int)) 0 (svn_at s1 (n1 / 8) _ (by omega) (by omega)), .v, .v, .o (ins := [((.tmp 18), .string t), ((.tmp 19), .int .i64 ((k : Nat) : Int))]) (v := .int .u8 ((by_ t k : Nat) : Int)) (fun ρ o w ho hi => sindex_run (t := 9) (kd := .i64) kr (x := (.tmp 18)) (y := (.tmp 19)) t k ho hi.1 hi.2.1 (by omega) w), .v, .c (lift_fn (by_ t k) n1 (by omega)), .e (v := .int .u64 (Go.bits .xor .u64 (((BitVec.toNat (nth s1 (n1 / 8)) : Nat) : Int)) (((BitVec.toNat (liftB (BitVec.ofNat 64 (by_ t k)) n1) : Nat) : Int)))) (v' := .int .u64 ((BitVec.toNat ((nth s1 (n1 / 8)) ^^^ (liftB (BitVec.ofNat 64 (by_ t k)) n1)) : Nat) : Int)) (bv_xor_u64 (nth s1 (n1 / 8)) (liftB (BitVec.ofNat 64 (by_ t k)) n1)), .o (ins := [((.tmp 3), .pointer (some ⟨(gs1 0).b, 0, none⟩)), ((.tmp 15), .int .i64 ((n1 / 8 : Nat) : Int))]) (v := .pointer (some ⟨(gs1 0).b, 0 + (n1 / 8) * 1, none⟩)) (fun ρ o w ho hi => idxA_run (kd := .i64) (t := 96) (n := 25) (size := 1) kr (x := (.tmp 3)) (y := (.tmp 15)) (gs1 0).b 0 (n1 / 8) ho hi.1 hi.2.1 (by omega) w), .se (C := (Value.cells (svn s1))) (C' := (Value.cells (svn (lay s1 n1 (BitVec.ofNat 64 (by_ t k)))))) (off := 0 + (n1 / 8) * 1) (v := .int .u64 ((BitVec.toNat ((nth s1 (n1 / 8)) ^^^ (liftB (BitVec.ofNat 64 (by_ t k)) n1)) : Nat) : Int)) 0 (by show _ + 1 ≤ 25; omega) (svn_put s1 (n1 / 8) _ ((nth s1 (n1 / 8)) ^^^ (liftB (BitVec.ofNat 64 (by_ t k)) n1)) hs1 (by omega) (by omega))] H5 kr fun w6 H6 => ?_
    clear H5
    refine g_keep [0, 1, 2, 3, 6, 7, 8, 10, 11, 12] fun ρ1 => ?_
    have HK3 := H6.keep
    clear H6
    refine rS [.v, .e (v := .int .i64 (IntKind.i64.wrap (((n1 : Nat) : Int) + 1))) (v' := .int .i64 ((n1 + 1 : Nat) : Int)) (int_eq (wrapAdd_i64 (a := n1) (b := 1) (by omega))), .v] HK3 kr fun gs7 w7 H7 => ?_
    clear HK3
    refine g_sreg [0, 1] kr kr ?_
    refine rp [.v] H7 kr fun gs8 w8 H8 => ?_
    show WPs _ _ _ _ [1] _ _
    clear H7
    by_cases hc4 : (n1 + 1 : Nat) = 136
    · skip
      refine rp [.e (v := .bool (((n1 + 1 : Nat) : Int) == 136)) (v' := .bool true) (bool_eq (beq_iff_eq.2 (by omega)))] H8 kr fun gs9 w9 H9 => ?_
      show WPs _ _ _ _ [] _ _
      clear H8
      refine s_nil ?_
      refine g_cond_t kr kr ?_
      refine rL [.l 0, .cp (pre := Marks) (mix_fn (lay s1 n1 (BitVec.ofNat 64 (by_ t k)))) [] (fun w hb hd => (Marks.oldB hb rfl hpre)), .s 0, .v] H9 kr fun gs10 w10 H10 => ?_
      clear H9
      show WP _ _ _ _ _ _
      refine rL [.e (v := .int .i64 (IntKind.i64.wrap (((k : Nat) : Int) + 1))) (v' := .int .i64 ((k + 1 : Nat) : Int)) (int_eq (wrapAdd_i64 (a := k) (b := 1) (by omega))), .v] H10 kr fun gs11 w11 H11 => ?_
      clear H10
      have HL5 : St w.heap.size w w11 [((gs1 0).b, Obj.cells (Value.cells (svn (mix (lay s1 n1 (BitVec.ofNat 64 (by_ t k)))))) 96 (0, 0)), ((gs1 1).b, Obj.cells #[.int .u64 0, .int .u64 0, .int .u64 0, .int .u64 0, .int .u64 0, .int .u64 0, .int .u64 0, .int .u64 0, .int .u64 0, .int .u64 0, .int .u64 0, .int .u64 0, .int .u64 0, .int .u64 0, .int .u64 0, .int .u64 0, .int .u64 0, .int .u64 0, .int .u64 0, .int .u64 0, .int .u64 0, .int .u64 0, .int .u64 0, .int .u64 0, .int .u64 0] 96 (0, 0))] := H11.as kr
      clear H11
      show ∃ m, _ ∧ _
      exact ⟨_, (by omega), (mix (lay s1 n1 (BitVec.ofNat 64 (by_ t k)))), 0, (k + 1), rfl, (mix_len (lay_len _ _ hs1)), (by omega), (by omega), ((take_step htk (by omega)).trans (if_pos (by omega))), HL5, (Is.of ⟨kr, kr, kr, kr, kr, kr, kr, kr, trivial⟩)⟩
    · skip
      refine rp [.e (v := .bool (((n1 + 1 : Nat) : Int) == 136)) (v' := .bool false) (bool_eq (beq_eq_false_iff_ne.2 (by omega)))] H8 kr fun gs12 w12 H12 => ?_
      show WPs _ _ _ _ [] _ _
      clear H8
      refine s_nil ?_
      refine g_cond_f kr kr ?_
      refine g_skip kr ?_
      show WP _ _ _ _ _ _
      refine rL [.e (v := .int .i64 (IntKind.i64.wrap (((k : Nat) : Int) + 1))) (v' := .int .i64 ((k + 1 : Nat) : Int)) (int_eq (wrapAdd_i64 (a := k) (b := 1) (by omega))), .v] H12 kr fun gs13 w13 H13 => ?_
      clear H12
      have HL6 : St w.heap.size w w13 [((gs1 0).b, Obj.cells (Value.cells (svn (lay s1 n1 (BitVec.ofNat 64 (by_ t k))))) 96 (0, 0)), ((gs1 1).b, Obj.cells #[.int .u64 0, .int .u64 0, .int .u64 0, .int .u64 0, .int .u64 0, .int .u64 0, .int .u64 0, .int .u64 0, .int .u64 0, .int .u64 0, .int .u64 0, .int .u64 0, .int .u64 0, .int .u64 0, .int .u64 0, .int .u64 0, .int .u64 0, .int .u64 0, .int .u64 0, .int .u64 0, .int .u64 0, .int .u64 0, .int .u64 0, .int .u64 0, .int .u64 0] 96 (0, 0))] := H13.as kr
      clear H13
      show ∃ m, _ ∧ _
      exact ⟨_, (by omega), (lay s1 n1 (BitVec.ofNat 64 (by_ t k))), (n1 + 1), (k + 1), rfl, (lay_len _ _ hs1), (by omega), (by omega), ((take_step htk (by omega)).trans (if_neg (by omega))), HL6, (Is.of ⟨kr, kr, kr, kr, kr, kr, kr, kr, trivial⟩)⟩
  · skip
    refine rS [.e (v := .bool (decide (((k : Nat) : Int) < ((ByteArray.size t : Nat) : Int)))) (v' := .bool false) (bool_eq (decide_eq_false (by omega)))] H3 kr fun gs14 w14 H14 => ?_
    clear H3
    refine g_seq kr ?_
    refine g_cond_f kr kr ?_
    refine g_exit 0 kr ?_
    show WP _ _ _ _ _ _
    refine rS [.l 0, .v, .s 1, .v] H14 kr fun gs15 w15 H15 => ?_
    clear H14
    refine g_ret kr ?_
    show ∃ vs, Res _ _ _ _ vs ∧ _
    refine ⟨[svn s1, .int .i64 ((n1 : Nat) : Int)], (.agg (b := (gs1 1).b) (Value.cells (svn s1)) 96 (0, 0) kr (H15.get 1 kr) kr (.tmp (.int .i64 ((n1 : Nat) : Int)) kr .nil)), ?_, H15.below⟩
    rw [List.take_of_length_le (show (tl t).length ≤ k by rw [tl_len]; omega)] at htk; rw [htk]; rfl
set_option maxRecDepth 100000 in
set_option maxHeartbeats 2000000 in
theorem end_fn (s : List (BitVec 64)) (n : Nat) (hs : s.length = 25) (hn : n < 136) : Fn Tryz.prog 82 #[svn s, .int .i64 ((n : Nat) : Int)] (svn (endB (s, n))) := by
  refine Fn.intro (c := codeOf Tryz.f82) [.cell 4 96] 19 Tryz.func82 kr kr kr fun w => ?_
  have H0 := St.start w
  refine rS [.b, .a] H0 kr fun gs1 w1 H1 => ?_
  clear H0
  refine dS [.v, .e (v := .int .i64 (IntKind.i64.wrap (((n : Nat) : Int).tdiv 8))) (v' := .int .i64 ((n / 8 : Nat) : Int)) (int_eq (quoN_i64 (a := n) (b := 8) (by omega))), .o (ins := [((.tmp 2), .pointer (some ⟨(gs1 0).b, 0, none⟩)), ((.tmp 6), .int .i64 ((n / 8 : Nat) : Int))]) (v := .pointer (some ⟨(gs1 0).b, 0 + (n / 8) * 1, none⟩)) (fun ρ o w ho hi => idxA_run (kd := .i64) (t := 96) (n := 25) (size := 1) kr (x := (.tmp 2)) (y := (.tmp 6)) (gs1 0).b 0 (n / 8) ho hi.1 hi.2.1 (by omega) w), .ls (C := (Value.cells (svn s))) (off := 0 + (n / 8) * 1) (v := .int .u64 ((BitVec.toNat (nth s (n / 8)) : Nat) : Int)) 0 (svn_at s (n / 8) _ (by omega) (by omega)), .v, .c (lift_fn 1 n (by omega)), .e (v := .int .u64 (Go.bits .xor .u64 (((BitVec.toNat (nth s (n / 8)) : Nat) : Int)) (((BitVec.toNat (liftB (BitVec.ofNat 64 1) n) : Nat) : Int)))) (v' := .int .u64 ((BitVec.toNat ((nth s (n / 8)) ^^^ (liftB (BitVec.ofNat 64 1) n)) : Nat) : Int)) (bv_xor_u64 (nth s (n / 8)) (liftB (BitVec.ofNat 64 1) n)), .o (ins := [((.tmp 2), .pointer (some ⟨(gs1 0).b, 0, none⟩)), ((.tmp 6), .int .i64 ((n / 8 : Nat) : Int))]) (v := .pointer (some ⟨(gs1 0).b, 0 + (n / 8) * 1, none⟩)) (fun ρ o w ho hi => idxA_run (kd := .i64) (t := 96) (n := 25) (size := 1) kr (x := (.tmp 2)) (y := (.tmp 6)) (gs1 0).b 0 (n / 8) ho hi.1 hi.2.1 (by omega) w), .se (C := (Value.cells (svn s))) (C' := (Value.cells (svn (lay s n 1)))) (off := 0 + (n / 8) * 1) (v := .int .u64 ((BitVec.toNat ((nth s (n / 8)) ^^^ (liftB (BitVec.ofNat 64 1) n)) : Nat) : Int)) 0 (by show _ + 1 ≤ 25; omega) (svn_put s (n / 8) _ ((nth s (n / 8)) ^^^ (liftB (BitVec.ofNat 64 1) n)) hs (by omega) (by omega))] H1 kr fun w2 H2 => ?_
  clear H1
  refine dS [.v, .l 0, .c (lift_fn 128 135 (by omega)), .e (v := .int .u64 (Go.bits .xor .u64 (((BitVec.toNat (nth (lay s n 1) 16) : Nat) : Int)) (((BitVec.toNat (liftB (BitVec.ofNat 64 128) 135) : Nat) : Int)))) (v' := .int .u64 ((BitVec.toNat ((nth (lay s n 1) 16) ^^^ (liftB (BitVec.ofNat 64 128) 135)) : Nat) : Int)) (bv_xor_u64 (nth (lay s n 1) 16) (liftB (BitVec.ofNat 64 128) 135)), .v, .se (C := (Value.cells (svn (lay s n 1)))) (C' := (Value.cells (svn (lay (lay s n 1) 135 128)))) (off := 16) (v := .int .u64 ((BitVec.toNat ((nth (lay s n 1) 16) ^^^ (liftB (BitVec.ofNat 64 128) 135)) : Nat) : Int)) 0 (of_decide_eq_true kr) (svn_put (lay s n 1) 16 16 _ (lay_len _ _ hs) rfl (by omega))] H2 kr fun w3 H3 => ?_
  clear H2
  refine g_keep [0, 1, 2, 4] fun ρ1 => ?_
  have HK1 := H3.keep
  clear H3
  refine rS [.l 0, .s 1] HK1 kr fun gs4 w4 H4 => ?_
  clear HK1
  refine g_ret kr ?_
  show ∃ vs, Res _ _ _ _ vs ∧ _
  refine ⟨[svn (lay (lay s n 1) 135 128)], (.agg (b := (gs1 1).b) (Value.cells (svn (lay (lay s n 1) 135 128))) 96 (0, 0) kr (H4.get 1 kr) kr .nil), ?_, H4.below⟩
  rfl
end Go.Proofs.YtlhfgbjhngkicaaGreatDoor.Ke

namespace Go.Proofs.YtlhfgbjhngkicaaGreatDoor.Ke
open Go Go.RowKit Go.Proofs.Kec
set_option linter.unusedVariables false
theorem b8 (x : BitVec 64) (sh : Nat) : UInt8.ofNat (Int.toNat (((BitVec.toNat (BitVec.setWidth 8 (x >>> sh)) : Nat) : Int))) = UInt8.ofNat (BitVec.toNat x / 2 ^ sh) := by
  apply UInt8.toNat_inj.1
  rw [Int.toNat_natCast, BitVec.toNat_setWidth, BitVec.toNat_ushiftRight, Nat.shiftRight_eq_div_pow]
  simp
theorem take_fnq (q : List (BitVec 64) × Nat) (hq : StOK q) (t : ByteArray) (ht : ByteArray.size t < 4611686018427387904) :
    FnP Tryz.prog 79 #[svn q.1, .int .i64 ((q.2 : Nat) : Int), .string t] Marks (.tuple #[svn (takeB q (tl t)).1, .int .i64 (((takeB q (tl t)).2 : Nat) : Int)]) := take_fn q.1 q.2 t hq.len hq.lt ht
theorem end_fnq (q : List (BitVec 64) × Nat) (hq : StOK q) : Fn Tryz.prog 82 #[svn q.1, .int .i64 ((q.2 : Nat) : Int)] (svn (endB q)) := end_fn q.1 q.2 hq.len hq.lt
def kF (s : List (BitVec 64)) (i j : Nat) : BitVec 8 := if j < i then BitVec.setWidth 8 (nth s (j / 8) >>> (j % 8 * 8)) else 0
theorem kF_put (s : List (BitVec 64)) (i j : Nat) : kF s (i + 1) j = if j = i then BitVec.setWidth 8 (nth s (i / 8) >>> (i % 8 * 8)) else kF s i j := by
  unfold kF
  by_cases h : j = i
  · subst h; rw [if_pos (by omega), if_pos rfl]
  · rw [if_neg h]
    by_cases h2 : j < i
    · rw [if_pos (by omega), if_pos h2]
    · rw [if_neg (by omega), if_neg h2]
theorem kF_done (s : List (BitVec 64)) : ((List.range 32).map fun i => UInt8.ofBitVec (kF s 32 i)) = firstB s := by
  unfold firstB
  refine List.map_congr_left fun i hi => ?_
  unfold kF; rw [if_pos (by simpa using hi)]
  have h := b8 (nth s (i / 8)) (i % 8 * 8)
  rw [Int.toNat_natCast] at h
  rw [← h]
  apply UInt8.toNat_inj.1
  have := (BitVec.setWidth 8 (nth s (i / 8) >>> (i % 8 * 8))).isLt
  rw [UInt8.toNat_ofNat_of_lt' (by simpa using this)]; rfl
set_option maxRecDepth 100000 in
set_option maxHeartbeats 2000000 in
theorem first_fn (s : List (BitVec 64)) : Fn Tryz.prog 80 #[svn s] (.string (strB (firstB s))) := by
  refine Fn.intro (c := codeOf Tryz.f80) [.tmp 2] 22 Tryz.func80 kr kr kr fun w => ?_
  have H0 := St.start w
  refine rS [.b, .v] H0 kr fun gs1 w1 H1 => ?_
  clear H0
  refine rS [.a] H1 kr fun gs2 w2 H2 => ?_
  clear H1
  refine g_seq kr ?_
  refine rS [.v] H2 kr fun gs3 w3 H3 => ?_
  clear H2
  refine g_block 0 kr ?_
  have HL1 : St w.heap.size w w3 [((gs1 0).b, Obj.cells (Value.cells (svn s)) 96 (0, 0)), ((gs2 0).b, Obj.cells (Value.cells (zeroV .u8 32)) 139 (0, 0))] := H3.as kr
  clear H3
  have HM2 : St w.heap.size w w3 [((gs1 0).b, Obj.cells (Value.cells (svn s)) 96 (0, 0)), ((gs2 0).b, Obj.cells (Value.cells (arrB 32 (kF s 0))) 139 (0, 0))] := HL1
  refine g_loop kr (fun mz ρ ww => ∃ (i : Nat), 32 - i = mz ∧ (i ≤ 32) ∧ St w.heap.size w ww [((gs1 0).b, Obj.cells (Value.cells (svn s)) 96 (0, 0)), ((gs2 0).b, Obj.cells (Value.cells (arrB 32 (kF s i))) 139 (0, 0))] ∧ Is [(0, svn s), (1, .pointer (some ⟨(gs1 0).b, 0, none⟩)), (2, .string (⟨#[]⟩)), (3, .pointer (some ⟨(gs2 0).b, 0, none⟩)), (5, .int .i64 ((i : Nat) : Int))] ρ) (32 - 0) ⟨0, rfl, (by omega), HM2, (Is.of ⟨kr, kr, kr, kr, kr, trivial⟩)⟩ ?_
  clear HM2
  rintro _ _ w4 ⟨i, rfl, hi, H4, _, rfl⟩
  by_cases hc3 : (i : Nat) < 32
  · skip
    refine rS [.e (v := .bool (decide (((i : Nat) : Int) < 32))) (v' := .bool true) (bool_eq (decide_eq_true (by omega)))] H4 kr fun gs5 w5 H5 => ?_
    clear H4
    refine g_seq kr ?_
    refine g_cond_t kr kr ?_
    refine g_skip kr ?_
    show WP _ _ _ _ _ _
    refine g_seq kr ?_
    refine g_block 1 kr ?_
    refine rS [.v, .v] H5 kr fun gs6 w6 H6 => ?_
    clear H5
    refine rL [.v, .v, .e (v := .int .i64 (IntKind.i64.wrap (((i : Nat) : Int).tdiv 8))) (v' := .int .i64 ((i / 8 : Nat) : Int)) (int_eq (quoN_i64 (a := i) (b := 8) (by omega))), .o (ins := [((.tmp 1), .pointer (some ⟨(gs1 0).b, 0, none⟩)), ((.tmp 10), .int .i64 ((i / 8 : Nat) : Int))]) (v := .pointer (some ⟨(gs1 0).b, 0 + (i / 8) * 1, none⟩)) (fun ρ o w ho hi => idxA_run (kd := .i64) (t := 96) (n := 25) (size := 1) kr (x := (.tmp 1)) (y := (.tmp 10)) (gs1 0).b 0 (i / 8) ho hi.1 hi.2.1 (by omega) w), .ls (C := (Value.cells (svn s))) (off := 0 + (i / 8) * 1) (v := .int .u64 ((BitVec.toNat (nth s (i / 8)) : Nat) : Int)) 0 (svn_at s (i / 8) _ (by omega) (by omega)), .v, .e (v := .int .i64 (Int.tmod ((i : Nat) : Int) 8)) (v' := .int .i64 ((i % 8 : Nat) : Int)) (int_eq (remN i 8)), .e (v := .int .i64 (IntKind.i64.wrap (((i % 8 : Nat) : Int) * 8))) (v' := .int .i64 (((i % 8) * 8 : Nat) : Int)) (int_eq (wrapMul_i64 (a := i % 8) (b := 8) (by omega))), .e (v := .int .u64 (Int.fdiv (((BitVec.toNat (nth s (i / 8)) : Nat) : Int)) (2 ^ (min ((i % 8) * 8) 64)))) (v' := .int .u64 ((BitVec.toNat ((nth s (i / 8)) >>> ((i % 8) * 8)) : Nat) : Int)) (bv_shr_u64 (nth s (i / 8)) ((i % 8) * 8)), .e (v := .int .u8 (IntKind.u8.wrap (((BitVec.toNat ((nth s (i / 8)) >>> ((i % 8) * 8)) : Nat) : Int)))) (v' := .int .u8 ((BitVec.toNat (BitVec.setWidth 8 ((nth s (i / 8)) >>> ((i % 8) * 8))) : Nat) : Int)) (bv_conv_u8 ((nth s (i / 8)) >>> ((i % 8) * 8))), .o (ins := [((.tmp 3), .pointer (some ⟨(gs2 0).b, 0, none⟩)), ((.tmp 8), .int .i64 ((i : Nat) : Int))]) (v := .pointer (some ⟨(gs2 0).b, 0 + i * 1, none⟩)) (fun ρ o w ho hi => idxA_run (kd := .i64) (t := 139) (n := 32) (size := 1) kr (x := (.tmp 3)) (y := (.tmp 8)) (gs2 0).b 0 i ho hi.1 hi.2.1 (by omega) w), .se (C := (Value.cells (arrB 32 (kF s i)))) (C' := (Value.cells (arrB 32 (kF s (i + 1))))) (off := 0 + i * 1) (v := .int .u8 ((BitVec.toNat (BitVec.setWidth 8 ((nth s (i / 8)) >>> ((i % 8) * 8))) : Nat) : Int)) 1 (by show _ + 1 ≤ 32; omega) (arrB_put (k := i) (x := BitVec.setWidth 8 ((nth s (i / 8)) >>> ((i % 8) * 8))) (by omega) (by omega) (fun j _ => kF_put s i j))] H6 kr fun gs7 w7 H7 => ?_
    clear H6
    show WP _ _ _ _ _ _
    refine g_keep [0, 1, 2, 3, 4, 5, 6] fun ρ1 => ?_
    have HK4 := H7.keep
    clear H7
    refine rL [.e (v := .int .i64 (IntKind.i64.wrap (((i : Nat) : Int) + 1))) (v' := .int .i64 ((i + 1 : Nat) : Int)) (int_eq (wrapAdd_i64 (a := i) (b := 1) (by omega))), .v] HK4 kr fun gs8 w8 H8 => ?_
    clear HK4
    have HL5 : St w.heap.size w w8 [((gs1 0).b, Obj.cells (Value.cells (svn s)) 96 (0, 0)), ((gs2 0).b, Obj.cells (Value.cells (arrB 32 (kF s (i + 1)))) 139 (0, 0))] := H8.as kr
    clear H8
    show ∃ m, _ ∧ _
    exact ⟨_, (by omega), (i + 1), rfl, (by omega), HL5, (Is.of ⟨kr, kr, kr, kr, kr, trivial⟩)⟩
  · skip
    refine rS [.e (v := .bool (decide (((i : Nat) : Int) < 32))) (v' := .bool false) (bool_eq (decide_eq_false (by omega)))] H4 kr fun gs9 w9 H9 => ?_
    clear H4
    refine g_seq kr ?_
    refine g_cond_f kr kr ?_
    refine g_exit 0 kr ?_
    show WP _ _ _ _ _ _
    refine g_sreg [0, 1, 2] kr kr ?_
    refine rp [.o (ins := [((.tmp 3), .pointer (some ⟨(gs2 0).b, 0, none⟩))]) (v := .slice (some ⟨(gs2 0).b, 0, none⟩) 32 32) (fun ρ o w ho hi => slArr_run (t := 139) (n := 32) (e := 5) (z := 1) kr kr (x := (.tmp 3)) ((gs2 0).b) ho hi.1 w)] H9 kr fun gs10 w10 H10 => ?_
    show WPs _ _ _ _ [1, 2] _ _
    clear H9
    have hi32 : i = 32 := by omega
    have hrow := arrB_rw 32 (kF s i) (by unfold maxLen; omega)
    rw [show ((List.range 32).map fun j => UInt8.ofBitVec (kF s i j)) = firstB s by rw [hi32]; exact kF_done _] at hrow
    refine s_bytesStrB H10 (some 21) 88 9 5 (.tmp 20) 1 ((gs2 0).b) 32 32 (Value.cells (arrB 32 (kF s i))) 139 (0, 0) (firstB s) kr kr kr kr kr kr kr hrow ?_
    refine rp [.v] H10 kr fun gs11 w11 H11 => ?_
    show WPs _ _ _ _ [] _ _
    clear H10
    refine s_nil ?_
    refine g_ret kr ?_
    show ∃ vs, Res _ _ _ _ vs ∧ _
    refine ⟨[.string (strB (firstB s))], (.tmp (.string (strB (firstB s))) kr .nil), ?_, H11.below⟩
    rfl
set_option maxRecDepth 100000 in
set_option maxHeartbeats 2000000 in
theorem of_fn1 (b : Nat) (s1 : ByteArray) (h1 : ByteArray.size s1 < 4611686018427387904) : FnP Tryz.prog 53 #[.slice (some ⟨b, 0, none⟩) 1 1] (fun w => Marks w ∧ w.heap[b]? = some (.cells #[.string s1] 9 (0, 0))) (.string (strB (sumB (tl s1)))) := by
  refine FnP.intro (c := codeOf Tryz.f53) [.tmp 2] 26 Tryz.func53 kr kr kr fun w hpre => ?_
  have H0 := St.start w
  refine rS [.v] H0 kr fun gs1 w1 H1 => ?_
  clear H0
  refine rS [.a] H1 kr fun gs2 w2 H2 => ?_
  clear H1
  refine rS [.v] H2 kr fun gs3 w3 H3 => ?_
  clear H2
  refine g_seq kr ?_
  refine rS [.v, .v, .v] H3 kr fun gs4 w4 H4 => ?_
  clear H3
  refine g_block 0 kr ?_
  have HL1 : St w.heap.size w w4 [((gs2 0).b, Obj.cells #[.int .u64 0, .int .u64 0, .int .u64 0, .int .u64 0, .int .u64 0, .int .u64 0, .int .u64 0, .int .u64 0, .int .u64 0, .int .u64 0, .int .u64 0, .int .u64 0, .int .u64 0, .int .u64 0, .int .u64 0, .int .u64 0, .int .u64 0, .int .u64 0, .int .u64 0, .int .u64 0, .int .u64 0, .int .u64 0, .int .u64 0, .int .u64 0, .int .u64 0] 96 (0, 0))] := H4.as kr
  clear H4
  refine g_first kr ?_
  refine rS [.v] HL1 kr fun gs5 w5 H5 => ?_
  clear HL1
  refine g_seq kr ?_
  refine g_cond_t kr kr ?_
  refine g_skip kr ?_
  show WP _ _ _ _ _ _
  refine g_seq kr ?_
  refine g_block 1 kr ?_
  refine rS [.o (ins := [((.tmp 7), .slice (some ⟨b, 0, none⟩) 1 1), ((.tmp 9), .int .i64 0)]) (v := .pointer (some ⟨b, 0 + 0 * 1, none⟩)) (fun ρ o w ho hi => idxS_run (kd := .i64) (t := 127) (e := 9) (size := 1) (bytes := 16) kr (x := (.tmp 7)) (y := (.tmp 9)) b 0 1 1 0 ho hi.1 hi.2.1 (by omega) w), .fs (off := 0 + 0 * 1) (v := .string s1) hpre.2 (lt_of_heap hpre.2) (by rfl), .v] H5 kr fun gs6 w6 H6 => ?_
  clear H5
  refine rL [.l 0, .v, .v, .cp (pre := Marks) (take_fnq (zeroS, 0) zero_ok s1 (by assumption)) [] (fun w hb hd => (Marks.oldB hb rfl hpre.1)), .v, .v, .v, .s 0, .v] H6 kr fun gs7 w7 H7 => ?_
  clear H6
  show WP _ _ _ _ _ _
  refine g_keep [0, 2, 3, 4, 6, 7, 8, 9, 10] fun ρ1 => ?_
  have HK2 := H7.keep
  clear H7
  refine rL [.v, .v] HK2 kr fun gs8 w8 H8 => ?_
  clear HK2
  show WPL _ _ _ _ _ _
  refine g_next ?_
  refine rS [.v] H8 kr fun gs9 w9 H9 => ?_
  clear H8
  refine g_seq kr ?_
  refine g_cond_f kr kr ?_
  refine g_exit 0 kr ?_
  show WP _ _ _ _ _ _
  refine rS [.l 0, .v, .c (end_fnq (takeB (zeroS, 0) (tl s1)) (takeB_ok _ zero_ok)), .cp (pre := Marks) (mix_fn (endB (takeB (zeroS, 0) (tl s1)))) [] (fun w hb hd => (Marks.oldB hb rfl hpre.1)), .c (first_fn (mix (endB (takeB (zeroS, 0) (tl s1))))), .v] H9 kr fun gs10 w10 H10 => ?_
  clear H9
  refine g_ret kr ?_
  show ∃ vs, Res _ _ _ _ vs ∧ _
  refine ⟨[.string (strB (firstB (mix (endB (takeB (zeroS, 0) (tl s1))))))], (.tmp (.string (strB (firstB (mix (endB (takeB (zeroS, 0) (tl s1))))))) kr .nil), ?_, H10.below⟩
  rfl
end Go.Proofs.YtlhfgbjhngkicaaGreatDoor.Ke

namespace Go.Proofs.YtlhfgbjhngkicaaGreatDoor
open Go Go.RowKit
set_option linter.unusedVariables false
/-- Lists of items: the first one's flag, its bytes, its kids; the others. -/
inductive Fo
  | nil
  | cons (l : Bool) (s : ByteArray) (k r : Fo)
def Fo.len : Fo → Nat
  | .nil => 0
  | .cons _ _ _ r => r.len + 1
/-- How many items are in it. -/
def Fo.cnt : Fo → Nat
  | .nil => 0
  | .cons _ _ k r => 1 + k.cnt + r.cnt
/-- The list lies in block b from cell off on. -/
def FoAt (B : Nat) (w : World) : Fo → Nat → Nat → Prop
  | .nil, _, _ => True
  | .cons l s k r, b, off => (∃ (C : Array Value) (T : TypeId) (fz : Nat × Nat) (p : Option Addr) (n c : Nat), b < B ∧ w.heap[b]? = some (.cells C T fz) ∧ off + 3 ≤ C.size ∧
      C.extract off (off + 3) = #[.bool l, .string s, .slice p n c] ∧ s.size ≤ 140737488355328 ∧ n = k.len ∧ n ≤ 140737488355328 ∧ (k = .nil ∨ ∃ b' off', p = some ⟨b', off', none⟩ ∧ FoAt B w k b' off')) ∧ FoAt B w r b (off + 3)
/-- The list lies where a slice says. -/
def SlAt (B : Nat) (w : World) (p : Option Addr) (n : Nat) (k : Fo) : Prop := n = k.len ∧ n ≤ 140737488355328 ∧ (k = .nil ∨ ∃ b off, p = some ⟨b, off, none⟩ ∧ FoAt B w k b off)
/-- What is left of it from element i on. -/
def FoR (B : Nat) (w : World) (p : Option Addr) (i : Nat) (r : Fo) : Prop := r = .nil ∨ ∃ b off, p = some ⟨b, off, none⟩ ∧ FoAt B w r b (off + i * 3)
theorem FoAt.up {B B' : Nat} {w w' : World} (hb : Below B w w') (hB : B ≤ B') : ∀ {k : Fo} {b off : Nat}, FoAt B w k b off → FoAt B' w' k b off
  | .nil, _, _, _ => trivial
  | .cons l s k r, b, off, ⟨⟨C, T, fz, p, n, c, h1, h2, h3, h4, h5, h6, h7, h8⟩, h9⟩ =>
    ⟨⟨C, T, fz, p, n, c, Nat.lt_of_lt_of_le h1 hB, by rw [hb.block b h1]; exact h2, h3, h4, h5, h6, h7, h8.imp id fun ⟨b', o', e, h⟩ => ⟨b', o', e, FoAt.up hb hB h⟩⟩, FoAt.up hb hB h9⟩
theorem SlAt.up {B B' : Nat} {w w' : World} {p : Option Addr} {n : Nat} {k : Fo} (h : SlAt B w p n k) (hb : Below B w w') (hB : B ≤ B') : SlAt B' w' p n k :=
  ⟨h.1, h.2.1, h.2.2.imp id fun ⟨b, o, e, h⟩ => ⟨b, o, e, h.up hb hB⟩⟩
theorem SlAt.call {w0 w : World} {p : Option Addr} {n : Nat} {k : Fo} (h : SlAt w0.heap.size w0 p n k) (hb : Below w0.heap.size w0 w) : SlAt w.heap.size w p n k := h.up hb hb.size
theorem SlAt.nil (B : Nat) (w : World) (p : Option Addr) : SlAt B w p 0 .nil := ⟨rfl, by omega, .inl rfl⟩
theorem SlAt.start {B : Nat} {w : World} {p : Option Addr} {n : Nat} {k : Fo} (h : SlAt B w p n k) : FoR B w p 0 k :=
  h.2.2.imp id fun ⟨b, o, e, h⟩ => ⟨b, o, e, by rw [Nat.zero_mul, Nat.add_zero]; exact h⟩
theorem FoR.open {B : Nat} {w : World} {p : Option Addr} {i n : Nat} {r : Fo} (h : FoR B w p i r) (hn : i + r.len = n) (hi : i < n) :
    ∃ l s k r' b off C T fz p' n' c', r = .cons l s k r' ∧ p = some ⟨b, off, none⟩ ∧ b < B ∧ w.heap[b]? = some (.cells C T fz) ∧ off + i * 3 + 3 ≤ C.size ∧
      C.extract (off + i * 3) (off + i * 3 + 3) = #[.bool l, .string s, .slice p' n' c'] ∧ s.size ≤ 140737488355328 ∧ SlAt B w p' n' k ∧ FoR B w p (i + 1) r' ∧ i + 1 + r'.len = n := by
  cases r with
  | nil => simp only [Fo.len] at hn; omega
  | cons l s k r' =>
    rcases h with h | ⟨b, off, e, ⟨C, T, fz, p', n', c', h1, h2, h3, h4, h5, h6, h7, h8⟩, h9⟩
    · cases h
    · refine ⟨l, s, k, r', b, off, C, T, fz, p', n', c', rfl, e, h1, h2, h3, h4, h5, ⟨h6, h7, h8⟩, .inr ⟨b, off, e, ?_⟩, ?_⟩
      · rw [show off + (i + 1) * 3 = off + i * 3 + 3 by omega]; exact h9
      · simp only [Fo.len] at hn; omega
theorem FoR.done {i n : Nat} {r : Fo} (hn : i + r.len = n) (hi : ¬ i < n) : r = .nil := by
  cases r with
  | nil => rfl
  | cons l s k r' => simp only [Fo.len] at hn; omega
theorem idxO_run {P : Program} {ρ : Env} {t e : TypeId} {bytes : Nat} (ht : sliceOf P t = some (e, 3, bytes)) {x y : Operand} {o : Oper} {kd : IntKind} {p : Option Addr} (b q n c k : Nat) (hp : p = some ⟨b, q, none⟩) (ho : o.op = .indexAddr t x y) (hx : ev ρ x = .slice p n c) (hy : ev ρ y = .int kd (k : Int)) (hk : k < n) :
    ∀ w, (execOp (ev ρ) o).run P w = .ok (.value (.pointer (some ⟨b, q + k * 3, none⟩))) w := by
  subst hp; exact idxS_run ht b q n c k ho hx hy hk
end Go.Proofs.YtlhfgbjhngkicaaGreatDoor

namespace Go.Proofs.YtlhfgbjhngkicaaGreatDoor
open Go Go.RowKit
set_option linter.unusedVariables false
/-- A number's digits, the highest first. -/
def dgI : Nat → Nat → List UInt8
  | 0, _ => []
  | m + 1, n => if n = 0 then [] else dgI m (n / 256) ++ [UInt8.ofNat n]
def dg (n : Nat) : List UInt8 := dgI 8 n
def hd (f n : Nat) : List UInt8 := if n ≤ 55 then [UInt8.ofNat (f + n)] else UInt8.ofNat (f + 55 + (dg n).length) :: dg n
def frm (l : Bool) : Nat := if l then 192 else 128
def single (s : ByteArray) : Bool := decide (s.size = 1) && decide (by_ s 0 < 128)
def mixed (l : Bool) (s : ByteArray) (n : Nat) : Bool := if l then decide (s.size ≠ 0) else decide (n ≠ 0)
def wr1 (l : Bool) (s : ByteArray) (m : Nat) (ks : List UInt8) : List UInt8 := (if single s then [] else hd (frm l) (s.size + m)) ++ (tl s ++ ks)
def sz1 (l : Bool) (s : ByteArray) (m : Nat) : Nat := if single s then 1 else (hd (frm l) (s.size + m)).length + (s.size + m)
/-- Of all in a list: how many bytes; the bytes; the depth. -/
def szF : Fo → Nat
  | .nil => 0
  | .cons l s k r => sz1 l s (szF k) + szF r
def wrF : Fo → List UInt8
  | .nil => []
  | .cons l s k r => wr1 l s (szF k) (wrF k) ++ wrF r
def dp1 (l : Bool) (d : Nat) : Nat := if l then 1 + d else 0
def dpF : Fo → Nat
  | .nil => 0
  | .cons l s k r => max (dp1 l (dpF k)) (dpF r)
def pureF : Fo → Bool
  | .nil => true
  | .cons l s k r => (!mixed l s k.len && pureF k) && pureF r
def lf1 (l : Bool) (s : ByteArray) (k : Nat) (f : Nat → Option Nat) (room : Nat) : Option Nat := if room = 0 ∨ mixed l s k = true then none else f (room - 1)
def lfF : Fo → Nat → Option Nat
  | .nil, room => some room
  | .cons l s k r, room => (lf1 l s k.len (lfF k) room).bind (lfF r)
def lfV : Option Nat → Int
  | none => -1
  | some q => (q : Int)
theorem lfF_eq : ∀ (k : Fo) (room : Nat), lfF k room = if pureF k = true ∧ k.cnt ≤ room then some (room - k.cnt) else none
  | .nil, room => by simp [lfF, pureF, Fo.cnt]
  | .cons l s k r, room => by
    have h1 := lfF_eq k (room - 1)
    have e1 : pureF (.cons l s k r) = ((!mixed l s k.len && pureF k) && pureF r) := rfl
    have e2 : (Fo.cons l s k r).cnt = 1 + k.cnt + r.cnt := rfl
    rw [show lfF (.cons l s k r) room = (lf1 l s k.len (lfF k) room).bind (lfF r) from rfl]
    unfold lf1
    by_cases hr : room = 0
    · subst hr; rw [if_pos (Or.inl rfl), if_neg (by rw [e2]; omega)]; rfl
    · cases hm : mixed l s k.len with
      | true => rw [if_pos (Or.inr rfl), if_neg (by rw [e1, hm]; simp)]; rfl
      | false =>
        rw [if_neg (by simp [hr]), h1]
        cases hp : pureF k with
        | false => rw [if_neg (by simp), if_neg (by rw [e1, hp]; simp)]; rfl
        | true =>
          by_cases hc : k.cnt ≤ room - 1
          · rw [if_pos ⟨rfl, hc⟩, Option.bind_some, lfF_eq r]
            cases hq : pureF r with
            | false => rw [if_neg (by simp), if_neg (by rw [e1, hq]; simp)]
            | true =>
              by_cases hd : r.cnt ≤ room - 1 - k.cnt
              · rw [if_pos ⟨rfl, hd⟩, if_pos ⟨by rw [e1, hm, hp, hq]; rfl, by rw [e2]; omega⟩, e2]; congr 1; omega
              · rw [if_neg (by simp [hd]), if_neg (by rw [e2]; rintro ⟨_, h⟩; omega)]
          · rw [if_neg (by simp [hc]), if_neg (by rw [e2]; rintro ⟨_, h⟩; omega)]; rfl
theorem lfF_le {k : Fo} {room q : Nat} (h : lfF k room = some q) : q ≤ room := by
  rw [lfF_eq] at h; split at h
  · injection h with h; omega
  · cases h
theorem dgI_len : ∀ m n, (dgI m n).length ≤ m
  | 0, _ => Nat.le_refl _
  | m + 1, n => by unfold dgI; split; · simp
                   · simp; exact dgI_len m _
theorem dg_len (n : Nat) : (dg n).length ≤ 8 := dgI_len 8 n
theorem hd_len (f n : Nat) : 1 ≤ (hd f n).length ∧ (hd f n).length ≤ 9 := by
  unfold hd; have := dg_len n; split <;> simp <;> omega
theorem sz1_le (l : Bool) (s : ByteArray) (m : Nat) : sz1 l s m ≤ 9 + (s.size + m) := by
  unfold sz1; have := hd_len (frm l) (s.size + m); split <;> omega
theorem single_size {s : ByteArray} (h : single s = true) : s.size = 1 := by
  unfold single at h; simp only [Bool.and_eq_true, decide_eq_true_eq] at h; exact h.1
theorem sz_pos (l : Bool) (s : ByteArray) (m : Nat) : 1 ≤ sz1 l s m := by
  unfold sz1; have := hd_len (frm l) (s.size + m); split <;> omega
theorem size_ne {s : ByteArray} (h : ¬ s = ⟨#[]⟩) : s.size ≠ 0 := fun e => h (by
  obtain ⟨d⟩ := s
  have : d.size = 0 := e
  rw [Array.eq_empty_of_size_eq_zero this])
theorem lf1_le {l : Bool} {s : ByteArray} {n : Nat} {k : Fo} {room q : Nat} (h : lf1 l s n (lfF k) room = some q) : q ≤ room := by
  unfold lf1 at h; split at h
  · cases h
  · have := lfF_le h; omega
theorem lf1_zero {l : Bool} {s : ByteArray} {n : Nat} {f : Nat → Option Nat} {room : Nat} (h : room = 0) : lfV (lf1 l s n f room) = -1 := by unfold lf1; rw [if_pos (Or.inl h)]; rfl
theorem lf1_mixed {l : Bool} {s : ByteArray} {n : Nat} {f : Nat → Option Nat} {room : Nat} (h : mixed l s n = true) : lfV (lf1 l s n f room) = -1 := by unfold lf1; rw [if_pos (Or.inr h)]; rfl
theorem lf1_go {l : Bool} {s : ByteArray} {n : Nat} {f : Nat → Option Nat} {room : Nat} (h0 : room ≠ 0) (h : mixed l s n = false) : lf1 l s n f room = f (room - 1) := by unfold lf1; rw [if_neg (by simp [h0, h])]
theorem lfF_next {l : Bool} {s : ByteArray} {n : Nat} {k r : Fo} {q y : Nat} (hn : n = k.len) (h : lf1 l s n (lfF k) q = some y) : lfF (.cons l s k r) q = lfF r y := by
  subst hn; show (lf1 l s k.len (lfF k) q).bind (lfF r) = _; rw [h]; rfl
theorem lfF_stop {l : Bool} {s : ByteArray} {n : Nat} {k r : Fo} {q : Nat} (hn : n = k.len) (h : lf1 l s n (lfF k) q = none) : lfV (lfF (.cons l s k r) q) = -1 := by
  subst hn; show lfV ((lf1 l s k.len (lfF k) q).bind (lfF r)) = _; rw [h]; rfl
theorem shr0 {a : Nat} (h : a < 18446744073709551616) : Int.fdiv (a : Int) (2 ^ 0) = (a : Int) := by rw [Int.pow_zero, Int.fdiv_one]
/-- A bound of how many bytes. -/
def wtF : Fo → Nat
  | .nil => 0
  | .cons l s k r => 9 + s.size + wtF k + wtF r
theorem szF_le : ∀ k : Fo, szF k ≤ wtF k
  | .nil => Nat.le_refl _
  | .cons l s k r => by
    have h1 := szF_le k; have h2 := szF_le r; have h3 := sz1_le l s (szF k)
    simp only [szF, wtF]; omega
theorem FoAt.wt {B : Nat} {w : World} : ∀ {k : Fo} {b off : Nat}, FoAt B w k b off → wtF k ≤ k.cnt * 140737488355337
  | .nil, _, _, _ => Nat.zero_le _
  | .cons l s k r, b, off, ⟨⟨C, T, fz, p, n, c, h1, h2, h3, h4, h5, h6, h7, h8⟩, h9⟩ => by
    have hr := FoAt.wt h9
    have hk : wtF k ≤ k.cnt * 140737488355337 := by
      rcases h8 with rfl | ⟨b', o', e, h⟩
      · exact Nat.zero_le _
      · exact FoAt.wt h
    simp only [wtF, Fo.cnt]; omega
theorem SlAt.wt {B : Nat} {w : World} {p : Option Addr} {n : Nat} {k : Fo} (h : SlAt B w p n k) : wtF k ≤ k.cnt * 140737488355337 := by
  rcases h.2.2 with rfl | ⟨b, o, e, h⟩
  · exact Nat.zero_le _
  · exact h.wt
theorem hd_small {f : Nat} (b : BitVec 8) (hb : b.toNat = f) (n : Nat) (h : n ≤ 55) (hf : f ≤ 192) : strOfNums [((BitVec.toNat (b + BitVec.ofNat 8 n) : Nat) : Int)] = strB (hd f n) := by
  unfold hd; rw [if_pos h]
  show (⟨#[UInt8.ofNat (Int.toNat _)]⟩ : ByteArray) = ⟨#[UInt8.ofNat (f + n)]⟩
  rw [Int.toNat_natCast, BitVec.toNat_add, BitVec.toNat_ofNat, hb]
  rw [show (f + n % 2 ^ 8) % 2 ^ 8 = f + n by omega]
theorem hd_big {f : Nat} (b : BitVec 8) (hb : b.toNat = f + 55) (n : Nat) (h : ¬ n ≤ 55) (hf : f ≤ 192) : strOfNums [((BitVec.toNat (b + BitVec.ofNat 8 (ByteArray.size (strB (dg n)))) : Nat) : Int)] ++ strB (dg n) = strB (hd f n) := by
  have hl := dg_len n
  have e : UInt8.ofNat (Int.toNat ((BitVec.toNat (b + BitVec.ofNat 8 (ByteArray.size (strB (dg n)))) : Nat) : Int)) = UInt8.ofNat (f + 55 + (dg n).length) := by
    rw [Int.toNat_natCast, BitVec.toNat_add, BitVec.toNat_ofNat, hb, strB_size]
    rw [show (f + 55 + (dg n).length % 2 ^ 8) % 2 ^ 8 = f + 55 + (dg n).length by omega]
  apply tl_inj
  rw [tl_add]
  show [UInt8.ofNat _] ++ dg n = hd f n
  unfold hd; rw [if_neg h, e]; rfl
theorem wrF_len : ∀ k : Fo, (wrF k).length ≤ wtF k
  | .nil => Nat.le_refl _
  | .cons l s k r => by
    have h1 := wrF_len k; have h2 := wrF_len r
    simp only [wrF, wtF, wr1, List.length_append, tl_len]
    split
    · simp only [List.length_nil]; omega
    · have := hd_len (frm l) (s.size + szF k); omega
theorem pure_wt : ∀ {k : Fo}, pureF k = true → wtF k ≤ szF k + 9 * k.cnt
  | .nil, _ => Nat.zero_le _
  | .cons l s k r, h => by
    simp only [pureF, Bool.and_eq_true, Bool.not_eq_true'] at h
    have h1 := pure_wt h.1.2; have h2 := pure_wt h.2
    simp only [wtF, szF, Fo.cnt, sz1]
    split
    · rename_i hs
      have hz := single_size hs
      have hk : k = .nil := by
        have hm := h.1.1
        unfold mixed at hm
        cases l with
        | true => simp [hz] at hm
        | false =>
          cases k with
          | nil => rfl
          | cons => simp [Fo.len] at hm
      subst hk
      simp only [wtF, Fo.cnt]; omega
    · have := hd_len (frm l) (s.size + szF k); omega
theorem opt_cases {α : Type} (x : Option α) : x = none ∨ ∃ y, x = some y := by cases x with
  | none => exact .inl rfl
  | some y => exact .inr ⟨y, rfl⟩
theorem dpF_le : ∀ k : Fo, dpF k ≤ k.cnt
  | .nil => Nat.le_refl _
  | .cons l s k r => by
    have h1 := dpF_le k; have h2 := dpF_le r
    simp only [dpF, Fo.cnt, dp1]; split <;> omega
theorem cut1_size (t : ByteArray) (h : t.size ≠ 0) : (t.extract 1 t.size).size = t.size - 1 := by simp
theorem tl_cut1 (t : ByteArray) : tl (t.extract 1 t.size) = (tl t).drop 1 := by
  rw [tl_extract, List.take_of_length_le (by rw [tl_len]; exact Nat.le_refl _)]
theorem by0_eq {t : ByteArray} (h : t.size ≠ 0) : ∃ l, tl t = UInt8.ofNat (by_ t 0) :: l := by
  have hl : (tl t).length ≠ 0 := by rw [tl_len]; exact h
  unfold by_
  cases e : tl t with
  | nil => rw [e] at hl; simp at hl
  | cons x l => exact ⟨l, by simp⟩
theorem trim_next (t : ByteArray) (h : t.size ≠ 0) (h0 : by_ t 0 = 0) : (tl (t.extract 1 t.size)).dropWhile (· == 0) = (tl t).dropWhile (· == 0) := by
  obtain ⟨l, e⟩ := by0_eq h
  rw [tl_cut1, e, h0]; rfl
theorem trim_empty {t : ByteArray} (h : t = ⟨#[]⟩) : strB ((tl t).dropWhile (· == 0)) = t := by subst h; rfl
theorem trim_done (t : ByteArray) (h : t.size = 0 ∨ by_ t 0 ≠ 0) : strB ((tl t).dropWhile (· == 0)) = t := by
  rcases h with h | h
  · exact trim_empty (Decidable.not_not.1 fun q => size_ne q h)
  · by_cases h2 : t.size = 0
    · exact trim_empty (Decidable.not_not.1 fun q => size_ne q h2)
    · obtain ⟨l, e⟩ := by0_eq h2
      have hb := by_lt t 0
      have hne : (UInt8.ofNat (by_ t 0) == 0) = false := by
        rw [beq_eq_false_iff_ne]; intro q
        have := congrArg UInt8.toNat q
        rw [UInt8.toNat_ofNat_of_lt' (by simpa using hb)] at this
        exact h this
      rw [e, List.dropWhile_cons, hne]
      show strB (UInt8.ofNat (by_ t 0) :: l) = t
      rw [← e]; exact strB_tl t
theorem dropW_nil : ∀ {l : List UInt8}, (∀ x ∈ l, (x == 0) = true) → l.dropWhile (· == 0) = []
  | [], _ => rfl
  | x :: l, h => by rw [List.dropWhile_cons, if_pos (h x (List.mem_cons_self ..))]; exact dropW_nil fun y hy => h y (List.mem_cons_of_mem _ hy)
/-- All of m digits. -/
def beI : Nat → Nat → List UInt8
  | 0, _ => []
  | m + 1, n => beI m (n / 256) ++ [UInt8.ofNat n]
theorem beI_zero : ∀ m, (beI m 0).dropWhile (· == 0) = [] ∧ ∀ x ∈ beI m 0, (x == 0) = true
  | 0 => ⟨rfl, fun _ h => nomatch h⟩
  | m + 1 => by
    have h := (beI_zero m).2
    have h2 : ∀ x ∈ beI (m + 1) 0, (x == 0) = true := by
      intro x hx
      simp only [beI, Nat.zero_div, List.mem_append, List.mem_singleton] at hx
      rcases hx with hx | rfl
      · exact h x hx
      · rfl
    exact ⟨dropW_nil h2, h2⟩
theorem dgI_zero (m : Nat) : dgI m 0 = [] := by cases m <;> rfl
theorem drop_append {l r : List UInt8} (h : l.dropWhile (· == 0) ≠ []) : (l ++ r).dropWhile (· == 0) = l.dropWhile (· == 0) ++ r := by
  induction l with
  | nil => exact absurd rfl h
  | cons x l ih =>
    rw [List.cons_append, List.dropWhile_cons, List.dropWhile_cons]
    split
    · rename_i hx; rw [List.dropWhile_cons, if_pos hx] at h; exact ih h
    · rfl
theorem beI_drop : ∀ m n, n < 256 ^ m → (beI m n).dropWhile (· == 0) = dgI m n
  | 0, n, h => rfl
  | m + 1, n, h => by
    have hlt : n / 256 < 256 ^ m := by rw [Nat.pow_succ] at h; omega
    have ih := beI_drop m (n / 256) hlt
    unfold dgI
    split
    · rename_i h0; subst h0; exact (beI_zero (m + 1)).1
    · rename_i h0
      show (beI m (n / 256) ++ [UInt8.ofNat n]).dropWhile (· == 0) = _
      by_cases hq : n / 256 = 0
      · rw [hq, dgI_zero, List.dropWhile_append, (beI_zero m).1]
        have hx : (UInt8.ofNat n == 0) = false := by
          rw [beq_eq_false_iff_ne]; intro q
          have := congrArg UInt8.toNat q
          rw [UInt8.toNat_ofNat_of_lt' (by simp only [UInt8.size]; omega)] at this
          exact h0 this
        simp [hx]
      · rw [drop_append, ih]
        rw [ih]; intro q
        cases m with
        | zero => simp at hlt; omega
        | succ m => unfold dgI at q; rw [if_neg hq] at q; simp at q
def dgB (n d : Nat) : BitVec 8 := BitVec.ofNat 8 (n / d)
theorem dgB_conv (n d : Nat) : Value.int .u8 (IntKind.u8.wrap (((n / d : Nat) : Int))) = .int .u8 ((BitVec.toNat (dgB n d) : Nat) : Int) := bv_ofNat_u8 (n / d)
theorem dgB_conv1 (n : Nat) : Value.int .u8 (IntKind.u8.wrap (((n : Nat) : Int))) = .int .u8 ((BitVec.toNat (dgB n 1) : Nat) : Int) := by
  have h := dgB_conv n 1; rw [Nat.div_one] at h; exact h
theorem dgB_ofNat (n d : Nat) : UInt8.ofNat (Int.toNat ((BitVec.toNat (dgB n d) : Nat) : Int)) = UInt8.ofNat (n / d) := by
  rw [Int.toNat_natCast]
  apply UInt8.toNat_inj.1
  rw [UInt8.toNat_ofNat', UInt8.toNat_ofNat']
  unfold dgB; rw [BitVec.toNat_ofNat]; omega
theorem be_list (n : Nat) : tl (strOfNums [((BitVec.toNat (dgB n 72057594037927936) : Nat) : Int), ((BitVec.toNat (dgB n 281474976710656) : Nat) : Int), ((BitVec.toNat (dgB n 1099511627776) : Nat) : Int), ((BitVec.toNat (dgB n 4294967296) : Nat) : Int), ((BitVec.toNat (dgB n 16777216) : Nat) : Int), ((BitVec.toNat (dgB n 65536) : Nat) : Int), ((BitVec.toNat (dgB n 256) : Nat) : Int), ((BitVec.toNat (dgB n 1) : Nat) : Int)]) = beI 8 n := by
  unfold tl
  rw [strOfNums_data]
  simp only [List.map_cons, List.map_nil, dgB_ofNat, beI, List.nil_append, List.append_assoc, List.cons_append, Nat.div_div_eq_div_mul, Nat.div_one]
theorem be_drop (n : Nat) (h : n < 18446744073709551616) : (tl (strOfNums [((BitVec.toNat (dgB n 72057594037927936) : Nat) : Int), ((BitVec.toNat (dgB n 281474976710656) : Nat) : Int), ((BitVec.toNat (dgB n 1099511627776) : Nat) : Int), ((BitVec.toNat (dgB n 4294967296) : Nat) : Int), ((BitVec.toNat (dgB n 16777216) : Nat) : Int), ((BitVec.toNat (dgB n 65536) : Nat) : Int), ((BitVec.toNat (dgB n 256) : Nat) : Int), ((BitVec.toNat (dgB n 1) : Nat) : Int)])).dropWhile (· == 0) = dg n := by
  rw [be_list]; exact beI_drop 8 n h
/-- What Encode answers: the bytes, and the error's number. -/
def encS (l : Bool) (s : ByteArray) (n : Nat) (k : Fo) : ByteArray × Nat :=
  match lf1 l s n (lfF k) 4000 with
  | none => (⟨#[]⟩, 1)
  | some _ => if 8 < dp1 l (dpF k) then (⟨#[]⟩, 5) else if 4000 < sz1 l s (szF k) then (⟨#[]⟩, 2) else (strB (wr1 l s (szF k) (wrF k)), 0)
def encV (x : ByteArray × Nat) : Value := .tuple #[.string x.1, .int .i64 ((x.2 : Nat) : Int)]
section
variable {l : Bool} {s : ByteArray} {n y : Nat} {k : Fo}
theorem encS_1 (h : lf1 l s n (lfF k) 4000 = none) : encV (encS l s n k) = .tuple #[.string ⟨#[]⟩, .int .i64 1] := by unfold encS; rw [h]; rfl
theorem encS_5 (h : lf1 l s n (lfF k) 4000 = some y) (hd : 8 < dp1 l (dpF k)) : encV (encS l s n k) = .tuple #[.string ⟨#[]⟩, .int .i64 5] := by unfold encS; rw [h]; simp only []; rw [if_pos hd]; rfl
theorem encS_2 (h : lf1 l s n (lfF k) 4000 = some y) (hd : ¬ 8 < dp1 l (dpF k)) (hz : 4000 < sz1 l s (szF k)) : encV (encS l s n k) = .tuple #[.string ⟨#[]⟩, .int .i64 2] := by unfold encS; rw [h]; simp only []; rw [if_neg hd, if_pos hz]; rfl
theorem encS_0 (h : lf1 l s n (lfF k) 4000 = some y) (hd : ¬ 8 < dp1 l (dpF k)) (hz : ¬ 4000 < sz1 l s (szF k)) : encV (encS l s n k) = .tuple #[.string (strB (wr1 l s (szF k) (wrF k))), .int .i64 0] := by unfold encS; rw [h]; simp only []; rw [if_neg hd, if_neg hz]; rfl
theorem lf1_some {room : Nat} (h : lf1 l s n (lfF k) room = some y) : mixed l s n = false ∧ pureF k = true ∧ k.cnt < room := by
  unfold lf1 at h
  split at h
  · cases h
  · rename_i h0
    rw [lfF_eq] at h
    split at h
    · rename_i h1
      refine ⟨?_, h1.1, by omega⟩
      cases hm : mixed l s n with
      | true => exact absurd (.inr hm) h0
      | false => rfl
    · cases h
theorem mixed_single (hm : mixed l s n = false) (h : single s = true) : n = 0 := by
  have hz := single_size h
  unfold mixed at hm
  cases l with
  | true => simp [hz] at hm
  | false => simpa using hm
theorem len_zero {k : Fo} (h : k.len = 0) : k = .nil := by cases k with
  | nil => rfl
  | cons => simp [Fo.len] at h
theorem wr1_sz (hm : mixed l s k.len = false) (hk : (wrF k).length = szF k) : (wr1 l s (szF k) (wrF k)).length = sz1 l s (szF k) := by
  unfold wr1 sz1
  rw [List.length_append, List.length_append, tl_len, hk]
  split
  · rename_i h
    have := len_zero (mixed_single hm h)
    subst this
    have hz := single_size h
    simp only [szF, List.length_nil]; omega
  · omega
theorem pure_len : ∀ {k : Fo}, pureF k = true → (wrF k).length = szF k
  | .nil, _ => rfl
  | .cons l s k r, h => by
    simp only [pureF, Bool.and_eq_true, Bool.not_eq_true'] at h
    simp only [wrF, szF, List.length_append]
    rw [wr1_sz h.1.1 (pure_len h.1.2), pure_len h.2]
theorem wr1_len (hm : mixed l s n = false) (hp : pureF k = true) (hn : n = k.len) : 0 < (wr1 l s (szF k) (wrF k)).length ∧ (wr1 l s (szF k) (wrF k)).length ≤ sz1 l s (szF k) := by
  subst hn
  rw [wr1_sz hm (pure_len hp)]
  exact ⟨sz_pos l s (szF k), Nat.le_refl _⟩
theorem pure_wt1 (hm : mixed l s n = false) (hp : pureF k = true) (hz : sz1 l s (szF k) ≤ 4000) (hn : n = k.len) : s.size + wtF k ≤ 4000 + 9 * k.cnt := by
  have h1 := pure_wt hp
  unfold sz1 at hz
  split at hz
  · rename_i h
    have h2 := mixed_single hm h
    have := len_zero (hn ▸ h2)
    subst this
    have := single_size h
    simp only [wtF]; omega
  · omega
end
theorem mixed_t {s : ByteArray} {n : Nat} {b : Bool} (h : decide (s.size ≠ 0) = b) : b = mixed true s n := h.symm
theorem mixed_f {s : ByteArray} {n : Nat} {b : Bool} (h : decide (n ≠ 0) = b) : b = mixed false s n := h.symm
end Go.Proofs.YtlhfgbjhngkicaaGreatDoor
