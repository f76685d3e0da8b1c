/-
  Texts of the proof, part 3.
-/
import Derived.Test.YthpiojejhellhaaChecked
import Derived.ChangeArms
import Derived.ChangeSlices
import Derived.OpenShut
import Derived.Deep.Strs
import Derived.DataReads
import Derived.ProofKit
import Derived.WalkKit
import Derived.Test.YthpiojejhellhaaProg
import Derived.Test.YthpiojejhellhaaWS2

namespace Go.Proofs.Ythpiojejhellhaa
open Go Go.ChangeShapes Go.WideShapes Go.ChangeAt Go.RowKit
set_option linter.unusedVariables false
set_option maxRecDepth 100000
theorem cellsLg : Try.prog.cellsOf 26 = 3 := kr
theorem cellsSl : Try.prog.cellsOf 24 = 1 := kr
theorem extract_ofL {C : Array Value} {o m : Nat} {l : List Value} (hl : l.length = m) (hm : 0 < m) (h : ∀ j, j < m → C[o + j]? = l[j]?) : o + m ≤ C.size ∧ C.extract o (o + m) = l.toArray := by
  have hs : o + m ≤ C.size := by
    have h1 := h (m - 1) (by omega)
    rw [List.getElem?_eq_getElem (by omega)] at h1
    have := (Array.getElem?_eq_some_iff.1 h1).1
    omega
  refine ⟨hs, ?_⟩
  apply Array.toList_inj.1
  apply List.ext_getElem?
  intro i
  rw [Array.getElem?_toList, Array.getElem?_extract, List.toList_toArray]
  by_cases hi : i < m
  · rw [if_pos (by omega), h i hi]
  · rw [if_neg (by omega), List.getElem?_eq_none (by omega)]
section
variable {H : Type} {enc : TypeId × Value → H} {W : World} {sp : Nat → Bool} {held : Bool}
theorem spot_noneL {a : Addr} {v : Value} (h : W.cell? a = some v) : a = ⟨a.block, a.off, none⟩ ∧ ∃ C T fz, W.heap[a.block]? = some (.cells C T fz) ∧ C[a.off]? = some v := by
  obtain ⟨b, o, sp⟩ := a
  unfold World.cell? at h
  split at h
  · rename_i C T fz hh
    cases sp with
    | none => simp at h; exact ⟨rfl, C, T, fz, hh, h⟩
    | some x => simp at h
  · cases h
theorem cell_atL {b o : Nat} {C : Array Value} {T : TypeId} {fz : Nat × Nat} {v : Option Value} (hh : W.heap[b]? = some (.cells C T fz)) (h : W.cell? ⟨b, o, none⟩ = v) : C[o]? = v := by
  unfold World.cell? at h; simp only [hh] at h; simpa using h
theorem trod_dev (fuel : Nat) (cs : List Value) (x : DataW H × List MemPlace) (h : DataW.trod enc Try.prog W 0 sp held fuel 23 cs = some x) : ∃ (s : ByteArray) (a : Int), cs = [.string s, .int .i64 a] := by
  obtain ⟨xs, m, rfl, hxx, hl, hlen, hff⟩ := DataW.trod_struct Try.underlying23 h
  rw [cellsDv] at hl
  obtain ⟨c0, c1, rfl⟩ : ∃ c0 c1, cs = [c0, c1] := by
    match cs, hl with
    | [c0, c1], _ => exact ⟨c0, c1, rfl⟩
  obtain ⟨y0, y1, rfl⟩ : ∃ y0 y1, xs = [y0, y1] := by
    match xs, hlen with
    | [y0, y1], _ => exact ⟨y0, y1, rfl⟩
  have g0 := hff 0 _ rfl
  have g1 := hff 1 _ rfl
  change DataW.trod enc Try.prog W 0 sp held m 9 (([c0, c1].drop 0).take (Try.prog.cellsOf 9)) = some y0 at g0
  change DataW.trod enc Try.prog W 0 sp held m 3 (([c0, c1].drop 1).take (Try.prog.cellsOf 3)) = some y1 at g1
  rw [cellsStD] at g0
  rw [cellsInD] at g1
  obtain ⟨s, e0, rfl, hs⟩ := DataW.trod_string Try.underlying9 (show DataW.trod enc Try.prog W 0 sp held m 9 [c0] = some y0 from g0)
  obtain ⟨a, e1, e1', hw⟩ := DataW.trod_int Try.underlying3 (show DataW.trod enc Try.prog W 0 sp held m 3 [c1] = some y1 from g1)
  obtain rfl : c0 = .string s := by simpa using e0
  obtain rfl : c1 = .int .i64 a := by simpa using e1
  exact ⟨s, a, rfl⟩
theorem trod_strs (m : Nat) (cs : List Value) (y2 : DataW H × List MemPlace) (h : DataW.trod enc Try.prog W 0 sp held m 24 cs = some y2) :
    ∃ (p : Option Addr) (n c : Nat) (A : List ByteArray), cs = [.slice p n c] ∧ SlOk p n c ∧ AtF sS W p n A := by
  rcases DataW.trod_slice Try.underlying24 h with ⟨hc, hx⟩ | ⟨a, len, cap, elems, rest, n', rfl, hc, hx, _, hlc, hcm, hel, hels, _, _⟩
  · exact ⟨none, 0, 0, [], hc, .inl ⟨rfl, rfl, rfl⟩, rfl, .inl rfl⟩
  · have rows : ∀ q, q ≤ len → ∃ L : List ByteArray, L.length = q ∧ ∀ (i : Nat) (z : ByteArray), L[i]? = some z → W.cells? 0 (a.add (i * 1)) 1 = some (sS.cs z) := by
      intro q
      induction q with
      | zero => exact fun _ => ⟨[], rfl, fun i z h => by simp at h⟩
      | succ q ihq =>
        intro hq
        obtain ⟨L, hL, hcc⟩ := ihq (by omega)
        have hi := hels q (by omega)
        rw [cellsStD] at hi
        have hlt : q < elems.length := by omega
        rw [List.getElem?_eq_getElem hlt] at hi
        obtain ⟨cs', hcs, ht⟩ := Option.bind_eq_some_iff.1 hi
        obtain ⟨s, e0, _, _⟩ := DataW.trod_string Try.underlying9 ht
        have e1 : cs' = [.string s] := by simpa using e0
        subst e1
        refine ⟨L ++ [s], by simp [hL], fun i z hz => ?_⟩
        by_cases hiq : i < L.length
        · rw [List.getElem?_append_left hiq] at hz; exact hcc i z hz
        · rw [List.getElem?_append_right (by omega)] at hz
          have : i - L.length = 0 := by
            have := (List.getElem?_eq_some_iff.1 hz).1; simp at this; omega
          rw [this] at hz
          simp at hz; subst hz
          obtain rfl : i = q := by omega
          exact hcs
    obtain ⟨L, hL, hcl⟩ := rows len (Nat.le_refl _)
    refine ⟨some a, len, cap, L, hc, .inr ⟨⟨a, rfl⟩, hlc⟩, hL.symm, ?_⟩
    cases L with
    | nil => exact .inl rfl
    | cons z0 L0 =>
      have f0 := (World.cells?_some (hcl 0 z0 rfl)).2.2 0 (by omega)
      rw [Nat.zero_mul] at f0
      have e0 : (a.add 0).add 0 = a := rfl
      rw [e0] at f0
      obtain ⟨ea, C, T, fz, hh, hC0⟩ := spot_noneL (v := .string z0) (by rw [f0]; rfl)
      refine .inr ⟨a.block, a.off, C, T, fz, congrArg some ea, hh, fun i z hz => ?_⟩
      refine extract_ofL (sS.len z) (by decide) fun j hj => ?_
      have h9 := (World.cells?_some (hcl i z hz)).2.2 j hj
      rw [ea, addr_add, addr_add] at h9
      exact cell_atL hh h9
theorem openLog {v : Value} {d : DataW H} {p : List MemPlace} {base : Nat} (hv : Value.okWide Try.prog W .any base 26 v) (h : DataW.Trod enc Try.prog W 0 sp held 26 v d p) :
    ∃ (s : ByteArray) (a : Int) (q : Option Addr) (n c : Nat) (A : List ByteArray), v = lgV s a q n c ∧ SlOk q n c ∧ AtF sS W q n A := by
  obtain ⟨cs, rfl, hsz, _⟩ : ∃ cs, v = .agg cs ∧ cs.size = Try.prog.cellsOf 26 ∧ Row.okWide Try.prog W .any base 26 cs := by
    simpa [Value.okWide, Try.underlying26] using hv
  rw [cellsLg] at hsz
  obtain ⟨l⟩ := cs
  obtain ⟨c0, c1, c2, rfl⟩ : ∃ c0 c1 c2, l = [c0, c1, c2] := by
    match l, hsz with
    | [c0, c1, c2], _ => exact ⟨c0, c1, c2, rfl⟩
  obtain ⟨fuel, hf⟩ := h
  obtain ⟨xs, m, rfl, hx, _, hlen, hfs⟩ := DataW.trod_struct Try.underlying26 hf
  obtain ⟨y0, y1, rfl⟩ : ∃ y0 y1, xs = [y0, y1] := by
    match xs, hlen with
    | [y0, y1], _ => exact ⟨y0, y1, rfl⟩
  have g0 := hfs 0 _ rfl
  have g1 := hfs 1 _ rfl
  change DataW.trod enc Try.prog W 0 sp held m 23 (([c0, c1, c2].drop 0).take (Try.prog.cellsOf 23)) = some y0 at g0
  change DataW.trod enc Try.prog W 0 sp held m 24 (([c0, c1, c2].drop 2).take (Try.prog.cellsOf 24)) = some y1 at g1
  rw [cellsDv] at g0
  rw [cellsSl] at g1
  obtain ⟨s, a, e0⟩ := trod_dev m [c0, c1] y0 g0
  obtain ⟨q, n, c, A, e1, hok, hA⟩ := trod_strs m [c2] y1 g1
  obtain ⟨rfl, rfl⟩ : c0 = .string s ∧ c1 = .int .i64 a := by simpa using e0
  obtain rfl : c2 = .slice q n c := by simpa using e1
  exact ⟨s, a, q, n, c, A, rfl, hok, hA⟩
end
end Go.Proofs.Ythpiojejhellhaa

namespace Go.Proofs.Ythpiojejhellhaa
open Go Go.RowKit Go.Proofs.Crc
set_option linter.unusedVariables false
theorem take_next {A B : List ByteArray} {i : Nat} (h : A.take i = B.take i) (hA : i < A.length) (hB : i < B.length) (he : A[i] = B[i]) : A.take (i + 1) = B.take (i + 1) := by
  rw [List.take_succ_eq_append_getElem hA, List.take_succ_eq_append_getElem hB, h, he]
set_option maxRecDepth 100000 in
set_option maxHeartbeats 4000000 in
theorem equal_fn (p q : Option Addr) (n c m k : Nat) (A B : List ByteArray) (hn9 : n ≤ 1000000000) : FnP Try.prog 41 #[.slice p n c, .slice q m k] (fun w => AtF sS w p n A ∧ AtF sS w q m B) (.bool (decide (A = B))) := by
  refine FnP.intro (c := codeOf Try.f41) [.tmp 4] 26 Try.func41 kr kr kr fun w hP => ?_
  obtain ⟨⟨hA, hA2⟩, hB, hB2⟩ := hP
  have H0 := St.start w
  refine rS [.v] H0 kr fun gs1 w1 H1 => ?_
  refine g_seq kr ?_
  by_cases hl : n = m
  · subst hl
    refine rS [.v, .v, .v, .v, .e (v := .bool (!(((n : Nat) : Int) == ((n : Nat) : Int)))) (v' := .bool false) (bool_eq (by rw [beq_self_eq_true]; rfl))] H1 kr fun gs2 w2 H2 => ?_
    refine g_cond_f kr kr ?_
    refine g_skip kr ?_
    show WP _ _ _ _ _ _
    refine g_seq kr ?_
    refine rS [.v, .v, .v] H2 kr fun gs3 w3 H3 => ?_
    refine g_block 0 kr ?_
    have H4 : St w.heap.size w w3 [] := H3.as kr
    clear H0 H1 H2 H3
    refine g_loop kr (fun mz ρ ww => ∃ (i : Nat), n - i = mz ∧ i ≤ n ∧ A.take i = B.take i ∧ St w.heap.size w ww [] ∧ Is [(0, .slice p n c), (1, .slice q n k), (11, .slice p n c), (12, iN n), (13, iN i)] ρ) (n - 0) ⟨0, rfl, Nat.zero_le _, rfl, H4, (Is.of ⟨kr, kr, kr, kr, kr, trivial⟩)⟩ ?_
    clear H4
    rintro _ _ w4 ⟨i, rfl, him, htk, H5, _, rfl⟩
    by_cases hi : i < n
    · have hiA : i < A.length := by omega
      have hiB : i < B.length := by omega
      rcases hA2 with rfl | ⟨ba, oa, CA, TA, fa, rfl, hha, hRa⟩
      · exact absurd hiA (Nat.not_lt_zero _)
      rcases hB2 with rfl | ⟨bb, ob', CB, TB, fb, rfl, hhb, hRb⟩
      · exact absurd hiB (Nat.not_lt_zero _)
      have ca : CA[oa + i * 1]? = some (.string A[i]) := hRa.cell (List.getElem?_eq_getElem hiA) 0 (by decide)
      have cb : CB[ob' + i * 1]? = some (.string B[i]) := hRb.cell (List.getElem?_eq_getElem hiB) 0 (by decide)
      refine rS [.e (v := .bool (decide (((i : Nat) : Int) < ((n : Nat) : Int)))) (v' := .bool true) (bool_eq (decide_eq_true (by omega)))] H5 kr fun gs4 w5 H6 => ?_
      refine g_seq kr ?_
      refine g_cond_t kr kr ?_
      refine g_skip kr ?_
      show WP _ _ _ _ _ _
      refine g_seq kr ?_
      refine g_block 1 kr ?_
      refine rS [.v, .v] H6 kr fun gs5 w6 H7 => ?_
      by_cases he : A[i] = B[i]
      · refine dS [.v, .v, .o (ins := [((.tmp 16), .slice (some ⟨ba, oa, none⟩) n c), ((.tmp 17), iN i)]) (v := .pointer (some ⟨ba, oa + i * 1, none⟩)) (fun ρ o w ho hi2 => idxQ_run (kd := .i64) (t := 24) (e := 9) (K := 1) (bytes := 16) kr (x := (.tmp 16)) (y := (.tmp 17)) ba oa n c i rfl ho hi2.1 hi2.2.1 (by omega) w), .fs (off := oa + i * 1) (v := .string A[i]) hha (lt_of_heap hha) ca, .v, .v, .o (ins := [((.tmp 20), .slice (some ⟨bb, ob', none⟩) n k), ((.tmp 21), iN i)]) (v := .pointer (some ⟨bb, ob' + i * 1, none⟩)) (fun ρ o w ho hi2 => idxQ_run (kd := .i64) (t := 24) (e := 9) (K := 1) (bytes := 16) kr (x := (.tmp 20)) (y := (.tmp 21)) bb ob' n k i rfl ho hi2.1 hi2.2.1 (by omega) w), .fs (off := ob' + i * 1) (v := .string B[i]) hhb (lt_of_heap hhb) cb, .e (v := .bool (!((A[i]).toList == (B[i]).toList))) (v' := .bool false) (bool_eq (by rw [str_same _ _ he]; rfl))] H7 kr fun w7 H8 => ?_
        refine g_cond_f kr kr ?_
        refine g_skip kr ?_
        show WP _ _ _ _ _ _
        refine rL [.e (v := .int .i64 (IntKind.i64.wrap (((i : Nat) : Int) + 1))) (v' := iN (i + 1)) (int_eq (wrapAdd_i64 (a := i) (b := 1) (by omega))), .v] H8 kr fun gs7 w8 H9 => ?_
        show ∃ m, _ ∧ _
        exact ⟨_, (by omega), i + 1, rfl, hi, take_next htk hiA hiB he, H9.as kr, (Is.of ⟨kr, kr, kr, kr, kr, trivial⟩)⟩
      · refine dS [.v, .v, .o (ins := [((.tmp 16), .slice (some ⟨ba, oa, none⟩) n c), ((.tmp 17), iN i)]) (v := .pointer (some ⟨ba, oa + i * 1, none⟩)) (fun ρ o w ho hi2 => idxQ_run (kd := .i64) (t := 24) (e := 9) (K := 1) (bytes := 16) kr (x := (.tmp 16)) (y := (.tmp 17)) ba oa n c i rfl ho hi2.1 hi2.2.1 (by omega) w), .fs (off := oa + i * 1) (v := .string A[i]) hha (lt_of_heap hha) ca, .v, .v, .o (ins := [((.tmp 20), .slice (some ⟨bb, ob', none⟩) n k), ((.tmp 21), iN i)]) (v := .pointer (some ⟨bb, ob' + i * 1, none⟩)) (fun ρ o w ho hi2 => idxQ_run (kd := .i64) (t := 24) (e := 9) (K := 1) (bytes := 16) kr (x := (.tmp 20)) (y := (.tmp 21)) bb ob' n k i rfl ho hi2.1 hi2.2.1 (by omega) w), .fs (off := ob' + i * 1) (v := .string B[i]) hhb (lt_of_heap hhb) cb, .e (v := .bool (!((A[i]).toList == (B[i]).toList))) (v' := .bool true) (bool_eq (by rw [str_other _ _ he]; rfl))] H7 kr fun w7 H8 => ?_
        refine g_cond_t kr kr ?_
        refine rS [.v] H8 kr fun gs7 w8 H9 => ?_
        exact rRe [.tmp 4] [] (v := .bool false) (v' := .bool (decide (A = B))) H9 (bool_eq (decide_eq_false fun h => he (by subst h; rfl)).symm) kr
    · obtain rfl : i = n := by omega
      have hAB : A = B := by rw [← List.take_length (l := A), ← List.take_length (l := B), ← hA, ← hB]; exact htk
      refine rS [.e (v := .bool (decide (((i : Nat) : Int) < ((i : Nat) : Int)))) (v' := .bool false) (bool_eq (decide_eq_false (by omega)))] H5 kr fun gs4 w5 H6 => ?_
      refine g_seq kr ?_
      refine g_cond_f kr kr ?_
      refine g_exit 0 kr ?_
      show WP _ _ _ _ _ _
      refine rS [.v] H6 kr fun gs5 w6 H7 => ?_
      exact rRe [.tmp 4] [] (v := .bool true) (v' := .bool (decide (A = B))) H7 (bool_eq (decide_eq_true hAB).symm) kr
  · refine rS [.v, .v, .v, .v, .e (v := .bool (!(((n : Nat) : Int) == ((m : Nat) : Int)))) (v' := .bool true) (bool_eq (by rw [beq_eq_false_iff_ne.2 (by omega)]; rfl))] H1 kr fun gs2 w2 H2 => ?_
    refine g_cond_t kr kr ?_
    refine rS [.v] H2 kr fun gs3 w3 H3 => ?_
    exact rRe [.tmp 4] [] (v := .bool false) (v' := .bool (decide (A = B))) H3 (bool_eq (decide_eq_false fun h => hl (by rw [hA, hB, h])).symm) kr
set_option maxRecDepth 100000 in
set_option maxHeartbeats 4000000 in
theorem same_fn (p q : Option Addr) (n c m k : Nat) (A B : List ByteArray) (hn9 : n ≤ 1000000000) : FnP Try.prog 21 #[.slice p n c, .slice q m k] (fun w => AtF sS w p n A ∧ AtF sS w q m B) (.bool (decide (A = B))) := by
  refine FnP.intro (c := codeOf Try.f21) [.tmp 4] 26 Try.func21 kr kr kr fun w hP => ?_
  obtain ⟨⟨hA, hA2⟩, hB, hB2⟩ := hP
  have H0 := St.start w
  refine rS [.v] H0 kr fun gs1 w1 H1 => ?_
  refine g_seq kr ?_
  by_cases hl : n = m
  · subst hl
    refine rS [.v, .v, .v, .v, .e (v := .bool (!(((n : Nat) : Int) == ((n : Nat) : Int)))) (v' := .bool false) (bool_eq (by rw [beq_self_eq_true]; rfl))] H1 kr fun gs2 w2 H2 => ?_
    refine g_cond_f kr kr ?_
    refine g_skip kr ?_
    show WP _ _ _ _ _ _
    refine g_seq kr ?_
    refine rS [.v, .v, .v] H2 kr fun gs3 w3 H3 => ?_
    refine g_block 0 kr ?_
    have H4 : St w.heap.size w w3 [] := H3.as kr
    clear H0 H1 H2 H3
    refine g_loop kr (fun mz ρ ww => ∃ (i : Nat), n - i = mz ∧ i ≤ n ∧ A.take i = B.take i ∧ St w.heap.size w ww [] ∧ Is [(0, .slice p n c), (1, .slice q n k), (11, .slice p n c), (12, iN n), (13, iN i)] ρ) (n - 0) ⟨0, rfl, Nat.zero_le _, rfl, H4, (Is.of ⟨kr, kr, kr, kr, kr, trivial⟩)⟩ ?_
    clear H4
    rintro _ _ w4 ⟨i, rfl, him, htk, H5, _, rfl⟩
    by_cases hi : i < n
    · have hiA : i < A.length := by omega
      have hiB : i < B.length := by omega
      rcases hA2 with rfl | ⟨ba, oa, CA, TA, fa, rfl, hha, hRa⟩
      · exact absurd hiA (Nat.not_lt_zero _)
      rcases hB2 with rfl | ⟨bb, ob', CB, TB, fb, rfl, hhb, hRb⟩
      · exact absurd hiB (Nat.not_lt_zero _)
      have ca : CA[oa + i * 1]? = some (.string A[i]) := hRa.cell (List.getElem?_eq_getElem hiA) 0 (by decide)
      have cb : CB[ob' + i * 1]? = some (.string B[i]) := hRb.cell (List.getElem?_eq_getElem hiB) 0 (by decide)
      refine rS [.e (v := .bool (decide (((i : Nat) : Int) < ((n : Nat) : Int)))) (v' := .bool true) (bool_eq (decide_eq_true (by omega)))] H5 kr fun gs4 w5 H6 => ?_
      refine g_seq kr ?_
      refine g_cond_t kr kr ?_
      refine g_skip kr ?_
      show WP _ _ _ _ _ _
      refine g_seq kr ?_
      refine g_block 1 kr ?_
      refine rS [.v, .v] H6 kr fun gs5 w6 H7 => ?_
      by_cases he : A[i] = B[i]
      · refine dS [.v, .v, .o (ins := [((.tmp 16), .slice (some ⟨ba, oa, none⟩) n c), ((.tmp 17), iN i)]) (v := .pointer (some ⟨ba, oa + i * 1, none⟩)) (fun ρ o w ho hi2 => idxQ_run (kd := .i64) (t := 24) (e := 9) (K := 1) (bytes := 16) kr (x := (.tmp 16)) (y := (.tmp 17)) ba oa n c i rfl ho hi2.1 hi2.2.1 (by omega) w), .fs (off := oa + i * 1) (v := .string A[i]) hha (lt_of_heap hha) ca, .v, .v, .o (ins := [((.tmp 20), .slice (some ⟨bb, ob', none⟩) n k), ((.tmp 21), iN i)]) (v := .pointer (some ⟨bb, ob' + i * 1, none⟩)) (fun ρ o w ho hi2 => idxQ_run (kd := .i64) (t := 24) (e := 9) (K := 1) (bytes := 16) kr (x := (.tmp 20)) (y := (.tmp 21)) bb ob' n k i rfl ho hi2.1 hi2.2.1 (by omega) w), .fs (off := ob' + i * 1) (v := .string B[i]) hhb (lt_of_heap hhb) cb, .e (v := .bool (!((A[i]).toList == (B[i]).toList))) (v' := .bool false) (bool_eq (by rw [str_same _ _ he]; rfl))] H7 kr fun w7 H8 => ?_
        refine g_cond_f kr kr ?_
        refine g_skip kr ?_
        show WP _ _ _ _ _ _
        refine rL [.e (v := .int .i64 (IntKind.i64.wrap (((i : Nat) : Int) + 1))) (v' := iN (i + 1)) (int_eq (wrapAdd_i64 (a := i) (b := 1) (by omega))), .v] H8 kr fun gs7 w8 H9 => ?_
        show ∃ m, _ ∧ _
        exact ⟨_, (by omega), i + 1, rfl, hi, take_next htk hiA hiB he, H9.as kr, (Is.of ⟨kr, kr, kr, kr, kr, trivial⟩)⟩
      · refine dS [.v, .v, .o (ins := [((.tmp 16), .slice (some ⟨ba, oa, none⟩) n c), ((.tmp 17), iN i)]) (v := .pointer (some ⟨ba, oa + i * 1, none⟩)) (fun ρ o w ho hi2 => idxQ_run (kd := .i64) (t := 24) (e := 9) (K := 1) (bytes := 16) kr (x := (.tmp 16)) (y := (.tmp 17)) ba oa n c i rfl ho hi2.1 hi2.2.1 (by omega) w), .fs (off := oa + i * 1) (v := .string A[i]) hha (lt_of_heap hha) ca, .v, .v, .o (ins := [((.tmp 20), .slice (some ⟨bb, ob', none⟩) n k), ((.tmp 21), iN i)]) (v := .pointer (some ⟨bb, ob' + i * 1, none⟩)) (fun ρ o w ho hi2 => idxQ_run (kd := .i64) (t := 24) (e := 9) (K := 1) (bytes := 16) kr (x := (.tmp 20)) (y := (.tmp 21)) bb ob' n k i rfl ho hi2.1 hi2.2.1 (by omega) w), .fs (off := ob' + i * 1) (v := .string B[i]) hhb (lt_of_heap hhb) cb, .e (v := .bool (!((A[i]).toList == (B[i]).toList))) (v' := .bool true) (bool_eq (by rw [str_other _ _ he]; rfl))] H7 kr fun w7 H8 => ?_
        refine g_cond_t kr kr ?_
        refine rS [.v] H8 kr fun gs7 w8 H9 => ?_
        exact rRe [.tmp 4] [] (v := .bool false) (v' := .bool (decide (A = B))) H9 (bool_eq (decide_eq_false fun h => he (by subst h; rfl)).symm) kr
    · obtain rfl : i = n := by omega
      have hAB : A = B := by rw [← List.take_length (l := A), ← List.take_length (l := B), ← hA, ← hB]; exact htk
      refine rS [.e (v := .bool (decide (((i : Nat) : Int) < ((i : Nat) : Int)))) (v' := .bool false) (bool_eq (decide_eq_false (by omega)))] H5 kr fun gs4 w5 H6 => ?_
      refine g_seq kr ?_
      refine g_cond_f kr kr ?_
      refine g_exit 0 kr ?_
      show WP _ _ _ _ _ _
      refine rS [.v] H6 kr fun gs5 w6 H7 => ?_
      exact rRe [.tmp 4] [] (v := .bool true) (v' := .bool (decide (A = B))) H7 (bool_eq (decide_eq_true hAB).symm) kr
  · refine rS [.v, .v, .v, .v, .e (v := .bool (!(((n : Nat) : Int) == ((m : Nat) : Int)))) (v' := .bool true) (bool_eq (by rw [beq_eq_false_iff_ne.2 (by omega)]; rfl))] H1 kr fun gs2 w2 H2 => ?_
    refine g_cond_t kr kr ?_
    refine rS [.v] H2 kr fun gs3 w3 H3 => ?_
    exact rRe [.tmp 4] [] (v := .bool false) (v' := .bool (decide (A = B))) H3 (bool_eq (decide_eq_false fun h => hl (by rw [hA, hB, h])).symm) kr
end Go.Proofs.Ythpiojejhellhaa

namespace Go.Proofs.Ythpiojejhellhaa
open Go Go.RowKit Go.Proofs.Crc
open D2 (Gh)
set_option linter.unusedVariables false
theorem new_fn : Fn Try.prog 15 #[] (lgV em 0 none 0 0) := by
  refine Fn.intro (c := codeOf Try.f15) [.cell 0 26] 2 Try.func15 kr kr kr fun w => ?_
  have H0 := St.start w
  refine rS [.a] H0 kr fun gs1 w1 H1 => ?_
  refine rS [.v, .s 0] H1 kr fun gs2 w2 H2 => ?_
  exact rRe [.cell 0 26] [0] (v := lgV em 0 none 0 0) (v' := lgV em 0 none 0 0) H2 rfl kr
theorem sure_fn (s : ByteArray) (a : Int) (p : Option Addr) (n c : Nat) (hr : rightM s a = true) : Fn Try.prog 29 #[lgV s a p n c] (lgV s ((s.size : Nat) : Int) p n c) := by
  refine Fn.intro (c := codeOf Try.f29) [.cell 2 26] 11 Try.func29 kr kr kr fun w => ?_
  have H0 := St.start w
  refine rS [.b, .a] H0 kr fun gs1 w1 H1 => ?_
  refine rS [.v, .l 0, .c (sync_ok s a hr), .v, .v, .v, .v, .s 0] H1 kr fun gs2 w2 H2 => ?_
  refine rS [.l 0, .s 1] H2 kr fun gs3 w3 H3 => ?_
  exact rRe [.cell 2 26] [1] (v := lgV s ((s.size : Nat) : Int) p n c) (v' := lgV s ((s.size : Nat) : Int) p n c) H3 rfl kr
def okRd (b : Bool) (A : List ByteArray) (v : Value) (T : List (Nat × Obj)) : Prop := match b with
  | true => ∃ (q : Option Addr) (m k : Nat), RowF sS 9 q m k T A ∧ v = .tuple #[.slice q m k, .bool true]
  | false => v = .tuple #[.slice none 0 0, .bool false] ∧ T = []
set_option maxRecDepth 100000 in
set_option maxHeartbeats 4000000 in
theorem read_fn (s : ByteArray) (a : Int) (p : Option Addr) (n c : Nat) (A : List ByteArray) : FnT Try.prog 25 #[lgV s a p n c] (fun w => AtF sS w p n A) (okRd (rightL s a A) A) := by
  refine FnT.intro (c := codeOf Try.f25) [.tmp 2, .tmp 3] 31 Try.func25 kr kr kr fun w hP => ?_
  have H0 := St.start w
  refine rS [.b, .v, .v] H0 kr fun gs1 w1 H1 => ?_
  refine g_seq kr ?_
  cases hr : rightM s a with
  | false =>
    have hL : rightL s a A = false := Bool.eq_false_iff.2 fun h => by rw [(rightL_iff.1 h).2.1] at hr; cases hr
    refine rS [.v, .l 0, .c (right_fn s a), .e (v := .bool (!(rightM s a))) (v' := .bool true) (bool_eq (by rw [hr]; rfl))] H1 kr fun gs2 w2 H2 => ?_
    refine g_cond_t kr kr ?_
    refine rS [.v, .v] H2 kr fun gs3 w3 H3 => ?_
    refine rRr [.tmp 2, .tmp 3] [] (.tuple #[.slice none 0 0, .bool false]) (outT w.heap.size w (okRd (rightL s a A) A)) H3 kr ?_
    exact ⟨[], by rw [hL]; exact ⟨rfl, rfl⟩, H3.sub (List.nil_sublist _)⟩
  | true =>
    have hz : s.size ≤ 200000 := (rightM_iff.1 hr).1
    refine rS [.v, .l 0, .c (right_fn s a), .e (v := .bool (!(rightM s a))) (v' := .bool false) (bool_eq (by rw [hr]; rfl))] H1 kr fun gs2 w2 H2 => ?_
    refine g_cond_f kr kr ?_
    refine g_skip kr ?_
    show WP _ _ _ _ _ _
    refine g_sreg [0, 1, 2, 3, 4, 5, 6, 7, 8] kr kr ?_
    refine rp [.v, .v, .l 0] H2 kr fun gs3 w3 H3 => ?_
    show WPs _ _ _ _ [3, 4, 5, 6, 7, 8] _ _
    have H4 : St w.heap.size w w3 [((gs1 0).b, lgO s a p n c)] := H3.as kr
    refine s_callFT H4 (some 14) 31 #[.string s] (scanT_fn s (by omega)) trivial kr kr ?_
    rintro _ T w4 ⟨rs, z, q, m, k, hsc, hrow, rfl⟩ H5
    have H6 : St w.heap.size w w4 (((gs1 0).b, lgO s a p n c) :: T) := H5.perm (List.perm_append_comm (l₁ := [((gs1 0).b, lgO s a p n c)]) (l₂ := T))
    refine rp [.v, .v, .v, .v, .v] H6 kr fun gs4 w5 H7 => ?_
    show WPs _ _ _ _ [] _ _
    refine s_nil ?_
    have H8 : St w.heap.size w w5 (((gs1 0).b, lgO s a p n c) :: T) := H7.as kr
    have hsl := sc_len hsc
    have hlen := hrow.len
    have hR := right_scan (A := A) hr hsc
    refine g_seq kr ?_
    by_cases hz1 : z = s.size
    · refine g_sreg [0, 1, 2, 3, 4, 5, 6, 7, 8, 9, 10, 11, 12] kr kr ?_
      refine rp [.v, .v, .v, .l 0, .v, .e (v := .bool (!(((z : Nat) : Int) == ((s.size : Nat) : Int)))) (v' := .bool false) (bool_eq (by rw [hz1, beq_self_eq_true]; rfl)), .v, .v, .v, .l 0] H8 kr fun gs5 w6 H9 => ?_
      show WPs _ _ _ _ [10, 11, 12] _ _
      have H10 : St w.heap.size w w6 (((gs1 0).b, lgO s a p n c) :: T) := H9.as kr
      refine s_callP H10 (some 27) 41 #[.slice q m k, .slice p n c] _ _ (equal_fn q p m k n c rs A (by omega)) ⟨hrow.atF H10 fun e he => by simp [he], hP.call H10.below⟩ (fun w => by kernel_rfl) kr ?_
      intro w7 H11
      by_cases hq : rs = A
      · have hL : rightL s a A = true := by rw [hR, hz1, hq]; simp
        refine rp [.e (v := .bool (!(decide (rs = A)))) (v' := .bool false) (bool_eq (by rw [decide_eq_true hq]; rfl)), .v] H11 kr fun gs6 w8 H12 => ?_
        show WPs _ _ _ _ [] _ _
        refine s_nil ?_
        show WP _ _ _ _ _ _
        refine g_cond_f kr kr ?_
        refine g_skip kr ?_
        show WP _ _ _ _ _ _
        refine rS [.v, .v, .v] H12 kr fun gs7 w9 H13 => ?_
        refine rRr [.tmp 2, .tmp 3] [] (.tuple #[.slice q m k, .bool true]) (outT w.heap.size w (okRd (rightL s a A) A)) H13 kr ?_
        have H14 : St w.heap.size w w9 (((gs1 0).b, lgO s a p n c) :: T) := H13.as kr
        exact ⟨T, by rw [hL]; exact ⟨q, m, k, hq ▸ hrow, rfl⟩, H14.sub (List.sublist_cons_self ..)⟩
      · have hL : rightL s a A = false := by rw [hR, decide_eq_false hq, Bool.and_false]
        refine rp [.e (v := .bool (!(decide (rs = A)))) (v' := .bool true) (bool_eq (by rw [decide_eq_false hq]; rfl)), .v] H11 kr fun gs6 w8 H12 => ?_
        show WPs _ _ _ _ [] _ _
        refine s_nil ?_
        show WP _ _ _ _ _ _
        refine g_cond_t kr kr ?_
        refine rS [.v, .v] H12 kr fun gs7 w9 H13 => ?_
        refine rRr [.tmp 2, .tmp 3] [] (.tuple #[.slice none 0 0, .bool false]) (outT w.heap.size w (okRd (rightL s a A) A)) H13 kr ?_
        exact ⟨[], by rw [hL]; exact ⟨rfl, rfl⟩, H13.sub (List.nil_sublist _)⟩
    · have hL : rightL s a A = false := by rw [hR, decide_eq_false hz1, Bool.false_and]
      refine rS [.v, .v, .v, .l 0, .v, .e (v := .bool (!(((z : Nat) : Int) == ((s.size : Nat) : Int)))) (v' := .bool true) (bool_eq (by rw [beq_eq_false_iff_ne.2 (by omega)]; rfl)), .v, .n, .n, .n, .n, .n, .v] H8 kr fun gs5 w6 H9 => ?_
      refine g_cond_t kr kr ?_
      refine rS [.v, .v] H9 kr fun gs7 w9 H13 => ?_
      refine rRr [.tmp 2, .tmp 3] [] (.tuple #[.slice none 0 0, .bool false]) (outT w.heap.size w (okRd (rightL s a A) A)) H13 kr ?_
      exact ⟨[], by rw [hL]; exact ⟨rfl, rfl⟩, H13.sub (List.nil_sublist _)⟩
end Go.Proofs.Ythpiojejhellhaa

namespace Go.Proofs.Ythpiojejhellhaa
open Go Go.RowKit Go.Proofs.Crc
open D2 (Gh)
set_option linter.unusedVariables false
set_option maxRecDepth 100000 in
set_option maxHeartbeats 4000000 in
theorem begin_fn (s : ByteArray) (a : Int) (p : Option Addr) (n c : Nat) (A : List ByteArray) (r : ByteArray) : FnT Try.prog 7 #[lgV s a p n c, .string r] (fun w => AtF sS w p n A) (okLog (beginM s a A r)) := by
  refine FnT.intro (c := codeOf Try.f7) [.cell 4 26, .tmp 5] 46 Try.func7 kr kr kr fun w hP => ?_
  have H0 := St.start w
  refine rS [.b, .a, .v] H0 kr fun gs1 w1 H1 => ?_
  by_cases hr : recB r = true
  · have hr2 := recB_iff.1 hr
    refine rS [.v, .c (frame_fn r hr2), .v, .v, .v, .v, .v] H1 kr fun gs2 w2 H2 => ?_
    refine g_seq kr ?_
    refine rS [.v, .v] H2 kr fun gs3 w3 H3 => ?_
    refine g_cond_f kr kr ?_
    refine g_skip kr ?_
    show WP _ _ _ _ _ _
    refine g_sreg [0, 1, 2, 3, 4, 5, 6] kr kr ?_
    refine rp [.l 0] H3 kr fun gs4 w4 H4 => ?_
    show WPs _ _ _ _ [1, 2, 3, 4, 5, 6] _ _
    have H5 : St w.heap.size w w4 [((gs1 0).b, lgO s a p n c), ((gs1 1).b, lgO em 0 none 0 0)] := H4.as kr
    refine s_callFT H5 (some 22) 25 #[lgV s a p n c] (read_fn s a p n c A) (hP.call H5.below) kr kr ?_
    intro v T w5 hok H6
    have H7 : St w.heap.size w w5 (((gs1 0).b, lgO s a p n c) :: ((gs1 1).b, lgO em 0 none 0 0) :: T) := H6.perm (List.perm_append_comm (l₁ := [((gs1 0).b, lgO s a p n c), ((gs1 1).b, lgO em 0 none 0 0)]) (l₂ := T))
    cases hL : rightL s a A with
    | false =>
      rw [hL] at hok
      obtain ⟨rfl, rfl⟩ := hok
      refine rp [.v, .v, .v, .v, .v] H7 kr fun gs5 w6 H8 => ?_
      show WPs _ _ _ _ [] _ _
      refine s_nil ?_
      show WP _ _ _ _ _ _
      refine g_seq kr ?_
      refine rS [.v, .v] H8 kr fun gs6 w7 H9 => ?_
      refine g_cond_t kr kr ?_
      refine rS [.v, .s 1, .v] H9 kr fun gs7 w8 H10 => ?_
      refine rRr [.cell 4 26, .tmp 5] [1] (.tuple #[lgV em 0 none 0 0, .int .i64 1]) (outT w.heap.size w (okLog (beginM s a A r))) H10 kr ?_
      refine ⟨[], ?_, H10.sub (List.nil_sublist _)⟩
      rw [show beginM s a A r = errL 1 by unfold beginM; rw [hL, if_neg (by simp)]]
      exact okLog_err 1
    | true =>
      rw [hL] at hok
      obtain ⟨q, m, k, hrow, rfl⟩ := hok
      obtain ⟨hA, hM, hfl⟩ := rightL_iff.1 hL
      obtain ⟨hz, ha0, ha1⟩ := rightM_iff.1 hM
      have hfz : (strB (frB (tl r))).size = r.size + 6 := by rw [strB_size, frB_len, tl_len]
      have hm := hrow.len
      have hml : m ≤ 1000000 := by
        have h1 := flat_ge A
        have h2 : (flat A).length = s.size := by rw [← hfl, strB_size]
        omega
      refine rp [.v, .v, .v, .v, .v] H7 kr fun gs5 w6 H8 => ?_
      show WPs _ _ _ _ [] _ _
      refine s_nil ?_
      show WP _ _ _ _ _ _
      refine g_seq kr ?_
      refine rS [.v, .v] H8 kr fun gs6 w7 H9 => ?_
      refine g_cond_f kr kr ?_
      refine g_skip kr ?_
      show WP _ _ _ _ _ _
      by_cases hl : s.size + (r.size + 6) ≤ 200000
      · obtain ⟨S, hS⟩ : ∃ S, s ++ strB (frB (tl r)) = S := ⟨_, rfl⟩
        have hap : Fn Try.prog 26 #[dvV s a, .string (strB (frB (tl r)))] (dvR S a 0) := by rw [← hS]; exact append_ok s (strB (frB (tl r))) a hM (by omega)
        refine g_sreg [0, 1, 2, 3, 4, 5, 6, 7, 8, 9] kr kr ?_
        refine rp [.v, .l 0, .v, .c hap, .v, .v, .v] H9 kr fun gs7 w8 H10 => ?_
        show WPs _ _ _ _ [7, 8, 9] _ _
        have H11 : St w.heap.size w w8 (((gs1 0).b, lgO s a p n c) :: ((gs1 1).b, lgO em 0 none 0 0) :: T) := H10.as kr
        refine s_alloc H11 (some 10) 23 (dvV em 0) kr kr kr ?_
        intro bg w9 H12
        refine rp [.s 0, .v] H12 kr fun gs8 w10 H13 => ?_
        show WPs _ _ _ _ [] _ _
        refine s_nil ?_
        show WP _ _ _ _ _ _
        have H14 : St w.heap.size w w10 ((bg, dvO S a) :: ((gs1 0).b, lgO s a p n c) :: ((gs1 1).b, lgO em 0 none 0 0) :: T) := H13.as kr
        refine g_seq kr ?_
        refine rS [.v, .v] H14 kr fun gs9 w11 H15 => ?_
        refine g_cond_f kr kr ?_
        refine g_skip kr ?_
        show WP _ _ _ _ _ _
        have H16 : St w.heap.size w w11 (T ++ [(bg, dvO S a), ((gs1 1).b, lgO em 0 none 0 0)]) := by
          have h9 : St w.heap.size w w11 ((bg, dvO S a) :: ((gs1 0).b, lgO s a p n c) :: ((gs1 1).b, lgO em 0 none 0 0) :: T) := H15.as kr
          exact (h9.sub (List.Sublist.cons_cons _ (List.sublist_cons_self ..))).perm (List.perm_append_comm (l₁ := T) (l₂ := [(bg, dvO S a), ((gs1 1).b, lgO em 0 none 0 0)]))
        generalize hb4 : (gs1 1).b = b4 at *
        refine g_seq kr ?_
        refine D2.g_draw0 [0, 1, 2, 3, 4, 5, 6, 7, 8] [(some 39, fun _ => dvV S a), (some 40, fun _ => .slice q m k), (some 41, fun _ => .string r), (some 42, fun _ => .string r), (some 43, fun y => .slice (some ⟨y.b, 0, none⟩) 1 1), (some 44, fun y => .slice (some ⟨y.b, 0, none⟩) (m + 1) y.cap), (some 45, fun y => .agg #[.string S, .int .i64 a, .slice (some ⟨y.b, 0, none⟩) (m + 1) y.cap]), (none, fun _ => undef), (some 5, fun _ => .int .i64 0)]
          (D2.chn [4, 5, 6, 7] fun j g ww => match j with
            | 0 => St w.heap.size w ww (T ++ [(bg, dvO S a), (b4, lgO em 0 none 0 0)])
            | 1 => St w.heap.size w ww (((g 4).b, .cells (sS.cs r).toArray 9 (0, 0)) :: (T ++ [(bg, dvO S a), (b4, lgO em 0 none 0 0)]))
            | 2 => St w.heap.size w ww (((g 5).b, .cells (g 5).cur 9 (0, 0)) :: [(bg, dvO S a), (b4, lgO em 0 none 0 0)]) ∧ Rw 1 (g 5).cur (g 5).cap (m + 1) (cellsF sS (A ++ [r]))
            | 3 => St w.heap.size w ww (((g 6).b, .cells (g 6).cur 9 (0, 0)) :: [(bg, dvO S a), (b4, lgO em 0 none 0 0)]) ∧ Rw 1 (g 6).cur (g 6).cap (m + 1) (cellsF sS (A ++ [r]))
            | _ => St w.heap.size w ww (((g 6).b, .cells (g 6).cur 9 (0, 0)) :: [(bg, dvO S a), (b4, lgO S a (some ⟨(g 6).b, 0, none⟩) (m + 1) (g 6).cap)]) ∧ Rw 1 (g 6).cur (g 6).cap (m + 1) (cellsF sS (A ++ [r])))
          kr kr kr H16.drew ⟨?_, ?_, ?_, ?_, ?_, ?_, ?_, ?_, ?_, trivial⟩ ?_
        · exact D2.gv_ld (fun _ _ _ h => h) 23 (.tmp 10) (fun _ => bg) 0 #[.string S, .int .i64 a] 23 (0, 0) (fun g => by kernel_rfl) (fun g => by kernel_rfl) (fun L g w hN hp => hp.get fun j hj h => by
      match j, h with
      | 0, h => exact (h.own (bg, dvO S a) (by simp)).2
      | 1, h => exact (h.own (bg, dvO S a) (by simp)).2
      | 2, h => exact (h.1.own (bg, dvO S a) (by simp)).2
      | 3, h => exact (h.1.own (bg, dvO S a) (by simp)).2
      | _ + 4, h => exact (h.1.own (bg, dvO S a) (by simp)).2) kr kr
        · exact D2.gv_val (fun _ _ _ h => h) (fun g w => by kernel_rfl)
        · exact D2.gv_val (fun _ _ _ h => h) (fun g w => by kernel_rfl)
        · exact D2.gv_cW (fun _ _ _ h => h) 27 #[.string r] (cloneS_fn r (by omega)) (fun L g w w' hN hp hb => by
      revert hp; unfold D2.chn
      generalize D2.stg [4, 5, 6, 7] L = j
      intro hp
      match j, hp with
      | 0, h => exact h.call hb
      | 1, h => exact h.call hb
      | 2, h => exact ⟨h.1.call hb, h.2⟩
      | 3, h => exact ⟨h.1.call hb, h.2⟩
      | _ + 4, h => exact ⟨h.1.call hb, h.2⟩) (fun g w => by kernel_rfl)
        · refine D2.gv_chn 4 0 (fun L hN => by
      have e4 := hN.1
      have e5 := hN.post 5 kr
      have e6 := hN.fwd e5 (show D2.edge _ 5 6 = true by kernel_rfl)
      have e7 := hN.fwd e6 (show D2.edge _ 6 7 = true by kernel_rfl)
      exact ⟨by (simp [D2.stg, e4, e5, e6, e7]) <;> rfl, by (simp [D2.stg, D2.put1, e4, e5, e6, e7]) <;> rfl⟩) fun g ww hq => ?_
          exact D2.run_new (F := fun b => .slice (some ⟨b, 0, none⟩) 1 1) (ob := .cells (sS.cs r).toArray 9 (0, 0)) kr ⟨{ b := ww.heap.size }, rfl, St.alloc hq _⟩
        · refine D2.gv_chn 5 1 (fun L hN => by
      have e5 := hN.1
      have e4 := hN.bef 4 kr
      have e6 := hN.post 6 kr
      have e7 := hN.fwd e6 (show D2.edge _ 6 7 = true by kernel_rfl)
      exact ⟨by (simp [D2.stg, e4, e5, e6, e7]) <;> rfl, by (simp [D2.stg, D2.put1, e4, e5, e6, e7]) <;> rfl⟩) fun g ww hq => ?_
          refine D2.run_of (op := appendOp 24 (.tmp 40) (.tmp 43)) kr fun o ho => ?_
          obtain ⟨b', cap', cur', w', hrun, HS', hr'⟩ := grow_one (S := sS) (bx := (g 4).b) (M0 := A) (y := r) (row := T) (Z := [(bg, dvO S a), (b4, lgO em 0 none 0 0)]) (n := m) (c := k) (p := q) (mc := 1) hq hrow (t := 24) (bytes := 16) kr ho kr kr (by omega) (by unfold maxLen; omega)
          exact ⟨_, w', hrun, { b := b', cap := cap', cur := cur' }, rfl, HS', hr'⟩
        · refine D2.gv_chn 6 2 (fun L hN => by
      have e6 := hN.1
      have e5 := hN.bef 5 kr
      have e4 := hN.back e5 (show D2.edge _ 4 5 = true by kernel_rfl)
      have e7 := hN.post 7 kr
      exact ⟨by (simp [D2.stg, e4, e5, e6, e7]) <;> rfl, by (simp [D2.stg, D2.put1, e4, e5, e6, e7]) <;> rfl⟩) fun g ww hq => ?_
          exact D2.run_val kr ⟨g 5, rfl, hq⟩
        · refine D2.gv_chn 7 3 (fun L hN => by
      have e7 := hN.1
      have e6 := hN.bef 6 kr
      have e5 := hN.back e6 (show D2.edge _ 5 6 = true by kernel_rfl)
      have e4 := hN.back e5 (show D2.edge _ 4 5 = true by kernel_rfl)
      exact ⟨by (simp [D2.stg, e4, e5, e6, e7]) <;> rfl, by (simp [D2.stg, D2.put1, e4, e5, e6, e7]) <;> rfl⟩) fun g ww hq => ?_
          exact D2.run_sto (t := 26) (x := .tmp 4) (y := .tmp 45) (C := #[.string em, .int .i64 0, .slice none 0 0]) (C' := #[.string S, .int .i64 a, .slice (some ⟨(g 6).b, 0, none⟩) (m + 1) (g 6).cap]) (T := 26) (off := 0) (b := b4) (v := .agg #[.string S, .int .i64 a, .slice (some ⟨(g 6).b, 0, none⟩) (m + 1) (g 6).cap]) kr (by subst hb4; kernel_rfl) kr kr kr (St.get hq.1 2 kr) (Nat.le_of_ble_eq_true kr) kr ⟨g 7, rfl, St.store (C := #[.string em, .int .i64 0, .slice none 0 0]) (T := 26) hq.1 2 kr, hq.2⟩
        · exact D2.gv_val (fun _ _ _ h => h) (fun g w => by kernel_rfl)
        · intro L1 g w12 hall hp
          have hq := hp.fin (fun k hk => hall k (by simp at hk; rcases hk with rfl | rfl | rfl | rfl <;> exact Nat.le_of_ble_eq_true kr))
          show WP _ _ _ _ _ _
          subst hb4
          refine rRr [.cell 4 26, .tmp 5] [2] (.tuple #[lgV S a (some ⟨(g 6).b, 0, none⟩) (m + 1) (g 6).cap, .int .i64 0]) (outT w.heap.size w (okLog (beginM s a A r))) hq.1 kr ?_
          refine ⟨[((g 6).b, .cells (g 6).cur 9 (0, 0))], ?_, hq.1.sub (List.Sublist.cons_cons _ (List.nil_sublist _))⟩
          rw [show beginM s a A r = ⟨S, a, A ++ [r], 0⟩ by unfold beginM; rw [if_pos ⟨hr, hL⟩, if_pos hl, hS]]
          exact ⟨_, _, _, .inr ⟨_, _, rfl, rfl, hq.2⟩, rfl⟩
      · refine g_sreg [0, 1, 2, 3, 4, 5, 6, 7, 8, 9] kr kr ?_
        refine rp [.v, .l 0, .v, .c (append_long s (strB (frB (tl r))) a hM (by omega)), .v, .v, .v] H9 kr fun gs7 w8 H10 => ?_
        show WPs _ _ _ _ [7, 8, 9] _ _
        have H11 : St w.heap.size w w8 (((gs1 0).b, lgO s a p n c) :: ((gs1 1).b, lgO em 0 none 0 0) :: T) := H10.as kr
        refine s_alloc H11 (some 10) 23 (dvV em 0) kr kr kr ?_
        intro bg w9 H12
        refine rp [.s 0, .v] H12 kr fun gs8 w10 H13 => ?_
        show WPs _ _ _ _ [] _ _
        refine s_nil ?_
        show WP _ _ _ _ _ _
        refine g_seq kr ?_
        refine rS [.v, .v] H13 kr fun gs9 w11 H15 => ?_
        refine g_cond_t kr kr ?_
        refine rS [.v, .v, .s 2, .v] H15 kr fun gs10 w12 H16 => ?_
        refine rRr [.cell 4 26, .tmp 5] [2] (.tuple #[lgV em 0 none 0 0, .int .i64 2]) (outT w.heap.size w (okLog (beginM s a A r))) H16 kr ?_
        refine ⟨[], ?_, H16.sub (List.nil_sublist _)⟩
        rw [show beginM s a A r = errL 2 by unfold beginM; rw [if_pos ⟨hr, hL⟩, if_neg hl]]
        exact okLog_err 2
  · refine rS [.v, .c (frameNo_fn r fun h => hr (recB_iff.2 h)), .v, .v, .v, .v, .v] H1 kr fun gs2 w2 H2 => ?_
    refine g_seq kr ?_
    refine rS [.v, .v] H2 kr fun gs3 w3 H3 => ?_
    refine g_cond_t kr kr ?_
    refine rS [.v, .v, .s 1, .v] H3 kr fun gs4 w4 H4 => ?_
    refine rRr [.cell 4 26, .tmp 5] [1] (.tuple #[lgV em 0 none 0 0, .int .i64 1]) (outT w.heap.size w (okLog (beginM s a A r))) H4 kr ?_
    refine ⟨[], ?_, H4.sub (List.nil_sublist _)⟩
    rw [show beginM s a A r = errL 1 by unfold beginM; rw [if_neg (fun h => hr h.1)]]
    exact okLog_err 1
set_option maxRecDepth 100000 in
set_option maxHeartbeats 4000000 in
theorem append_fn (s : ByteArray) (a : Int) (p : Option Addr) (n c : Nat) (A : List ByteArray) (r : ByteArray) : FnT Try.prog 9 #[lgV s a p n c, .string r] (fun w => AtF sS w p n A) (okLog (appendM s a A r)) := by
  refine FnT.intro (c := codeOf Try.f9) [.cell 4 26, .tmp 5] 20 Try.func9 kr kr kr fun w hP => ?_
  have H0 := St.start w
  refine rS [.b, .a, .v] H0 kr fun gs1 w1 H1 => ?_
  refine g_sreg [0, 1, 2, 3, 4, 5, 6, 7, 8] kr kr ?_
  refine rp [.l 0, .v] H1 kr fun gs2 w2 H2 => ?_
  show WPs _ _ _ _ [2, 3, 4, 5, 6, 7, 8] _ _
  have H3 : St w.heap.size w w2 [((gs1 0).b, lgO s a p n c), ((gs1 1).b, lgO em 0 none 0 0)] := H2.as kr
  refine s_callFT H3 (some 11) 7 #[lgV s a p n c, .string r] (begin_fn s a p n c A r) (hP.call H3.below) kr kr ?_
  rintro _ T w3 ⟨q, m, k, hrow, rfl⟩ H4
  have H5 : St w.heap.size w w3 (((gs1 0).b, lgO s a p n c) :: ((gs1 1).b, lgO em 0 none 0 0) :: T) := H4.perm (List.perm_append_comm (l₁ := [((gs1 0).b, lgO s a p n c), ((gs1 1).b, lgO em 0 none 0 0)]) (l₂ := T))
  rcases begin_e (s := s) (a := a) (A := A) (r := r) with ⟨_, hB, h1, h2, h3⟩ | ⟨hB, _⟩ | ⟨hB, _⟩
  · rw [hB] at hrow
    rw [hB]
    have hnext := right_next h1 h2 h3
    have hM := (rightL_iff.1 hnext).2.1
    generalize hS : s ++ strB (frB (tl r)) = S at *
    refine rp [.v, .v, .v] H5 kr fun gs3 w4 H6 => ?_
    show WPs _ _ _ _ [6, 7, 8] _ _
    have H7 : St w.heap.size w w4 (((gs1 0).b, lgO s a p n c) :: ((gs1 1).b, lgO em 0 none 0 0) :: T) := H6.as kr
    refine s_alloc H7 (some 6) 26 (lgV em 0 none 0 0) kr kr kr ?_
    intro bg w5 H8
    refine rp [.s 0, .v] H8 kr fun gs4 w6 H9 => ?_
    show WPs _ _ _ _ [] _ _
    refine s_nil ?_
    show WP _ _ _ _ _ _
    refine g_seq kr ?_
    refine rS [.v, .v] H9 kr fun gs5 w7 H10 => ?_
    refine g_cond_f kr kr ?_
    refine g_skip kr ?_
    show WP _ _ _ _ _ _
    refine rS [.l 0, .c (sure_fn S a q m k hM), .s 2, .v] H10 kr fun gs6 w8 H11 => ?_
    refine rRr [.cell 4 26, .tmp 5] [2] (.tuple #[lgV S ((S.size : Nat) : Int) q m k, .int .i64 0]) (outT w.heap.size w (okLog (appendM s a A r))) H11 kr ?_
    have H12 : St w.heap.size w w8 ((bg, lgO S a q m k) :: ((gs1 0).b, lgO s a p n c) :: ((gs1 1).b, lgO S ((S.size : Nat) : Int) q m k) :: T) := H11.as kr
    refine ⟨T, ?_, H12.sub ((List.sublist_cons_self ..).trans ((List.sublist_cons_self ..).trans (List.sublist_cons_self ..)))⟩
    rw [show appendM s a A r = ⟨S, ((S.size : Nat) : Int), A ++ [r], 0⟩ by unfold appendM; rw [hB, if_pos rfl]]
    exact ⟨q, m, k, hrow, rfl⟩
  · rw [hB] at hrow
    rw [hB]
    refine rp [.v, .v, .v] H5 kr fun gs3 w4 H6 => ?_
    show WPs _ _ _ _ [6, 7, 8] _ _
    have H7 : St w.heap.size w w4 (((gs1 0).b, lgO s a p n c) :: ((gs1 1).b, lgO em 0 none 0 0) :: T) := H6.as kr
    refine s_alloc H7 (some 6) 26 (lgV em 0 none 0 0) kr kr kr ?_
    intro bg w5 H8
    refine rp [.s 0, .v] H8 kr fun gs4 w6 H9 => ?_
    show WPs _ _ _ _ [] _ _
    refine s_nil ?_
    show WP _ _ _ _ _ _
    refine g_seq kr ?_
    refine rS [.v, .v] H9 kr fun gs5 w7 H10 => ?_
    refine g_cond_t kr kr ?_
    refine rS [.v, .v, .s 2, .v] H10 kr fun gs6 w8 H11 => ?_
    refine rRr [.cell 4 26, .tmp 5] [2] (.tuple #[lgV em 0 none 0 0, .int .i64 2]) (outT w.heap.size w (okLog (appendM s a A r))) H11 kr ?_
    refine ⟨[], ?_, H11.sub (List.nil_sublist _)⟩
    rw [show appendM s a A r = errL 2 by unfold appendM; rw [hB, if_neg (by decide)]]
    exact okLog_err 2
  · rw [hB] at hrow
    rw [hB]
    refine rp [.v, .v, .v] H5 kr fun gs3 w4 H6 => ?_
    show WPs _ _ _ _ [6, 7, 8] _ _
    have H7 : St w.heap.size w w4 (((gs1 0).b, lgO s a p n c) :: ((gs1 1).b, lgO em 0 none 0 0) :: T) := H6.as kr
    refine s_alloc H7 (some 6) 26 (lgV em 0 none 0 0) kr kr kr ?_
    intro bg w5 H8
    refine rp [.s 0, .v] H8 kr fun gs4 w6 H9 => ?_
    show WPs _ _ _ _ [] _ _
    refine s_nil ?_
    show WP _ _ _ _ _ _
    refine g_seq kr ?_
    refine rS [.v, .v] H9 kr fun gs5 w7 H10 => ?_
    refine g_cond_t kr kr ?_
    refine rS [.v, .v, .s 2, .v] H10 kr fun gs6 w8 H11 => ?_
    refine rRr [.cell 4 26, .tmp 5] [2] (.tuple #[lgV em 0 none 0 0, .int .i64 1]) (outT w.heap.size w (okLog (appendM s a A r))) H11 kr ?_
    refine ⟨[], ?_, H11.sub (List.nil_sublist _)⟩
    rw [show appendM s a A r = errL 1 by unfold appendM; rw [hB, if_neg (by decide)]]
    exact okLog_err 1
/-- What is opened. -/
def okOpen (s : ByteArray) (a : Int) (v : Value) (T : List (Nat × Obj)) : Prop := match rightM s a with
  | true => ∃ (rs : List ByteArray) (z : Nat), Sc (tl s) rs z ∧ okLog ⟨s.extract 0 z, ((z : Nat) : Int), rs, 0⟩ v T
  | false => okLog (errL 1) v T
set_option maxRecDepth 100000 in
set_option maxHeartbeats 4000000 in
theorem open_fn (s : ByteArray) (a : Int) : FnT Try.prog 11 #[dvV s a] (fun _ => True) (okOpen s a) := by
  refine FnT.intro (c := codeOf Try.f11) [.cell 2 26, .tmp 3] 28 Try.func11 kr kr kr fun w hP => ?_
  have H0 := St.start w
  refine rS [.b, .a, .v] H0 kr fun gs1 w1 H1 => ?_
  refine g_seq kr ?_
  cases hr : rightM s a with
  | false =>
    refine rS [.l 0, .c (right_fn s a), .e (v := .bool (!(rightM s a))) (v' := .bool true) (bool_eq (by rw [hr]; rfl))] H1 kr fun gs2 w2 H2 => ?_
    refine g_cond_t kr kr ?_
    refine rS [.v, .s 1, .v] H2 kr fun gs3 w3 H3 => ?_
    refine rRr [.cell 2 26, .tmp 3] [1] (.tuple #[lgV em 0 none 0 0, .int .i64 1]) (outT w.heap.size w (okOpen s a)) H3 kr ?_
    refine ⟨[], ?_, H3.sub (List.nil_sublist _)⟩
    unfold okOpen; rw [hr]; exact okLog_err 1
  | true =>
    obtain ⟨hz, ha0, ha1⟩ := rightM_iff.1 hr
    obtain ⟨k0, rfl⟩ : ∃ k0 : Nat, a = (k0 : Int) := ⟨a.toNat, by omega⟩
    refine rS [.l 0, .c (right_fn s ((k0 : Nat) : Int)), .e (v := .bool (!(rightM s ((k0 : Nat) : Int)))) (v' := .bool false) (bool_eq (by rw [hr]; rfl))] H1 kr fun gs2 w2 H2 => ?_
    refine g_cond_f kr kr ?_
    refine g_skip kr ?_
    show WP _ _ _ _ _ _
    refine g_sreg [0, 1, 2, 3, 4, 5, 6, 7] kr kr ?_
    refine rp [.v, .l 0] H2 kr fun gs3 w3 H3 => ?_
    show WPs _ _ _ _ [2, 3, 4, 5, 6, 7] _ _
    have H4 : St w.heap.size w w3 [((gs1 0).b, dvO s ((k0 : Nat) : Int)), ((gs1 1).b, lgO em 0 none 0 0)] := H3.as kr
    refine s_callFT H4 (some 15) 31 #[.string s] (scanT_fn s (by omega)) trivial kr kr ?_
    rintro _ T w4 ⟨rs, z, q, m, k, hsc, hrow, rfl⟩ H5
    have H6 : St w.heap.size w w4 (((gs1 0).b, dvO s ((k0 : Nat) : Int)) :: ((gs1 1).b, lgO em 0 none 0 0) :: T) := H5.perm (List.perm_append_comm (l₁ := [((gs1 0).b, dvO s ((k0 : Nat) : Int)), ((gs1 1).b, lgO em 0 none 0 0)]) (l₂ := T))
    have hsl := sc_len hsc
    refine rp [.v, .v, .v, .v, .v] H6 kr fun gs4 w5 H7 => ?_
    show WPs _ _ _ _ [] _ _
    refine s_nil ?_
    show WP _ _ _ _ _ _
    have hx : (s.extract 0 z).size = z := by rw [ByteArray.size_extract]; omega
    refine g_sreg [0, 1, 2, 3, 4, 5, 6, 7, 8] kr kr ?_
    refine rp [.l 0, .v, .c (cut_ok s k0 z hz (by omega) hsl.2), .v, .v, .v] H7 kr fun gs5 w6 H8 => ?_
    show WPs _ _ _ _ [6, 7, 8] _ _
    have H9 : St w.heap.size w w6 (((gs1 0).b, dvO s ((k0 : Nat) : Int)) :: ((gs1 1).b, lgO em 0 none 0 0) :: T) := H8.as kr
    refine s_alloc H9 (some 6) 23 (dvV em 0) kr kr kr ?_
    intro bg w7 H10
    refine rp [.s 0, .v] H10 kr fun gs6 w8 H11 => ?_
    show WPs _ _ _ _ [] _ _
    refine s_nil ?_
    show WP _ _ _ _ _ _
    have hX : rightM (s.extract 0 z) ((min k0 z : Nat) : Int) = true := rightM_iff.2 ⟨by omega, by omega, by omega⟩
    have hsure := sure_fn (s.extract 0 z) ((min k0 z : Nat) : Int) q m k hX
    rw [hx] at hsure
    refine rS [.l 0, .v, .v, .c hsure, .s 2, .v] H11 kr fun gs7 w9 H12 => ?_
    refine rRr [.cell 2 26, .tmp 3] [2] (.tuple #[lgV (s.extract 0 z) ((z : Nat) : Int) q m k, .int .i64 0]) (outT w.heap.size w (okOpen s ((k0 : Nat) : Int))) H12 kr ?_
    have H13 : St w.heap.size w w9 ((bg, dvO (s.extract 0 z) ((min k0 z : Nat) : Int)) :: ((gs1 0).b, dvO s ((k0 : Nat) : Int)) :: ((gs1 1).b, lgO (s.extract 0 z) ((z : Nat) : Int) q m k) :: T) := H12.as kr
    refine ⟨T, ?_, H13.sub ((List.sublist_cons_self ..).trans ((List.sublist_cons_self ..).trans (List.sublist_cons_self ..)))⟩
    unfold okOpen; rw [hr]
    exact ⟨rs, z, hsc, q, m, k, hrow, rfl⟩
end Go.Proofs.Ythpiojejhellhaa

namespace Go.Proofs.Ythpiojejhellhaa
open Go Go.RowKit Go.Proofs.Crc
open D2 (Gh)
set_option linter.unusedVariables false
theorem like_fn (s : ByteArray) (a : Int) (p q : Option Addr) (n c m k : Nat) (A : List ByteArray) (hn9 : n ≤ 1000000000) : FnP Try.prog 14 #[lgV s a p n c, lgV s a q m k] (fun w => AtF sS w p n A ∧ AtF sS w q m A) (.bool true) := by
  refine FnP.intro (c := codeOf Try.f14) [.tmp 4] 17 Try.func14 kr kr kr fun w hP => ?_
  have H0 := St.start w
  have hsame := same_fn p q n c m k A A hn9
  rw [decide_eq_true rfl] at hsame
  refine rS [.b, .b, .v] H0 kr fun gs1 w1 H1 => ?_
  refine rS [.v, .l 0, .v, .l 1, .o (ins := [((.tmp 6), dvV s a), ((.tmp 8), dvV s a)]) (v := .bool true) (fun ρ o w ho hi => dv_eql (x := (.tmp 6)) (y := (.tmp 8)) s a w ho hi.1 hi.2.1), .v, .v, .l 0, .v, .l 1, .cp (pre := fun w => AtF sS w p n A ∧ AtF sS w q m A) hsame [] (fun w' hb hd => ⟨hP.1.call hb, hP.2.call hb⟩), .v, .v] H1 kr fun gs2 w2 H2 => ?_
  exact rRe [.tmp 4] [] (v := .bool true) (v' := .bool true) H2 rfl kr
end Go.Proofs.Ythpiojejhellhaa

namespace Go.Proofs.Ythpiojejhellhaa
open Go Go.RowKit Go.Proofs.Crc
open D2 (Gh)
set_option linter.unusedVariables false
set_option maxRecDepth 100000 in
set_option maxHeartbeats 4000000 in
theorem few_fn (s : ByteArray) (a : Int) (p : Option Addr) (n c : Nat) (hp : SlOk p n c) : Fn Try.prog 6 #[lgV s a p n c] (lgV (s.extract 0 (min s.size 6000)) a p (min n 60) c) := by
  refine Fn.intro (c := codeOf Try.f6) [.cell 2 26] 23 Try.func6 kr kr kr fun w => ?_
  have H0 := St.start w
  refine rS [.b, .a] H0 kr fun gs1 w1 H1 => ?_
  refine dS [.v, .v, .l 0, .v, .v, .l 0, .v, .e (v := .int .i64 (if (6000 : Int) < ((s.size : Nat) : Int) then (6000 : Int) else ((s.size : Nat) : Int))) (v' := iN (min s.size 6000)) (int_eq (by split <;> omega)), .o (ins := [((.tmp 5), .string s), ((.tmp 10), iN (min s.size 6000))]) (v := .string (s.extract 0 (min s.size 6000))) (fun ρ o w ho hi => scut_run (t := 9) (kd := .i64) kr (x := (.tmp 5)) (y := (.tmp 10)) s (min s.size 6000) ho hi.1 hi.2.1 (Nat.min_le_left _ _) w), .v, .l 0, .v, .l 0, .v, .e (v := .int .i64 (if (60 : Int) < ((n : Nat) : Int) then (60 : Int) else ((n : Nat) : Int))) (v' := iN (min n 60)) (int_eq (by split <;> omega)), .o (ins := [((.tmp 13), .slice p n c), ((.tmp 17), iN (min n 60))]) (v := .slice p (min n 60) c) (fun ρ o w ho hi => cutK_run (t := 24) (e := 9) (size := 1) (bytes := 16) (kd := .i64) kr (x := (.tmp 13)) (y := (.tmp 17)) hp (Nat.min_le_left _ _) ho hi.1 hi.2.1 w), .v, .v, .s 0, .v, .s 0] H1 kr fun w2 H2 => ?_
  refine rS [.l 0, .s 1] H2 kr fun gs3 w3 H3 => ?_
  exact rRe [.cell 2 26] [1] (v := lgV (s.extract 0 (min s.size 6000)) a p (min n 60) c) (v' := lgV (s.extract 0 (min s.size 6000)) a p (min n 60) c) H3 rfl kr
abbrev oneA : ByteArray := ⟨#[97]⟩
theorem right_em : rightL em 0 [] = true := by decide
theorem append_a : appendM em 0 [] oneA = ⟨strB (frB (tl oneA)), (((strB (frB (tl oneA))).size : Nat) : Int), [oneA], 0⟩ := by
  have h : beginM em 0 [] oneA = ⟨em ++ strB (frB (tl oneA)), 0, [] ++ [oneA], 0⟩ := by
    unfold beginM
    rw [if_pos ⟨by decide, right_em⟩, if_pos (by decide)]
  have e : em ++ strB (frB (tl oneA)) = strB (frB (tl oneA)) := by
    apply tl_inj
    rw [tl_add]; rfl
  unfold appendM
  rw [h, if_pos rfl, e]; rfl
set_option maxRecDepth 100000 in
set_option maxHeartbeats 4000000 in
theorem aliveW_fn : Fn Try.prog 16 #[] (.bool true) := by
  refine Fn.intro (c := codeOf Try.f16) [.tmp 0] 39 Try.func16 kr kr kr fun w => ?_
  have H0 := St.start w
  refine rS [.v] H0 kr fun gs1 w1 H1 => ?_
  refine g_sreg [0, 1, 2, 3, 4, 5, 6, 7] kr kr ?_
  refine rp [.c new_fn] H1 kr fun gs101 v1 K1 => ?_
  show WPs _ _ _ _ [1, 2, 3, 4, 5, 6, 7] _ _
  have K2 : St w.heap.size w v1 ([]) := K1.as kr
  refine s_callFT K2 (some 5) 9 #[lgV em 0 none 0 0, .string oneA] (append_fn em 0 none 0 0 [] oneA) ⟨rfl, .inl rfl⟩ kr kr ?_
  rintro _ T v2 ⟨q, m, k, hrow, rfl⟩ K3
  have K4 : St w.heap.size w v2 ((T ++ [])) := K3.perm (List.perm_append_comm_assoc [] T [])
  rw [append_a] at hrow
  rw [append_a]
  obtain ⟨S, hS⟩ : ∃ S, strB (frB (tl oneA)) = S := ⟨_, rfl⟩
  have hsz : S.size = 7 := by rw [← hS, strB_size, frB_len]; rfl
  rw [hS]
  rw [hS] at hrow
  rcases hrow with ⟨_, _, _, _, h0⟩ | ⟨bq, cur, rfl, rfl, hrw⟩
  · cases h0
  obtain rfl : 1 = m := hrw.lenF
  have hc : cur[0 + 0 * 1]? = some (.string oneA) := hrw.rowAt.cell (i := 0) rfl 0 (by decide)
  refine rp [.v, .v, .v] K4 kr fun gs102 v3 K5 => ?_
  show WPs _ _ _ _ [5, 6, 7] _ _
  have K6 : St w.heap.size w v3 ([(bq, .cells cur 9 (0, 0))]) := K5.as kr
  refine s_alloc K6 (some 1) 26 (lgV em 0 none 0 0) kr kr kr ?_
  intro bg v4 K7
  refine rp [.s 0, .v] K7 kr fun gs103 v5 K8 => ?_
  show WPs _ _ _ _ [] _ _
  refine s_nil ?_
  show WP _ _ _ _ _ _
  refine rS [.v, .v, .v, .v, .l 0, .v, .v, .v, .v, .v, .l 0, .o (ins := [((.tmp 18), .slice (some ⟨bq, 0, none⟩) 1 k), ((.const (.int .i64 0)), .int .i64 0)]) (v := .pointer (some ⟨bq, 0 + 0 * 1, none⟩)) (fun ρ o w ho hi2 => idxQ_run (kd := .i64) (t := 24) (e := 9) (K := 1) (bytes := 16) kr (x := (.tmp 18)) (y := (.const (.int .i64 0))) bq 0 1 k 0 rfl ho hi2.1 hi2.2.1 (by decide) w), .ls 1 (C := cur) (off := 0 + 0 * 1) (v := .string oneA) hc, .v, .v, .v, .v, .v, .l 0, .v, .v, .l 0, .v, .e (v := .bool (((S.size : Nat) : Int) == ((S.size : Nat) : Int))) (v' := .bool true) (bool_eq (beq_self_eq_true _)), .v, .v, .v, .v, .l 0, .e (v := .bool (decide (((S.size : Nat) : Int) > 0))) (v' := .bool true) (bool_eq (decide_eq_true (by omega))), .v, .v] K8 kr fun gs104 v6 K9 => ?_
  exact rRe [.tmp 0] [] (v := .bool true) (v' := .bool true) K9 rfl kr
end Go.Proofs.Ythpiojejhellhaa

namespace Go.Proofs.Ythpiojejhellhaa
open Go Go.RowKit Go.Proofs.Crc
open D2 (Gh)
set_option linter.unusedVariables false
theorem ext_all (s : ByteArray) : s.extract 0 s.size = s := by
  apply tl_inj
  rw [tl_extract, List.drop_zero, show ByteArray.size s = (tl s).length from rfl, List.take_length]
set_option maxRecDepth 100000 in
set_option maxHeartbeats 8000000 in
theorem walSteps_v (s : ByteArray) (a : Int) (p : Option Addr) (n c : Nat) (A : List ByteArray) (hp : SlOk p n c) (r : ByteArray) : FnP Try.prog 5 #[lgV s a p n c, .string r] (fun w => AtF sS w p n A) (.bool true) := by
  refine FnP.intro (c := codeOf Try.f5) [.tmp 4] 85 Try.func5 kr kr kr fun w hP => ?_
  have H0 := St.start w
  refine rS [.b, .v] H0 kr fun gs1 w1 H1 => ?_
  obtain ⟨S, hS⟩ : ∃ S, s.extract 0 (min s.size 6000) = S := ⟨_, rfl⟩
  obtain ⟨U, hU⟩ : ∃ U, r.extract 0 (min r.size 300) = U := ⟨_, rfl⟩
  obtain ⟨n', hn⟩ : ∃ n', min n 60 = n' := ⟨_, rfl⟩
  obtain ⟨A', hA⟩ : ∃ A', A.take n' = A' := ⟨_, rfl⟩
  have hp2 : SlOk p n' c := by rw [← hn]; exact hp.cut (Nat.min_le_left _ _)
  have hP2 : AtF sS w p n' A' := by rw [← hA]; exact hP.take n' (by rw [← hn]; exact Nat.min_le_left _ _)
  have hn60 : n' ≤ 60 := by omega
  have hlenA := hP2.1
  have hfew := few_fn s a p n c hp
  rw [hS, hn] at hfew
  refine dS [.l 0, .c hfew, .v, .v, .v, .e (v := .int .i64 (if (300 : Int) < ((r.size : Nat) : Int) then (300 : Int) else ((r.size : Nat) : Int))) (v' := iN (min r.size 300)) (int_eq (by split <;> omega)), .oe (ins := [((.tmp 15), .string r), ((.tmp 18), iN (min r.size 300))]) (v := .string (r.extract 0 (min r.size 300))) (v' := .string U) (fun ρ o w ho hi => scut_run (t := 9) (kd := .i64) kr (x := (.tmp 15)) (y := (.tmp 18)) r (min r.size 300) ho hi.1 hi.2.1 (Nat.min_le_left _ _) w) (congrArg Value.string hU), .s 0, .v] H1 kr fun w2 H2 => ?_
  have H2 : St w.heap.size w w2 (((gs1 0).b, lgO S a p n' c) :: []) := H2.as kr
  refine g_sreg [0, 1, 2, 3, 4, 5, 6, 7, 8] kr kr ?_
  refine rp [.l 0, .v] H2 kr fun gs101 v1 K1 => ?_
  show WPs _ _ _ _ [2, 3, 4, 5, 6, 7, 8] _ _
  have K2 : St w.heap.size w v1 (((gs1 0).b, lgO S a p n' c) :: []) := K1.as kr
  refine s_callFT K2 (some 23) 9 #[lgV S a p n' c, .string U] (append_fn S a p n' c A' U) (hP2.call K2.below) kr kr ?_
  rintro _ T1 v2 ⟨q1, m1, k1, hrow1, rfl⟩ K3
  have K4 : St w.heap.size w v2 (((gs1 0).b, lgO S a p n' c) :: (T1 ++ [])) := K3.perm (List.perm_append_comm_assoc [((gs1 0).b, lgO S a p n' c)] T1 [])
  rcases begin_e (s := S) (a := a) (A := A') (r := U) with ⟨_, hB, h1, h2, h3⟩ | ⟨hB, _⟩ | ⟨hB, _⟩
  · obtain ⟨X, hX⟩ : ∃ X, S ++ strB (frB (tl U)) = X := ⟨_, rfl⟩
    have hL := right_next h1 h2 h3
    rw [hX] at hB hL
    obtain ⟨hA1, hM, hfl⟩ := rightL_iff.1 hL
    obtain ⟨z1, z2, z3⟩ := rightM_iff.1 hM
    have hM2 : rightM X ((X.size : Nat) : Int) = true := rightM_iff.2 ⟨z1, by omega, by omega⟩
    have hXl : (flat (A' ++ [U])).length = X.size := by rw [← strB_size, hfl]
    have hscX : Sc (tl X) (A' ++ [U]) (flat (A' ++ [U])).length := by
      have h9 := sc_flat0 hA1
      rwa [show flat (A' ++ [U]) = tl X by rw [← hfl, tl_strB]] at h9 ⊢
    have hxX : X.extract 0 (flat (A' ++ [U])).length = X := by rw [hXl]; exact ext_all X
    have hB1 : appendM S a A' U = ⟨X, ((X.size : Nat) : Int), A' ++ [U], 0⟩ := by unfold appendM; rw [hB, if_pos rfl]
    rw [hB1] at hrow1
    rw [hB1]
    refine rp [.v, .v, .v] K4 kr fun gs102 v3 K5 => ?_
    show WPs _ _ _ _ [6, 7, 8] _ _
    have K6 : St w.heap.size w v3 (((gs1 0).b, lgO S a p n' c) :: (T1 ++ [])) := K5.as kr
    refine s_alloc K6 (some 5) 26 (lgV em 0 none 0 0) kr kr kr ?_
    intro b5 v4 K7
    refine rp [.s 0, .v] K7 kr fun gs103 v5 K8 => ?_
    show WPs _ _ _ _ [] _ _
    refine s_nil ?_
    show WP _ _ _ _ _ _
    refine g_sreg [0, 1, 2, 3, 4, 5, 6, 7, 8] kr kr ?_
    refine rp [.l 1, .v] K8 kr fun gs104 v6 K9 => ?_
    show WPs _ _ _ _ [2, 3, 4, 5, 6, 7, 8] _ _
    have K10 : St w.heap.size w v6 ((b5, lgO X ((X.size : Nat) : Int) q1 m1 k1) :: ((gs1 0).b, lgO S a p n' c) :: (T1 ++ [])) := K9.as kr
    refine s_callFT K10 (some 29) 7 #[lgV S a p n' c, .string U] (begin_fn S a p n' c A' U) (hP2.call K10.below) kr kr ?_
    rintro _ T2 v7 ⟨q2, m2, k2, hrow2, rfl⟩ K11
    have K12 : St w.heap.size w v7 ((b5, lgO X ((X.size : Nat) : Int) q1 m1 k1) :: ((gs1 0).b, lgO S a p n' c) :: (T2 ++ (T1 ++ []))) := K11.perm (List.perm_append_comm_assoc [(b5, lgO X ((X.size : Nat) : Int) q1 m1 k1), ((gs1 0).b, lgO S a p n' c)] T2 (T1 ++ []))
    rw [hB] at hrow2
    rw [hB]
    refine rp [.v, .v, .v] K12 kr fun gs105 v8 K13 => ?_
    show WPs _ _ _ _ [6, 7, 8] _ _
    have K14 : St w.heap.size w v8 ((b5, lgO X ((X.size : Nat) : Int) q1 m1 k1) :: ((gs1 0).b, lgO S a p n' c) :: (T2 ++ (T1 ++ []))) := K13.as kr
    refine s_alloc K14 (some 7) 26 (lgV em 0 none 0 0) kr kr kr ?_
    intro b7 v9 K15
    refine rp [.s 0, .v] K15 kr fun gs106 v10 K16 => ?_
    show WPs _ _ _ _ [] _ _
    refine s_nil ?_
    show WP _ _ _ _ _ _
    have K17 : St w.heap.size w v10 ((b7, lgO X a q2 m2 k2) :: (b5, lgO X ((X.size : Nat) : Int) q1 m1 k1) :: ((gs1 0).b, lgO S a p n' c) :: (T2 ++ (T1 ++ []))) := K16.as kr
    refine g_seq kr ?_
    refine rS [.v, .v, .v, .v, .v, .v] K17 kr fun gs107 v11 K18 => ?_
    refine g_cond_f kr kr ?_
    refine g_skip kr ?_
    show WP _ _ _ _ _ _
    refine g_sreg [0, 1, 2, 3, 4, 5, 6, 7, 8] kr kr ?_
    refine rp [.v, .l 0, .c (sync_ok X a hM), .v, .v, .v] K18 kr fun gs108 v12 K19 => ?_
    show WPs _ _ _ _ [6, 7, 8] _ _
    have K20 : St w.heap.size w v12 ((b7, lgO X a q2 m2 k2) :: (b5, lgO X ((X.size : Nat) : Int) q1 m1 k1) :: ((gs1 0).b, lgO S a p n' c) :: (T2 ++ (T1 ++ []))) := K19.as kr
    refine s_alloc K20 (some 9) 23 (dvV em 0) kr kr kr ?_
    intro b9 v13 K21
    refine rp [.s 0, .v] K21 kr fun gs109 v14 K22 => ?_
    show WPs _ _ _ _ [] _ _
    refine s_nil ?_
    show WP _ _ _ _ _ _
    refine g_sreg [0, 1, 2, 3, 4, 5, 6, 7] kr kr ?_
    refine rp [.l 0] K22 kr fun gs110 v15 K23 => ?_
    show WPs _ _ _ _ [1, 2, 3, 4, 5, 6, 7] _ _
    have K24 : St w.heap.size w v15 ((b9, dvO X ((X.size : Nat) : Int)) :: (b7, lgO X a q2 m2 k2) :: (b5, lgO X ((X.size : Nat) : Int) q1 m1 k1) :: ((gs1 0).b, lgO S a p n' c) :: (T2 ++ (T1 ++ []))) := K23.as kr
    refine s_callFT K24 (some 52) 11 #[dvV X ((X.size : Nat) : Int)] (open_fn X ((X.size : Nat) : Int)) trivial kr kr ?_
    rintro v T3 v16 hop K25
    have K26 : St w.heap.size w v16 ((b9, dvO X ((X.size : Nat) : Int)) :: (b7, lgO X a q2 m2 k2) :: (b5, lgO X ((X.size : Nat) : Int) q1 m1 k1) :: ((gs1 0).b, lgO S a p n' c) :: (T3 ++ (T2 ++ (T1 ++ [])))) := K25.perm (List.perm_append_comm_assoc [(b9, dvO X ((X.size : Nat) : Int)), (b7, lgO X a q2 m2 k2), (b5, lgO X ((X.size : Nat) : Int) q1 m1 k1), ((gs1 0).b, lgO S a p n' c)] T3 (T2 ++ (T1 ++ [])))
    unfold okOpen at hop
    rw [hM2] at hop
    obtain ⟨rs, z, hsc, q3, m3, k3, hrow3, rfl⟩ := hop
    obtain ⟨rfl, rfl⟩ := hsc.uniq hscX
    rw [hxX, show (((flat (A' ++ [U])).length : Nat) : Int) = ((X.size : Nat) : Int) by rw [hXl]]
    replace hrow3 : RowF sS 9 q3 m3 k3 T3 (A' ++ [U]) := hrow3
    refine rp [.v, .v, .v] K26 kr fun gs111 v17 K27 => ?_
    show WPs _ _ _ _ [5, 6, 7] _ _
    have K28 : St w.heap.size w v17 ((b9, dvO X ((X.size : Nat) : Int)) :: (b7, lgO X a q2 m2 k2) :: (b5, lgO X ((X.size : Nat) : Int) q1 m1 k1) :: ((gs1 0).b, lgO S a p n' c) :: (T3 ++ (T2 ++ (T1 ++ [])))) := K27.as kr
    refine s_alloc K28 (some 11) 26 (lgV em 0 none 0 0) kr kr kr ?_
    intro b11 v18 K29
    refine rp [.s 0, .v] K29 kr fun gs112 v19 K30 => ?_
    show WPs _ _ _ _ [] _ _
    refine s_nil ?_
    show WP _ _ _ _ _ _
    have hm1 := hrow1.len
    have hm3 := hrow3.len
    rw [List.length_append, List.length_singleton] at hm1 hm3
    refine g_sreg [0, 1, 2, 3, 4, 5, 6, 7, 8, 9, 10, 11, 12, 13, 14, 15, 16, 17, 18, 19, 20, 21, 22, 23, 24, 25, 26, 27, 28, 29, 30] kr kr ?_
    refine rp [.c aliveW_fn, .v, .v, .v, .v, .v, .v, .v, .v, .v, .v, .l 3, .l 1, .o (ins := [((.tmp 66), dvV X ((X.size : Nat) : Int)), ((.tmp 67), dvV X ((X.size : Nat) : Int))]) (v := .bool true) (fun ρ o w ho hi => dv_eql (x := (.tmp 66)) (y := (.tmp 67)) X ((X.size : Nat) : Int) w ho hi.1 hi.2.1), .v, .v, .l 0, .l 3] K30 kr fun gs113 v20 K31 => ?_
    show WPs _ _ _ _ [18, 19, 20, 21, 22, 23, 24, 25, 26, 27, 28, 29, 30] _ _
    have K32 : St w.heap.size w v20 ((b11, lgO X ((X.size : Nat) : Int) q3 m3 k3) :: (b9, dvO X ((X.size : Nat) : Int)) :: (b7, lgO X a q2 m2 k2) :: (b5, lgO X ((X.size : Nat) : Int) q1 m1 k1) :: ((gs1 0).b, lgO S a p n' c) :: (T3 ++ (T2 ++ (T1 ++ [])))) := K31.as kr
    refine s_callP K32 (some 73) 14 #[lgV X ((X.size : Nat) : Int) q3 m3 k3, lgV X ((X.size : Nat) : Int) q1 m1 k1] _ _ (like_fn X ((X.size : Nat) : Int) q3 q1 m3 k3 m1 k1 (A' ++ [U]) (by omega)) ⟨hrow3.atF K32 (fun e he => by simp [he]), hrow1.atF K32 (fun e he => by simp [he])⟩ (fun w => by kernel_rfl) kr ?_
    intro v21 K33
    refine rp [.v, .v, .v, .l 3, .v, .v, .l 4, .v, .e (v := .int .i64 (IntKind.i64.wrap (((n' : Nat) : Int) + 1))) (v' := iN (n' + 1)) (int_eq (wrapAdd_i64 (a := n') (b := 1) (by omega))), .e (v := .bool (((m1 : Nat) : Int) == ((n' + 1 : Nat) : Int))) (v' := .bool true) (bool_eq (beq_iff_eq.2 (by omega))), .v, .v] K33 kr fun gs114 v22 K34 => ?_
    show WPs _ _ _ _ [] _ _
    refine s_nil ?_
    exact rRe [.tmp 4] [] (v := .bool true) (v' := .bool true) K34 rfl kr
  · have hB1 : appendM S a A' U = errL 2 := by unfold appendM; rw [hB, if_neg (by decide)]
    rw [hB1] at hrow1
    rw [hB1]
    refine rp [.v, .v, .v] K4 kr fun gs102 v3 K5 => ?_
    show WPs _ _ _ _ [6, 7, 8] _ _
    have K6 : St w.heap.size w v3 (((gs1 0).b, lgO S a p n' c) :: (T1 ++ [])) := K5.as kr
    refine s_alloc K6 (some 5) 26 (lgV em 0 none 0 0) kr kr kr ?_
    intro b5 v4 K7
    refine rp [.s 0, .v] K7 kr fun gs103 v5 K8 => ?_
    show WPs _ _ _ _ [] _ _
    refine s_nil ?_
    show WP _ _ _ _ _ _
    refine g_sreg [0, 1, 2, 3, 4, 5, 6, 7, 8] kr kr ?_
    refine rp [.l 1, .v] K8 kr fun gs104 v6 K9 => ?_
    show WPs _ _ _ _ [2, 3, 4, 5, 6, 7, 8] _ _
    have K10 : St w.heap.size w v6 ((b5, lgO em 0 q1 m1 k1) :: ((gs1 0).b, lgO S a p n' c) :: (T1 ++ [])) := K9.as kr
    refine s_callFT K10 (some 29) 7 #[lgV S a p n' c, .string U] (begin_fn S a p n' c A' U) (hP2.call K10.below) kr kr ?_
    rintro _ T2 v7 ⟨q2, m2, k2, hrow2, rfl⟩ K11
    have K12 : St w.heap.size w v7 ((b5, lgO em 0 q1 m1 k1) :: ((gs1 0).b, lgO S a p n' c) :: (T2 ++ (T1 ++ []))) := K11.perm (List.perm_append_comm_assoc [(b5, lgO em 0 q1 m1 k1), ((gs1 0).b, lgO S a p n' c)] T2 (T1 ++ []))
    rw [hB] at hrow2
    rw [hB]
    refine rp [.v, .v, .v] K12 kr fun gs105 v8 K13 => ?_
    show WPs _ _ _ _ [6, 7, 8] _ _
    have K14 : St w.heap.size w v8 ((b5, lgO em 0 q1 m1 k1) :: ((gs1 0).b, lgO S a p n' c) :: (T2 ++ (T1 ++ []))) := K13.as kr
    refine s_alloc K14 (some 7) 26 (lgV em 0 none 0 0) kr kr kr ?_
    intro b7 v9 K15
    refine rp [.s 0, .v] K15 kr fun gs106 v10 K16 => ?_
    show WPs _ _ _ _ [] _ _
    refine s_nil ?_
    show WP _ _ _ _ _ _
    have K17 : St w.heap.size w v10 ((b7, lgO em 0 q2 m2 k2) :: (b5, lgO em 0 q1 m1 k1) :: ((gs1 0).b, lgO S a p n' c) :: (T2 ++ (T1 ++ []))) := K16.as kr
    refine g_seq kr ?_
    refine rS [.v, .v, .v, .n, .n, .v] K17 kr fun gs107 v11 K18 => ?_
    refine g_cond_t kr kr ?_
    refine rS [.c aliveW_fn, .v, .v, .v, .v, .v, .v] K18 kr fun gs108 v12 K19 => ?_
    exact rRe [.tmp 4] [] (v := .bool true) (v' := .bool true) K19 rfl kr
  · have hB1 : appendM S a A' U = errL 1 := by unfold appendM; rw [hB, if_neg (by decide)]
    rw [hB1] at hrow1
    rw [hB1]
    refine rp [.v, .v, .v] K4 kr fun gs102 v3 K5 => ?_
    show WPs _ _ _ _ [6, 7, 8] _ _
    have K6 : St w.heap.size w v3 (((gs1 0).b, lgO S a p n' c) :: (T1 ++ [])) := K5.as kr
    refine s_alloc K6 (some 5) 26 (lgV em 0 none 0 0) kr kr kr ?_
    intro b5 v4 K7
    refine rp [.s 0, .v] K7 kr fun gs103 v5 K8 => ?_
    show WPs _ _ _ _ [] _ _
    refine s_nil ?_
    show WP _ _ _ _ _ _
    refine g_sreg [0, 1, 2, 3, 4, 5, 6, 7, 8] kr kr ?_
    refine rp [.l 1, .v] K8 kr fun gs104 v6 K9 => ?_
    show WPs _ _ _ _ [2, 3, 4, 5, 6, 7, 8] _ _
    have K10 : St w.heap.size w v6 ((b5, lgO em 0 q1 m1 k1) :: ((gs1 0).b, lgO S a p n' c) :: (T1 ++ [])) := K9.as kr
    refine s_callFT K10 (some 29) 7 #[lgV S a p n' c, .string U] (begin_fn S a p n' c A' U) (hP2.call K10.below) kr kr ?_
    rintro _ T2 v7 ⟨q2, m2, k2, hrow2, rfl⟩ K11
    have K12 : St w.heap.size w v7 ((b5, lgO em 0 q1 m1 k1) :: ((gs1 0).b, lgO S a p n' c) :: (T2 ++ (T1 ++ []))) := K11.perm (List.perm_append_comm_assoc [(b5, lgO em 0 q1 m1 k1), ((gs1 0).b, lgO S a p n' c)] T2 (T1 ++ []))
    rw [hB] at hrow2
    rw [hB]
    refine rp [.v, .v, .v] K12 kr fun gs105 v8 K13 => ?_
    show WPs _ _ _ _ [6, 7, 8] _ _
    have K14 : St w.heap.size w v8 ((b5, lgO em 0 q1 m1 k1) :: ((gs1 0).b, lgO S a p n' c) :: (T2 ++ (T1 ++ []))) := K13.as kr
    refine s_alloc K14 (some 7) 26 (lgV em 0 none 0 0) kr kr kr ?_
    intro b7 v9 K15
    refine rp [.s 0, .v] K15 kr fun gs106 v10 K16 => ?_
    show WPs _ _ _ _ [] _ _
    refine s_nil ?_
    show WP _ _ _ _ _ _
    have K17 : St w.heap.size w v10 ((b7, lgO em 0 q2 m2 k2) :: (b5, lgO em 0 q1 m1 k1) :: ((gs1 0).b, lgO S a p n' c) :: (T2 ++ (T1 ++ []))) := K16.as kr
    refine g_seq kr ?_
    refine rS [.v, .v, .v, .n, .n, .v] K17 kr fun gs107 v11 K18 => ?_
    refine g_cond_t kr kr ?_
    refine rS [.c aliveW_fn, .v, .v, .v, .v, .v, .v] K18 kr fun gs108 v12 K19 => ?_
    exact rRe [.tmp 4] [] (v := .bool true) (v' := .bool true) K19 rfl kr
end Go.Proofs.Ythpiojejhellhaa
