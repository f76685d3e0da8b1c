/-
  Texts of the proof, part 3.
-/
import Derived.ChangeArms
import Derived.ChangeSlices
import Derived.OpenShut
import Derived.Test.YtdgoaaaagpeaaaaDoorRW2

namespace Go.Proofs.YtdgoaaaagpeaaaaDoor
open Go Go.ChangeShapes Go.WideShapes Go.ChangeAt Go.RowKit
set_option linter.unusedVariables false
theorem cellsI : Tryd.prog.cellsOf 24 = 3 := kr
theorem cellsBo : Tryd.prog.cellsOf 4 = 1 := kr
theorem cellsSt : Tryd.prog.cellsOf 9 = 1 := kr
theorem cellsSl : Tryd.prog.cellsOf 22 = 1 := kr
theorem bytesI : Tryd.prog.bytesOf 24 = 48 := kr
theorem wE {H : Type} {P : Program} {t : TypeId} {ts : List TypeId} {d : DataW H} {r : List (DataW H)} : DataW.weightsEach P (t :: ts) (d :: r) = d.weights P t ++ DataW.weightsEach P ts r := by simp [DataW.weightsEach]
theorem weightsAll_mem {H : Type} {P : Program} {e : TypeId} : ∀ {l : List (DataW H)} {d : DataW H} {n : Nat}, d ∈ l → n ∈ d.weights P e → n ∈ DataW.weightsAll P e l
  | [], _, _, h, _ => nomatch h
  | x :: r, d, n, h, hn => by
    unfold DataW.weightsAll
    rcases List.mem_cons.1 h with rfl | h
    · exact List.mem_append_left _ hn
    · exact List.mem_append_right _ (weightsAll_mem h hn)
section
variable {H : Type} {enc : TypeId × Value → H} {W : World} {sp : Nat → Bool} {held : Bool}
theorem cells3_of {a : Addr} {cs : List Value} (h : W.cells? 0 a 3 = some cs) : ∃ c0 c1 c2, cs = [c0, c1, c2] ∧ W.cell? a = some c0 ∧ W.cell? (a.add 1) = some c1 ∧ W.cell? (a.add 2) = some c2 := by
  unfold World.cells? at h
  rw [if_pos (Nat.zero_le _), show List.range 3 = [0, 1, 2] from rfl] at h
  have e0 : a.add 0 = a := rfl
  simp only [List.mapM_cons, List.mapM_nil, e0] at h
  cases h0 : W.cell? a with
  | none => simp [h0] at h
  | some c0 =>
    cases h1 : W.cell? (a.add 1) with
    | none => simp [h0, h1] at h
    | some c1 =>
      cases h2 : W.cell? (a.add 2) with
      | none => simp [h0, h1, h2] at h
      | some c2 => simp [h0, h1, h2] at h; exact ⟨c0, c1, c2, h.symm, rfl, rfl, rfl⟩
theorem spot_none {a : Addr} {v : Value} (h : W.cell? a = some v) : a = ⟨a.block, a.off, none⟩ ∧ ∃ C T fz, W.heap[a.block]? = some (.cells C T fz) ∧ C[a.off]? = some v := by
  obtain ⟨b, o, sp⟩ := a
  unfold World.cell? at h
  split at h
  · rename_i C T fz hh
    cases sp with
    | none => simp at h; exact ⟨rfl, C, T, fz, hh, h⟩
    | some x => simp at h
  · cases h
theorem cell_at {b o : Nat} {C : Array Value} {T : TypeId} {fz : Nat × Nat} {v : Value} (hh : W.heap[b]? = some (.cells C T fz)) (h : W.cell? ⟨b, o, none⟩ = some v) : C[o]? = some v := by
  unfold World.cell? at h; simp only [hh] at h; simpa using h
theorem trod_item (fuel : Nat) : ∀ (cs : List Value) (x : DataW H × List MemPlace), DataW.trod enc Tryd.prog W 0 sp held fuel 24 cs = some x → (∀ n ∈ x.1.weights Tryd.prog 24, n ≤ 140737488355328) →
    ∃ (l : Bool) (s : ByteArray) (p : Option Addr) (n c : Nat) (k : Fo), cs = [.bool l, .string s, .slice p n c] ∧ s.size ≤ 140737488355328 ∧ SlAt W.heap.size W p n k := by
  induction fuel using Nat.strongRecOn with
  | _ fuel ih =>
    intro cs x h hw
    obtain ⟨xs, m, rfl, rfl, hl, hlen, hf⟩ := DataW.trod_struct Tryd.underlying24 h
    rw [cellsI] at hl
    obtain ⟨c0, c1, c2, rfl⟩ : ∃ c0 c1 c2, cs = [c0, c1, c2] := by
      match cs, hl with
      | [c0, c1, c2], _ => exact ⟨c0, c1, c2, rfl⟩
    obtain ⟨y0, y1, y2, rfl⟩ : ∃ y0 y1 y2, xs = [y0, y1, y2] := by
      match xs, hlen with
      | [y0, y1, y2], _ => exact ⟨y0, y1, y2, rfl⟩
    have g0 := hf 0 _ rfl
    have g1 := hf 1 _ rfl
    have g2 := hf 2 _ rfl
    change DataW.trod enc Tryd.prog W 0 sp held m 4 (([c0, c1, c2].drop 0).take (Tryd.prog.cellsOf 4)) = some y0 at g0
    change DataW.trod enc Tryd.prog W 0 sp held m 9 (([c0, c1, c2].drop 1).take (Tryd.prog.cellsOf 9)) = some y1 at g1
    change DataW.trod enc Tryd.prog W 0 sp held m 22 (([c0, c1, c2].drop 2).take (Tryd.prog.cellsOf 22)) = some y2 at g2
    rw [cellsBo] at g0
    rw [cellsSt] at g1
    rw [cellsSl] at g2
    obtain ⟨l, e0, e0'⟩ := DataW.trod_bool Tryd.underlying4 (show DataW.trod enc Tryd.prog W 0 sp held m 4 [c0] = some y0 from g0)
    obtain ⟨s, e1, rfl, hsz⟩ := DataW.trod_string Tryd.underlying9 (show DataW.trod enc Tryd.prog W 0 sp held m 9 [c1] = some y1 from g1)
    obtain rfl : c0 = .bool l := by simpa using e0
    obtain rfl : c1 = .string s := by simpa using e1
    have hwS : s.size ≤ 140737488355328 := by
      refine hw s.data.toList.length ?_
      show _ ∈ DataW.weights Tryd.prog 24 (.agg [y0.1, .lit (.string s.data.toList), y2.1])
      unfold DataW.weights
      rw [Tryd.underlying24]
      simp [DataW.weightsEach, DataW.weights]
    have hwL : ∀ n ∈ y2.1.weights Tryd.prog 22, n ≤ 140737488355328 := fun n hn => by
      refine hw n ?_
      show _ ∈ DataW.weights Tryd.prog 24 (.agg [y0.1, .lit (.string s.data.toList), y2.1])
      unfold DataW.weights
      rw [Tryd.underlying24]
      simp [DataW.weightsEach, hn]
    rcases DataW.trod_slice Tryd.underlying22 (show DataW.trod enc Tryd.prog W 0 sp held m 22 [c2] = some y2 from g2) with ⟨hc, hx⟩ | ⟨a, len, cap, elems, rest, n', rfl, hc, hx, _, hlc, hcm, hel, hels, _, _⟩
    · obtain rfl : c2 = .slice none 0 0 := by simpa using hc
      exact ⟨l, s, none, 0, 0, .nil, rfl, hwS, SlAt.nil _ _ _⟩
    · obtain rfl : c2 = .slice (some a) len cap := by simpa using hc
      rw [hx] at hwL
      have hwl : len * 48 ≤ 140737488355328 := by
        have h9 := hwL ((elems.length + rest.length) * 48) (by
          unfold DataW.weights; rw [Tryd.underlying22]; simp [bytesI])
        rw [hel] at h9
        exact Nat.le_trans (Nat.mul_le_mul_right _ (Nat.le_add_right _ _)) h9
      have hwe : ∀ (i : Nat) y, elems[i]? = some y → ∀ n ∈ y.1.weights Tryd.prog 24, n ≤ 140737488355328 := fun i y hy n hn => by
        refine hwL n ?_
        unfold DataW.weights; rw [Tryd.underlying22]
        refine List.mem_cons_of_mem _ (List.mem_append_left _ ?_)
        exact weightsAll_mem (List.mem_map.2 ⟨y, List.mem_of_getElem? hy, rfl⟩) hn
      have rows : ∀ q, q ≤ len → ∃ L : List X3, L.length = q ∧ AllAt W.heap.size W L ∧ ∀ (i : Nat) (z : X3), L[i]? = some z → W.cell? (a.add (i * 3)) = some (.bool z.l) ∧ W.cell? ((a.add (i * 3)).add 1) = some (.string z.s) ∧ W.cell? ((a.add (i * 3)).add 2) = some (.slice z.p z.n z.c) := by
        intro q
        induction q with
        | zero => exact fun _ => ⟨[], rfl, (fun _ h => nomatch h), fun i z h => by simp at h⟩
        | succ q ihq =>
          intro hq
          obtain ⟨L, hL, hA, hc⟩ := ihq (by omega)
          have hi := hels q (by omega)
          rw [cellsI] at hi
          have hlt : q < elems.length := by omega
          rw [List.getElem?_eq_getElem hlt] at hi
          obtain ⟨cs', hcs, ht⟩ := Option.bind_eq_some_iff.1 hi
          obtain ⟨l', s', p', m', c', k', rfl, hs', hk'⟩ := ih n' (by omega) cs' _ ht (hwe q _ (List.getElem?_eq_getElem hlt))
          obtain ⟨d0, d1, d2, e9, h0, h1, h2⟩ := cells3_of hcs
          simp only [List.cons.injEq, and_true] at e9
          obtain ⟨rfl, rfl, rfl⟩ := e9
          refine ⟨L ++ [X3.mk l' s' p' m' c' k'], by simp [hL], hA.push hk' hs', fun i z hz => ?_⟩
          by_cases hiq : i < L.length
          · rw [List.getElem?_append_left hiq] at hz; exact hc i z hz
          · rw [List.getElem?_append_right (by omega)] at hz
            have : i - L.length = 0 := by
              have := (List.getElem?_eq_some_iff.1 hz).1; simp at this; omega
            rw [this] at hz
            simp at hz; subst hz
            obtain rfl : i = q := by omega
            exact ⟨h0, h1, h2⟩
      obtain ⟨L, hL, hA, hc⟩ := rows len (Nat.le_refl _)
      refine ⟨l, s, some a, len, cap, toFo L, rfl, hwS, by rw [toFo_len, hL], by omega, ?_⟩
      cases L with
      | nil => exact .inl rfl
      | cons z0 L0 =>
        obtain ⟨f0, f1, f2⟩ := hc 0 z0 rfl
        rw [Nat.zero_mul] at f0
        have e0 : a.add 0 = a := rfl
        rw [e0] at f0
        obtain ⟨ea, C, T, fz, hh, hC0⟩ := spot_none f0
        refine .inr ⟨a.block, a.off, congrArg some ea, foAt_row (lt_of_heap hh) hh (z0 :: L0) a.off (fun i z hz => ?_) hA⟩
        obtain ⟨k0, k1, k2⟩ := hc i z hz
        rw [ea, addr_add] at k0 k1 k2
        rw [addr_add] at k1 k2
        exact ⟨cell_at hh k0, cell_at hh k1, cell_at hh k2⟩
theorem openItem {v : Value} {d : DataW H} {p : List MemPlace} {base : Nat} (hv : Value.okWide Tryd.prog W .any base 24 v) (h : DataW.Trod enc Tryd.prog W 0 sp held 24 v d p) (hw : ∀ n ∈ d.weights Tryd.prog 24, n ≤ 140737488355328) :
    ∃ (l : Bool) (s : ByteArray) (p : Option Addr) (n c : Nat) (k : Fo), v = .agg #[.bool l, .string s, .slice p n c] ∧ s.size ≤ 140737488355328 ∧ SlAt W.heap.size W p n k := by
  obtain ⟨cs, rfl, hsz, _⟩ : ∃ cs, v = .agg cs ∧ cs.size = Tryd.prog.cellsOf 24 ∧ Row.okWide Tryd.prog W .any base 24 cs := by
    simpa [Value.okWide, Tryd.underlying24] using hv
  obtain ⟨fuel, hf⟩ := h
  obtain ⟨l, s, p, n, c, k, e, h1, h2⟩ := trod_item fuel _ _ hf hw
  refine ⟨l, s, p, n, c, k, ?_, h1, h2⟩
  obtain ⟨cl⟩ := cs
  have : cl = [.bool l, .string s, .slice p n c] := e
  rw [this]
def ItemsV (w : World) (v : Value) : Prop := v = .slice none 0 0 ∨ ∃ (a : Addr) (n c : Nat) (k : Fo), v = .slice (some a) n c ∧ n ≤ c ∧ SlAt w.heap.size w (some a) n k
end
end Go.Proofs.YtdgoaaaagpeaaaaDoor
