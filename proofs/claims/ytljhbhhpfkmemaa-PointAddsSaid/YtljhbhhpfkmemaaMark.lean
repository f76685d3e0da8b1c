/-
  Bytes of a text, laid as a row that bears the run-time's mark behind its last cell: such rows grow, are written, are cut, and told as texts.
-/
import Derived.Test.YtljhbhhpfkmemaaArr
import Derived.Laws.IdiomStrings
namespace Go.Proofs.Ytljhbhhpfkmemaa
open Go Go.RowKit
set_option linter.unusedVariables false
/-- No cell of the row is frozen. -/
def Clr (fz : Nat × Nat) (cur : Array Value) : Prop := fz.2 = 0 ∨ cur.size ≤ fz.1
theorem Clr.zero (cur : Array Value) : Clr (0, 0) cur := .inl rfl
theorem Clr.no {fz : Nat × Nat} {cur : Array Value} (h : Clr fz cur) {w : World} {g k : Nat} {t : TypeId} (hg : w.heap[g]? = some (.cells cur t fz)) (hk : k < cur.size) : w.frozen? ⟨g, k, none⟩ = false := by
  obtain ⟨lo, hi⟩ := fz
  simp only [World.frozen?, hg, Bool.and_eq_false_iff, decide_eq_false_iff_not]
  rcases h with h | h
  · right; simp only at h; omega
  · left; simp only at h; omega
theorem run_storeCells_atM (P : Program) (g o : Nat) (t : TypeId) (fz : Nat × Nat) : ∀ (vs : List Value) (i : Nat) (cur : Array Value) (w : World), w.heap[g]? = some (.cells cur t fz) → o + i + vs.length ≤ cur.size → Clr fz cur → (∀ v ∈ vs, v.oneCell' = true) →
    (storeCells ⟨g, o, none⟩ vs i).run P w = .ok () (w.setRow g (cur.toList.take (o + i) ++ vs ++ cur.toList.drop (o + i + vs.length)).toArray)
  | [], i, cur, w, hg, _, _, _ => by
    simp only [storeCells, List.append_nil, List.length_nil, Nat.add_zero, List.take_append_drop, Array.toArray_toList]
    rw [setRow_self w g cur t fz hg]
    rfl
  | v :: rest, i, cur, w, hg, hl, hfz, h1 => by
    have hi : o + i < cur.size := by simp at hl; omega
    have hadd : (⟨g, o, none⟩ : Addr).add i = ⟨g, o + i, none⟩ := by unfold Addr.add; split <;> simp_all
    have hcell : w.cell? ⟨g, o + i, none⟩ = some cur[o + i] := by simp [World.cell?, hg, hi]
    have hfro : w.frozen? ⟨g, o + i, none⟩ = false := hfz.no hg hi
    have hst : (store ((⟨g, o, none⟩ : Addr).add i) v).run P w = .ok () (w.setRow g (cur.setIfInBounds (o + i) v)) := by
      rw [hadd, run_store P w _ v _ (h1 v (by simp)), hcell]
      simp [hfro, setCell_eq_setRow w g (o + i) cur t fz v hg]
    have ih := run_storeCells_atM P g o t fz rest (i + 1) (cur.setIfInBounds (o + i) v) (w.setRow g (cur.setIfInBounds (o + i) v)) (setRow_heap w g cur _ t _ hg) (by simp at hl ⊢; omega) (by unfold Clr at hfz ⊢; simpa using hfz) (fun x hx => h1 x (by simp [hx]))
    simp only [storeCells, Sem.run_bind, hst, Result.andThen_ok, ih, setRow_setRow]
    congr 3
    have e := list_seg_step cur.toList (o + i) v rest (by simp at hl ⊢; omega)
    simpa [Array.toList_setIfInBounds, Nat.add_assoc] using e
/-- 'append(s, x...)' on a row that may bear the mark. -/
theorem run_appendM {P : Program} (w : World) (t ty e : TypeId) (i : TypeInfo) (z : Value) (size bytes : Nat) (ht : P.underlying t = some (.slice e)) (hi : P.info? e = some i) (hz : i.zero = some z)
    (hsize : i.size = size) (hby : i.bytes = bytes) (hzs : z.cells.size = size) (hsz : 0 < size)
    (g cap n : Nat) (cur : Array Value) (fz : Nat × Nat) (xs : List Value) (hg : w.heap[g]? = some (.cells cur e fz)) (hfz : Clr fz cur) (hr : Rw size cur cap n xs)
    (a : Addr) (m c : Nat) (news : List Value) (hl : news.length = m * size) (hnews : ∀ j u, news[j]? = some u → w.cell? (a.add j) = some u) (h1 : ∀ u ∈ news, u.oneCell' = true)
    (h63 : n + m ≤ maxLen) (hbytes : (n + m) * bytes ≤ 140737488355328) :
    ∃ g' cap' cur' fz' w', (Builtin.append_ #[t, t] ty #[.slice (some ⟨g, 0, none⟩) n cap, .slice (some a) m c]).run P w = .ok (.slice (some ⟨g', 0, none⟩) (n + m) cap') w' ∧ (g' = g ∨ g' = w.heap.size) ∧
      w'.heap[g']? = some (.cells cur' e fz') ∧ Clr fz' cur' ∧ Rw size cur' cap' (n + m) (xs ++ news) ∧ w.grownBy w' (some g) := by
  subst hsize
  subst hby
  have hlen : (xs ++ news).length = (n + m) * i.size := by rw [List.length_append, hr.len, hl, Nat.add_mul]
  have hnc := hr.le; have hcm := hr.max; have hcs := hr.sz; have htake := hr.take
  have hsmall : n + m ≤ 9223372036854775807 := by simp only [maxLen] at h63; omega
  by_cases hroom : n + m ≤ cap
  · have hfit : n * i.size + news.length ≤ cur.size := by rw [hl, hcs, ← Nat.add_mul]; exact Nat.mul_le_mul_right _ hroom
    have hf := run_firstCells_some (P := P) w i.size m a m c news hl hnews
    have hst := run_storeCells_atM P g (n * i.size) e fz news 0 cur w hg (by simpa using hfit) hfz h1
    simp only [Nat.add_zero] at hst
    have hrr : (Builtin.append_ #[t, t] ty #[.slice (some ⟨g, 0, none⟩) n cap, .slice (some a) m c]).run P w =
        .ok (.slice (some ⟨g, 0, none⟩) (n + m) cap) (w.setRow g (cur.toList.take (n * i.size) ++ news ++ cur.toList.drop (n * i.size + news.length)).toArray) := by
      simp [Builtin.append_, run_underlying ht, sizeOf, typeInfo, hi, Builtin.lenOf, hroom, hf, Addr.add_lit, hst]
    refine ⟨g, cap, _, fz, _, hrr, .inl rfl, setRow_heap w g cur _ e fz hg, ?_, ⟨hlen, hroom, hcm, ?_, ?_⟩, ⟨rfl, rfl, rfl, by simp, fun k _ hk => setRow_other w g k _ (fun e => hk (by simp [e]))⟩⟩
    · rcases hfz with h | h
      · exact .inl h
      · right
        simp only [List.size_toArray, List.length_append, List.length_take, List.length_drop, Array.length_toList]
        omega
    · rw [htake, ← hlen]
      exact List.take_left
    · simp only [List.size_toArray, List.length_append, List.length_take, List.length_drop, Array.length_toList]
      omega
  · have holds : ∀ j u, xs[j]? = some u → w.cell? ((⟨g, 0, none⟩ : Addr).add j) = some u := fun j u hj => by
      have hjl : j < n * i.size := by rw [← hr.len]; exact (List.getElem?_eq_some_iff.1 hj).1
      rw [addr_add, Nat.zero_add]
      simp [World.cell?, hg, hr.get j hjl, hj]
    have hr2 := run_append_grow (P := P) w t ty e i z ht hi hz ⟨g, 0, none⟩ n cap xs hr.len holds a m c news hl hnews (by omega) (by omega) (growslice_fits (by omega) hbytes)
    have hge := grownCap_ge w (n + m) cap e
    have hcm2 : grownCap w (n + m) cap e ≤ maxLen := grownCap_le_maxLen w (n + m) cap e h63
    refine ⟨w.heap.size, _, _, (0, 0), _, hr2, .inr rfl, heap_alloc_new w.drew _, Clr.zero _, ⟨hlen, hge, hcm2, ?_, ?_⟩, ⟨rfl, rfl, rfl, by simp, fun k hk _ => Go.heap_alloc_old w.drew _ hk⟩⟩
    · simp only [Array.toList_append, List.append_assoc]
      rw [← List.append_assoc, ← hlen]
      exact List.take_left
    · simp only [Array.size_append, List.size_toArray, size_zeroCells, hzs, hr.len, hl, ← Nat.add_mul]
      congr 1
      omega
theorem cut2_run {P : Program} {ρ : Env} {t e : TypeId} {size bytes : Nat} (ht : sliceOf P t = some (e, size, bytes)) {x y z : Operand} {o : Oper} {kd kz : IntKind} (b n c j k : Nat) (ho : o.op = .slice t x (some z) (some y) none) (hx : ev ρ x = .slice (some ⟨b, 0, none⟩) n c)
    (hy : ev ρ y = .int kd (k : Int)) (hz : ev ρ z = .int kz (j : Int)) (hk : k ≤ c) (hj : j ≤ k) (hjc : j < c) (off m : Nat) (ho' : j * size = off) (hm : k - j = m) :
    ∀ w, (execOp (ev ρ) o).run P w = .ok (.value (.slice (some ⟨b, off, none⟩) m (c - j))) w := fun w => by
  subst ho' hm
  obtain ⟨it, z', hu, hi, hz', hsz, hby, hzs, h0⟩ := sliceOf_spec ht
  have hS : (sizeOf e).run P w = .ok size w := by simp [sizeOf, typeInfo, hi, hsz]
  unfold execOp
  simp [ho, hx, hy, hz, Instr.sliceAt, Instr.slice, Instr.sliceBounds, Instr.sliceBound, asIntOf, run_underlying hu, hS, hk, hj, addr_add, show ¬ c = j by omega]
theorem bytesStr_run {P : Program} {w : World} {t t' e : TypeId} (ht : P.underlying t = some (.slice e)) (he : P.underlying e = some (.int .u8)) (ht' : P.underlying t' = some .string) {ρ : Env} {x : Operand} {b off n cap c0 n0 : Nat} {cur : Array Value} {T : TypeId} {fz : Nat × Nat} {xs : List UInt8}
    (hx : ev ρ x = .slice (some ⟨b, off, none⟩) n cap) (hb : w.heap[b]? = some (.cells cur T fz)) (hr : Rw 1 cur c0 n0 (cellsB xs)) (hfit : off + n ≤ n0) (o : Oper) (ho : o.op = .convert t t' x) :
    (execOp (ev ρ) o).run P w = .ok (.value (.string (strB ((xs.drop off).take n)))) w := by
  have hlen : xs.length = n0 := by have := hr.len; rw [cellsB_len] at this; omega
  have hc := run_convert_bytes_arg (P := P) w t e ht he b off n cap (((xs.drop off).take n).map fun b => ((b.toNat : Nat) : Int)) (by rw [List.length_map, List.length_take, List.length_drop]; omega) (fun q hq => by
    have h2 := hr.get (off + q) (by omega)
    have h3 := cellsB_get xs (off + q) (by omega)
    have e1 : w.cell? ⟨b, off + q, none⟩ = cur[off + q]? := by simp [World.cell?, hb]
    rw [e1, h2, h3]
    have h4 : off + q < xs.length := by omega
    simp [List.getD, hq, h4]) t' ht'
  unfold execOp
  simp only [ho, hx, hc, Sem.run_bind, Result.andThen_ok]
  rw [strOfNums_map]; rfl
section
variable {P : Program} {N : Nat} {ops : Array Oper} {i : Nat} {r : List Nat} {K : Env → World → Prop} {ρ : Env} {w : World} {B : Nat} {w0 : World} {l : List (Nat × Obj)}
/-- '[]byte(s)'. -/
theorem s_strBytes (HS : St B w0 w l) (d : Option Nat) (t t' e : TypeId) (x : Operand) (s : ByteArray) (h : opk ops i ρ = some (d, true, .convert t t' x)) (hd : dOK d N = true)
    (ht : P.underlying t = some .string) (ht' : P.underlying t' = some (.slice e)) (he : P.underlying e = some (.int .u8)) (hx : ev ρ x = .string s) (hm : s.size ≤ maxLen)
    (kk : ∀ b cap cur fz w', St B w0 w' ((b, .cells cur e fz) :: l) → Clr fz cur → Rw 1 cur cap s.size (cellsB (tl s)) → WPs P N ops K r (updO ρ d (.slice (some ⟨b, 0, none⟩) s.size cap)) w') : WPs P N ops K (i :: r) ρ w := by
  refine s_genw d _ (.slice (some ⟨w.drew.heap.size, 0, none⟩) s.size (grownCap w s.size 0 e)) _ h hd (fun o ho => ?_) (kk w.drew.heap.size (grownCap w s.size 0 e) _ _ _ (HS.drew.alloc (.cells (bytesRow s (grownCap w s.size 0 e)) e ((bytesRow s (grownCap w s.size 0 e)).size, (bytesRow s (grownCap w s.size 0 e)).size + 1))) (.inr (Nat.le_refl _)) ?_)
  · have hc := run_bytes_of_string (P := P) w t t' e s ht ht' he
    unfold execOp
    simp only [ho, hx, hc, Sem.run_bind, Result.andThen_ok]
    rfl
  · have hge := grownCap_ge w s.size 0 e
    have hcm := grownCap_le_maxLen w s.size 0 e hm
    have hsz : s.data.size = s.size := rfl
    refine ⟨by rw [cellsB_len, tl_len]; omega, hge, hcm, ?_, ?_⟩
    · have e1 : (bytesRow s (grownCap w s.size 0 e)).toList = cellsB (tl s) ++ List.replicate (grownCap w s.size 0 e - s.size) (.int .u8 0) := by
        unfold bytesRow cellsB tl; simp
      rw [e1, List.take_append_of_le_length (by rw [cellsB_len, tl_len]; omega), List.take_of_length_le (by rw [cellsB_len, tl_len]; omega)]
    · unfold bytesRow; simp; omega
/-- 'append(s, x...)' on a row that may bear the mark. -/
theorem s_appendM (HS : St B w0 w l) (d : Option Nat) (t e : TypeId) (size bytes : Nat) (s x : Operand) (j k b bx n m cap c : Nat) (cur CX : Array Value) (fzs : Nat × Nat) (TX : TypeId) (fz : Nat × Nat) (xs news : List Value) (l' : Nat → Array Value → Nat × Nat → List (Nat × Obj))
    (h : opk ops i ρ = some (d, true, appendOp t s x)) (hd : dOK d N = true) (ht : sliceOf P t = some (e, size, bytes))
    (hs : ev ρ s = .slice (some ⟨b, 0, none⟩) n cap) (hj : l[j]? = some (b, .cells cur e fzs)) (hfz : Clr fzs cur) (hr : Rw size cur cap n xs)
    (hx : ev ρ x = .slice (some ⟨bx, 0, none⟩) m c) (hk : l[k]? = some (bx, .cells CX TX fz)) (hn : CX.toList.take (m * size) = news) (hl : news.length = m * size) (h1 : ∀ u ∈ news, u.oneCell' = true)
    (hb : (n + m) * bytes ≤ 140737488355328) (hm : n + m ≤ maxLen)
    (hl' : ∀ b' cur' fz', l.set j (b', .cells cur' e fz') = l' b' cur' fz')
    (kk : ∀ b' cap' cur' fz' w', St B w0 w' (l' b' cur' fz') → Clr fz' cur' → Rw size cur' cap' (n + m) (xs ++ news) → WPs P N ops K r (updO ρ d (.slice (some ⟨b', 0, none⟩) (n + m) cap')) w') : WPs P N ops K (i :: r) ρ w := by
  obtain ⟨o, ho, rfl, hw, hop⟩ := opk_some h
  obtain ⟨it, z, hu, hi, hz, hsz, hby, hzs, h0⟩ := sliceOf_spec ht
  have hnews : ∀ q u, news[q]? = some u → w.cell? ((⟨bx, 0, none⟩ : Addr).add q) = some u := fun q u hq => by
    have hql : q < m * size := by rw [← hl]; exact (List.getElem?_eq_some_iff.1 hq).1
    rw [← hn, List.getElem?_take, if_pos hql, Array.getElem?_toList] at hq
    rw [addr_add, Nat.zero_add]
    simp [World.cell?, HS.get k hk, hq]
  obtain ⟨g', cap', cur', fz', w', hrun, hgb, hg, hclr, hrw, hgr⟩ := run_appendM (P := P) w t o.type e it z size bytes hu hi hz hsz hby hzs h0 b cap n cur fzs xs (HS.get j hj) hfz hr ⟨bx, 0, none⟩ m c news hl hnews h1 hm hb
  refine WPo.run ho hw fun a ha => ?_
  have hex : (execOp (ev ρ) o).run P w = .ok (.value (.slice (some ⟨g', 0, none⟩) (n + m) cap')) w' := by
    unfold execOp
    simp only [hop, appendOp, resolve, invoke, builtin, Sem.run_bind, Sem.run_pure, Result.andThen_ok, List.map_toArray, List.map_cons, List.map_nil, hs, hx, hrun]
  rw [hex, Oper.upon_value]
  have HS' := HS.grown j hj hgr hgb hg
  rw [hl'] at HS'
  exact ⟨_, ha.put _ (dOK_lt hd) _, kk g' cap' cur' fz' w' HS' hclr hrw⟩
/-- A store of one cell into a row that may bear the mark. -/
theorem s_storeM (HS : St B w0 w l) (j : Nat) (l' : List (Nat × Obj)) (t : TypeId) (x y : Operand) (b off : Nat) (C C' : Array Value) (T : TypeId) (fz : Nat × Nat) (v : Value)
    (h : opk ops i ρ = some (none, true, .store t x y)) (hx : ev ρ x = .pointer (some ⟨b, off, none⟩)) (hy : ev ρ y = v) (hk : l[j]? = some (b, .cells C T fz)) (hfz : Clr fz C) (hi : (P.info? t).map (·.size) = some v.cells.size) (h1 : v.cells.all (·.oneCell') = true)
    (hs : off + v.cells.size ≤ C.size) (hC : (C.toList.take off ++ v.cells.toList ++ C.toList.drop (off + v.cells.size)).toArray = C') (hl : l.set j (b, .cells C' T fz) = l')
    (kk : ∀ w', St B w0 w' l' → Clr fz C' → WPs P N ops K r ρ w') : WPs P N ops K (i :: r) ρ w := by
  subst hl
  have hcl : Clr fz C' := by
    rcases hfz with q | q
    · exact .inl q
    · right; rw [← hC]; simp only [List.size_toArray, List.length_append, List.length_take, List.length_drop, Array.length_toList]; omega
  refine o_genS none _ (w.setRow b C') h rfl (fun o ho => ?_) (kk _ (HS.store j hk) hcl)
  have hc := run_storeCells_atM P b off T fz v.cells.toList 0 C w (HS.get j hk) (by simpa using hs) hfz (fun x hx => (Array.all_eq_true_iff_forall_mem.1 h1) x (by simpa using hx))
  have hst : (storeVar t ⟨b, off, none⟩ v).run P w = .ok () (w.setRow b C') := by
    cases hq : P.info? t with
    | none => simp [hq] at hi
    | some it =>
      have hsz : v.cells.size = it.size := by simp [hq] at hi; omega
      rw [← hC]
      simp [storeVar, sizeOf, typeInfo, hq, hsz] at hc ⊢
      exact hc
  simp [execOp, ho, Instr.storeAt, Instr.sureAddr, hx, hy, hst]
/-- 'string(b)', of a part of a row. -/
theorem s_bytesCut (HS : St B w0 w l) (d : Option Nat) (t t' e : TypeId) (x : Operand) (j b off n cap c0 n0 : Nat) (cur : Array Value) (T : TypeId) (fz : Nat × Nat) (xs : List UInt8) (h : opk ops i ρ = some (d, true, .convert t t' x)) (hd : dOK d N = true)
    (ht : P.underlying t = some (.slice e)) (he : P.underlying e = some (.int .u8)) (ht' : P.underlying t' = some .string)
    (hx : ev ρ x = .slice (some ⟨b, off, none⟩) n cap) (hj : l[j]? = some (b, .cells cur T fz)) (hr : Rw 1 cur c0 n0 (cellsB xs)) (hfit : off + n ≤ n0)
    (kk : WPs P N ops K r (updO ρ d (.string (strB ((xs.drop off).take n)))) w) : WPs P N ops K (i :: r) ρ w :=
  s_genw d _ _ w h hd (fun o ho => bytesStr_run ht he ht' hx (HS.get j hj) hr hfit o ho) kk
end
namespace D2
section
variable {P : Program} {ops : Array Oper} {R : (Nat → Gh) → Env} {i : Nat} {d : Option Nat}
variable {E : (Nat → Bool) → (Nat → Gh) → List Ent} {F : (Nat → Bool) → (Nat → Gh) → Prop} {B : Nat} {w0 : World}
theorem gv_bytesCut (k : Nat) (t t' e : TypeId) (x : Operand) (b : (Nat → Gh) → Nat) (off n cap c0 n0 : Nat) (cur : Array Value) (T : TypeId) (fz : Nat × Nat) (xs : List UInt8) (hs : ∀ L g w, Pre B w0 E F L g w → Pre B w0 E F (put1 L i) g w)
    (h : ∀ g, opk ops i (R g) = some (d, true, .convert t t' x)) (ht : P.underlying t = some (.slice e)) (he : P.underlying e = some (.int .u8)) (ht' : P.underlying t' = some .string)
    (hx : ∀ g, ev (R g) x = .slice (some ⟨b g, off, none⟩) n cap) (hj : ∀ L g, Now ops i L → (E L g)[k]? = some (true, (b g, .cells cur T fz))) (hr : Rw 1 cur c0 n0 (cellsB xs)) (hfit : off + n ≤ n0) :
    Gives P ops R (Pre B w0 E F) i d (fun _ => .string (strB ((xs.drop off).take n))) := gives_of fun L g w hp hN => by
  obtain ⟨o, ho, hd, hw, hop⟩ := opk_some (h g)
  have e2 := bytesStr_run ht he ht' (hx g) (hp.1.get k (hj L g hN)) hr hfit o hop
  exact ⟨o, ho, hd, .inr ⟨hw, by rw [e2]; exact ⟨g i, rfl, by rw [setN_self]; exact hs _ _ _ hp⟩⟩⟩
end
end D2
end Go.Proofs.Ytljhbhhpfkmemaa
