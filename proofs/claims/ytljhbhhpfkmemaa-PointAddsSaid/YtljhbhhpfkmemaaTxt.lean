/-
  Rows of texts; append to no row; texts compared; unsafe texts; a row that the caller laid.
-/
import Derived.Test.YtljhbhhpfkmemaaMark
import Derived.Lib.UnsafeStr
namespace Go.Proofs.Ytljhbhhpfkmemaa
open Go Go.RowKit
set_option linter.unusedVariables false
/-- Texts as cells. -/
def cellsS (l : List ByteArray) : List Value := l.map Value.string
theorem cellsS_len (l : List ByteArray) : (cellsS l).length = l.length := by unfold cellsS; simp
theorem cellsS_one (l : List ByteArray) : ∀ u ∈ cellsS l, u.oneCell' = true := by
  intro u hu; unfold cellsS at hu; obtain ⟨d, _, rfl⟩ := List.mem_map.1 hu; rfl
theorem cellsS_append (a b : List ByteArray) : cellsS (a ++ b) = cellsS a ++ cellsS b := by unfold cellsS; simp
theorem cellsS_get (l : List ByteArray) (i : Nat) (hi : i < l.length) : (cellsS l)[i]? = some (.string (l.getD i .empty)) := by
  unfold cellsS; simp [hi]
theorem Rw.atS {cur : Array Value} {cap n : Nat} {l : List ByteArray} (h : Rw 1 cur cap n (cellsS l)) {i : Nat} (hi : i < n) (hn : n = l.length) : cur[0 + i * 1]? = some (.string (l.getD i .empty)) :=
  h.at1 hi (cellsS_get l i (by omega))
theorem toList_eq (s : ByteArray) : s.toList = tl s := ByteArray.toList_eq s
theorem str_same (a b : ByteArray) (h : a = b) : (a.toList == b.toList) = true := by subst h; exact str_self a
theorem str_other (a b : ByteArray) (h : ¬ a = b) : (a.toList == b.toList) = false := by
  rw [beq_eq_false_iff_ne]
  intro e
  rw [toList_eq, toList_eq] at e
  exact h (by rw [← strB_tl a, e, strB_tl])
theorem tl_inj {a b : ByteArray} (h : tl a = tl b) : a = b := by rw [← strB_tl a, h, strB_tl]
/-- A row of texts, or none: what a value is. -/
def RetT (T : Nat) (S : List ByteArray → Nat → Prop) : Nat → Value → World → Prop := fun B v w' =>
  ∃ (rs : List ByteArray) (p : Nat), S rs p ∧ ((rs = [] ∧ v = .tuple #[.slice none 0 0, .int .i64 ((p : Nat) : Int)]) ∨
    ∃ (b cap n : Nat) (cur : Array Value), v = .tuple #[.slice (some ⟨b, 0, none⟩) n cap, .int .i64 ((p : Nat) : Int)] ∧ B ≤ b ∧ w'.heap[b]? = some (.cells cur T (0, 0)) ∧ n = rs.length ∧ Rw 1 cur cap n (cellsS rs))
section
variable {P : Program} {N : Nat} {ops : Array Oper} {i : Nat} {r : List Nat} {K : Env → World → Prop} {ρ : Env} {w : World} {B : Nat} {w0 : World} {l : List (Nat × Obj)}
theorem s_callT (HS : St B w0 w l) (d : Option Nat) (f : Nat) (args : Array Value) (pre : World → Prop) (T : Nat) (S : List ByteArray → Nat → Prop) (hc : FnR P f args pre (RetT T S)) (hp : pre w)
    (h : opv P ops i ρ w = some (d, true, .ok (.enter f args) w)) (hd : dOK d N = true)
    (k0 : ∀ p w', St B w0 w' l → S [] p → WPs P N ops K r (updO ρ d (.tuple #[.slice none 0 0, .int .i64 ((p : Nat) : Int)])) w')
    (kk : ∀ b cap n cur rs p w', St B w0 w' ((b, .cells cur T (0, 0)) :: l) → S rs p → n = rs.length → Rw 1 cur cap n (cellsS rs) → WPs P N ops K r (updO ρ d (.tuple #[.slice (some ⟨b, 0, none⟩) n cap, .int .i64 ((p : Nat) : Int)])) w') : WPs P N ops K (i :: r) ρ w := by
  obtain ⟨o, ho, rfl, hw, hr⟩ := opv_some h
  refine WPo.run ho hw fun a ha => ?_
  rw [hr, Oper.upon_enter]
  refine (hc w hp).mono ?_
  rintro e w' ⟨v, rfl, hb, rs, p, hS, ⟨rfl, rfl⟩ | ⟨b, cap, n, cur, rfl, hle, hh, hn, hr⟩⟩
  · exact ⟨_, ha.put _ (dOK_lt hd) _, k0 p w' (HS.call hb) hS⟩
  · exact ⟨_, ha.put _ (dOK_lt hd) _, kk b cap n cur rs p w' (HS.add hb hle hh) hS hn hr⟩
/-- 'append(nil, x...)'. -/
theorem s_appendNil (HS : St B w0 w l) (d : Option Nat) (t e : TypeId) (size bytes : Nat) (s x : Operand) (k bx m c : Nat) (CX : Array Value) (TX : TypeId) (fz : Nat × Nat) (news : List Value)
    (h : opk ops i ρ = some (d, true, appendOp t s x)) (hd : dOK d N = true) (ht : sliceOf P t = some (e, size, bytes))
    (hs : ev ρ s = .slice none 0 0) (hx : ev ρ x = .slice (some ⟨bx, 0, none⟩) m c) (hk : l[k]? = some (bx, .cells CX TX fz)) (hn : CX.toList.take (m * size) = news) (hl : news.length = m * size) (h1 : ∀ u ∈ news, u.oneCell' = true)
    (h0m : 0 < m) (hb : m * bytes ≤ 140737488355328) (hm : m ≤ maxLen)
    (kk : ∀ b' cap' cur' w', St B w0 w' ((b', .cells cur' e (0, 0)) :: l) → Rw size cur' cap' m news → WPs P N ops K r (updO ρ d (.slice (some ⟨b', 0, none⟩) m cap')) w') : WPs P N ops K (i :: r) ρ w := by
  obtain ⟨o, ho, rfl, hw, hop⟩ := opk_some h
  obtain ⟨it, z, hu, hi, hz, hsz, hby, hzs, h0⟩ := sliceOf_spec ht
  have hnews : ∀ q u, news[q]? = some u → w.cell? ((⟨bx, 0, none⟩ : Addr).add q) = some u := fun q u hq => by
    have hql : q < m * size := by rw [← hl]; exact (List.getElem?_eq_some_iff.1 hq).1
    rw [← hn, List.getElem?_take, if_pos hql, Array.getElem?_toList] at hq
    rw [addr_add, Nat.zero_add]
    simp [World.cell?, HS.get k hk, hq]
  obtain ⟨v', w', hrun, hown, hgr, hnil, hblk⟩ := run_append_own_at (P := P) w B t o.type e it z size bytes hu hi hz hsz hby hzs h0 (.slice none 0 0) 0 [] (World.ownsRow_nil w B e size) ⟨bx, 0, none⟩ m c news hl hnews h1 (by omega) (by rw [Nat.zero_add]; exact hb) HS.le
  have hown' := hown
  rcases hown'.2 with ⟨hv, _⟩ | ⟨g, cap', cur', rfl, hbg, hg, hnc, hcm, hcs, htk⟩
  · have := (hnil.1 hv).2; omega
  · have hgb : g = w.heap.size := by
      rcases hblk with hq | hq
      · simp [Value.ownBlock] at hq
      · injection hq
    have hbel : Below w.heap.size w w' := (Below.refl _ w).grown hgr (Nat.le_refl _) (fun k hk => by simp [Value.ownBlock] at hk)
    have HS' := HS.add hbel (by omega) hg
    refine WPo.run ho hw fun a ha => ?_
    have hex : (execOp (ev ρ) o).run P w = .ok (.value (.slice (some ⟨g, 0, none⟩) (0 + m) cap')) w' := by
      unfold execOp
      simp only [hop, appendOp, resolve, invoke, builtin, Sem.run_bind, Sem.run_pure, Result.andThen_ok, List.map_toArray, List.map_cons, List.map_nil, hs, hx, hrun]
    rw [hex, Oper.upon_value, Nat.zero_add]
    rw [Nat.zero_add] at hnc htk
    have hr : Rw size cur' cap' m news := ⟨hl, hnc, hcm, htk, hcs⟩
    exact ⟨_, ha.put _ (dOK_lt hd) _, kk g cap' cur' w' HS' hr⟩
def unsafeOp (t t' : TypeId) (x y : Operand) : Op := .call { callee := .builtin .unsafeString, args := #[x, y], argTypes := #[t, t'] }
/-- 'unsafe.String(&b[0], len(b))': the bytes of a row of the call's own, which is laid aside. -/
theorem s_unsafeStr {b : Nat} {C : Array Value} {T : TypeId} (HS : St B w0 w [(b, .cells C T (0, 0))]) (d : Option Nat) (t t' e : TypeId) (x y : Operand) (n cap : Nat) (xs : List UInt8)
    (h : opk ops i ρ = some (d, true, unsafeOp t t' x y)) (hd : dOK d N = true) (ht : P.underlying t = some (.pointer e)) (hc : P.cellsOf e = 1) (hT : T = e)
    (hx : ev ρ x = .pointer (some ⟨b, 0, none⟩)) (hy : ev ρ y = .int .i64 (n : Int)) (hr : Rw 1 C cap n (cellsB xs)) (h0 : 0 < n) (hm : n ≤ 9223372036854775807)
    (kk : ∀ w', St B w0 w' [] → WPs P N ops K r (updO ρ d (.string (strB xs))) w') : WPs P N ops K (i :: r) ρ w := by
  obtain ⟨o, ho, rfl, hw, hop⟩ := opk_some h
  subst hT
  have hb := HS.get 0 rfl
  have hB := HS.ge 0 rfl
  have hlen : xs.length = n := by have := hr.len; rw [cellsB_len] at this; omega
  have hsz := hr.sz
  have hle := hr.le
  have hrun := Lib.run_unsafeString_row (P := P) w t t' o.type T ht hc b C.size (by unfold World.shape?; rw [hb]) xs (by intro e; subst e; simp at hlen; omega) (by omega) (by omega) (fun j u hj => by
    have hjl : j < xs.length := (List.getElem?_eq_some_iff.1 hj).1
    have h2 := hr.get j (by omega)
    rw [addr_add, Nat.zero_add]
    have h3 : (cellsB xs)[j]? = some (.int .u8 ((u.toNat : Nat) : Int)) := by unfold cellsB; rw [List.getElem?_map, hj]; rfl
    simp [World.cell?, hb, h2, h3])
  rw [hlen] at hrun
  refine WPo.run ho hw fun a ha => ?_
  have hex : (execOp (ev ρ) o).run P w = .ok (.value (.string (strB xs))) (w.freeze ⟨b, 0, none⟩ n) := by
    unfold execOp
    simp only [hop, unsafeOp, resolve, invoke, builtin, Sem.run_bind, Sem.run_pure, Result.andThen_ok, List.map_toArray, List.map_cons, List.map_nil, hx, hy, hrun]
    rfl
  rw [hex, Oper.upon_value]
  have hbel := Lib.below_freeze HS.below (p := ⟨b, 0, none⟩) hB n
  refine ⟨_, ha.put _ (dOK_lt hd) _, kk _ ⟨hbel, Nat.le_trans HS.le ?_, (fun e he => nomatch he), List.nodup_nil⟩⟩
  unfold World.freeze
  split <;> simp
/-- A row that the caller laid: parts, places, loads. -/
theorem cutG_run {t e : TypeId} {size bytes : Nat} (ht : sliceOf P t = some (e, size, bytes)) {x y : Operand} {o : Oper} {kd : IntKind} (a : Addr) (n c k : Nat) (ho : o.op = .slice t x none (some y) none) (hx : ev ρ x = .slice (some a) n c) (hy : ev ρ y = .int kd (k : Int)) (hk : k ≤ c) :
    ∀ w, (execOp (ev ρ) o).run P w = .ok (.value (.slice (some a) k c)) w := fun w => by
  obtain ⟨it, z, hu, hi, hz, hsz, hby, hzs, h0⟩ := sliceOf_spec ht
  have hS : (sizeOf e).run P w = .ok size w := by simp [sizeOf, typeInfo, hi, hsz]
  have ha : a.add 0 = a := rfl
  unfold execOp
  simp [ho, hx, hy, Instr.sliceAt, Instr.slice, Instr.sliceBounds, Instr.sliceBound, asIntOf, run_underlying hu, hS, hk, ha]
theorem idxG_run {t e : TypeId} {bytes : Nat} (ht : sliceOf P t = some (e, 1, bytes)) {x y : Operand} {o : Oper} {kd : IntKind} (a : Addr) (n c : Nat) (k : Nat) (ho : o.op = .indexAddr t x y) (hx : ev ρ x = .slice (some a) n c) (hy : ev ρ y = .int kd (k : Int)) (hk : k < n) :
    ∀ w, (execOp (ev ρ) o).run P w = .ok (.value (.pointer (some (a.add k)))) w := fun w => by
  obtain ⟨it, z, hu, hi, hz, hsz, hby, hzs, h0⟩ := sliceOf_spec ht
  have hS : (sizeOf e).run P w = .ok 1 w := by simp [sizeOf, typeInfo, hi, hsz]
  have h1 : (0 : Int) ≤ (k : Int) ∧ (k : Int) < (n : Int) := by omega
  simp [execOp, ho, hx, hy, Instr.indexAt, asIntOf, run_underlying hu, hS, h1, hk]
theorem s_loadG (HS : St B w0 w l) (hB : B = w0.heap.size) (d : Option Nat) (t : TypeId) (x : Operand) (p : Addr) (v : Value) (h : opk ops i ρ = some (d, true, .load t x)) (hd : dOK d N = true)
    (ht : oneCell P t = true) (hx : ev ρ x = .pointer (some p)) (hc : w0.cell? p = some v) (kk : WPs P N ops K r (updO ρ d v) w) : WPs P N ops K (i :: r) ρ w :=
  s_genw d _ _ w h hd (fun o ho => by
    obtain ⟨q, hu, hq, hi⟩ := oneCell_spec ht
    have hcw : w.cell? p = some v := by
      rw [← hc]
      unfold World.cell? at hc ⊢
      have hlt : p.block < B := by
        rw [hB]
        cases hb : w0.heap[p.block]? with
        | none => rw [hb] at hc; cases hc
        | some _ => exact lt_of_heap hb
      rw [HS.below.block _ hlt]
    have hA : (isAgg t).run P w = .ok false w := by cases q <;> simp_all [isAgg, run_underlying hu]
    have hL : (load p).run P w = .ok v w := by rw [run_load, hcw]
    have hV : (loadVar t p).run P w = .ok v w := by simp only [loadVar, Sem.run_bind, hA, Result.andThen_ok, Bool.false_eq_true, if_false, hL]
    simp [execOp, ho, Instr.loadAt, Instr.sureAddr, hx, hV]) kk
end
end Go.Proofs.Ytljhbhhpfkmemaa
