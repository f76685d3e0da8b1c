/-
  Texts of the proof, part 5.
-/
import Derived.Test.YtlhfgbjhngkicaaGreatDoorProg
import Derived.Test.YtlhfgbjhngkicaaGreatDoorTG2
import Derived.Test.YtlhfgbjhngkicaaGreatDoorTG3
import Derived.Test.YtlhfgbjhngkicaaGreatDoorTG4

namespace Go.Proofs.YtlhfgbjhngkicaaGreatDoor
open Go Go.RowKit
set_option linter.unusedVariables false
abbrev RiseP (L : List Pr) : Prop := L.Pairwise fun a b => lexB (tl a.1) (tl b.1) = true
theorem lexB_tri : ∀ {x y : List UInt8}, lexB x y = false → x ≠ y → lexB y x = true
  | [], [], _, h => absurd rfl h
  | [], _ :: _, h, _ => by simp [lexB] at h
  | _ :: _, [], _, _ => rfl
  | a :: x, b :: y, h, hne => by
    unfold lexB at h ⊢
    by_cases e : a = b
    · subst e
      have hlt : ¬ a.toNat < a.toNat := Nat.lt_irrefl _
      simp only [Nat.lt_irrefl, if_false, if_true] at h ⊢
      exact lexB_tri h fun e => hne (by rw [e])
    · have hn : a.toNat ≠ b.toNat := fun q => e (UInt8.toNat_inj.1 q)
      by_cases c : b.toNat < a.toNat
      · rw [if_pos c]
      · have : a.toNat < b.toNat := by omega
        rw [if_pos this] at h; cases h
theorem lexB_ne {k l : ByteArray} (h : lexB (tl k) (tl l) = true) : k ≠ l := fun e => by rw [e, lexB_self] at h; cases h
theorem posM_cons (k : ByteArray) (x : Pr) (L : List Pr) : posM k (x :: L) = if lexB (tl x.1) (tl k) = true then posM k L + 1 else 0 := by
  unfold posM
  rw [List.takeWhile_cons]
  split <;> rfl
theorem hasM_cons (k : ByteArray) (x : Pr) (L : List Pr) : hasM k (x :: L) = if lexB (tl x.1) (tl k) = true then hasM k L else decide (x.1 = k) := by
  unfold hasM
  rw [posM_cons]
  by_cases c : lexB (tl x.1) (tl k) = true
  · rw [if_pos c, if_pos c, List.getElem?_cons_succ]
  · rw [if_neg c, if_neg c]
    show decide (tl x.1 = tl k) = decide (x.1 = k)
    exact decide_eq_decide.2 ⟨tl_inj, fun h => by rw [h]⟩
theorem posM_le (k : ByteArray) : ∀ L : List Pr, posM k L ≤ L.length
  | [] => Nat.le_refl _
  | x :: L => by rw [posM_cons]; split; exact Nat.succ_le_succ (posM_le k L); exact Nat.zero_le _
theorem hasM_lt {k : ByteArray} {L : List Pr} (h : hasM k L = true) : posM k L < L.length := by
  unfold hasM at h
  split at h
  · rename_i x hx; exact (List.getElem?_eq_some_iff.1 hx).1
  · cases h
theorem hasM_at {k : ByteArray} {L : List Pr} (h : hasM k L = true) : ∃ v, L[posM k L]? = some (k, v) := by
  unfold hasM at h
  split at h
  · rename_i x hx
    have := tl_inj (of_decide_eq_true h)
    exact ⟨x.2, by rw [hx, ← this]⟩
  · cases h
/-- One more, in its place. -/
def insM (k v : ByteArray) : List Pr → List Pr
  | [] => [(k, v)]
  | x :: L => if lexB (tl x.1) (tl k) = true then x :: insM k v L else if x.1 = k then (k, v) :: L else (k, v) :: x :: L
theorem ins_cons (k v : ByteArray) (x : Pr) (L : List Pr) : insM k v (x :: L) = if lexB (tl x.1) (tl k) = true then x :: insM k v L else if x.1 = k then (k, v) :: L else (k, v) :: x :: L := rfl
theorem ins_found {k v : ByteArray} : ∀ {L : List Pr}, hasM k L = true → L.set (posM k L) (k, v) = insM k v L
  | [], h => by cases h
  | x :: L, h => by
    rw [hasM_cons] at h
    rw [posM_cons]
    unfold insM
    by_cases c : lexB (tl x.1) (tl k) = true
    · rw [if_pos c] at h ⊢
      rw [if_pos c, List.set_cons_succ, ins_found h]
    · rw [if_neg c] at h ⊢
      rw [if_neg c, if_pos (of_decide_eq_true h), List.set_cons_zero]
theorem ins_new {k v : ByteArray} : ∀ {L : List Pr}, hasM k L = false → L.take (posM k L) ++ (k, v) :: L.drop (posM k L) = insM k v L
  | [], _ => rfl
  | x :: L, h => by
    rw [hasM_cons] at h
    rw [posM_cons]
    unfold insM
    by_cases c : lexB (tl x.1) (tl k) = true
    · rw [if_pos c] at h ⊢
      rw [if_pos c, List.take_succ_cons, List.drop_succ_cons, List.cons_append, ins_new h]
    · rw [if_neg c] at h ⊢
      rw [if_neg c, if_neg (of_decide_eq_false h)]; rfl
theorem none_above {k : ByteArray} {x : Pr} {L : List Pr} (hr : RiseP (x :: L)) (hx : lexB (tl x.1) (tl k) = false) : ∀ y ∈ L, y.1 ≠ k := fun y hy e => by
  have h := (List.pairwise_cons.1 hr).1 y hy
  rw [e] at h
  rw [h] at hx; cases hx
theorem del_none {k : ByteArray} {L : List Pr} (h : ∀ y ∈ L, y.1 ≠ k) : delP k L = L := by
  unfold delP
  rw [List.filter_eq_self]
  intro y hy; simp [h y hy]
theorem del_cons (k : ByteArray) (x : Pr) (L : List Pr) : delP k (x :: L) = if x.1 = k then delP k L else x :: delP k L := by
  unfold delP; rw [List.filter_cons]; by_cases h : x.1 = k <;> simp [h]
theorem del_found {k : ByteArray} : ∀ {L : List Pr}, RiseP L → hasM k L = true → L.take (posM k L) ++ L.drop (posM k L + 1) = delP k L
  | [], _, h => by cases h
  | x :: L, hr, h => by
    rw [hasM_cons] at h
    rw [posM_cons, del_cons]
    by_cases c : lexB (tl x.1) (tl k) = true
    · rw [if_pos c] at h ⊢
      rw [if_neg (lexB_ne c), List.take_succ_cons, List.drop_succ_cons, List.cons_append, del_found (List.pairwise_cons.1 hr).2 h]
    · rw [if_neg c] at h ⊢
      rw [if_pos (of_decide_eq_true h), del_none (none_above hr (by simpa using c))]; rfl
theorem del_not {k : ByteArray} : ∀ {L : List Pr}, RiseP L → hasM k L = false → delP k L = L
  | [], _, _ => rfl
  | x :: L, hr, h => by
    rw [hasM_cons] at h
    rw [del_cons]
    by_cases c : lexB (tl x.1) (tl k) = true
    · rw [if_pos c] at h
      rw [if_neg (lexB_ne c), del_not (List.pairwise_cons.1 hr).2 h]
    · rw [if_neg c] at h
      rw [if_neg (of_decide_eq_false h), del_none (none_above hr (by simpa using c))]
theorem get_none {k : ByteArray} : ∀ {L : List Pr}, (∀ y ∈ L, y.1 ≠ k) → getP k L = (⟨#[]⟩, false)
  | [], _ => rfl
  | x :: L, h => by
    unfold getP
    rw [if_neg (h x (List.mem_cons_self ..)), get_none fun y hy => h y (List.mem_cons_of_mem _ hy)]
theorem get_has (k : ByteArray) : ∀ {L : List Pr}, RiseP L → (getP k L).2 = hasM k L
  | [], _ => rfl
  | x :: L, hr => by
    rw [hasM_cons]
    unfold getP
    by_cases c : lexB (tl x.1) (tl k) = true
    · rw [if_neg (lexB_ne c), if_pos c, get_has k (List.pairwise_cons.1 hr).2]
    · rw [if_neg c]
      by_cases e : x.1 = k
      · rw [if_pos e, decide_eq_true e]
      · rw [if_neg e, get_none (none_above hr (by simpa using c)), decide_eq_false e]
theorem get_mem {p : Pr} : ∀ {L : List Pr}, RiseP L → p ∈ L → getP p.1 L = (p.2, true)
  | [], _, h => nomatch h
  | x :: L, hr, h => by
    unfold getP
    rcases List.mem_cons.1 h with rfl | h
    · rw [if_pos rfl]
    · rw [if_neg (lexB_ne ((List.pairwise_cons.1 hr).1 p h)), get_mem (List.pairwise_cons.1 hr).2 h]
theorem mem_ins {k v : ByteArray} {y : Pr} : ∀ {L : List Pr}, y ∈ insM k v L → y = (k, v) ∨ y ∈ L
  | [], h => .inl (List.mem_singleton.1 h)
  | x :: L, h => by
    unfold insM at h
    split at h
    · rcases List.mem_cons.1 h with rfl | h
      · exact .inr (List.mem_cons_self ..)
      · exact (mem_ins h).imp id fun q => List.mem_cons_of_mem _ q
    · split at h
      · rcases List.mem_cons.1 h with rfl | h
        · exact .inl rfl
        · exact .inr (List.mem_cons_of_mem _ h)
      · rcases List.mem_cons.1 h with rfl | h
        · exact .inl rfl
        · exact .inr h
theorem ins_mem (k v : ByteArray) : ∀ L : List Pr, (k, v) ∈ insM k v L
  | [] => List.mem_cons_self ..
  | x :: L => by
    unfold insM
    split
    · exact List.mem_cons_of_mem _ (ins_mem k v L)
    · split <;> exact List.mem_cons_self ..
theorem ins_old {k v : ByteArray} {y : Pr} (hk : y.1 ≠ k) : ∀ {L : List Pr}, y ∈ L → y ∈ insM k v L
  | [], h => nomatch h
  | x :: L, h => by
    unfold insM
    split
    · rcases List.mem_cons.1 h with rfl | h
      · exact List.mem_cons_self ..
      · exact List.mem_cons_of_mem _ (ins_old hk h)
    · split
      · rename_i e
        rcases List.mem_cons.1 h with rfl | h
        · exact absurd e hk
        · exact List.mem_cons_of_mem _ h
      · exact List.mem_cons_of_mem _ h
theorem ins_rise {k v : ByteArray} : ∀ {L : List Pr}, RiseP L → RiseP (insM k v L)
  | [], _ => by unfold insM; exact List.pairwise_singleton ..
  | x :: L, h => by
    have h2 := List.pairwise_cons.1 h
    unfold insM
    by_cases c : lexB (tl x.1) (tl k) = true
    · rw [if_pos c]
      refine List.pairwise_cons.2 ⟨fun y hy => ?_, ins_rise h2.2⟩
      rcases mem_ins hy with rfl | hy
      · exact c
      · exact h2.1 y hy
    · rw [if_neg c]
      by_cases e : x.1 = k
      · rw [if_pos e]
        exact List.pairwise_cons.2 ⟨fun y hy => by show lexB (tl k) (tl y.1) = true; rw [← e]; exact h2.1 y hy, h2.2⟩
      · rw [if_neg e]
        have hk : lexB (tl k) (tl x.1) = true := lexB_tri (by simpa using c) fun q => e (tl_inj q)
        refine List.pairwise_cons.2 ⟨fun y hy => ?_, h⟩
        rcases List.mem_cons.1 hy with rfl | hy
        · exact hk
        · exact lexB_trans hk (h2.1 y hy)
theorem ins_len {k v : ByteArray} : ∀ L : List Pr, (insM k v L).length = if hasM k L = true then L.length else L.length + 1
  | [] => rfl
  | x :: L => by
    rw [hasM_cons]
    unfold insM
    by_cases c : lexB (tl x.1) (tl k) = true
    · rw [if_pos c, if_pos c, List.length_cons, ins_len L]; split <;> simp
    · rw [if_neg c, if_neg c]
      by_cases e : x.1 = k
      · rw [if_pos e, decide_eq_true e]; simp
      · rw [if_neg e, decide_eq_false e]; simp
theorem OkP.ins {k v : ByteArray} {L : List Pr} (h : OkP L) (hm : mayM k v = true) (hn : hasM k L = true ∨ L.length < 64) : OkP (insM k v L) := by
  refine ⟨?_, fun x hx => ?_, ins_rise h.rise⟩
  · have := h.len
    rw [ins_len]
    split
    · exact this
    · rename_i q
      rcases hn with hn | hn
      · exact absurd hn q
      · omega
  · rcases mem_ins hx with rfl | hx
    · exact hm
    · exact h.may x hx
theorem OkP.del {k : ByteArray} {L : List Pr} (h : OkP L) : OkP (delP k L) :=
  ⟨Nat.le_trans (List.length_filter_le _ _) h.len, fun x hx => h.may x (List.mem_filter.1 hx).1, List.Pairwise.filter _ h.rise⟩
theorem okP_nil : OkP [] := ⟨Nat.zero_le _, (fun _ h => nomatch h), List.Pairwise.nil⟩
/-! ### What the reference makes -/
theorem putS_after (k v : ByteArray) : ∀ (L : List Pr) (out : List Pr), (∀ y ∈ L, y.1 ≠ k) → L.foldl (fun s x => putN k (putT k v s x) x) (out, true) = (out ++ L, true)
  | [], out, _ => by simp
  | x :: L, out, h => by
    rw [List.foldl_cons]
    have e : putN k (putT k v (out, true) x) x = (out ++ [x], true) := by
      unfold putN putT
      rw [if_neg (h x (List.mem_cons_self ..))]; simp
    rw [e, putS_after k v L (out ++ [x]) fun y hy => h y (List.mem_cons_of_mem _ hy), List.append_assoc]; rfl
theorem putS_ins (k v : ByteArray) : ∀ (L : List Pr) (out : List Pr), RiseP L →
    (if (L.foldl (fun s x => putN k (putT k v s x) x) (out, false)).2 = true then (L.foldl (fun s x => putN k (putT k v s x) x) (out, false)).1 else (L.foldl (fun s x => putN k (putT k v s x) x) (out, false)).1 ++ [(k, v)]) = out ++ insM k v L
  | [], out, _ => by simp [insM]
  | x :: L, out, hr => by
    rw [List.foldl_cons]
    unfold insM
    by_cases c : lexB (tl x.1) (tl k) = true
    · have e : putN k (putT k v (out, false) x) x = (out ++ [x], false) := by
        unfold putN putT
        rw [if_neg (lexB_ne c), c]; simp
      rw [e, putS_ins k v L (out ++ [x]) (List.pairwise_cons.1 hr).2, if_pos c, List.append_assoc]; rfl
    · have hf : lexB (tl x.1) (tl k) = false := by simpa using c
      have hn := none_above hr hf
      rw [if_neg c]
      by_cases q : x.1 = k
      · have e : putN k (putT k v (out, false) x) x = (out ++ [(k, v)], true) := by
          unfold putN putT
          rw [if_pos q, hf]; simp
        rw [e, putS_after k v L _ hn, if_pos rfl, if_pos q, List.append_assoc]; rfl
      · have e : putN k (putT k v (out, false) x) x = (out ++ [(k, v)] ++ [x], true) := by
          unfold putN putT
          rw [if_neg q, hf]; simp
        rw [e, putS_after k v L _ hn, if_pos rfl, if_neg q]; simp
theorem putP_ins {k v : ByteArray} {L : List Pr} (hr : RiseP L) : putP k v L = insM k v L := by
  have := putS_ins k v L [] hr
  rw [List.nil_append] at this
  exact this
/-! ### Back again -/
theorem get_ins {k v : ByteArray} {L : List Pr} (hr : RiseP L) : getP k (insM k v L) = (v, true) := get_mem (p := (k, v)) (ins_rise hr) (ins_mem k v L)
theorem get_del {k : ByteArray} {L : List Pr} : getP k (delP k L) = (⟨#[]⟩, false) := get_none fun y hy => by
  have := (List.mem_filter.1 hy).2
  simpa using this
theorem del_ins_none {k v : ByteArray} : ∀ {L : List Pr}, RiseP L → hasM k L = false → delP k (insM k v L) = L
  | [], _, _ => by unfold insM; rw [del_cons, if_pos rfl]; rfl
  | x :: L, hr, h => by
    rw [hasM_cons] at h
    unfold insM
    by_cases c : lexB (tl x.1) (tl k) = true
    · rw [if_pos c] at h ⊢
      rw [del_cons, if_neg (lexB_ne c), del_ins_none (List.pairwise_cons.1 hr).2 h]
    · rw [if_neg c] at h ⊢
      have e := of_decide_eq_false h
      rw [if_neg e, del_cons, if_pos rfl, del_cons, if_neg e, del_none (none_above hr (by simpa using c))]
theorem ins_del_ins {k v u : ByteArray} : ∀ {L : List Pr}, RiseP L → getP k L = (u, true) → insM k u (delP k (insM k v L)) = L
  | [], _, h => by cases h
  | x :: L, hr, h => by
    unfold getP at h
    rw [ins_cons k v]
    by_cases c : lexB (tl x.1) (tl k) = true
    · rw [if_neg (lexB_ne c)] at h
      rw [if_pos c, del_cons, if_neg (lexB_ne c)]
      rw [ins_cons, if_pos c, ins_del_ins (List.pairwise_cons.1 hr).2 h]
    · have hf : lexB (tl x.1) (tl k) = false := by simpa using c
      have hn := none_above hr hf
      rw [if_neg c]
      by_cases e : x.1 = k
      · rw [if_pos e] at h
        have hu : x.2 = u := congrArg Prod.fst h
        rw [if_pos e, del_cons, if_pos rfl, del_none hn]
        have hx : x = (k, u) := Prod.ext e hu
        cases L with
        | nil => rw [hx]; rfl
        | cons y L' =>
          have hy := (List.pairwise_cons.1 hr).1 y (List.mem_cons_self ..)
          have hyk : lexB (tl y.1) (tl k) = false := by
            cases q : lexB (tl y.1) (tl k) with
            | false => rfl
            | true => have := lexB_trans hy q; rw [this] at hf; cases hf
          rw [ins_cons, if_neg (by rw [hyk]; decide), if_neg (hn y (List.mem_cons_self ..)), hx]
      · rw [if_neg e, get_none hn] at h; cases h
theorem has_get {k : ByteArray} {L : List Pr} (hr : RiseP L) (h : hasM k L = true) : ∃ v, getP k L = (v, true) ∧ L[posM k L]? = some (k, v) := by
  obtain ⟨v, hv⟩ := hasM_at h
  exact ⟨v, get_mem (p := (k, v)) hr (List.mem_of_getElem? hv), hv⟩
theorem get_false {k : ByteArray} : ∀ {L : List Pr}, (getP k L).2 = false → getP k L = (⟨#[]⟩, false)
  | [], _ => rfl
  | x :: L, h => by
    unfold getP at h ⊢
    by_cases e : x.1 = k
    · rw [if_pos e] at h; cases h
    · rw [if_neg e] at h ⊢; exact get_false h
theorem getM_is {k : ByteArray} {L : List Pr} (hr : RiseP L) : getM (some L) k = getP k L := by
  cases hh : hasM k L with
  | true =>
    obtain ⟨v, h1, h2⟩ := has_get hr hh
    rw [h1]
    unfold getM
    simp only [h2, if_true]
  | false =>
    have h1 := get_has k hr
    rw [hh] at h1
    rw [get_false h1]
    unfold hasM at hh
    unfold getM
    simp only
    cases hx : L[posM k L]? with
    | none => rfl
    | some x =>
      rw [hx] at hh
      simp only at hh ⊢
      rw [if_neg (of_decide_eq_false hh)]
end Go.Proofs.YtlhfgbjhngkicaaGreatDoor

namespace Go.Proofs.YtlhfgbjhngkicaaGreatDoor
open Go Go.RowKit
open D2 (Gh Runs)
set_option linter.unusedVariables false
theorem readM_ok {A : List Nd} {root : Int} {L : List Pr} (h : readM A root = some L) : OkP L := ⟨readM_len h, readM_may h, readM_rise h⟩
theorem split_at {α : Type} {M : List α} {i : Nat} {x : α} (h : M[i]? = some x) : M = M.take i ++ x :: M.drop (i + 1) ∧ (M.take i).length = i := by
  obtain ⟨hi, rfl⟩ := List.getElem?_eq_some_iff.1 h
  exact ⟨by rw [List.getElem_cons_drop, List.take_append_drop], by rw [List.length_take]; omega⟩
theorem putAt {cur : Array Value} {cap n i : Nat} {M : List Pr} {k u v : ByteArray} (h : Rw 2 cur cap n (cellsF pS M)) (hM : M[i]? = some (k, u)) : 0 + i * 2 + 1 + 1 ≤ cur.size ∧ Rw 2 (Go.Proofs.YtlhfgbjhngkicaaGreatDoor.putA cur (0 + i * 2 + 1) (.string v)) cap n (cellsF pS (M.set i (k, v))) := by
  have hl : M.length = n := h.lenF (S := pS)
  have hi := (List.getElem?_eq_some_iff.1 hM).1
  obtain ⟨e1, e2⟩ := split_at hM
  have hp := h.putA (0 + i * 2 + 1) (.string v) (by show 0 + i * 2 + 1 + 1 ≤ n * 2; omega)
  refine ⟨hp.1, ?_⟩
  have hc : (cellsF pS (M.take i)).length = i * 2 := by rw [cellsF_len, e2]; rfl
  have eM : cellsF pS M = cellsF pS (M.take i) ++ (([.string k, .string u] : List Value) ++ cellsF pS (M.drop (i + 1))) := by
    conv => lhs; rw [e1]
    rw [cellsF_append]; rfl
  have eS : cellsF pS (M.set i (k, v)) = cellsF pS (M.take i) ++ (([.string k, .string v] : List Value) ++ cellsF pS (M.drop (i + 1))) := by
    rw [List.set_eq_take_append_cons_drop, if_pos hi, cellsF_append]; rfl
  have q := hp.2
  rw [eM] at q
  rw [eS]
  have t1 : (cellsF pS (M.take i) ++ (([.string k, .string u] : List Value) ++ cellsF pS (M.drop (i + 1)))).take (0 + i * 2 + 1) = cellsF pS (M.take i) ++ ([.string k] : List Value) := by
    rw [List.take_append, hc, show 0 + i * 2 + 1 - i * 2 = 1 by omega, List.take_of_length_le (by rw [hc]; omega)]; rfl
  have t2 : (cellsF pS (M.take i) ++ (([.string k, .string u] : List Value) ++ cellsF pS (M.drop (i + 1)))).drop (0 + i * 2 + 1 + (Value.string v).cells.size) = cellsF pS (M.drop (i + 1)) := by
    rw [List.drop_append, hc, show 0 + i * 2 + 1 + (Value.string v).cells.size - i * 2 = 2 by show 0 + i * 2 + 1 + 1 - i * 2 = 2; omega, List.drop_of_length_le (by rw [hc]; show i * 2 ≤ 0 + i * 2 + 1 + 1; omega)]; rfl
  rw [t1, t2] at q
  rw [show cellsF pS (M.take i) ++ (([.string k, .string v] : List Value) ++ cellsF pS (M.drop (i + 1))) = cellsF pS (M.take i) ++ ([.string k] : List Value) ++ (Value.string v).cells.toList ++ cellsF pS (M.drop (i + 1)) by simp [Value.cells]]
  exact q
set_option maxRecDepth 100000 in
set_option maxHeartbeats 4000000 in
theorem put_bad (p : Option Addr) (n c : Nat) (root : Int) (A : List Nd) (hA : ∀ x ∈ A, x.part.size ≤ 140737488355328) (hAl : A.length ≤ 1000000000000) (key value : ByteArray) {L : List Pr} (hr : readM A root = some L) (hm : mayM key value = false) :
    FnP Tryz.prog 16 #[.agg #[.slice p n c, .int .i64 root], .string key, .string value] (fun w => NdAt w p n A) (.tuple #[.agg #[.slice none 0 0, .int .i64 0], .int .i64 1]) := by
  refine FnP.intro (c := codeOf Tryz.f16) [.cell 6 26, .tmp 7] 53 Tryz.func16 kr kr kr fun w hN => ?_
  have H0 := St.start w
  have hok0 := readM_ok hr
  have h64 := hok0.len
  refine rS [.b, .a, .v] H0 kr fun gs1 w1 H1 => ?_
  refine g_sreg [0, 1, 2, 3, 4, 5, 6] kr kr ?_
  refine rp [.l 0] H1 kr fun gs2 w2 H2 => ?_
  show WPs _ _ _ _ [1, 2, 3, 4, 5, 6] _ _
  have H2 : St w.heap.size w w2 [((gs1 0).b, boT p n c root), ((gs1 1).b, boT none 0 0 0)] := H2.as kr
  refine s_callFT H2 (some 14) 10 #[.agg #[.slice p n c, .int .i64 root]] (pairs_fn p n c root A hA hAl) (hN.call H2.below) kr kr ?_
  intro v T w3 hok H3
  rw [hr] at hok
  obtain ⟨q, m, k, rfl, hrow⟩ := hok
  have hlen := hrow.len
  have H4 : St w.heap.size w w3 (T ++ [((gs1 1).b, boT none 0 0 0)]) := H3.sub (List.Sublist.append_left (List.sublist_cons_self ..) T)
  have H4b : St w.heap.size w w3 [((gs1 1).b, boT none 0 0 0)] := H4.sub (List.sublist_append_right ..)
  refine rp [.v, .v, .v, .v, .v] H4b kr fun gs3 w4 H5 => ?_
  show WPs _ _ _ _ [] _ _
  refine s_nil ?_
  refine g_seq kr ?_
  have hmf := tmay_fn key value
  rw [hm] at hmf
  refine rS [.v, .v, .v, .v, .v, .v, .c hmf, .v, .v] H5 kr fun gs4 w5 H6 => ?_
  refine g_cond_t kr kr ?_
  refine rS [.v, .s 0, .v] H6 kr fun gs5 w6 H7 => ?_
  exact rR [.cell 6 26, .tmp 7] [0] (.tuple #[.agg #[.slice none 0 0, .int .i64 0], .int .i64 1]) H7 kr
set_option maxRecDepth 100000 in
set_option maxHeartbeats 4000000 in
theorem put_long (p : Option Addr) (n c : Nat) (root : Int) (A : List Nd) (hA : ∀ x ∈ A, x.part.size ≤ 140737488355328) (hAl : A.length ≤ 1000000000000) (key value : ByteArray) {L : List Pr} (hr : readM A root = some L) (hm : mayM key value = true) (hh : hasM key L = false) (hf : L.length = 64) :
    FnP Tryz.prog 16 #[.agg #[.slice p n c, .int .i64 root], .string key, .string value] (fun w => NdAt w p n A) (.tuple #[.agg #[.slice none 0 0, .int .i64 0], .int .i64 2]) := by
  refine FnP.intro (c := codeOf Tryz.f16) [.cell 6 26, .tmp 7] 53 Tryz.func16 kr kr kr fun w hN => ?_
  have H0 := St.start w
  have hok0 := readM_ok hr
  have h64 := hok0.len
  refine rS [.b, .a, .v] H0 kr fun gs1 w1 H1 => ?_
  refine g_sreg [0, 1, 2, 3, 4, 5, 6] kr kr ?_
  refine rp [.l 0] H1 kr fun gs2 w2 H2 => ?_
  show WPs _ _ _ _ [1, 2, 3, 4, 5, 6] _ _
  have H2 : St w.heap.size w w2 [((gs1 0).b, boT p n c root), ((gs1 1).b, boT none 0 0 0)] := H2.as kr
  refine s_callFT H2 (some 14) 10 #[.agg #[.slice p n c, .int .i64 root]] (pairs_fn p n c root A hA hAl) (hN.call H2.below) kr kr ?_
  intro v T w3 hok H3
  rw [hr] at hok
  obtain ⟨q, m, k, rfl, hrow⟩ := hok
  have hlen := hrow.len
  have H4 : St w.heap.size w w3 (T ++ [((gs1 1).b, boT none 0 0 0)]) := H3.sub (List.Sublist.append_left (List.sublist_cons_self ..) T)
  refine rp [.v, .v, .v, .v, .v] H4 kr fun gs3 w4 H5 => ?_
  show WPs _ _ _ _ [] _ _
  refine s_nil ?_
  refine g_seq kr ?_
  have hmf := tmay_fn key value
  rw [hm] at hmf
  refine rS [.v, .v, .v, .v, .v, .v, .c hmf, .v, .v] H5 kr fun gs4 w5 H6 => ?_
  refine g_cond_f kr kr ?_
  refine g_skip kr ?_
  show WP _ _ _ _ _ _
  refine g_sreg [0, 1, 2, 3, 4, 5, 6, 7] kr kr ?_
  refine rp [.v, .v] H6 kr fun gs5 w6 H7 => ?_
  show WPs _ _ _ _ [2, 3, 4, 5, 6, 7] _ _
  have H8 : St w.heap.size w w6 (T ++ [((gs1 1).b, boT none 0 0 0)]) := H7.as kr
  refine s_callP H8 (some 30) 33 #[.slice q m k, .string key] _ _ (find_fn q m k L key (by omega) hok0.rise) (hrow.prAt H8 fun e he => List.mem_append_left _ he) (fun w => by kernel_rfl) kr ?_
  intro w7 H9
  rw [hh]
  refine rp [.v, .v, .v, .v, .v] H9 kr fun gs6 w8 H10 => ?_
  show WPs _ _ _ _ [] _ _
  refine s_nil ?_
  refine g_seq kr ?_
  refine rS [.v, .v] H10 kr fun gs7 w9 H11 => ?_
  refine g_cond_t kr kr ?_
  refine g_seq kr ?_
  refine rS [.v, .v, .e (v := .bool (((m : Nat) : Int) == 64)) (v' := .bool true) (bool_eq (beq_iff_eq.2 (by omega)))] H11 kr fun gs8 w10 H12 => ?_
  refine g_cond_t kr kr ?_
  have H13 : St w.heap.size w w10 [((gs1 1).b, boT none 0 0 0)] := (H12.as (l := T ++ [((gs1 1).b, boT none 0 0 0)]) kr).sub (List.sublist_append_right ..)
  refine rS [.v, .s 0, .v] H13 kr fun gs9 w11 H14 => ?_
  exact rR [.cell 6 26, .tmp 7] [0] (.tuple #[.agg #[.slice none 0 0, .int .i64 0], .int .i64 2]) H14 kr
set_option maxRecDepth 100000 in
set_option maxHeartbeats 4000000 in
theorem put_set (p : Option Addr) (n c : Nat) (root : Int) (A : List Nd) (hA : ∀ x ∈ A, x.part.size ≤ 140737488355328) (hAl : A.length ≤ 1000000000000) (key value : ByteArray) {L : List Pr} (hr : readM A root = some L) (hm : mayM key value = true) (hh : hasM key L = true) : FnT Tryz.prog 16 #[.agg #[.slice p n c, .int .i64 root], .string key, .string value] (fun w => NdAt w p n A) (okPut (insM key value L)) := by
  have hn : hasM key L = true ∨ L.length < 64 := .inl hh
  have hsz := may_size hm
  refine FnT.intro (c := codeOf Tryz.f16) [.cell 6 26, .tmp 7] 53 Tryz.func16 kr kr kr fun w hN => ?_
  have H0 := St.start w
  have hok0 := readM_ok hr
  have h64 := hok0.len
  refine rS [.b, .a, .v] H0 kr fun gs1 w1 H1 => ?_
  refine g_sreg [0, 1, 2, 3, 4, 5, 6] kr kr ?_
  refine rp [.l 0] H1 kr fun gs2 w2 H2 => ?_
  show WPs _ _ _ _ [1, 2, 3, 4, 5, 6] _ _
  have H2 : St w.heap.size w w2 [((gs1 0).b, boT p n c root), ((gs1 1).b, boT none 0 0 0)] := H2.as kr
  refine s_callFT H2 (some 14) 10 #[.agg #[.slice p n c, .int .i64 root]] (pairs_fn p n c root A hA hAl) (hN.call H2.below) kr kr ?_
  intro v T w3 hok H3
  rw [hr] at hok
  obtain ⟨q, m, k, rfl, hrow⟩ := hok
  have hlen := hrow.len
  have H4 : St w.heap.size w w3 (T ++ [((gs1 1).b, boT none 0 0 0)]) := H3.sub (List.Sublist.append_left (List.sublist_cons_self ..) T)
  refine rp [.v, .v, .v, .v, .v] H4 kr fun gs3 w4 H5 => ?_
  show WPs _ _ _ _ [] _ _
  refine s_nil ?_
  refine g_seq kr ?_
  have hmf := tmay_fn key value
  rw [hm] at hmf
  refine rS [.v, .v, .v, .v, .v, .v, .c hmf, .v, .v] H5 kr fun gs4 w5 H6 => ?_
  refine g_cond_f kr kr ?_
  refine g_skip kr ?_
  show WP _ _ _ _ _ _
  refine g_sreg [0, 1, 2, 3, 4, 5, 6, 7] kr kr ?_
  refine rp [.v, .v] H6 kr fun gs5 w6 H7 => ?_
  show WPs _ _ _ _ [2, 3, 4, 5, 6, 7] _ _
  have H8 : St w.heap.size w w6 (T ++ [((gs1 1).b, boT none 0 0 0)]) := H7.as kr
  refine s_callP H8 (some 30) 33 #[.slice q m k, .string key] _ _ (find_fn q m k L key (by omega) hok0.rise) (hrow.prAt H8 fun e he => List.mem_append_left _ he) (fun w => by kernel_rfl) kr ?_
  intro w7 H9
  rw [hh]
  refine rp [.v, .v, .v, .v, .v] H9 kr fun gs6 w8 H10 => ?_
  show WPs _ _ _ _ [] _ _
  refine s_nil ?_
  refine g_seq kr ?_
  refine rS [.v, .v] H10 kr fun gs7 w9 H11 => ?_
  refine g_cond_f kr kr ?_
  refine g_skip kr ?_
  show WP _ _ _ _ _ _
  have hlt := hasM_lt hh
  obtain ⟨u, hu⟩ := hasM_at hh
  rcases hrow with ⟨_, _, _, _, h0⟩ | ⟨bw, cur, rfl, rfl, hrw⟩
  · rw [h0] at hlt; exact absurd hlt (Nat.not_lt_zero _)
  obtain ⟨m2, hm2⟩ : ∃ m2, m = m2 := ⟨m, rfl⟩
  obtain ⟨k2, hk2⟩ : ∃ k2, k = k2 := ⟨k, rfl⟩
  subst hm2 hk2
  have hput := putAt (v := value) hrw hu
  refine rS [.v, .v, .v, .c (cloneS_fn value (by omega)), .o (ins := [((.tmp 45), .slice (some ⟨bw, 0, none⟩) m k), ((.tmp 46), iN (posM key L))]) (v := .pointer (some ⟨bw, 0 + (posM key L) * 2, none⟩)) (fun ρ o w ho hi2 => idxP_run (kd := .i64) (t := 23) (e := 48) (K := 2) (bytes := 32) kr (x := (.tmp 45)) (y := (.tmp 46)) bw 0 m k (posM key L) rfl ho hi2.1 hi2.2.1 (by omega) w), .v, .se 0 (C := cur) (C' := putA cur (0 + (posM key L) * 2 + 1) (.string value)) (off := 0 + (posM key L) * 2 + 1) (v := .string value) hput.1 rfl] H11 kr fun gs11 w14 H18 => ?_
  rw [ins_found hh] at hput
  have hrow3 : RowF pS 48 (some ⟨bw, 0, none⟩) m k [(bw, .cells (putA cur (0 + (posM key L) * 2 + 1) (.string value)) 48 (0, 0))] (insM key value L) := .inr ⟨bw, _, rfl, rfl, hput.2⟩
  have hokI := hok0.ins (k := key) (v := value) hm hn
  have hlI := hokI.len
  refine g_sreg [0, 1, 2, 3] kr kr ?_
  refine rp [.v] H18 kr fun gs12 w15 H20 => ?_
  show WPs _ _ _ _ [1, 2, 3] _ _
  have H21 : St w.heap.size w w15 [(bw, .cells (putA cur (0 + (posM key L) * 2 + 1) (.string value)) 48 (0, 0)), ((gs1 1).b, boT none 0 0 0)] := H20.as kr
  refine s_callFT H21 (some 52) 36 #[.slice (some ⟨bw, 0, none⟩) m k] (build_fn (some ⟨bw, 0, none⟩) m k (insM key value L) (by omega) (fun x hx => (may_size (hokI.may x hx)).1.2) (key_rise.2 hokI.rise)) (hrow3.prAt H21 fun e he => List.mem_of_mem_head? (by rw [List.mem_singleton.1 he]; rfl)) kr kr ?_
  rintro v T2 w16 ⟨p3, n3, c3, hrow4, rfl⟩ H22
  have H23 : St w.heap.size w w16 (((gs1 1).b, boT none 0 0 0) :: T2) := (H22.sub (List.Sublist.append_left (List.sublist_cons_self ..) T2)).perm (List.perm_append_comm (l₁ := [((gs1 1).b, boT none 0 0 0)]) (l₂ := T2))
  refine rp [.s 0, .v] H23 kr fun gs13 w17 H24 => ?_
  show WPs _ _ _ _ [] _ _
  refine s_nil ?_
  have H25 : St w.heap.size w w17 (((gs1 1).b, boT p3 n3 c3 (layM 65 (entsOf (insM key value L)) []).2) :: T2) := H24.as kr
  refine rRr [.cell 6 26, .tmp 7] [0] (.tuple #[.agg #[.slice p3 n3 c3, .int .i64 (layM 65 (entsOf (insM key value L)) []).2], .int .i64 0]) (outT w.heap.size w (okPut (insM key value L))) H25 kr ?_
  exact ⟨T2, ⟨p3, n3, c3, hrow4, rfl⟩, H25.sub (List.sublist_cons_self ..)⟩
set_option maxRecDepth 100000 in
set_option maxHeartbeats 4000000 in
theorem put_mid (p : Option Addr) (n c : Nat) (root : Int) (A : List Nd) (hA : ∀ x ∈ A, x.part.size ≤ 140737488355328) (hAl : A.length ≤ 1000000000000) (key value : ByteArray) {L : List Pr} (hr : readM A root = some L) (hm : mayM key value = true) (hh : hasM key L = false) (hp : posM key L < L.length) (hf : L.length < 64) : FnT Tryz.prog 16 #[.agg #[.slice p n c, .int .i64 root], .string key, .string value] (fun w => NdAt w p n A) (okPut (insM key value L)) := by
  have hn : hasM key L = true ∨ L.length < 64 := .inr hf
  have hsz := may_size hm
  refine FnT.intro (c := codeOf Tryz.f16) [.cell 6 26, .tmp 7] 53 Tryz.func16 kr kr kr fun w hN => ?_
  have H0 := St.start w
  have hok0 := readM_ok hr
  have h64 := hok0.len
  refine rS [.b, .a, .v] H0 kr fun gs1 w1 H1 => ?_
  refine g_sreg [0, 1, 2, 3, 4, 5, 6] kr kr ?_
  refine rp [.l 0] H1 kr fun gs2 w2 H2 => ?_
  show WPs _ _ _ _ [1, 2, 3, 4, 5, 6] _ _
  have H2 : St w.heap.size w w2 [((gs1 0).b, boT p n c root), ((gs1 1).b, boT none 0 0 0)] := H2.as kr
  refine s_callFT H2 (some 14) 10 #[.agg #[.slice p n c, .int .i64 root]] (pairs_fn p n c root A hA hAl) (hN.call H2.below) kr kr ?_
  intro v T w3 hok H3
  rw [hr] at hok
  obtain ⟨q, m, k, rfl, hrow⟩ := hok
  have hlen := hrow.len
  have H4 : St w.heap.size w w3 (T ++ [((gs1 1).b, boT none 0 0 0)]) := H3.sub (List.Sublist.append_left (List.sublist_cons_self ..) T)
  refine rp [.v, .v, .v, .v, .v] H4 kr fun gs3 w4 H5 => ?_
  show WPs _ _ _ _ [] _ _
  refine s_nil ?_
  refine g_seq kr ?_
  have hmf := tmay_fn key value
  rw [hm] at hmf
  refine rS [.v, .v, .v, .v, .v, .v, .c hmf, .v, .v] H5 kr fun gs4 w5 H6 => ?_
  refine g_cond_f kr kr ?_
  refine g_skip kr ?_
  show WP _ _ _ _ _ _
  refine g_sreg [0, 1, 2, 3, 4, 5, 6, 7] kr kr ?_
  refine rp [.v, .v] H6 kr fun gs5 w6 H7 => ?_
  show WPs _ _ _ _ [2, 3, 4, 5, 6, 7] _ _
  have H8 : St w.heap.size w w6 (T ++ [((gs1 1).b, boT none 0 0 0)]) := H7.as kr
  refine s_callP H8 (some 30) 33 #[.slice q m k, .string key] _ _ (find_fn q m k L key (by omega) hok0.rise) (hrow.prAt H8 fun e he => List.mem_append_left _ he) (fun w => by kernel_rfl) kr ?_
  intro w7 H9
  rw [hh]
  refine rp [.v, .v, .v, .v, .v] H9 kr fun gs6 w8 H10 => ?_
  show WPs _ _ _ _ [] _ _
  refine s_nil ?_
  refine g_seq kr ?_
  refine rS [.v, .v] H10 kr fun gs7 w9 H11 => ?_
  refine g_cond_t kr kr ?_
  refine g_seq kr ?_
  refine rS [.v, .v, .e (v := .bool (((m : Nat) : Int) == 64)) (v' := .bool false) (bool_eq (beq_eq_false_iff_ne.2 (by omega)))] H11 kr fun gs8 w10 H12 => ?_
  refine g_cond_f kr kr ?_
  refine g_skip kr ?_
  show WP _ _ _ _ _ _
  refine g_reg0 [0, 1, 2, 3, 4, 5, 6] kr ?_
  refine rp [.v, .v, .v, .v, .nw (fun b => .slice (some ⟨b, 0, none⟩) 1 1) #[.string key, .string ⟨#[]⟩] 48] H12 kr fun gs9 w11 H13 => ?_
  show WPs _ _ _ _ [5, 6] _ _
  have H14 : St w.heap.size w w11 ((T ++ [((gs1 1).b, boT none 0 0 0)]) ++ [((gs9 4).b, pwO (key, ⟨#[]⟩))]) := H13.as kr
  have H15 : St w.heap.size w w11 (T ++ (((gs9 4).b, pwO (key, ⟨#[]⟩)) :: [((gs1 1).b, boT none 0 0 0)])) := H14.perm (by rw [List.append_assoc]; exact List.Perm.append_left T (List.Perm.swap ..))
  rcases hrow with ⟨_, _, _, _, h0⟩ | ⟨b0, cur0, rfl, rfl, hrw0⟩
  · rw [h0] at hp; exact absurd hp (Nat.not_lt_zero _)
  refine s_callC (some 44) 35 #[.slice (some ⟨b0, 0, none⟩) m k, iN (posM key L), .slice (some ⟨(gs9 4).b, 0, none⟩) 1 1] (insertMid_c b0 m k cur0 L (key, ⟨#[]⟩) (posM key L) (gs9 4).b [((gs1 1).b, boT none 0 0 0)] hrw0 H15 (by omega) (by omega)) kr kr ?_
  rintro v w12 ⟨q2, m2, k2, row2, rfl, hrow2, H16⟩
  refine rp [.v] H16 kr fun gs10 w13 H17 => ?_
  show WPs _ _ _ _ [] _ _
  refine s_nil ?_
  show WP _ _ _ _ _ _
  have hlen2 := hrow2.len
  rw [List.length_append, List.length_cons, List.length_take, List.length_drop] at hlen2
  have hu : (L.take (posM key L) ++ (key, (⟨#[]⟩ : ByteArray)) :: L.drop (posM key L))[posM key L]? = some (key, ⟨#[]⟩) := by
    rw [List.getElem?_append_right (by rw [List.length_take]; omega), List.length_take, show posM key L - min (posM key L) L.length = 0 by omega]; rfl
  have hset : (L.take (posM key L) ++ (key, (⟨#[]⟩ : ByteArray)) :: L.drop (posM key L)).set (posM key L) (key, value) = insM key value L := by
    rw [← ins_new hh, List.set_append_right _ _ (by rw [List.length_take]; omega), List.length_take, show posM key L - min (posM key L) L.length = 0 by omega, List.set_cons_zero]
  rcases hrow2 with ⟨_, _, _, _, h0⟩ | ⟨bw, cur, rfl, rfl, hrw⟩
  · simp at h0
  have hput := putAt (v := value) hrw hu
  refine rS [.v, .v, .v, .c (cloneS_fn value (by omega)), .o (ins := [((.tmp 45), .slice (some ⟨bw, 0, none⟩) m2 k2), ((.tmp 46), iN (posM key L))]) (v := .pointer (some ⟨bw, 0 + (posM key L) * 2, none⟩)) (fun ρ o w ho hi2 => idxP_run (kd := .i64) (t := 23) (e := 48) (K := 2) (bytes := 32) kr (x := (.tmp 45)) (y := (.tmp 46)) bw 0 m2 k2 (posM key L) rfl ho hi2.1 hi2.2.1 (by omega) w), .v, .se 0 (C := cur) (C' := putA cur (0 + (posM key L) * 2 + 1) (.string value)) (off := 0 + (posM key L) * 2 + 1) (v := .string value) hput.1 rfl] H17 kr fun gs11 w14 H18 => ?_
  rw [hset] at hput
  have hrow3 : RowF pS 48 (some ⟨bw, 0, none⟩) m2 k2 [(bw, .cells (putA cur (0 + (posM key L) * 2 + 1) (.string value)) 48 (0, 0))] (insM key value L) := .inr ⟨bw, _, rfl, rfl, hput.2⟩
  have hokI := hok0.ins (k := key) (v := value) hm hn
  have hlI := hokI.len
  refine g_sreg [0, 1, 2, 3] kr kr ?_
  refine rp [.v] H18 kr fun gs12 w15 H20 => ?_
  show WPs _ _ _ _ [1, 2, 3] _ _
  have H21 : St w.heap.size w w15 [(bw, .cells (putA cur (0 + (posM key L) * 2 + 1) (.string value)) 48 (0, 0)), ((gs1 1).b, boT none 0 0 0)] := H20.as kr
  refine s_callFT H21 (some 52) 36 #[.slice (some ⟨bw, 0, none⟩) m2 k2] (build_fn (some ⟨bw, 0, none⟩) m2 k2 (insM key value L) (by omega) (fun x hx => (may_size (hokI.may x hx)).1.2) (key_rise.2 hokI.rise)) (hrow3.prAt H21 fun e he => List.mem_of_mem_head? (by rw [List.mem_singleton.1 he]; rfl)) kr kr ?_
  rintro v T2 w16 ⟨p3, n3, c3, hrow4, rfl⟩ H22
  have H23 : St w.heap.size w w16 (((gs1 1).b, boT none 0 0 0) :: T2) := (H22.sub (List.Sublist.append_left (List.sublist_cons_self ..) T2)).perm (List.perm_append_comm (l₁ := [((gs1 1).b, boT none 0 0 0)]) (l₂ := T2))
  refine rp [.s 0, .v] H23 kr fun gs13 w17 H24 => ?_
  show WPs _ _ _ _ [] _ _
  refine s_nil ?_
  have H25 : St w.heap.size w w17 (((gs1 1).b, boT p3 n3 c3 (layM 65 (entsOf (insM key value L)) []).2) :: T2) := H24.as kr
  refine rRr [.cell 6 26, .tmp 7] [0] (.tuple #[.agg #[.slice p3 n3 c3, .int .i64 (layM 65 (entsOf (insM key value L)) []).2], .int .i64 0]) (outT w.heap.size w (okPut (insM key value L))) H25 kr ?_
  exact ⟨T2, ⟨p3, n3, c3, hrow4, rfl⟩, H25.sub (List.sublist_cons_self ..)⟩
theorem put_ok (p : Option Addr) (n c : Nat) (root : Int) (A : List Nd) (hA : ∀ x ∈ A, x.part.size ≤ 140737488355328) (hAl : A.length ≤ 1000000000000) (key value : ByteArray) {L : List Pr} (hr : readM A root = some L) (hm : mayM key value = true) (hn : hasM key L = true ∨ L.length < 64) : FnT Tryz.prog 16 #[.agg #[.slice p n c, .int .i64 root], .string key, .string value] (fun w => NdAt w p n A) (okPut (insM key value L)) := by
  cases hh : hasM key L with
  | true => exact put_set p n c root A hA hAl key value hr hm hh
  | false =>
    have hf : L.length < 64 := hn.resolve_left (by rw [hh]; decide)
    have hle := posM_le key L
    by_cases hp : posM key L = L.length
    · have h := put_end p n c root A hA hAl key value hr hm hp hf
      rwa [show L ++ [(key, value)] = insM key value L by rw [← ins_new hh, hp, List.take_length, List.drop_length]] at h
    · exact put_mid p n c root A hA hAl key value hr hm hh (by omega) hf
set_option maxRecDepth 100000 in
set_option maxHeartbeats 4000000 in
theorem delete_c (bw n c : Nat) (cur : Array Value) (L : List Pr) (i : Nat) (Lr : List (Nat × Obj)) {B : Nat} {w0 w : World} (hrw : Rw 2 cur c n (cellsF pS L)) (h : St B w0 w ((bw, .cells cur 48 (0, 0)) :: Lr)) (hi : i < n) (hL : n ≤ 1000000) :
    Calls Tryz.prog 37 #[.slice (some ⟨bw, 0, none⟩) n c, iN i, iN (i + 1)] w fun e w' => ∃ v, e = .returned v ∧ Ins1 B w0 Lr (L.take i ++ L.drop (i + 1)) v w' := by
  refine calls_intro (c := codeOf Tryz.f37) (rs := [.tmp 6]) (N := 33) Tryz.func37 kr kr kr ?_
  have hlenL : L.length = n := hrw.lenF (S := pS)
  have hcl : (cellsF pS L).length = n * 2 := by rw [cellsF_len, hlenL]; rfl
  have hle := hrw.le
  have hmx := hrw.max
  have hcs := hrw.sz
  have etk : cellsF pS (L.take i) = (cellsF pS L).take (i * 2) := cellsF_take L i (by omega)
  have edr : cellsF pS (L.drop (i + 1)) = (cellsF pS L).drop ((i + 1) * 2) := cellsF_drop L (i + 1) (by omega)
  have hdl : ((cellsF pS L).drop ((i + 1) * 2)).length = (n - (i + 1)) * 2 := by rw [List.length_drop, hcl]; omega
  have h1d : ∀ v ∈ (cellsF pS L).drop ((i + 1) * 2), v.oneCell' = true := fun v hv => cellsF_one L v (List.mem_of_mem_drop hv)
  have hsrcD : ∀ q v, ((cellsF pS L).drop ((i + 1) * 2))[q]? = some v → cur[(if c = i + 1 then 0 else 0 + (i + 1) * 2) + q]? = some v := fun q v hq => by
    rw [List.getElem?_drop] at hq
    have hlt := (List.getElem?_eq_some_iff.1 hq).1
    rw [if_neg (by omega), Nat.zero_add, hrw.get ((i + 1) * 2 + q) (by omega)]; exact hq
  refine rS [.v] h kr fun gs1 w1 H1 => ?_
  refine rS [.v, .v, .v, .v, .v, .o (ins := [((.tmp 8), .slice (some ⟨bw, 0, none⟩) n c), ((.tmp 9), iN i), ((.tmp 10), iN (i + 1)), ((.tmp 12), iN n)]) (v := .slice (some ⟨bw, i * 2, none⟩) (i + 1 - i) (n - i)) (fun ρ o w ho hi2 => cut3_run (kd := .i64) (kz := .i64) (ku := .i64) (t := 23) (e := 48) (size := 2) (bytes := 32) kr (x := (.tmp 8)) (y := (.tmp 10)) (z := (.tmp 9)) (u := (.tmp 12)) bw n c i (i + 1) n ho hi2.1 hi2.2.2.1 hi2.2.1 hi2.2.2.2.1 hle (by omega) (by omega) hi w)] H1 kr fun gs2 w2 H2 => ?_
  refine g_seq kr ?_
  refine rS [.v, .v, .e (v := .bool (((i : Nat) : Int) == ((i + 1 : Nat) : Int))) (v' := .bool false) (bool_eq (beq_eq_false_iff_ne.2 (by omega)))] H2 kr fun gs3 w3 H3 => ?_
  refine g_cond_f kr kr ?_
  refine g_skip kr ?_
  show WP _ _ _ _ _ _
  refine rS [.v, .v, .v] H3 kr fun gs4 w4 H4 => ?_
  refine dS [.v, .v, .o (ins := [((.tmp 20), .slice (some ⟨bw, 0, none⟩) n c), ((.tmp 21), iN i)]) (v := .slice (some ⟨bw, 0, none⟩) i c) (fun ρ o w ho hi2 => cut_run (kd := .i64) (t := 23) (e := 48) (size := 2) (bytes := 32) kr (x := (.tmp 20)) (y := (.tmp 21)) bw n c i ho hi2.1 hi2.2.1 (by omega) w), .v, .v, .o (ins := [((.tmp 23), .slice (some ⟨bw, 0, none⟩) n c), ((.tmp 24), iN (i + 1))]) (v := .slice (some ⟨bw, if c = i + 1 then 0 else 0 + (i + 1) * 2, none⟩) (n - (i + 1)) (c - (i + 1))) (fun ρ o w ho hi2 => cutL_run (kz := .i64) (t := 23) (e := 48) (size := 2) (bytes := 32) kr (x := (.tmp 23)) (z := (.tmp 24)) bw 0 n c (i + 1) ho hi2.1 hi2.2.1 (by omega) hle w),
    .g [((.tmp 22), .slice (some ⟨bw, 0, none⟩) (i) (c)), ((.tmp 25), .slice (some ⟨bw, if c = i + 1 then 0 else 0 + (i + 1) * 2, none⟩) (n - (i + 1)) (c - (i + 1)))] (appendOp 23 (.tmp 22) (.tmp 25)) ((0, (bw, Obj.cells (cur) 48 (0, 0))) :: []) (fun _ => .slice (some ⟨bw, 0, none⟩) ((i) + (n - (i + 1))) (c)) (.turn 0 (.cells (putL (cur) ((i) * 2) ((cellsF pS L).drop ((i + 1) * 2))) 48 (0, 0))) (appInIt (t := 23) (e := 48) (size := 2) (bytes := 32) kr (x := (.tmp 22)) (y := (.tmp 25)) (j := 0) (b := bw) (n := i) (cap := c) (m := n - (i + 1)) (c := c - (i + 1)) (a := ⟨bw, if c = i + 1 then 0 else 0 + (i + 1) * 2, none⟩) (cur := cur) (T := 48) (news := (cellsF pS L).drop ((i + 1) * 2)) (rd := []) (hdl) (fun w hd => src_row hd.1 hsrcD) (h1d) (by omega) (by rw [hdl, hcs]; omega)), .v] H4 kr fun w5 H5 => ?_
  have hsz1 : (putL cur (i * 2) ((cellsF pS L).drop ((i + 1) * 2))).size = c * 2 := by rw [putL_size (by rw [hdl, hcs]; omega), hcs]
  obtain ⟨N, hN⟩ : ∃ N, i + (n - (i + 1)) = N := ⟨_, rfl⟩
  have hN1 : N + 1 = n := by omega
  have H6 : St B w0 w5 ((bw, .cells (putL cur (i * 2) ((cellsF pS L).drop ((i + 1) * 2))) 48 (0, 0)) :: Lr) := H5.as kr
  refine g_now 0 (v := .slice (some ⟨bw, 0, none⟩) (i + (n - (i + 1))) c) (v' := .slice (some ⟨bw, 0, none⟩) N c) (by rw [hN]) kr ?_
  refine g_sreg [0, 1, 2, 3, 4, 5] kr kr ?_
  refine rp [.v, .v, .v, .v, .oe (ins := [((.tmp 27), .slice (some ⟨bw, 0, none⟩) N c), ((.tmp 29), iN N), ((.tmp 30), iN n)]) (v := .slice (some ⟨bw, N * 2, none⟩) 1 (c - N)) (v' := .slice (some ⟨bw, N * 2, none⟩) 1 (c - N)) (fun ρ o w ho hi2 => cut2_run (kd := .i64) (kz := .i64) (t := 23) (e := 48) (size := 2) (bytes := 32) kr (x := (.tmp 27)) (y := (.tmp 30)) (z := (.tmp 29)) bw N c N n ho hi2.1 hi2.2.2.1 hi2.2.1 hle (by omega) (by omega) (N * 2) 1 rfl (by omega) w) rfl] H6 kr fun gs6 w6 H7 => ?_
  show WPs _ _ _ _ [5] _ _
  have H8 : St B w0 w6 ((bw, .cells (putL cur (i * 2) ((cellsF pS L).drop ((i + 1) * 2))) 48 (0, 0)) :: Lr) := H7.as kr
  refine s_clearK H8 none 23 48 2 32 (.tmp 31) 0 bw (N * 2) 1 (c - N) (putL cur (i * 2) ((cellsF pS L).drop ((i + 1) * 2))) 48 kr kr kr kr kr rfl (by omega) (by rw [hsz1]; omega) ?_
  intro V w7 hV H9
  refine s_nil ?_
  show WP _ _ _ _ _ _
  refine rS [.v, .v] H9 kr fun gs7 w8 H10 => ?_
  refine rRr [.tmp 6] [] (.slice (some ⟨bw, 0, none⟩) N c) (Ins1 B w0 Lr (L.take i ++ L.drop (i + 1))) H10 kr ?_
  have hfin : Rw 2 (putL (putL cur (i * 2) ((cellsF pS L).drop ((i + 1) * 2))) (N * 2) V) c N (cellsF pS (L.take i ++ L.drop (i + 1))) := by
    refine ⟨by rw [cellsF_len, List.length_append, List.length_take, List.length_drop, hlenL]; show (min i n + (n - (i + 1))) * 2 = N * 2; omega, by omega, hmx, ?_, by rw [putL_size (by rw [hsz1, hV]; omega), hsz1]⟩
    rw [putL_take_lt (C := putL cur (i * 2) ((cellsF pS L).drop ((i + 1) * 2))) (o := N * 2) (vs := V) (m := N * 2) (by rw [hsz1]; omega) (Nat.le_refl _),
      putL_take (C := cur) (o := i * 2) (vs := (cellsF pS L).drop ((i + 1) * 2)) (m := N * 2) (by rw [hdl, hcs]; omega) (by rw [hdl]; omega), cellsF_append, etk, edr]
    have e1 : cur.toList.take (i * 2) = (cellsF pS L).take (i * 2) := by rw [← hrw.take, List.take_take, Nat.min_eq_left (by omega)]
    have e2 : (cur.toList.take (N * 2)).drop (i * 2 + ((cellsF pS L).drop ((i + 1) * 2)).length) = [] := List.drop_of_length_le (by rw [List.length_take, Array.length_toList, hcs, hdl]; omega)
    rw [e1, e2, List.append_nil]
  exact ⟨some ⟨bw, 0, none⟩, N, c, _, rfl, .inr ⟨bw, _, rfl, rfl, hfin⟩, H10.as kr⟩
set_option maxRecDepth 100000 in
set_option maxHeartbeats 4000000 in
theorem del_zero (p : Option Addr) (n c : Nat) (root : Int) (A : List Nd) (hA : ∀ x ∈ A, x.part.size ≤ 140737488355328) (hAl : A.length ≤ 1000000000000) (key : ByteArray) {L : List Pr} (hr : readM A root = some L) (hh : hasM key L = false) :
    FnP Tryz.prog 17 #[.agg #[.slice p n c, .int .i64 root], .string key] (fun w => NdAt w p n A) (.tuple #[.agg #[.slice none 0 0, .int .i64 0], .int .i64 6]) := by
  refine FnP.intro (c := codeOf Tryz.f17) [.cell 4 26, .tmp 5] 34 Tryz.func17 kr kr kr fun w hN => ?_
  have H0 := St.start w
  have hok0 := readM_ok hr
  have h64 := hok0.len
  refine rS [.b, .a, .v] H0 kr fun gs1 w1 H1 => ?_
  refine g_sreg [0, 1, 2, 3, 4, 5, 6] kr kr ?_
  refine rp [.l 0] H1 kr fun gs2 w2 H2 => ?_
  show WPs _ _ _ _ [1, 2, 3, 4, 5, 6] _ _
  have H2 : St w.heap.size w w2 [((gs1 0).b, boT p n c root), ((gs1 1).b, boT none 0 0 0)] := H2.as kr
  refine s_callFT H2 (some 12) 10 #[.agg #[.slice p n c, .int .i64 root]] (pairs_fn p n c root A hA hAl) (hN.call H2.below) kr kr ?_
  intro v T w3 hok H3
  rw [hr] at hok
  obtain ⟨q, m, k, rfl, hrow⟩ := hok
  have hlen := hrow.len
  have H4 : St w.heap.size w w3 (T ++ [((gs1 1).b, boT none 0 0 0)]) := H3.sub (List.Sublist.append_left (List.sublist_cons_self ..) T)
  refine rp [.v, .v, .v, .v, .v] H4 kr fun gs3 w4 H5 => ?_
  show WPs _ _ _ _ [] _ _
  refine s_nil ?_
  refine g_seq kr ?_
  refine rS [.v, .v] H5 kr fun gs4 w5 H6 => ?_
  refine g_cond_f kr kr ?_
  refine g_skip kr ?_
  show WP _ _ _ _ _ _
  refine g_sreg [0, 1, 2, 3, 4, 5, 6, 7] kr kr ?_
  refine rp [.v, .v] H6 kr fun gs5 w6 H7 => ?_
  show WPs _ _ _ _ [2, 3, 4, 5, 6, 7] _ _
  have H8 : St w.heap.size w w6 (T ++ [((gs1 1).b, boT none 0 0 0)]) := H7.as kr
  refine s_callP H8 (some 22) 33 #[.slice q m k, .string key] _ _ (find_fn q m k L key (by omega) hok0.rise) (hrow.prAt H8 fun e he => List.mem_append_left _ he) (fun w => by kernel_rfl) kr ?_
  intro w7 H9
  rw [hh]
  refine rp [.v, .v, .v, .v, .v] H9 kr fun gs6 w8 H10 => ?_
  show WPs _ _ _ _ [] _ _
  refine s_nil ?_
  refine g_seq kr ?_
  refine rS [.v, .v] H10 kr fun gs7 w9 H11 => ?_
  refine g_cond_t kr kr ?_
  have H13 : St w.heap.size w w9 [((gs1 1).b, boT none 0 0 0)] := (H11.as (l := T ++ [((gs1 1).b, boT none 0 0 0)]) kr).sub (List.sublist_append_right ..)
  refine rS [.v, .s 0, .v] H13 kr fun gs9 w11 H14 => ?_
  exact rR [.cell 4 26, .tmp 5] [0] (.tuple #[.agg #[.slice none 0 0, .int .i64 0], .int .i64 6]) H14 kr
set_option maxRecDepth 100000 in
set_option maxHeartbeats 4000000 in
theorem del_ok (p : Option Addr) (n c : Nat) (root : Int) (A : List Nd) (hA : ∀ x ∈ A, x.part.size ≤ 140737488355328) (hAl : A.length ≤ 1000000000000) (key : ByteArray) {L : List Pr} (hr : readM A root = some L) (hh : hasM key L = true) :
    FnT Tryz.prog 17 #[.agg #[.slice p n c, .int .i64 root], .string key] (fun w => NdAt w p n A) (okPut (delP key L)) := by
  refine FnT.intro (c := codeOf Tryz.f17) [.cell 4 26, .tmp 5] 34 Tryz.func17 kr kr kr fun w hN => ?_
  have H0 := St.start w
  have hok0 := readM_ok hr
  have h64 := hok0.len
  refine rS [.b, .a, .v] H0 kr fun gs1 w1 H1 => ?_
  refine g_sreg [0, 1, 2, 3, 4, 5, 6] kr kr ?_
  refine rp [.l 0] H1 kr fun gs2 w2 H2 => ?_
  show WPs _ _ _ _ [1, 2, 3, 4, 5, 6] _ _
  have H2 : St w.heap.size w w2 [((gs1 0).b, boT p n c root), ((gs1 1).b, boT none 0 0 0)] := H2.as kr
  refine s_callFT H2 (some 12) 10 #[.agg #[.slice p n c, .int .i64 root]] (pairs_fn p n c root A hA hAl) (hN.call H2.below) kr kr ?_
  intro v T w3 hok H3
  rw [hr] at hok
  obtain ⟨q, m, k, rfl, hrow⟩ := hok
  have hlen := hrow.len
  have H4 : St w.heap.size w w3 (T ++ [((gs1 1).b, boT none 0 0 0)]) := H3.sub (List.Sublist.append_left (List.sublist_cons_self ..) T)
  refine rp [.v, .v, .v, .v, .v] H4 kr fun gs3 w4 H5 => ?_
  show WPs _ _ _ _ [] _ _
  refine s_nil ?_
  refine g_seq kr ?_
  refine rS [.v, .v] H5 kr fun gs4 w5 H6 => ?_
  refine g_cond_f kr kr ?_
  refine g_skip kr ?_
  show WP _ _ _ _ _ _
  refine g_sreg [0, 1, 2, 3, 4, 5, 6, 7] kr kr ?_
  refine rp [.v, .v] H6 kr fun gs5 w6 H7 => ?_
  show WPs _ _ _ _ [2, 3, 4, 5, 6, 7] _ _
  have H8 : St w.heap.size w w6 (T ++ [((gs1 1).b, boT none 0 0 0)]) := H7.as kr
  refine s_callP H8 (some 22) 33 #[.slice q m k, .string key] _ _ (find_fn q m k L key (by omega) hok0.rise) (hrow.prAt H8 fun e he => List.mem_append_left _ he) (fun w => by kernel_rfl) kr ?_
  intro w7 H9
  rw [hh]
  refine rp [.v, .v, .v, .v, .v] H9 kr fun gs6 w8 H10 => ?_
  show WPs _ _ _ _ [] _ _
  refine s_nil ?_
  refine g_seq kr ?_
  refine rS [.v, .v] H10 kr fun gs7 w9 H11 => ?_
  refine g_cond_f kr kr ?_
  refine g_skip kr ?_
  show WP _ _ _ _ _ _
  have hlt := hasM_lt hh
  rcases hrow with ⟨_, _, _, _, h0⟩ | ⟨b0, cur0, rfl, rfl, hrw0⟩
  · rw [h0] at hlt; exact absurd hlt (Nat.not_lt_zero _)
  refine g_sreg [0, 1, 2, 3, 4, 5, 6, 7] kr kr ?_
  refine rp [.v, .v, .v, .e (v := .int .i64 (IntKind.i64.wrap (((posM key L : Nat) : Int) + 1))) (v' := iN (posM key L + 1)) (int_eq (wrapAdd_i64 (a := posM key L) (b := 1) (by omega)))] H11 kr fun gs8 w10 H12 => ?_
  show WPs _ _ _ _ [4, 5, 6, 7] _ _
  have H13 : St w.heap.size w w10 ((b0, .cells cur0 48 (0, 0)) :: [((gs1 1).b, boT none 0 0 0)]) := H12.as kr
  refine s_callC (some 32) 37 #[.slice (some ⟨b0, 0, none⟩) m k, iN (posM key L), iN (posM key L + 1)] (delete_c b0 m k cur0 L (posM key L) [((gs1 1).b, boT none 0 0 0)] hrw0 H13 (by omega) (by omega)) kr kr ?_
  rintro v w12 ⟨q2, m2, k2, row2, rfl, hrow2, H16⟩
  rw [del_found hok0.rise hh] at hrow2
  have hokD : OkP (delP key L) := hok0.del
  have hlD := hokD.len
  refine s_callFT H16 (some 33) 36 #[.slice q2 m2 k2] (build_fn q2 m2 k2 (delP key L) (by omega) (fun x hx => (may_size (hokD.may x hx)).1.2) (key_rise.2 hokD.rise)) (hrow2.prAt H16 fun e he => List.mem_append_left _ he) kr kr ?_
  rintro v T2 w16 ⟨p3, n3, c3, hrow4, rfl⟩ H22
  have H23 : St w.heap.size w w16 (((gs1 1).b, boT none 0 0 0) :: T2) := (H22.sub (List.Sublist.append_left (List.sublist_append_right ..) T2)).perm (List.perm_append_comm (l₁ := [((gs1 1).b, boT none 0 0 0)]) (l₂ := T2))
  refine rp [.s 0, .v] H23 kr fun gs13 w17 H24 => ?_
  show WPs _ _ _ _ [] _ _
  refine s_nil ?_
  have H25 : St w.heap.size w w17 (((gs1 1).b, boT p3 n3 c3 (layM 65 (entsOf (delP key L)) []).2) :: T2) := H24.as kr
  refine rRr [.cell 4 26, .tmp 5] [0] (.tuple #[.agg #[.slice p3 n3 c3, .int .i64 (layM 65 (entsOf (delP key L)) []).2], .int .i64 0]) (outT w.heap.size w (okPut (delP key L))) H25 kr ?_
  exact ⟨T2, ⟨p3, n3, c3, hrow4, rfl⟩, H25.sub (List.sublist_cons_self ..)⟩
end Go.Proofs.YtlhfgbjhngkicaaGreatDoor

namespace Go.Proofs.YtlhfgbjhngkicaaGreatDoor
open Go Go.RowKit
set_option linter.unusedVariables false
namespace D2
/-- Operation ka calls, operation kb stores, operation kc puts the answer down. -/
def sq (ka kb kc : Nat) (P0 : World → Prop) (P1 P2 : Gh → World → Prop) : (Nat → Bool) → (Nat → Gh) → World → Prop := fun L g w => bif L kc then P2 (g kc) w else bif L kb then P2 (g ka) w else bif L ka then P1 (g ka) w else P0 w
theorem sq.get {ka kb kc : Nat} {P0 : World → Prop} {P1 P2 : Gh → World → Prop} {L : Nat → Bool} {g : Nat → Gh} {w : World} {Φ : Prop} (h : sq ka kb kc P0 P1 P2 L g w) (h0 : P0 w → Φ) (h1 : ∀ y, P1 y w → Φ) (h2 : ∀ y, P2 y w → Φ) : Φ := by
  unfold sq at h
  cases hc : L kc with
  | true => rw [hc] at h; exact h2 _ h
  | false =>
    rw [hc] at h
    cases hb : L kb with
    | true => rw [hb] at h; exact h2 _ h
    | false =>
      rw [hb] at h
      cases ha : L ka with
      | true => rw [ha] at h; exact h1 _ h
      | false => rw [ha] at h; exact h0 h
section
variable {P : Program} {ops : Array Oper} {R : (Nat → Gh) → Env} {d : Option Nat} {P0 : World → Prop} {P1 P2 : Gh → World → Prop}
theorem gv_sq1 {V : Gh → Value} (ka kb kc : Nat) (hab : Nat.beq kb ka = false) (hac : Nat.beq kc ka = false) (f : Nat) (args : Array Value) {pr : World → Prop} {ok : Value → List (Nat × Obj) → Prop} (hc : FnT P f args pr ok) (hN : ∀ L, Now ops ka L → L kb = false ∧ L kc = false) (hpr : ∀ w, P0 w → pr w)
    (hk : ∀ w v T w', P0 w → ok v T → St w.heap.size w w' T → ∃ x : Gh, v = V x ∧ P1 x w') (h : ∀ g w, opv P ops ka (R g) w = some (d, true, .ok (.enter f args) w)) : Gives P ops R (sq ka kb kc P0 P1 P2) ka d V := by
  refine gives_of fun L g w hp hNw => ?_
  obtain ⟨hb, hcc⟩ := hN L hNw
  unfold sq at hp
  rw [hcc, hb, hNw.1] at hp
  have hp0 : P0 w := hp
  obtain ⟨o, ho, hd, hw, hr⟩ := opv_some (h g w)
  refine ⟨o, ho, hd, .inr ⟨hw, ?_⟩⟩
  rw [hr]
  refine Calls.mono (hc w (hpr w hp0)) ?_
  rintro e w' ⟨v, T, rfl, hok, hT⟩
  obtain ⟨x, hv, hq⟩ := hk w v T w' hp0 hok hT
  refine ⟨v, rfl, x, hv, ?_⟩
  unfold sq
  rw [show put1 L ka kc = false by unfold put1; rw [hac, hcc]; rfl, show put1 L ka kb = false by unfold put1; rw [hab, hb]; rfl, put1_self, show setN g ka x ka = x by unfold setN; rw [Nat.beq_refl]; rfl]
  exact hq
theorem gv_sq2 (ka kb kc : Nat) (hbc : Nat.beq kc kb = false) (t : TypeId) (x y : Operand) (b : Nat) (v : Value) (hN : ∀ L, Now ops kb L → L ka = true ∧ L kc = false) (h : ∀ g, opk ops kb (R g) = some (none, true, .store t x y))
    (hx : ∀ g, ev (R g) x = .pointer (some ⟨b, 0, none⟩)) (hy : ∀ g, ev (R g) y = v) (hi : (P.info? t).map (·.size) = some v.cells.size) (h1 : v.cells.all (·.oneCell') = true)
    (hP : ∀ z w, P1 z w → ∃ C T, w.heap[b]? = some (.cells C T (0, 0)) ∧ v.cells.size = C.size ∧ P2 z (w.setRow b v.cells)) : Gives P ops R (sq ka kb kc P0 P1 P2) kb none (fun _ => undef) := by
  refine gives_of fun L g w hp hNw => ?_
  obtain ⟨ha, hcc⟩ := hN L hNw
  unfold sq at hp
  rw [hcc, hNw.1, ha] at hp
  obtain ⟨C, T, hh, hs, hq⟩ := hP (g ka) w hp
  obtain ⟨o, ho, hd, hw, hop⟩ := opk_some (h g)
  refine ⟨o, ho, hd, .inr ⟨hw, ?_⟩⟩
  have hst := store_agg (P := P) (w := w) (off := 0) hi h1 hh (by omega)
  have e0 : (C.toList.take 0 ++ v.cells.toList ++ C.toList.drop (0 + v.cells.size)).toArray = v.cells := by
    rw [List.take_zero, List.nil_append, Nat.zero_add, hs, List.drop_of_length_le (by simp), List.append_nil]
  rw [e0] at hst
  have e2 : (execOp (ev (R g)) o).run P w = .ok .skip (w.setRow b v.cells) := by simp [execOp, hop, Instr.storeAt, Instr.sureAddr, hx g, hy g, hst]
  rw [e2]
  refine ⟨g kb, rfl, ?_⟩
  rw [setN_self]
  unfold sq
  rw [show put1 L kb kc = false by unfold put1; rw [hbc, hcc]; rfl, put1_self]
  exact hq
theorem gv_sq3 {V : Gh → Value} (ka kb kc : Nat) (hN : ∀ L, Now ops kc L → L kb = true) (h : ∀ g w, opv P ops kc (R g) w = some (d, true, .ok (.value (V (g ka))) w)) : Gives P ops R (sq ka kb kc P0 P1 P2) kc d V := by
  refine gv_valG (fun g => g ka) (fun L g w hNw hp => ?_) h
  have hb := hN L hNw
  unfold sq at hp ⊢
  rw [hNw.1, hb] at hp
  rw [put1_self, show setN g kc (g ka) kc = g ka by unfold setN; rw [Nat.beq_refl]; rfl]
  exact hp
theorem sq.fin {ka kb kc : Nat} {L : Nat → Bool} {g : Nat → Gh} {w : World} (h : sq ka kb kc P0 P1 P2 L g w) (hc : L kc = true) : P2 (g kc) w := by
  unfold sq at h; rw [hc] at h; exact h
end
end D2
/-- A row as a ghost. -/
theorem gh_of {α : Type} {S : Fl α} {ty : TypeId} {p : Option Addr} {n c : Nat} {T : List (Nat × Obj)} {L : List α} (h : RowF S ty p n c T L) : ∃ x : D2.Gh, Value.slice p n c = .slice (pG x) x.n x.cap ∧ RowF S ty (pG x) x.n x.cap T L := by
  rcases h with ⟨rfl, rfl, rfl, rfl, rfl⟩ | ⟨b, cur, rfl, rfl, hr⟩
  · exact ⟨{ n := 0, cap := 0 }, rfl, .inl ⟨rfl, rfl, rfl, rfl, rfl⟩⟩
  · exact ⟨{ b := b, n := n, cap := c, l := [1] }, rfl, .inr ⟨b, cur, rfl, rfl, hr⟩⟩
end Go.Proofs.YtlhfgbjhngkicaaGreatDoor

namespace Go.Proofs.YtlhfgbjhngkicaaGreatDoor
open Go Go.RowKit
set_option linter.unusedVariables false
theorem lay_part (B : Nat) : ∀ (f : Nat) (l : List Ent) (A : List Nd), (∀ x ∈ A, x.part.size ≤ B) → (∀ e ∈ l, e.1.length ≤ B) → ∀ x ∈ (layM f l A).1, x.part.size ≤ B
  | 0, _, A, hA, _ => hA
  | f + 1, [], A, hA, _ => hA
  | f + 1, [e], A, hA, hl => fun x hx => by
    unfold layM at hx
    rcases List.mem_append.1 hx with hx | hx
    · exact hA x hx
    · rw [List.mem_singleton.1 hx]; exact hl e (by simp)
  | f + 1, e :: e' :: r, A, hA, hl => fun x hx => by
    unfold layM at hx
    split at hx
    · rcases List.mem_append.1 hx with hx | hx
      · refine lay_part B f _ A hA (fun y hy => ?_) x hx
        obtain ⟨z, hz, rfl⟩ := List.mem_map.1 hy
        have := hl z hz
        simp only [List.length_drop]; omega
      · rw [List.mem_singleton.1 hx]
        have := hl e (by simp)
        show (e.1.take _).length ≤ B
        rw [List.length_take]; omega
    · rcases List.mem_append.1 hx with hx | hx
      · have key : ∀ n, ∀ x ∈ (kidsW (layM f) (e :: e' :: r) n A).1, x.part.size ≤ B := by
          intro n
          induction n with
          | zero => exact hA
          | succ n ih =>
            exact lay_part B f (cutE n (e :: e' :: r)) _ ih fun y hy => by
              obtain ⟨b, hb, _⟩ := cutE_mem hy
              have := hl _ hb
              simp only [List.length_cons] at this; omega
        exact key 16 x hx
      · rw [List.mem_singleton.1 hx]; exact Nat.zero_le _
theorem built_part {L : List Pr} (h : OkP L) : ∀ x ∈ (builtM L).1, x.part.size ≤ 140737488355328 := fun x hx => by
  have := lay_part 64 65 (entsOf L) [] (fun _ h => nomatch h) (fun e he => by
    obtain ⟨y, hy, rfl⟩ := List.mem_map.1 he
    have := (may_size (h.may y hy)).1.2
    show (hv (tl y.1)).length ≤ 64
    rw [hv_len, tl_len]; omega) x hx
  omega
theorem built_len {L : List Pr} (h : OkP L) : (builtM L).1.length ≤ 1000000000000 := by
  have h1 := layM_len 65 (entsOf L) []
  have h2 : (entsOf L).length = L.length := List.length_map ..
  have h3 := h.len
  rw [h2] at h1
  show (layM 65 (entsOf L) []).1.length ≤ _
  simp only [List.length_nil] at h1; omega
abbrev acO (x : Pr) : Obj := .cells #[.string x.1, .string x.2] 52 (0, 0)
/-- Pairs, and the trie of them. -/
def okModel (v : Value) (T : List (Nat × Obj)) : Prop := ∃ (L : List Pr) (q : Option Addr) (m k : Nat) (rowl : List (Nat × Obj)) (pt : Option Addr) (nt ct : Nat) (Tt : List (Nat × Obj)), OkP L ∧ RowF pS 48 q m k rowl L ∧ RowF nS 58 pt nt ct Tt (builtM L).1 ∧ T = rowl ++ Tt ∧
  v = .tuple #[.slice q m k, .agg #[.slice pt nt ct, .int .i64 (builtM L).2], .bool true]
theorem sub_a (a b c d : Nat × Obj) (R T2 Tn : List (Nat × Obj)) : (c :: d :: (T2 ++ Tn)).Sublist (a :: b :: c :: d :: ((R ++ T2) ++ Tn)) :=
  List.Sublist.cons _ (List.Sublist.cons _ (List.Sublist.cons_cons _ (List.Sublist.cons_cons _ (by rw [List.append_assoc]; exact List.sublist_append_right ..))))
theorem sub_b (a b c d : Nat × Obj) (R : List (Nat × Obj)) : (c :: d :: R).Sublist (a :: b :: c :: d :: R) := List.Sublist.cons _ (List.Sublist.cons _ (List.Sublist.refl _))
theorem same_none : FnP Tryz.prog 7 #[.agg #[.slice none 0 0, .int .i64 0], .agg #[.slice none 0 0, .int .i64 0]] (fun _ => True) (.bool true) := by
  have h := like_fn none 0 0 0 [] none 0 0 0 [] (by decide)
  exact fun w _ => h w ⟨⟨rfl, .inl rfl⟩, ⟨rfl, .inl rfl⟩⟩
set_option maxRecDepth 100000 in
set_option maxHeartbeats 8000000 in
theorem model_fn (p : Option Addr) (n c : Nat) (As : List Pr) : FnT Tryz.prog 6 #[.slice p n c] (fun w => PrAt w p n As) okModel := by
  refine FnT.intro (c := codeOf Tryz.f6) [.tmp 2, .cell 3 26, .tmp 4] 122 Tryz.func6 kr kr kr fun w hP => ?_
  have H0 := St.start w
  have hn := hP.1
  refine rS [.v, .a, .v] H0 kr fun gs1 w1 H1 => ?_
  refine rS [.v] H1 kr fun gs2 w2 H2 => ?_
  generalize hb3 : (gs1 1).b = b3 at *
  have H3 : St w.heap.size w w2 [(b3, boT none 0 0 0)] := H2.as (by rw [← hb3]; kernel_rfl)
  subst hb3
  refine g_sreg [0, 1, 2] kr kr ?_
  refine s_callFT H3 (some 18) 19 #[] new_fn trivial kr kr ?_
  rintro _ T0 w3 ⟨pt0, nt0, ct0, hrt0, rfl⟩ H4
  refine s_alloc H4 (some 6) 26 (.agg #[.slice none 0 0, .int .i64 0]) kr kr kr ?_
  intro b6 w4 H5
  have H6 : St w.heap.size w w4 ((b6, boT none 0 0 0) :: ((gs1 1).b, boT none 0 0 0) :: T0) := H5.perm (List.Perm.cons _ (List.perm_append_comm (l₁ := [((gs1 1).b, boT none 0 0 0)]) (l₂ := T0)))
  refine rp [.s 0] H6 kr fun gs3 w5 H7 => ?_
  show WPs _ _ _ _ [] _ _
  refine s_nil ?_
  refine g_seq kr ?_
  refine rS [.v, .v, .v] H7 kr fun gs4 w6 H8 => ?_
  refine g_block 0 kr ?_
  have H9 : St w.heap.size w w6 ((b6, boT pt0 nt0 ct0 (builtM []).2) :: ((gs1 1).b, boT none 0 0 0) :: ([] ++ T0)) := H8.as kr
  refine g_loop kr (fun mz ρ ww => ∃ (i : Nat) (L : List Pr) (q : Option Addr) (m k : Nat) (rowl : List (Nat × Obj)) (pt : Option Addr) (nt ct : Nat) (Tt : List (Nat × Obj)), 91 - i = mz ∧ i ≤ 90 ∧ OkP L ∧ RowF pS 48 q m k rowl L ∧ RowF nS 58 pt nt ct Tt (builtM L).1 ∧
    St w.heap.size w ww ((b6, boT pt nt ct (builtM L).2) :: ((gs1 1).b, boT none 0 0 0) :: (rowl ++ Tt)) ∧ Is [(3, .pointer (some ⟨(gs1 1).b, 0, none⟩)), (5, .slice q m k), (6, .pointer (some ⟨b6, 0, none⟩)), (19, .slice p n c), (20, iN n), (21, iN i)] ρ) (91 - 0)
    ⟨0, [], none, 0, 0, [], pt0, nt0, ct0, T0, rfl, by omega, okP_nil, .inl ⟨rfl, rfl, rfl, rfl, rfl⟩, hrt0, H9, (Is.of ⟨kr, kr, kr, kr, kr, kr, trivial⟩)⟩ ?_
  clear H0 H1 H2 H3 H4 H5 H6 H7 H8 H9
  rintro _ _ w7 ⟨i, L, q, m, k, rowl, pt, nt, ct, Tt, rfl, hi90, hok, hrow, hrt, H1, _, rfl⟩
  have h64 := hok.len
  have hlen := hrow.len
  have hread := read_built hok
  have hA := built_part hok
  have hAl := built_len hok
  by_cases hi : i < n
  · skip
    refine rS [.e (v := .bool (decide (((i : Nat) : Int) < ((n : Nat) : Int)))) (v' := .bool true) (bool_eq (decide_eq_true (by omega)))] H1 kr fun gs2 w8 H2 => ?_
    refine g_seq kr ?_
    refine g_cond_t kr kr ?_
    refine g_skip kr ?_
    show WP _ _ _ _ _ _
    refine g_seq kr ?_
    refine g_block 1 kr ?_
    obtain ⟨⟨ks, vs⟩, hx⟩ : ∃ x, As[i]? = some x := ⟨_, List.getElem?_eq_getElem (by omega)⟩
    obtain ⟨bl, off, C, T, fz, hp, hh0, hR⟩ := hP.row (by omega)
    refine g_sreg [0, 1, 2, 3, 4, 5] kr kr ?_
    refine rp [.v, .o (ins := [((.tmp 19), .slice p n c), ((.tmp 21), iN i)]) (v := .pointer (some ⟨bl, off + i * 2, none⟩)) (fun ρ o w ho hi2 => idxP_run (kd := .i64) (t := 22) (e := 52) (K := 2) (bytes := 32) kr (x := (.tmp 19)) (y := (.tmp 21)) bl off n c i hp ho hi2.1 hi2.2.1 hi w), .fp (off := off + i * 2) (n := 2) (W := #[.string ks, .string vs]) hh0 (lt_of_heap hh0) (hR _ _ hx).1 (hR _ _ hx).2] H2 kr fun gs3 w9 H3 => ?_
    show WPs _ _ _ _ [3, 4, 5] _ _
    have H4 : St w.heap.size w w9 ((b6, boT pt nt ct (builtM L).2) :: ((gs1 1).b, boT none 0 0 0) :: (rowl ++ Tt)) := H3.as kr
    refine s_alloc H4 (some 8) 52 (.agg #[.string ⟨#[]⟩, .string ⟨#[]⟩]) kr kr kr ?_
    intro b8 w10 H5
    refine rp [.v, .s 0] H5 kr fun gs4 w11 H6 => ?_
    show WPs _ _ _ _ [] _ _
    refine s_nil ?_
    have H7 : St w.heap.size w w11 ((b8, acO (ks, vs)) :: (b6, boT pt nt ct (builtM L).2) :: ((gs1 1).b, boT none 0 0 0) :: (rowl ++ Tt)) := H6.as kr
    refine g_seq kr ?_
    by_cases h90 : i < 90
    · skip
      refine rS [.v, .e (v := .bool (decide (((i : Nat) : Int) ≥ 90))) (v' := .bool false) (bool_eq (decide_eq_false (by omega)))] H7 kr fun gs5 w12 H8 => ?_
      refine g_cond_f kr kr ?_
      refine g_skip kr ?_
      show WP _ _ _ _ _ _
      obtain ⟨K, hK⟩ : ∃ K, ks.extract 0 (min ks.size 40) = K := ⟨_, rfl⟩
      obtain ⟨V, hV⟩ : ∃ V, vs.extract 0 (min vs.size 600) = V := ⟨_, rfl⟩
      have zK : K.size ≤ 40 := by rw [← hK, ByteArray.size_extract]; omega
      have zV : V.size ≤ 600 := by rw [← hV, ByteArray.size_extract]; omega
      refine dS [.v, .l 0, .v, .l 0, .v, .e (v := .int .i64 (if (40 : Int) < ((ks.size : Nat) : Int) then (40 : Int) else ((ks.size : Nat) : Int))) (v' := iN (min ks.size 40)) (int_eq (by split <;> omega)), .oe (ins := [((.tmp 29), .string ks), ((.tmp 33), iN (min ks.size 40))]) (v := .string (ks.extract 0 (min ks.size 40))) (v' := .string K) (fun ρ o w ho hi => scut_run (t := 9) (kd := .i64) kr (x := (.tmp 29)) (y := (.tmp 33)) ks (min ks.size 40) ho hi.1 hi.2.1 (Nat.min_le_left _ _) w) (congrArg Value.string hK),
        .v, .l 0, .v, .l 0, .v, .e (v := .int .i64 (if (600 : Int) < ((vs.size : Nat) : Int) then (600 : Int) else ((vs.size : Nat) : Int))) (v' := iN (min vs.size 600)) (int_eq (by split <;> omega)), .oe (ins := [((.tmp 36), .string vs), ((.tmp 40), iN (min vs.size 600))]) (v := .string (vs.extract 0 (min vs.size 600))) (v' := .string V) (fun ρ o w ho hi => scut_run (t := 9) (kd := .i64) kr (x := (.tmp 36)) (y := (.tmp 40)) vs (min vs.size 600) ho hi.1 hi.2.1 (Nat.min_le_left _ _) w) (congrArg Value.string hV), .v, .v] H8 kr fun w13 H9 => ?_
      have H10 : St w.heap.size w w13 ((b8, acO (ks, vs)) :: (b6, boT pt nt ct (builtM L).2) :: ((gs1 1).b, boT none 0 0 0) :: (rowl ++ Tt)) := H9.as kr
      refine g_is [(3, .pointer (some ⟨(gs1 1).b, 0, none⟩)), (5, .slice q m k), (6, .pointer (some ⟨b6, 0, none⟩)), (9, .string K), (10, .string V), (19, .slice p n c), (20, iN n), (21, iN i)] kr fun ρ1 => ?_
      clear H1 H2 H3 H4 H5 H6 H7 H8 H9
      have hget := getR_fn q m k L K (by omega)
      rw [get_has K hok.rise] at hget
      generalize hG : (getP K L).1 = G at hget
      have hrowP := fun (ww : World) (lx : List (Nat × Obj)) (hS : St w.heap.size w ww lx) (hl : ∀ e ∈ rowl, e ∈ lx) => hrow.prAt hS hl
      have hndP := fun (ww : World) (lx : List (Nat × Obj)) (hS : St w.heap.size w ww lx) (hl : ∀ e ∈ Tt, e ∈ lx) => hrt.ndAt hS hl
      refine g_sreg [0, 1, 2, 3, 4, 5, 6, 7] kr kr ?_
      refine rp [.v, .v] H10 kr fun gs6 w14 H11 => ?_
      show WPs _ _ _ _ [2, 3, 4, 5, 6, 7] _ _
      have H12 : St w.heap.size w w14 ((b8, acO (ks, vs)) :: (b6, boT pt nt ct (builtM L).2) :: ((gs1 1).b, boT none 0 0 0) :: (rowl ++ Tt)) := H11.as kr
      refine s_callP H12 (some 45) 20 #[.slice q m k, .string K] _ _ hget (hrowP _ _ H12 fun e he => by simp [he]) (fun w => by kernel_rfl) kr ?_
      intro w15 H13
      refine rp [.v, .v, .v, .v, .v] H13 kr fun gs7 w16 H14 => ?_
      show WPs _ _ _ _ [] _ _
      refine s_nil ?_
      have H15 : St w.heap.size w w16 ((b8, acO (ks, vs)) :: (b6, boT pt nt ct (builtM L).2) :: ((gs1 1).b, boT none 0 0 0) :: (rowl ++ Tt)) := H14.as kr
      refine g_seq kr ?_
      by_cases hv : V = ⟨#[]⟩
      · skip
        refine rS [.v, .e (v := .bool (V.toList == (⟨#[]⟩ : ByteArray).toList)) (v' := .bool true) (bool_eq (str_same _ _ hv))] H15 kr fun gs8 w17 H16 => ?_
        refine g_cond_t kr kr ?_
        refine g_sreg [0, 1, 2, 3, 4, 5, 6, 7, 8] kr kr ?_
        refine rp [.l 1, .v] H16 kr fun gs9 w18 H17 => ?_
        show WPs _ _ _ _ [2, 3, 4, 5, 6, 7, 8] _ _
        have H18 : St w.heap.size w w18 ((b8, acO (ks, vs)) :: (b6, boT pt nt ct (builtM L).2) :: ((gs1 1).b, boT none 0 0 0) :: (rowl ++ Tt)) := H17.as kr
        cases hh : hasM K L with
        | true =>
          have hok2 : OkP (delP K L) := hok.del
          refine s_callFT H18 (some 53) 17 #[.agg #[.slice pt nt ct, .int .i64 (builtM L).2], .string K] (del_ok pt nt ct (builtM L).2 (builtM L).1 hA hAl K hread hh) (hndP _ _ H18 fun e he => by simp [he]) kr kr ?_
          rintro _ T2 w19 ⟨p3, n3, c3, hrow4, rfl⟩ H19
          refine rp [.v, .v, .v] H19 kr fun gs10 w20 H20 => ?_
          show WPs _ _ _ _ [6, 7, 8] _ _
          have H21 : St w.heap.size w w20 (T2 ++ ((b8, acO (ks, vs)) :: (b6, boT pt nt ct (builtM L).2) :: ((gs1 1).b, boT none 0 0 0) :: (rowl ++ Tt))) := H20.as kr
          refine s_alloc H21 (some 13) 26 (.agg #[.slice none 0 0, .int .i64 0]) kr kr kr ?_
          intro b13 w21 H22
          have H23 : St w.heap.size w w21 ((b13, boT none 0 0 0) :: ((b8, acO (ks, vs)) :: (b6, boT pt nt ct (builtM L).2) :: ((gs1 1).b, boT none 0 0 0) :: ((rowl ++ Tt) ++ T2))) := H22.perm (List.Perm.cons _ (List.perm_append_comm (l₁ := (b8, acO (ks, vs)) :: (b6, boT pt nt ct (builtM L).2) :: ((gs1 1).b, boT none 0 0 0) :: (rowl ++ Tt)) (l₂ := T2)))
          refine rp [.s 0, .v] H23 kr fun gs11 w22 H24 => ?_
          show WPs _ _ _ _ [] _ _
          refine s_nil ?_
          have H25 : St w.heap.size w w22 ((b13, boT p3 n3 c3 (builtM (delP K L)).2) :: ((b8, acO (ks, vs)) :: (b6, boT pt nt ct (builtM L).2) :: ((gs1 1).b, boT none 0 0 0) :: ((rowl ++ Tt) ++ T2))) := H24.as kr
          refine g_seq kr ?_
          refine rS [.v, .v, .v, .v, .v, .v, .v, .v, .n, .n, .n, .n, .n, .n, .n, .n, .v, .v] H25 kr fun gs12 w23 H26 => ?_
          refine g_cond_f kr kr ?_
          refine g_skip kr ?_
          show WP _ _ _ _ _ _
          refine g_seq kr ?_
          refine g_seq kr ?_
          refine rL [.v] H26 kr fun gs13 w24 H27 => ?_
          show WP _ _ _ _ _ _
          refine g_cond_t kr kr ?_
          have H30 : St w.heap.size w w24 ((b13, boT p3 n3 c3 (builtM (delP K L)).2) :: ((b8, acO (ks, vs)) :: (b6, boT pt nt ct (builtM L).2) :: ((gs1 1).b, boT none 0 0 0) :: ((rowl ++ Tt) ++ T2))) := H27.as kr
          refine D2.g_draw0 [0, 1, 2, 3, 4, 5] [(some 76, fun _ => .agg #[.slice p3 n3 c3, .int .i64 (builtM (delP K L)).2]), (some 77, fun _ => .slice q m k), (some 78, fun _ => .string K), (some 79, fun y => .slice (pG y) y.n y.cap), (none, fun _ => undef), (some 5, fun y => .slice (pG y) y.n y.cap)]
            (D2.sq 3 4 5 (fun ww => St w.heap.size w ww (((b13, boT p3 n3 c3 (builtM (delP K L)).2) :: (b8, acO (ks, vs)) :: (b6, boT pt nt ct (builtM L).2) :: ((gs1 1).b, boT none 0 0 0) :: ((rowl ++ Tt) ++ T2)))) (fun y ww => ∃ Tn, RowF pS 48 (pG y) y.n y.cap Tn (delP K L) ∧ St w.heap.size w ww ((((b13, boT p3 n3 c3 (builtM (delP K L)).2) :: (b8, acO (ks, vs)) :: (b6, boT pt nt ct (builtM L).2) :: ((gs1 1).b, boT none 0 0 0) :: ((rowl ++ Tt) ++ T2))) ++ Tn)) (fun y ww => ∃ Tn, RowF pS 48 (pG y) y.n y.cap Tn (delP K L) ∧ St w.heap.size w ww ((((b13, boT p3 n3 c3 (builtM (delP K L)).2) :: (b8, acO (ks, vs)) :: (b6, boT p3 n3 c3 (builtM (delP K L)).2) :: ((gs1 1).b, boT none 0 0 0) :: ((rowl ++ Tt) ++ T2))) ++ Tn))) kr kr kr (H30.drew) ⟨?_, ?_, ?_, ?_, ?_, ?_, trivial⟩ ?_
          · exact D2.gv_ld (fun _ _ _ h => h) 26 (.tmp 13) (fun _ => b13) 0 #[.slice p3 n3 c3, .int .i64 (builtM (delP K L)).2] 26 (0, 0) (fun g => by kernel_rfl) (fun g => by kernel_rfl) (fun L g w hN hp => hp.get (fun h => St.get h 0 kr) (fun _ ⟨_, _, h⟩ => St.get h 0 kr) (fun _ ⟨_, _, h⟩ => St.get h 0 kr)) kr kr
          · exact D2.gv_val (fun _ _ _ h => h) (fun g w => by kernel_rfl)
          · exact D2.gv_val (fun _ _ _ h => h) (fun g w => by kernel_rfl)
          · exact D2.gv_sq1 3 4 5 kr kr 21 #[.slice q m k, .string K] (delR_fn q m k L K (by omega)) (fun L hN => ⟨hN.post 4 kr, hN.post 5 kr⟩) (fun ww h => hrowP _ _ h fun e he => by simp [he]) (fun ww v T w' h hok hT => by
              obtain ⟨p9, n9, c9, rfl, hr9⟩ := hok
              obtain ⟨x, hx, hrx⟩ := gh_of hr9
              exact ⟨x, hx, T, hrx, (St.addAll h hT).perm List.perm_append_comm⟩) (fun g w => by kernel_rfl)
          · exact D2.gv_sq2 3 4 5 kr 26 (.tmp 6) (.tmp 76) b6 (.agg #[.slice p3 n3 c3, .int .i64 (builtM (delP K L)).2]) (fun L hN => ⟨hN.bef 3 kr, hN.post 5 kr⟩) (fun g => by kernel_rfl) (fun g => by kernel_rfl) (fun g => by kernel_rfl) kr kr (fun z ww ⟨Tn, hr, h⟩ => ⟨#[.slice pt nt ct, .int .i64 (builtM L).2], 26, St.get h 2 kr, rfl, Tn, hr, St.store (C := #[.slice pt nt ct, .int .i64 (builtM L).2]) (C' := #[.slice p3 n3 c3, .int .i64 (builtM (delP K L)).2]) (T := 26) h 2 kr⟩)
          · exact D2.gv_sq3 3 4 5 (fun L hN => hN.bef 4 kr) (fun g w => by kernel_rfl)
          · intro L1 gg w40 hall hp
            obtain ⟨Tn, hr9, H40⟩ := hp.fin (hall 5 (Nat.le_of_ble_eq_true kr))
            show WP _ _ _ _ _ _
            refine g_exit 1 kr ?_
            show WP _ _ _ _ _ _
            refine rL [.e (v := .int .i64 (IntKind.i64.wrap (((i : Nat) : Int) + 1))) (v' := iN (i + 1)) (int_eq (wrapAdd_i64 (a := i) (b := 1) (by omega))), .v] H40 kr fun gs80 w80 H80 => ?_
            show ∃ m, _ ∧ _
            exact ⟨_, (by omega), i + 1, delP K L, (pG (gg 5)), (gg 5).n, (gg 5).cap, Tn, p3, n3, c3, T2, rfl, by omega, hok2, hr9, hrow4, (H80.sub (sub_a _ _ _ _ (rowl ++ Tt) T2 Tn)).perm (List.Perm.cons _ (List.Perm.cons _ List.perm_append_comm)), (Is.of ⟨kr, kr, kr, kr, kr, kr, trivial⟩)⟩
        | false =>
          refine s_callP H18 (some 53) 17 #[.agg #[.slice pt nt ct, .int .i64 (builtM L).2], .string K] _ _ (del_zero pt nt ct (builtM L).2 (builtM L).1 hA hAl K hread hh) (hndP _ _ H18 fun e he => by simp [he]) (fun w => by kernel_rfl) kr ?_
          intro w19 H19
          refine rp [.v, .v, .v] H19 kr fun gs10 w20 H20 => ?_
          show WPs _ _ _ _ [6, 7, 8] _ _
          have H21 : St w.heap.size w w20 ((b8, acO (ks, vs)) :: (b6, boT pt nt ct (builtM L).2) :: ((gs1 1).b, boT none 0 0 0) :: (rowl ++ Tt)) := H20.as kr
          refine s_alloc H21 (some 13) 26 (.agg #[.slice none 0 0, .int .i64 0]) kr kr kr ?_
          intro b13 w21 H22
          refine rp [.s 0, .v] H22 kr fun gs11 w22 H24 => ?_
          show WPs _ _ _ _ [] _ _
          refine s_nil ?_
          have H25 : St w.heap.size w w22 ((b13, boT none 0 0 0) :: (b8, acO (ks, vs)) :: (b6, boT pt nt ct (builtM L).2) :: ((gs1 1).b, boT none 0 0 0) :: (rowl ++ Tt)) := H24.as kr
          refine g_seq kr ?_
          refine rS [.v, .v, .v, .v, .v, .v, .v, .v, .v, .v, .v, .l 0, .v, .cp (pre := fun _ => True) same_none [] (fun w hb hd => trivial), .v, .v, .v, .v] H25 kr fun gs12 w23 H26 => ?_
          refine g_cond_f kr kr ?_
          refine g_skip kr ?_
          show WP _ _ _ _ _ _
          refine g_seq kr ?_
          refine g_seq kr ?_
          refine rL [.v] H26 kr fun gs13 w24 H27 => ?_
          show WP _ _ _ _ _ _
          refine g_cond_f kr kr ?_
          refine g_skip kr ?_
          show WP _ _ _ _ _ _
          refine g_exit 1 kr ?_
          show WP _ _ _ _ _ _
          refine rL [.e (v := .int .i64 (IntKind.i64.wrap (((i : Nat) : Int) + 1))) (v' := iN (i + 1)) (int_eq (wrapAdd_i64 (a := i) (b := 1) (by omega))), .v] H27 kr fun gs80 w80 H80 => ?_
          show ∃ m, _ ∧ _
          exact ⟨_, (by omega), i + 1, L, q, m, k, rowl, pt, nt, ct, Tt, rfl, by omega, hok, hrow, hrt, H80.sub (sub_b _ _ _ _ (rowl ++ Tt)), (Is.of ⟨kr, kr, kr, kr, kr, kr, trivial⟩)⟩
      · skip
        refine rS [.v, .e (v := .bool (V.toList == (⟨#[]⟩ : ByteArray).toList)) (v' := .bool false) (bool_eq (str_other _ _ hv))] H15 kr fun gs8 w17 H16 => ?_
        refine g_cond_f kr kr ?_
        refine g_skip kr ?_
        show WP _ _ _ _ _ _
        refine rS [.v] H16 kr fun gs9 w18 H17 => ?_
        refine g_seq kr ?_
        cases hm : mayM K V with
        | false =>
          refine rS [.v, .v, .c (mayR_fn K V), .e (v := .bool (!(mayM K V))) (v' := .bool true) (bool_eq (by rw [hm]; rfl))] H17 kr fun gs10 w19 H18 => ?_
          refine g_cond_t kr kr ?_
          refine rL [.v] H18 kr fun gs10b w19b H19 => ?_
          show WP _ _ _ _ _ _
          refine g_sreg [0, 1, 2, 3, 4, 5, 6, 7, 8, 9] kr kr ?_
          refine rp [.l 1, .v, .v] H19 kr fun gs11 w20 H20 => ?_
          show WPs _ _ _ _ [3, 4, 5, 6, 7, 8, 9] _ _
          have H21 : St w.heap.size w w20 ((b8, acO (ks, vs)) :: (b6, boT pt nt ct (builtM L).2) :: ((gs1 1).b, boT none 0 0 0) :: (rowl ++ Tt)) := H20.as kr
          refine s_callP H21 (some 95) 16 #[.agg #[.slice pt nt ct, .int .i64 (builtM L).2], .string K, .string V] _ _ (put_bad pt nt ct (builtM L).2 (builtM L).1 hA hAl K V hread hm) (hndP _ _ H21 fun e he => by simp [he]) (fun w => by kernel_rfl) kr ?_
          intro w21 H22
          refine rp [.v, .v, .v] H22 kr fun gs12 w22 H23 => ?_
          show WPs _ _ _ _ [7, 8, 9] _ _
          have H24 : St w.heap.size w w22 ((b8, acO (ks, vs)) :: (b6, boT pt nt ct (builtM L).2) :: ((gs1 1).b, boT none 0 0 0) :: (rowl ++ Tt)) := H23.as kr
          refine s_alloc H24 (some 16) 26 (.agg #[.slice none 0 0, .int .i64 0]) kr kr kr ?_
          intro b16 w23 H25
          refine rp [.s 0, .v] H25 kr fun gs13 w24 H26 => ?_
          show WPs _ _ _ _ [] _ _
          refine s_nil ?_
          have H27 : St w.heap.size w w24 ((b16, boT none 0 0 0) :: (b8, acO (ks, vs)) :: (b6, boT pt nt ct (builtM L).2) :: ((gs1 1).b, boT none 0 0 0) :: (rowl ++ Tt)) := H26.as kr
          refine g_seq kr ?_
          refine rS [.v, .v, .v, .v, .v, .v, .v, .l 0, .v, .cp (pre := fun _ => True) same_none [] (fun w hb hd => trivial), .v, .v, .v] H27 kr fun gs14 w25 H28 => ?_
          refine g_cond_f kr kr ?_
          refine g_skip kr ?_
          show WP _ _ _ _ _ _
          refine rS [.v, .v] H28 kr fun gs15 w26 H29 => ?_
          refine g_cond_f kr kr ?_
          refine g_skip kr ?_
          show WP _ _ _ _ _ _
          refine rL [.e (v := .int .i64 (IntKind.i64.wrap (((i : Nat) : Int) + 1))) (v' := iN (i + 1)) (int_eq (wrapAdd_i64 (a := i) (b := 1) (by omega))), .v] H29 kr fun gs80 w80 H80 => ?_
          show ∃ m, _ ∧ _
          exact ⟨_, (by omega), i + 1, L, q, m, k, rowl, pt, nt, ct, Tt, rfl, by omega, hok, hrow, hrt, H80.sub (sub_b _ _ _ _ (rowl ++ Tt)), (Is.of ⟨kr, kr, kr, kr, kr, kr, trivial⟩)⟩
        | true =>
          refine rS [.v, .v, .c (mayR_fn K V), .e (v := .bool (!(mayM K V))) (v' := .bool false) (bool_eq (by rw [hm]; rfl))] H17 kr fun gs10 w19 H18 => ?_
          refine g_cond_f kr kr ?_
          cases hh : hasM K L with
          | true =>
            have hok2 : OkP (insM K V L) := hok.ins hm (.inl hh)
            refine rS [.v, .v, .v, .n, .n, .n, .v] H18 kr fun gs10b w19b H19 => ?_
            refine g_cond_f kr kr ?_
            refine g_skip kr ?_
            show WP _ _ _ _ _ _
            refine g_sreg [0, 1, 2, 3, 4, 5, 6, 7, 8, 9] kr kr ?_
            refine rp [.l 1, .v, .v] H19 kr fun gs11 w20 H20 => ?_
            show WPs _ _ _ _ [3, 4, 5, 6, 7, 8, 9] _ _
            have H21 : St w.heap.size w w20 ((b8, acO (ks, vs)) :: (b6, boT pt nt ct (builtM L).2) :: ((gs1 1).b, boT none 0 0 0) :: (rowl ++ Tt)) := H20.as kr
            refine s_callFT H21 (some 95) 16 #[.agg #[.slice pt nt ct, .int .i64 (builtM L).2], .string K, .string V] (put_ok pt nt ct (builtM L).2 (builtM L).1 hA hAl K V hread hm (.inl hh)) (hndP _ _ H21 fun e he => by simp [he]) kr kr ?_
            rintro _ T2 w21 ⟨p3, n3, c3, hrow4, rfl⟩ H22
            refine rp [.v, .v, .v] H22 kr fun gs12 w22 H23 => ?_
            show WPs _ _ _ _ [7, 8, 9] _ _
            have H24 : St w.heap.size w w22 (T2 ++ ((b8, acO (ks, vs)) :: (b6, boT pt nt ct (builtM L).2) :: ((gs1 1).b, boT none 0 0 0) :: (rowl ++ Tt))) := H23.as kr
            refine s_alloc H24 (some 16) 26 (.agg #[.slice none 0 0, .int .i64 0]) kr kr kr ?_
            intro b16 w23 H25
            have H26 : St w.heap.size w w23 ((b16, boT none 0 0 0) :: ((b8, acO (ks, vs)) :: (b6, boT pt nt ct (builtM L).2) :: ((gs1 1).b, boT none 0 0 0) :: ((rowl ++ Tt) ++ T2))) := H25.perm (List.Perm.cons _ (List.perm_append_comm (l₁ := (b8, acO (ks, vs)) :: (b6, boT pt nt ct (builtM L).2) :: ((gs1 1).b, boT none 0 0 0) :: (rowl ++ Tt)) (l₂ := T2)))
            refine rp [.s 0, .v] H26 kr fun gs13 w24 H27 => ?_
            show WPs _ _ _ _ [] _ _
            refine s_nil ?_
            have H28 : St w.heap.size w w24 ((b16, boT p3 n3 c3 (builtM (insM K V L)).2) :: ((b8, acO (ks, vs)) :: (b6, boT pt nt ct (builtM L).2) :: ((gs1 1).b, boT none 0 0 0) :: ((rowl ++ Tt) ++ T2))) := H27.as kr
            refine g_seq kr ?_
            refine rS [.v, .v, .v, .v, .v, .v, .v, .n, .n, .n, .n, .v, .v] H28 kr fun gs14 w25 H29 => ?_
            refine g_cond_f kr kr ?_
            refine g_skip kr ?_
            show WP _ _ _ _ _ _
            refine rS [.v, .v] H29 kr fun gs15 w26 H29b => ?_
            refine g_cond_t kr kr ?_
            have hputR := putR_fn q m k L K V (by omega)
            rw [putP_ins hok.rise] at hputR
            have H30 : St w.heap.size w w26 ((b16, boT p3 n3 c3 (builtM (insM K V L)).2) :: ((b8, acO (ks, vs)) :: (b6, boT pt nt ct (builtM L).2) :: ((gs1 1).b, boT none 0 0 0) :: ((rowl ++ Tt) ++ T2))) := H29b.as kr
            refine D2.g_draw0 [0, 1, 2, 3, 4, 5, 6] [(some 114, fun _ => .agg #[.slice p3 n3 c3, .int .i64 (builtM (insM K V L)).2]), (some 115, fun _ => .slice q m k), (some 116, fun _ => .string K), (some 117, fun _ => .string V), (some 118, fun y => .slice (pG y) y.n y.cap), (none, fun _ => undef), (some 5, fun y => .slice (pG y) y.n y.cap)]
              (D2.sq 4 5 6 (fun ww => St w.heap.size w ww (((b16, boT p3 n3 c3 (builtM (insM K V L)).2) :: (b8, acO (ks, vs)) :: (b6, boT pt nt ct (builtM L).2) :: ((gs1 1).b, boT none 0 0 0) :: ((rowl ++ Tt) ++ T2)))) (fun y ww => ∃ Tn, RowF pS 48 (pG y) y.n y.cap Tn (insM K V L) ∧ St w.heap.size w ww ((((b16, boT p3 n3 c3 (builtM (insM K V L)).2) :: (b8, acO (ks, vs)) :: (b6, boT pt nt ct (builtM L).2) :: ((gs1 1).b, boT none 0 0 0) :: ((rowl ++ Tt) ++ T2))) ++ Tn)) (fun y ww => ∃ Tn, RowF pS 48 (pG y) y.n y.cap Tn (insM K V L) ∧ St w.heap.size w ww ((((b16, boT p3 n3 c3 (builtM (insM K V L)).2) :: (b8, acO (ks, vs)) :: (b6, boT p3 n3 c3 (builtM (insM K V L)).2) :: ((gs1 1).b, boT none 0 0 0) :: ((rowl ++ Tt) ++ T2))) ++ Tn))) kr kr kr (H30.drew) ⟨?_, ?_, ?_, ?_, ?_, ?_, ?_, trivial⟩ ?_
            · exact D2.gv_ld (fun _ _ _ h => h) 26 (.tmp 16) (fun _ => b16) 0 #[.slice p3 n3 c3, .int .i64 (builtM (insM K V L)).2] 26 (0, 0) (fun g => by kernel_rfl) (fun g => by kernel_rfl) (fun L g w hN hp => hp.get (fun h => St.get h 0 kr) (fun _ ⟨_, _, h⟩ => St.get h 0 kr) (fun _ ⟨_, _, h⟩ => St.get h 0 kr)) kr kr
            · exact D2.gv_val (fun _ _ _ h => h) (fun g w => by kernel_rfl)
            · exact D2.gv_val (fun _ _ _ h => h) (fun g w => by kernel_rfl)
            · exact D2.gv_val (fun _ _ _ h => h) (fun g w => by kernel_rfl)
            · exact D2.gv_sq1 4 5 6 kr kr 22 #[.slice q m k, .string K, .string V] (hputR) (fun L hN => ⟨hN.post 5 kr, hN.post 6 kr⟩) (fun ww h => hrowP _ _ h fun e he => by simp [he]) (fun ww v T w' h hok hT => by
                obtain ⟨p9, n9, c9, rfl, hr9⟩ := hok
                obtain ⟨x, hx, hrx⟩ := gh_of hr9
                exact ⟨x, hx, T, hrx, (St.addAll h hT).perm List.perm_append_comm⟩) (fun g w => by kernel_rfl)
            · exact D2.gv_sq2 4 5 6 kr 26 (.tmp 6) (.tmp 114) b6 (.agg #[.slice p3 n3 c3, .int .i64 (builtM (insM K V L)).2]) (fun L hN => ⟨hN.bef 4 kr, hN.post 6 kr⟩) (fun g => by kernel_rfl) (fun g => by kernel_rfl) (fun g => by kernel_rfl) kr kr (fun z ww ⟨Tn, hr, h⟩ => ⟨#[.slice pt nt ct, .int .i64 (builtM L).2], 26, St.get h 2 kr, rfl, Tn, hr, St.store (C := #[.slice pt nt ct, .int .i64 (builtM L).2]) (C' := #[.slice p3 n3 c3, .int .i64 (builtM (insM K V L)).2]) (T := 26) h 2 kr⟩)
            · exact D2.gv_sq3 4 5 6 (fun L hN => hN.bef 5 kr) (fun g w => by kernel_rfl)
            · intro L1 gg w40 hall hp
              obtain ⟨Tn, hr9, H40⟩ := hp.fin (hall 6 (Nat.le_of_ble_eq_true kr))
              show WP _ _ _ _ _ _
              refine rL [.e (v := .int .i64 (IntKind.i64.wrap (((i : Nat) : Int) + 1))) (v' := iN (i + 1)) (int_eq (wrapAdd_i64 (a := i) (b := 1) (by omega))), .v] H40 kr fun gs80 w80 H80 => ?_
              show ∃ m, _ ∧ _
              exact ⟨_, (by omega), i + 1, insM K V L, (pG (gg 6)), (gg 6).n, (gg 6).cap, Tn, p3, n3, c3, T2, rfl, by omega, hok2, hr9, hrow4, (H80.sub (sub_a _ _ _ _ (rowl ++ Tt) T2 Tn)).perm (List.Perm.cons _ (List.Perm.cons _ List.perm_append_comm)), (Is.of ⟨kr, kr, kr, kr, kr, kr, trivial⟩)⟩
          | false =>
            by_cases hf : L.length < 64
            · skip
              have hok2 : OkP (insM K V L) := hok.ins hm (.inr hf)
              refine rS [.v, .v, .v, .v, .v, .e (v := .bool (decide (((m : Nat) : Int) ≥ 64))) (v' := .bool false) (bool_eq (decide_eq_false (by omega))), .v] H18 kr fun gs10b w19b H19 => ?_
              refine g_cond_f kr kr ?_
              refine g_skip kr ?_
              show WP _ _ _ _ _ _
              refine g_sreg [0, 1, 2, 3, 4, 5, 6, 7, 8, 9] kr kr ?_
              refine rp [.l 1, .v, .v] H19 kr fun gs11 w20 H20 => ?_
              show WPs _ _ _ _ [3, 4, 5, 6, 7, 8, 9] _ _
              have H21 : St w.heap.size w w20 ((b8, acO (ks, vs)) :: (b6, boT pt nt ct (builtM L).2) :: ((gs1 1).b, boT none 0 0 0) :: (rowl ++ Tt)) := H20.as kr
              refine s_callFT H21 (some 95) 16 #[.agg #[.slice pt nt ct, .int .i64 (builtM L).2], .string K, .string V] (put_ok pt nt ct (builtM L).2 (builtM L).1 hA hAl K V hread hm (.inr hf)) (hndP _ _ H21 fun e he => by simp [he]) kr kr ?_
              rintro _ T2 w21 ⟨p3, n3, c3, hrow4, rfl⟩ H22
              refine rp [.v, .v, .v] H22 kr fun gs12 w22 H23 => ?_
              show WPs _ _ _ _ [7, 8, 9] _ _
              have H24 : St w.heap.size w w22 (T2 ++ ((b8, acO (ks, vs)) :: (b6, boT pt nt ct (builtM L).2) :: ((gs1 1).b, boT none 0 0 0) :: (rowl ++ Tt))) := H23.as kr
              refine s_alloc H24 (some 16) 26 (.agg #[.slice none 0 0, .int .i64 0]) kr kr kr ?_
              intro b16 w23 H25
              have H26 : St w.heap.size w w23 ((b16, boT none 0 0 0) :: ((b8, acO (ks, vs)) :: (b6, boT pt nt ct (builtM L).2) :: ((gs1 1).b, boT none 0 0 0) :: ((rowl ++ Tt) ++ T2))) := H25.perm (List.Perm.cons _ (List.perm_append_comm (l₁ := (b8, acO (ks, vs)) :: (b6, boT pt nt ct (builtM L).2) :: ((gs1 1).b, boT none 0 0 0) :: (rowl ++ Tt)) (l₂ := T2)))
              refine rp [.s 0, .v] H26 kr fun gs13 w24 H27 => ?_
              show WPs _ _ _ _ [] _ _
              refine s_nil ?_
              have H28 : St w.heap.size w w24 ((b16, boT p3 n3 c3 (builtM (insM K V L)).2) :: ((b8, acO (ks, vs)) :: (b6, boT pt nt ct (builtM L).2) :: ((gs1 1).b, boT none 0 0 0) :: ((rowl ++ Tt) ++ T2))) := H27.as kr
              refine g_seq kr ?_
              refine rS [.v, .v, .v, .v, .v, .v, .v, .n, .n, .n, .n, .v, .v] H28 kr fun gs14 w25 H29 => ?_
              refine g_cond_f kr kr ?_
              refine g_skip kr ?_
              show WP _ _ _ _ _ _
              refine rS [.v, .v] H29 kr fun gs15 w26 H29b => ?_
              refine g_cond_t kr kr ?_
              have hputR := putR_fn q m k L K V (by omega)
              rw [putP_ins hok.rise] at hputR
              have H30 : St w.heap.size w w26 ((b16, boT p3 n3 c3 (builtM (insM K V L)).2) :: ((b8, acO (ks, vs)) :: (b6, boT pt nt ct (builtM L).2) :: ((gs1 1).b, boT none 0 0 0) :: ((rowl ++ Tt) ++ T2))) := H29b.as kr
              refine D2.g_draw0 [0, 1, 2, 3, 4, 5, 6] [(some 114, fun _ => .agg #[.slice p3 n3 c3, .int .i64 (builtM (insM K V L)).2]), (some 115, fun _ => .slice q m k), (some 116, fun _ => .string K), (some 117, fun _ => .string V), (some 118, fun y => .slice (pG y) y.n y.cap), (none, fun _ => undef), (some 5, fun y => .slice (pG y) y.n y.cap)]
                (D2.sq 4 5 6 (fun ww => St w.heap.size w ww (((b16, boT p3 n3 c3 (builtM (insM K V L)).2) :: (b8, acO (ks, vs)) :: (b6, boT pt nt ct (builtM L).2) :: ((gs1 1).b, boT none 0 0 0) :: ((rowl ++ Tt) ++ T2)))) (fun y ww => ∃ Tn, RowF pS 48 (pG y) y.n y.cap Tn (insM K V L) ∧ St w.heap.size w ww ((((b16, boT p3 n3 c3 (builtM (insM K V L)).2) :: (b8, acO (ks, vs)) :: (b6, boT pt nt ct (builtM L).2) :: ((gs1 1).b, boT none 0 0 0) :: ((rowl ++ Tt) ++ T2))) ++ Tn)) (fun y ww => ∃ Tn, RowF pS 48 (pG y) y.n y.cap Tn (insM K V L) ∧ St w.heap.size w ww ((((b16, boT p3 n3 c3 (builtM (insM K V L)).2) :: (b8, acO (ks, vs)) :: (b6, boT p3 n3 c3 (builtM (insM K V L)).2) :: ((gs1 1).b, boT none 0 0 0) :: ((rowl ++ Tt) ++ T2))) ++ Tn))) kr kr kr (H30.drew) ⟨?_, ?_, ?_, ?_, ?_, ?_, ?_, trivial⟩ ?_
              · exact D2.gv_ld (fun _ _ _ h => h) 26 (.tmp 16) (fun _ => b16) 0 #[.slice p3 n3 c3, .int .i64 (builtM (insM K V L)).2] 26 (0, 0) (fun g => by kernel_rfl) (fun g => by kernel_rfl) (fun L g w hN hp => hp.get (fun h => St.get h 0 kr) (fun _ ⟨_, _, h⟩ => St.get h 0 kr) (fun _ ⟨_, _, h⟩ => St.get h 0 kr)) kr kr
              · exact D2.gv_val (fun _ _ _ h => h) (fun g w => by kernel_rfl)
              · exact D2.gv_val (fun _ _ _ h => h) (fun g w => by kernel_rfl)
              · exact D2.gv_val (fun _ _ _ h => h) (fun g w => by kernel_rfl)
              · exact D2.gv_sq1 4 5 6 kr kr 22 #[.slice q m k, .string K, .string V] (hputR) (fun L hN => ⟨hN.post 5 kr, hN.post 6 kr⟩) (fun ww h => hrowP _ _ h fun e he => by simp [he]) (fun ww v T w' h hok hT => by
                  obtain ⟨p9, n9, c9, rfl, hr9⟩ := hok
                  obtain ⟨x, hx, hrx⟩ := gh_of hr9
                  exact ⟨x, hx, T, hrx, (St.addAll h hT).perm List.perm_append_comm⟩) (fun g w => by kernel_rfl)
              · exact D2.gv_sq2 4 5 6 kr 26 (.tmp 6) (.tmp 114) b6 (.agg #[.slice p3 n3 c3, .int .i64 (builtM (insM K V L)).2]) (fun L hN => ⟨hN.bef 4 kr, hN.post 6 kr⟩) (fun g => by kernel_rfl) (fun g => by kernel_rfl) (fun g => by kernel_rfl) kr kr (fun z ww ⟨Tn, hr, h⟩ => ⟨#[.slice pt nt ct, .int .i64 (builtM L).2], 26, St.get h 2 kr, rfl, Tn, hr, St.store (C := #[.slice pt nt ct, .int .i64 (builtM L).2]) (C' := #[.slice p3 n3 c3, .int .i64 (builtM (insM K V L)).2]) (T := 26) h 2 kr⟩)
              · exact D2.gv_sq3 4 5 6 (fun L hN => hN.bef 5 kr) (fun g w => by kernel_rfl)
              · intro L1 gg w40 hall hp
                obtain ⟨Tn, hr9, H40⟩ := hp.fin (hall 6 (Nat.le_of_ble_eq_true kr))
                show WP _ _ _ _ _ _
                refine rL [.e (v := .int .i64 (IntKind.i64.wrap (((i : Nat) : Int) + 1))) (v' := iN (i + 1)) (int_eq (wrapAdd_i64 (a := i) (b := 1) (by omega))), .v] H40 kr fun gs80 w80 H80 => ?_
                show ∃ m, _ ∧ _
                exact ⟨_, (by omega), i + 1, insM K V L, (pG (gg 6)), (gg 6).n, (gg 6).cap, Tn, p3, n3, c3, T2, rfl, by omega, hok2, hr9, hrow4, (H80.sub (sub_a _ _ _ _ (rowl ++ Tt) T2 Tn)).perm (List.Perm.cons _ (List.Perm.cons _ List.perm_append_comm)), (Is.of ⟨kr, kr, kr, kr, kr, kr, trivial⟩)⟩
            · skip
              refine rS [.v, .v, .v, .v, .v, .e (v := .bool (decide (((m : Nat) : Int) ≥ 64))) (v' := .bool true) (bool_eq (decide_eq_true (by omega))), .v] H18 kr fun gs10b w19b H19a => ?_
              refine g_cond_t kr kr ?_
              refine rL [.v] H19a kr fun gs10c w19c H19 => ?_
              show WP _ _ _ _ _ _
              refine g_sreg [0, 1, 2, 3, 4, 5, 6, 7, 8, 9] kr kr ?_
              refine rp [.l 1, .v, .v] H19 kr fun gs11 w20 H20 => ?_
              show WPs _ _ _ _ [3, 4, 5, 6, 7, 8, 9] _ _
              have H21 : St w.heap.size w w20 ((b8, acO (ks, vs)) :: (b6, boT pt nt ct (builtM L).2) :: ((gs1 1).b, boT none 0 0 0) :: (rowl ++ Tt)) := H20.as kr
              refine s_callP H21 (some 95) 16 #[.agg #[.slice pt nt ct, .int .i64 (builtM L).2], .string K, .string V] _ _ (put_long pt nt ct (builtM L).2 (builtM L).1 hA hAl K V hread hm hh (by omega)) (hndP _ _ H21 fun e he => by simp [he]) (fun w => by kernel_rfl) kr ?_
              intro w21 H22
              refine rp [.v, .v, .v] H22 kr fun gs12 w22 H23 => ?_
              show WPs _ _ _ _ [7, 8, 9] _ _
              have H24 : St w.heap.size w w22 ((b8, acO (ks, vs)) :: (b6, boT pt nt ct (builtM L).2) :: ((gs1 1).b, boT none 0 0 0) :: (rowl ++ Tt)) := H23.as kr
              refine s_alloc H24 (some 16) 26 (.agg #[.slice none 0 0, .int .i64 0]) kr kr kr ?_
              intro b16 w23 H25
              refine rp [.s 0, .v] H25 kr fun gs13 w24 H26 => ?_
              show WPs _ _ _ _ [] _ _
              refine s_nil ?_
              have H27 : St w.heap.size w w24 ((b16, boT none 0 0 0) :: (b8, acO (ks, vs)) :: (b6, boT pt nt ct (builtM L).2) :: ((gs1 1).b, boT none 0 0 0) :: (rowl ++ Tt)) := H26.as kr
              refine g_seq kr ?_
              refine rS [.v, .v, .v, .v, .v, .v, .v, .l 0, .v, .cp (pre := fun _ => True) same_none [] (fun w hb hd => trivial), .v, .v, .v] H27 kr fun gs14 w25 H28 => ?_
              refine g_cond_f kr kr ?_
              refine g_skip kr ?_
              show WP _ _ _ _ _ _
              refine rS [.v, .v] H28 kr fun gs15 w26 H29 => ?_
              refine g_cond_f kr kr ?_
              refine g_skip kr ?_
              show WP _ _ _ _ _ _
              refine rL [.e (v := .int .i64 (IntKind.i64.wrap (((i : Nat) : Int) + 1))) (v' := iN (i + 1)) (int_eq (wrapAdd_i64 (a := i) (b := 1) (by omega))), .v] H29 kr fun gs80 w80 H80 => ?_
              show ∃ m, _ ∧ _
              exact ⟨_, (by omega), i + 1, L, q, m, k, rowl, pt, nt, ct, Tt, rfl, by omega, hok, hrow, hrt, H80.sub (sub_b _ _ _ _ (rowl ++ Tt)), (Is.of ⟨kr, kr, kr, kr, kr, kr, trivial⟩)⟩
    · skip
      refine rS [.v, .e (v := .bool (decide (((i : Nat) : Int) ≥ 90))) (v' := .bool true) (bool_eq (decide_eq_true (by omega)))] H7 kr fun gs5 w12 H8 => ?_
      refine g_cond_t kr kr ?_
      refine g_exit 0 kr ?_
      show WP _ _ _ _ _ _
      have H9 : St w.heap.size w w12 ((b6, boT pt nt ct (builtM L).2) :: ((gs1 1).b, boT none 0 0 0) :: (rowl ++ Tt)) := H8.sub (List.sublist_cons_self ..)
      refine dS [.v, .l 0, .v, .s 1, .v] H9 kr fun w90 H90 => ?_
      refine rRr [.tmp 2, .cell 3 26, .tmp 4] [1] (.tuple #[.slice q m k, .agg #[.slice pt nt ct, .int .i64 (builtM L).2], .bool true]) (outT w.heap.size w okModel) H90 kr ?_
      exact ⟨rowl ++ Tt, ⟨L, q, m, k, rowl, pt, nt, ct, Tt, hok, hrow, hrt, rfl, rfl⟩, (H90.as (l := (b6, boT pt nt ct (builtM L).2) :: ((gs1 1).b, boT pt nt ct (builtM L).2) :: (rowl ++ Tt)) kr).sub ((List.sublist_cons_self ..).trans (List.sublist_cons_self ..))⟩
  · skip
    refine rS [.e (v := .bool (decide (((i : Nat) : Int) < ((n : Nat) : Int)))) (v' := .bool false) (bool_eq (decide_eq_false (by omega)))] H1 kr fun gs2 w8 H2 => ?_
    refine g_seq kr ?_
    refine g_cond_f kr kr ?_
    refine g_exit 0 kr ?_
    show WP _ _ _ _ _ _
    refine dS [.v, .l 0, .v, .s 1, .v] H2 kr fun w90 H90 => ?_
    refine rRr [.tmp 2, .cell 3 26, .tmp 4] [1] (.tuple #[.slice q m k, .agg #[.slice pt nt ct, .int .i64 (builtM L).2], .bool true]) (outT w.heap.size w okModel) H90 kr ?_
    exact ⟨rowl ++ Tt, ⟨L, q, m, k, rowl, pt, nt, ct, Tt, hok, hrow, hrt, rfl, rfl⟩, (H90.as (l := (b6, boT pt nt ct (builtM L).2) :: ((gs1 1).b, boT pt nt ct (builtM L).2) :: (rowl ++ Tt)) kr).sub ((List.sublist_cons_self ..).trans (List.sublist_cons_self ..))⟩
end Go.Proofs.YtlhfgbjhngkicaaGreatDoor

namespace Go.Proofs.YtlhfgbjhngkicaaGreatDoor
open Go Go.RowKit
set_option linter.unusedVariables false
theorem gets_trie (p : Option Addr) (n c : Nat) {L : List Pr} (hok : OkP L) (key : ByteArray) {v : ByteArray} {b : Bool} (hg : getP key L = (v, b)) :
    FnP Tryz.prog 15 #[.agg #[.slice p n c, .int .i64 (builtM L).2], .string key] (fun w => NdAt w p n (builtM L).1) (.tuple #[.string v, .bool b]) := by
  have h := get_fn p n c (builtM L).2 (builtM L).1 (built_part hok) (built_len hok) key
  rw [read_built hok, getM_is hok.rise, hg] at h
  exact h
theorem like_trie (p p' : Option Addr) (n c n' c' : Nat) {L : List Pr} (hok : OkP L) :
    FnP Tryz.prog 7 #[.agg #[.slice p n c, .int .i64 (builtM L).2], .agg #[.slice p' n' c', .int .i64 (builtM L).2]] (fun w => NdAt w p n (builtM L).1 ∧ NdAt w p' n' (builtM L).1) (.bool true) := by
  have h := like_fn p n c (builtM L).2 (builtM L).1 p' n' c' (builtM L).2 (builtM L).1 (built_len hok)
  rwa [decide_eq_true rfl, ndsB_self] at h
theorem has_ins (k v : ByteArray) {L : List Pr} (hr : RiseP L) : hasM k (insM k v L) = true := by rw [← get_has k (ins_rise hr), get_ins hr]
theorem del_len {k : ByteArray} {L : List Pr} (hr : RiseP L) (h : hasM k L = true) : (delP k L).length + 1 = L.length := by
  have := hasM_lt h
  rw [← del_found hr h, List.length_append, List.length_take, List.length_drop]; omega
set_option maxRecDepth 100000 in
set_option maxHeartbeats 8000000 in
theorem gets_fn (p : Option Addr) (n c : Nat) (As : List Pr) (key value : ByteArray) : FnP Tryz.prog 5 #[.slice p n c, .string key, .string value] (fun w => PrAt w p n As ∧ Ke.Marks w) (.bool true) := by
  refine FnP.intro (c := codeOf Tryz.f5) [.tmp 6] 169 Tryz.func5 kr kr kr fun w hP => ?_
  obtain ⟨hP, hM⟩ := hP
  have H0 := St.start w
  refine rS [.v] H0 kr fun gs1 w1 H1 => ?_
  refine g_sreg [0, 1, 2, 3, 4, 5, 6, 7, 8, 9] kr kr ?_
  refine rp [.v] H1 kr fun gs2 w2 H2 => ?_
  show WPs _ _ _ _ [1, 2, 3, 4, 5, 6, 7, 8, 9] _ _
  have H3 : St w.heap.size w w2 [] := H2.as kr
  refine s_callFT H3 (some 30) 6 #[.slice p n c] (model_fn p n c As) (hP.call H3.below) kr kr ?_
  rintro _ _ w3 ⟨L, q, m, k, rowl, pt, nt, ct, Tt, hok, hrow, hrt, rfl, rfl⟩ H4
  have H4 : St w.heap.size w w3 (rowl ++ Tt) := H4.as (by simp)
  refine rp [.v, .v, .v, .v] H4 kr fun gs3 w4 H5 => ?_
  show WPs _ _ _ _ [6, 7, 8, 9] _ _
  have H6 : St w.heap.size w w4 (rowl ++ Tt) := H5.as kr
  refine s_alloc H6 (some 8) 26 (.agg #[.slice none 0 0, .int .i64 0]) kr kr kr ?_
  intro b8 w5 H7
  refine rp [.v, .s 0, .v] H7 kr fun gs4 w6 H8 => ?_
  show WPs _ _ _ _ [] _ _
  refine s_nil ?_
  have H9 : St w.heap.size w w6 ((b8, boT pt nt ct (builtM L).2) :: (rowl ++ Tt)) := H8.as kr
  refine g_seq kr ?_
  refine rS [.v, .v, .v, .cp alive_fn [] (fun w hb hd => marks_call hM hb), .v, .v] H9 kr fun gs5 w7 H10 => ?_
  refine g_cond_f kr kr ?_
  refine g_skip kr ?_
  show WP _ _ _ _ _ _
  refine g_seq kr ?_
  refine rS [.v, .v, .v] H10 kr fun gs6 w8 H11 => ?_
  refine g_block 0 kr ?_
  have H12 : St w.heap.size w w8 ((b8, boT pt nt ct (builtM L).2) :: (rowl ++ Tt)) := H11.as kr
  have h64 := hok.len
  have hlen := hrow.len
  have hread := read_built hok
  have hA := built_part hok
  have hAl := built_len hok
  refine g_loop kr (fun mz ρ ww => ∃ (i : Nat), m - i = mz ∧ i ≤ m ∧ St w.heap.size w ww ((b8, boT pt nt ct (builtM L).2) :: (rowl ++ Tt)) ∧ Is [(1, .string key), (2, .string value), (7, .slice q m k), (8, .pointer (some ⟨b8, 0, none⟩)), (40, .slice q m k), (41, iN m), (42, iN i)] ρ) (m - 0)
    ⟨0, rfl, Nat.zero_le _, H12, (Is.of ⟨kr, kr, kr, kr, kr, kr, kr, trivial⟩)⟩ ?_
  clear H0 H1 H2 H3 H4 H5 H6 H7 H8 H9 H10 H11 H12
  rintro _ _ w9 ⟨i, rfl, him, H1, _, rfl⟩
  by_cases hi : i < m
  · skip
    refine rS [.e (v := .bool (decide (((i : Nat) : Int) < ((m : Nat) : Int)))) (v' := .bool true) (bool_eq (decide_eq_true (by omega)))] H1 kr fun gs2 w10 H2 => ?_
    refine g_seq kr ?_
    refine g_cond_t kr kr ?_
    refine g_skip kr ?_
    show WP _ _ _ _ _ _
    refine g_seq kr ?_
    refine g_block 1 kr ?_
    obtain ⟨⟨kk, vv⟩, hx⟩ : ∃ x, L[i]? = some x := ⟨_, List.getElem?_eq_getElem (by omega)⟩
    have hmem : (kk, vv) ∈ L := List.mem_of_getElem? hx
    rcases hrow with ⟨_, h0, _, _, _⟩ | ⟨bw, cur, rfl, rfl, hrw⟩
    · omega
    have hR := hrw.rowAt (S := pS)
    have H3 : St w.heap.size w w10 ((b8, boT pt nt ct (builtM L).2) :: (bw, .cells cur 48 (0, 0)) :: Tt) := H2.as kr
    refine g_sreg [0, 1, 2, 3] kr kr ?_
    refine rp [.o (ins := [((.tmp 40), .slice (some ⟨bw, 0, none⟩) m k), ((.tmp 42), iN i)]) (v := .pointer (some ⟨bw, 0 + i * 2, none⟩)) (fun ρ o w ho hi2 => idxP_run (kd := .i64) (t := 23) (e := 48) (K := 2) (bytes := 32) kr (x := (.tmp 40)) (y := (.tmp 42)) bw 0 m k i rfl ho hi2.1 hi2.2.1 hi w), .lp 1 (C := cur) (off := 0 + i * 2) (n := 2) (W := #[.string kk, .string vv]) (hR _ _ hx).1 (hR _ _ hx).2] H3 kr fun gs3 w11 H4 => ?_
    show WPs _ _ _ _ [2, 3] _ _
    have H5 : St w.heap.size w w11 ((b8, boT pt nt ct (builtM L).2) :: (bw, .cells cur 48 (0, 0)) :: Tt) := H4.as kr
    refine s_alloc H5 (some 11) 48 (.agg #[.string ⟨#[]⟩, .string ⟨#[]⟩]) kr kr kr ?_
    intro b11 w12 H6
    refine rp [.s 0] H6 kr fun gs4 w13 H7 => ?_
    show WPs _ _ _ _ [] _ _
    refine s_nil ?_
    have H8 : St w.heap.size w w13 ((b11, pwO (kk, vv)) :: (b8, boT pt nt ct (builtM L).2) :: (bw, .cells cur 48 (0, 0)) :: Tt) := H7.as kr
    refine g_sreg [0, 1, 2, 3, 4, 5, 6, 7, 8] kr kr ?_
    refine rp [.l 1, .v, .l 0] H8 kr fun gs5 w14 H9 => ?_
    show WPs _ _ _ _ [3, 4, 5, 6, 7, 8] _ _
    have H10 : St w.heap.size w w14 ((b11, pwO (kk, vv)) :: (b8, boT pt nt ct (builtM L).2) :: (bw, .cells cur 48 (0, 0)) :: Tt) := H9.as kr
    refine s_callP H10 (some 50) 15 #[.agg #[.slice pt nt ct, .int .i64 (builtM L).2], .string kk] _ _ (gets_trie pt nt ct hok kk (get_mem (p := (kk, vv)) hok.rise hmem)) (hrt.ndAt H10 fun e he => by simp [he]) (fun w => by kernel_rfl) kr ?_
    intro w15 H11
    refine rp [.v, .v, .v, .v, .v] H11 kr fun gs6 w16 H12 => ?_
    show WPs _ _ _ _ [] _ _
    refine s_nil ?_
    refine rS [.v, .v, .v, .v, .v, .l 0, .e (v := .bool (!(vv.toList == vv.toList))) (v' := .bool false) (bool_eq (by rw [str_self]; rfl)), .v] H12 kr fun gs7 w17 H13 => ?_
    refine g_cond_f kr kr ?_
    refine g_skip kr ?_
    show WP _ _ _ _ _ _
    refine rL [.e (v := .int .i64 (IntKind.i64.wrap (((i : Nat) : Int) + 1))) (v' := iN (i + 1)) (int_eq (wrapAdd_i64 (a := i) (b := 1) (by omega))), .v] H13 kr fun gs8 w18 H14 => ?_
    show ∃ m, _ ∧ _
    exact ⟨_, (by omega), i + 1, rfl, hi, (H14.as (l := (b11, pwO (kk, vv)) :: (b8, boT pt nt ct (builtM L).2) :: (bw, .cells cur 48 (0, 0)) :: Tt) kr).sub (List.sublist_cons_self ..), (Is.of ⟨kr, kr, kr, kr, kr, kr, kr, trivial⟩)⟩
  · skip
    refine rS [.e (v := .bool (decide (((i : Nat) : Int) < ((m : Nat) : Int)))) (v' := .bool false) (bool_eq (decide_eq_false (by omega)))] H1 kr fun gs2 w10 H2 => ?_
    refine g_seq kr ?_
    refine g_cond_f kr kr ?_
    refine g_exit 0 kr ?_
    show WP _ _ _ _ _ _
    obtain ⟨K, hK⟩ : ∃ K, key.extract 0 (min key.size 40) = K := ⟨_, rfl⟩
    obtain ⟨V, hV⟩ : ∃ V, value.extract 0 (min value.size 600) = V := ⟨_, rfl⟩
    have zK : K.size ≤ 40 := by rw [← hK, ByteArray.size_extract]; omega
    refine dS [.v, .v, .v, .e (v := .int .i64 (if (40 : Int) < ((key.size : Nat) : Int) then (40 : Int) else ((key.size : Nat) : Int))) (v' := iN (min key.size 40)) (int_eq (by split <;> omega)), .oe (ins := [((.tmp 62), .string key), ((.tmp 65), iN (min key.size 40))]) (v := .string (key.extract 0 (min key.size 40))) (v' := .string K) (fun ρ o w ho hi => scut_run (t := 9) (kd := .i64) kr (x := (.tmp 62)) (y := (.tmp 65)) key (min key.size 40) ho hi.1 hi.2.1 (Nat.min_le_left _ _) w) (congrArg Value.string hK),
      .v, .v, .v, .e (v := .int .i64 (if (600 : Int) < ((value.size : Nat) : Int) then (600 : Int) else ((value.size : Nat) : Int))) (v' := iN (min value.size 600)) (int_eq (by split <;> omega)), .oe (ins := [((.tmp 67), .string value), ((.tmp 70), iN (min value.size 600))]) (v := .string (value.extract 0 (min value.size 600))) (v' := .string V) (fun ρ o w ho hi => scut_run (t := 9) (kd := .i64) kr (x := (.tmp 67)) (y := (.tmp 70)) value (min value.size 600) ho hi.1 hi.2.1 (Nat.min_le_left _ _) w) (congrArg Value.string hV), .v, .v] H2 kr fun w11 H3 => ?_
    have H4 : St w.heap.size w w11 ((b8, boT pt nt ct (builtM L).2) :: (rowl ++ Tt)) := H3.as kr
    refine g_is [(1, .string K), (2, .string V), (7, .slice q m k), (8, .pointer (some ⟨b8, 0, none⟩))] kr fun ρ1 => ?_
    clear H1 H2 H3
    obtain ⟨G, hG⟩ : ∃ G, getP K L = (G, hasM K L) := ⟨(getP K L).1, Prod.ext rfl (get_has K hok.rise)⟩
    refine g_sreg [0, 1, 2, 3, 4, 5, 6, 7] kr kr ?_
    refine rp [.l 0, .v] H4 kr fun gs3 w12 H5 => ?_
    show WPs _ _ _ _ [2, 3, 4, 5, 6, 7] _ _
    have H6 : St w.heap.size w w12 ((b8, boT pt nt ct (builtM L).2) :: (rowl ++ Tt)) := H5.as kr
    refine s_callP H6 (some 75) 15 #[.agg #[.slice pt nt ct, .int .i64 (builtM L).2], .string K] _ _ (gets_trie pt nt ct hok K hG) (hrt.ndAt H6 fun e he => by simp [he]) (fun w => by kernel_rfl) kr ?_
    intro w13 H7
    refine rp [.v, .v, .v, .v, .v] H7 kr fun gs4 w14 H8 => ?_
    show WPs _ _ _ _ [] _ _
    refine s_nil ?_
    refine g_sreg [0, 1, 2, 3, 4, 5, 6, 7, 8, 9] kr kr ?_
    refine rp [.l 0, .v, .v] H8 kr fun gs5 w15 H9 => ?_
    show WPs _ _ _ _ [3, 4, 5, 6, 7, 8, 9] _ _
    have H10 : St w.heap.size w w15 ((b8, boT pt nt ct (builtM L).2) :: (rowl ++ Tt)) := H9.as kr
    cases hm : mayM K V with
    | false =>
      refine s_callP H10 (some 82) 16 #[.agg #[.slice pt nt ct, .int .i64 (builtM L).2], .string K, .string V] _ _ (put_bad pt nt ct (builtM L).2 (builtM L).1 hA hAl K V hread hm) (hrt.ndAt H10 fun e he => by simp [he]) (fun w => by kernel_rfl) kr ?_
      intro w16 H11
      refine rp [.v, .v, .v] H11 kr fun gs6 w17 H12 => ?_
      show WPs _ _ _ _ [7, 8, 9] _ _
      have H13 : St w.heap.size w w17 ((b8, boT pt nt ct (builtM L).2) :: (rowl ++ Tt)) := H12.as kr
      refine s_alloc H13 (some 16) 26 (.agg #[.slice none 0 0, .int .i64 0]) kr kr kr ?_
      intro b16 w18 H14
      refine rp [.s 0, .v] H14 kr fun gs7 w19 H15 => ?_
      show WPs _ _ _ _ [] _ _
      refine s_nil ?_
      refine g_seq kr ?_
      refine rS [.v, .v] H15 kr fun gs8 w20 H16 => ?_
      refine g_cond_t kr kr ?_
      refine rS [.v, .v, .c (mayR_fn K V), .e (v := .bool (!(mayM K V))) (v' := .bool true) (bool_eq (by rw [hm]; rfl)), .v, .n, .n, .n, .v, .v] H16 kr fun gs9 w21 H17 => ?_
      exact rRe [.tmp 6] [] (v := .bool true) (v' := .bool true) H17 rfl kr
    | true =>
      by_cases hn : hasM K L = true ∨ L.length < 64
      · skip
        have hok2 : OkP (insM K V L) := hok.ins hm hn
        refine s_callFT H10 (some 82) 16 #[.agg #[.slice pt nt ct, .int .i64 (builtM L).2], .string K, .string V] (put_ok pt nt ct (builtM L).2 (builtM L).1 hA hAl K V hread hm hn) (hrt.ndAt H10 fun e he => by simp [he]) kr kr ?_
        rintro _ T2 w16 ⟨p3, n3, c3, hr3, rfl⟩ H11
        refine rp [.v, .v, .v] H11 kr fun gs6 w17 H12 => ?_
        show WPs _ _ _ _ [7, 8, 9] _ _
        have H13 : St w.heap.size w w17 (T2 ++ ((b8, boT pt nt ct (builtM L).2) :: (rowl ++ Tt))) := H12.as kr
        refine s_alloc H13 (some 16) 26 (.agg #[.slice none 0 0, .int .i64 0]) kr kr kr ?_
        intro b16 w18 H14
        have H15 : St w.heap.size w w18 ((b16, boT none 0 0 0) :: (b8, boT pt nt ct (builtM L).2) :: ((rowl ++ Tt) ++ T2)) := H14.perm (List.Perm.cons _ (List.perm_append_comm (l₁ := (b8, boT pt nt ct (builtM L).2) :: (rowl ++ Tt)) (l₂ := T2)))
        refine rp [.s 0, .v] H15 kr fun gs7 w19 H16 => ?_
        show WPs _ _ _ _ [] _ _
        refine s_nil ?_
        have H17 : St w.heap.size w w19 ((b16, boT p3 n3 c3 (builtM (insM K V L)).2) :: (b8, boT pt nt ct (builtM L).2) :: ((rowl ++ Tt) ++ T2)) := H16.as kr
        refine g_seq kr ?_
        refine rS [.v, .v] H17 kr fun gs8 w20 H18 => ?_
        refine g_cond_f kr kr ?_
        refine g_skip kr ?_
        show WP _ _ _ _ _ _
        refine g_sreg [0, 1, 2, 3, 4, 5, 6, 7] kr kr ?_
        refine rp [.l 0, .v] H18 kr fun gs9 w21 H19 => ?_
        show WPs _ _ _ _ [2, 3, 4, 5, 6, 7] _ _
        have H20 : St w.heap.size w w21 ((b16, boT p3 n3 c3 (builtM (insM K V L)).2) :: (b8, boT pt nt ct (builtM L).2) :: ((rowl ++ Tt) ++ T2)) := H19.as kr
        refine s_callP H20 (some 99) 15 #[.agg #[.slice p3 n3 c3, .int .i64 (builtM (insM K V L)).2], .string K] _ _ (gets_trie p3 n3 c3 hok2 K (get_ins hok.rise)) (RowF.ndAt hr3 H20 fun e he => by simp [he]) (fun w => by kernel_rfl) kr ?_
        intro w22 H21
        refine rp [.v, .v, .v, .v, .v] H21 kr fun gs10 w23 H22 => ?_
        show WPs _ _ _ _ [] _ _
        refine s_nil ?_
        refine g_seq kr ?_
        refine rS [.v, .v, .v] H22 kr fun gs11 w24 H23 => ?_
        refine g_block 2 kr ?_
        have H24 : St w.heap.size w w24 ((b16, boT p3 n3 c3 (builtM (insM K V L)).2) :: (b8, boT pt nt ct (builtM L).2) :: ((rowl ++ Tt) ++ T2)) := H23.as kr
        refine g_loop kr (fun mz ρ ww => ∃ (i : Nat), m - i = mz ∧ i ≤ m ∧ St w.heap.size w ww ((b16, boT p3 n3 c3 (builtM (insM K V L)).2) :: (b8, boT pt nt ct (builtM L).2) :: ((rowl ++ Tt) ++ T2)) ∧ Is [(1, .string K), (2, .string V), (7, .slice q m k), (8, .pointer (some ⟨b8, 0, none⟩)), (14, .string G), (15, .bool (hasM K L)), (16, .pointer (some ⟨b16, 0, none⟩)), (18, .string V), (19, .bool true), (102, .slice q m k), (103, iN m), (104, iN i)] ρ) (m - 0)
          ⟨0, rfl, Nat.zero_le _, H24, (Is.of ⟨kr, kr, kr, kr, kr, kr, kr, kr, kr, kr, kr, kr, trivial⟩)⟩ ?_
        clear H4 H5 H6 H7 H8 H9 H10 H11 H12 H13 H14 H15 H16 H17 H18 H19 H20 H21 H22 H23 H24
        clear him
        rintro _ _ w25 ⟨i, rfl, him, H1, _, rfl⟩
        by_cases hi : i < m
        · skip
          refine rS [.e (v := .bool (decide (((i : Nat) : Int) < ((m : Nat) : Int)))) (v' := .bool true) (bool_eq (decide_eq_true (by omega)))] H1 kr fun gs2 w10 H2 => ?_
          refine g_seq kr ?_
          refine g_cond_t kr kr ?_
          refine g_skip kr ?_
          show WP _ _ _ _ _ _
          refine g_seq kr ?_
          refine g_block 3 kr ?_
          obtain ⟨⟨kk, vv⟩, hx⟩ : ∃ x, L[i]? = some x := ⟨_, List.getElem?_eq_getElem (by omega)⟩
          have hmem : (kk, vv) ∈ L := List.mem_of_getElem? hx
          rcases hrow with ⟨_, h0, _, _, _⟩ | ⟨bw, cur, rfl, rfl, hrw⟩
          · omega
          have hR := hrw.rowAt (S := pS)
          have H3 : St w.heap.size w w10 ((b16, boT p3 n3 c3 (builtM (insM K V L)).2) :: (b8, boT pt nt ct (builtM L).2) :: (bw, .cells cur 48 (0, 0)) :: (Tt ++ T2)) := H2.as kr
          refine g_sreg [0, 1, 2, 3] kr kr ?_
          refine rp [.o (ins := [((.tmp 102), .slice (some ⟨bw, 0, none⟩) m k), ((.tmp 104), iN i)]) (v := .pointer (some ⟨bw, 0 + i * 2, none⟩)) (fun ρ o w ho hi2 => idxP_run (kd := .i64) (t := 23) (e := 48) (K := 2) (bytes := 32) kr (x := (.tmp 102)) (y := (.tmp 104)) bw 0 m k i rfl ho hi2.1 hi2.2.1 hi w), .lp 2 (C := cur) (off := 0 + i * 2) (n := 2) (W := #[.string kk, .string vv]) (hR _ _ hx).1 (hR _ _ hx).2] H3 kr fun gs3 w11 H4 => ?_
          show WPs _ _ _ _ [2, 3] _ _
          have H5 : St w.heap.size w w11 ((b16, boT p3 n3 c3 (builtM (insM K V L)).2) :: (b8, boT pt nt ct (builtM L).2) :: (bw, .cells cur 48 (0, 0)) :: (Tt ++ T2)) := H4.as kr
          refine s_alloc H5 (some 21) 48 (.agg #[.string ⟨#[]⟩, .string ⟨#[]⟩]) kr kr kr ?_
          intro b21 w12 H6
          refine rp [.s 0] H6 kr fun gs4 w13 H7 => ?_
          show WPs _ _ _ _ [] _ _
          refine s_nil ?_
          have H8 : St w.heap.size w w13 ((b21, pwO (kk, vv)) :: (b16, boT p3 n3 c3 (builtM (insM K V L)).2) :: (b8, boT pt nt ct (builtM L).2) :: (bw, .cells cur 48 (0, 0)) :: (Tt ++ T2)) := H7.as kr
          refine g_sreg [0, 1, 2, 3, 4, 5, 6, 7, 8] kr kr ?_
          refine rp [.l 1, .v, .l 0] H8 kr fun gs5 w14 H9 => ?_
          show WPs _ _ _ _ [3, 4, 5, 6, 7, 8] _ _
          have H10 : St w.heap.size w w14 ((b21, pwO (kk, vv)) :: (b16, boT p3 n3 c3 (builtM (insM K V L)).2) :: (b8, boT pt nt ct (builtM L).2) :: (bw, .cells cur 48 (0, 0)) :: (Tt ++ T2)) := H9.as kr
          by_cases hk : kk = K
          · skip
            refine s_callP H10 (some 112) 15 #[.agg #[.slice p3 n3 c3, .int .i64 (builtM (insM K V L)).2], .string kk] _ _ (gets_trie p3 n3 c3 hok2 kk (v := V) (b := true) (by rw [hk]; exact get_ins hok.rise)) (RowF.ndAt hr3 H10 fun e he => by simp [he]) (fun w => by kernel_rfl) kr ?_
            intro w15 H11
            refine rp [.v, .v, .v, .v, .v] H11 kr fun gs6 w16 H12 => ?_
            show WPs _ _ _ _ [] _ _
            refine s_nil ?_
            refine rS [.v, .l 0, .v, .e (v := .bool (!(kk.toList == K.toList))) (v' := .bool false) (bool_eq (by rw [str_same _ _ hk]; rfl)), .v, .n, .n, .n, .n, .n, .n, .n, .n, .v] H12 kr fun gs7 w17 H13 => ?_
            refine g_cond_f kr kr ?_
            refine g_skip kr ?_
            show WP _ _ _ _ _ _
            refine rL [.e (v := .int .i64 (IntKind.i64.wrap (((i : Nat) : Int) + 1))) (v' := iN (i + 1)) (int_eq (wrapAdd_i64 (a := i) (b := 1) (by omega))), .v] H13 kr fun gs8 w18 H14 => ?_
            show ∃ m, _ ∧ _
            exact ⟨_, (by omega), i + 1, rfl, hi, (H14.as (l := (b21, pwO (kk, vv)) :: (b16, boT p3 n3 c3 (builtM (insM K V L)).2) :: (b8, boT pt nt ct (builtM L).2) :: (bw, .cells cur 48 (0, 0)) :: (Tt ++ T2)) kr).sub (List.sublist_cons_self ..), (Is.of ⟨kr, kr, kr, kr, kr, kr, kr, kr, kr, kr, kr, kr, trivial⟩)⟩
          · skip
            refine s_callP H10 (some 112) 15 #[.agg #[.slice p3 n3 c3, .int .i64 (builtM (insM K V L)).2], .string kk] _ _ (gets_trie p3 n3 c3 hok2 kk (v := vv) (b := true) (get_mem (p := (kk, vv)) hok2.rise (ins_old hk hmem))) (RowF.ndAt hr3 H10 fun e he => by simp [he]) (fun w => by kernel_rfl) kr ?_
            intro w15 H11
            refine rp [.v, .v, .v, .v, .v] H11 kr fun gs6 w16 H12 => ?_
            show WPs _ _ _ _ [] _ _
            refine s_nil ?_
            refine rS [.v, .l 0, .v, .e (v := .bool (!(kk.toList == K.toList))) (v' := .bool true) (bool_eq (by rw [str_other _ _ hk]; rfl)), .v, .v, .v, .v, .v, .v, .l 0, .e (v := .bool (!(vv.toList == vv.toList))) (v' := .bool false) (bool_eq (by rw [str_self]; rfl)), .v, .v] H12 kr fun gs7 w17 H13 => ?_
            refine g_cond_f kr kr ?_
            refine g_skip kr ?_
            show WP _ _ _ _ _ _
            refine rL [.e (v := .int .i64 (IntKind.i64.wrap (((i : Nat) : Int) + 1))) (v' := iN (i + 1)) (int_eq (wrapAdd_i64 (a := i) (b := 1) (by omega))), .v] H13 kr fun gs8 w18 H14 => ?_
            show ∃ m, _ ∧ _
            exact ⟨_, (by omega), i + 1, rfl, hi, (H14.as (l := (b21, pwO (kk, vv)) :: (b16, boT p3 n3 c3 (builtM (insM K V L)).2) :: (b8, boT pt nt ct (builtM L).2) :: (bw, .cells cur 48 (0, 0)) :: (Tt ++ T2)) kr).sub (List.sublist_cons_self ..), (Is.of ⟨kr, kr, kr, kr, kr, kr, kr, kr, kr, kr, kr, kr, trivial⟩)⟩
        · skip
          refine rS [.e (v := .bool (decide (((i : Nat) : Int) < ((m : Nat) : Int)))) (v' := .bool false) (bool_eq (decide_eq_false (by omega)))] H1 kr fun gs2 w10 H2 => ?_
          refine g_seq kr ?_
          refine g_cond_f kr kr ?_
          refine g_exit 2 kr ?_
          show WP _ _ _ _ _ _
          have hhas := has_ins K V hok.rise
          have hok3 : OkP (delP K (insM K V L)) := hok2.del
          have hread2 := read_built hok2
          have hread3 := read_built hok3
          refine g_sreg [0, 1, 2, 3, 4, 5, 6, 7, 8] kr kr ?_
          refine rp [.l 0, .v] H2 kr fun gs3 w11 H3 => ?_
          show WPs _ _ _ _ [2, 3, 4, 5, 6, 7, 8] _ _
          have H4 : St w.heap.size w w11 ((b16, boT p3 n3 c3 (builtM (insM K V L)).2) :: (b8, boT pt nt ct (builtM L).2) :: ((rowl ++ Tt) ++ T2)) := H3.as kr
          refine s_callFT H4 (some 133) 17 #[.agg #[.slice p3 n3 c3, .int .i64 (builtM (insM K V L)).2], .string K] (del_ok p3 n3 c3 (builtM (insM K V L)).2 (builtM (insM K V L)).1 (built_part hok2) (built_len hok2) K hread2 hhas) (RowF.ndAt hr3 H4 fun e he => by simp [he]) kr kr ?_
          rintro _ T3 w12 ⟨p5, n5, c5, hr5, rfl⟩ H5
          refine rp [.v, .v, .v] H5 kr fun gs4 w13 H6 => ?_
          show WPs _ _ _ _ [6, 7, 8] _ _
          have H7 : St w.heap.size w w13 (T3 ++ ((b16, boT p3 n3 c3 (builtM (insM K V L)).2) :: (b8, boT pt nt ct (builtM L).2) :: ((rowl ++ Tt) ++ T2))) := H6.as kr
          refine s_alloc H7 (some 24) 26 (.agg #[.slice none 0 0, .int .i64 0]) kr kr kr ?_
          intro b24 w14 H8
          have H9 : St w.heap.size w w14 ((b24, boT none 0 0 0) :: (b16, boT p3 n3 c3 (builtM (insM K V L)).2) :: (b8, boT pt nt ct (builtM L).2) :: (((rowl ++ Tt) ++ T2) ++ T3)) := H8.perm (List.Perm.cons _ (List.perm_append_comm (l₁ := (b16, boT p3 n3 c3 (builtM (insM K V L)).2) :: (b8, boT pt nt ct (builtM L).2) :: ((rowl ++ Tt) ++ T2)) (l₂ := T3)))
          refine rp [.s 0, .v] H9 kr fun gs5 w15 H10 => ?_
          show WPs _ _ _ _ [] _ _
          refine s_nil ?_
          have H11 : St w.heap.size w w15 ((b24, boT p5 n5 c5 (builtM (delP K (insM K V L))).2) :: (b16, boT p3 n3 c3 (builtM (insM K V L)).2) :: (b8, boT pt nt ct (builtM L).2) :: (((rowl ++ Tt) ++ T2) ++ T3)) := H10.as kr
          refine g_sreg [0, 1, 2, 3, 4, 5, 6, 7] kr kr ?_
          refine rp [.l 0, .v] H11 kr fun gs6 w16 H12 => ?_
          show WPs _ _ _ _ [2, 3, 4, 5, 6, 7] _ _
          have H13 : St w.heap.size w w16 ((b24, boT p5 n5 c5 (builtM (delP K (insM K V L))).2) :: (b16, boT p3 n3 c3 (builtM (insM K V L)).2) :: (b8, boT pt nt ct (builtM L).2) :: (((rowl ++ Tt) ++ T2) ++ T3)) := H12.as kr
          refine s_callP H13 (some 139) 15 #[.agg #[.slice p5 n5 c5, .int .i64 (builtM (delP K (insM K V L))).2], .string K] _ _ (gets_trie p5 n5 c5 hok3 K get_del) (RowF.ndAt hr5 H13 fun e he => by simp [he]) (fun w => by kernel_rfl) kr ?_
          intro w17 H14
          refine rp [.v, .v, .v, .v, .v] H14 kr fun gs7 w18 H15 => ?_
          show WPs _ _ _ _ [] _ _
          refine s_nil ?_
          refine g_seq kr ?_
          cases hh : hasM K L with
          | false =>
            have e0 : delP K (insM K V L) = L := del_ins_none hok.rise hh
            rw [e0] at hr5
            have H16 : St w.heap.size w w18 ((b24, boT p5 n5 c5 (builtM L).2) :: (b16, boT p3 n3 c3 (builtM (insM K V L)).2) :: (b8, boT pt nt ct (builtM L).2) :: (((rowl ++ Tt) ++ T2) ++ T3)) := by
              have h := H15.as (l := (b24, boT p5 n5 c5 (builtM (delP K (insM K V L))).2) :: (b16, boT p3 n3 c3 (builtM (insM K V L)).2) :: (b8, boT pt nt ct (builtM L).2) :: (((rowl ++ Tt) ++ T2) ++ T3)) kr
              rwa [e0] at h
            refine rS [.v] H16 kr fun gs8 w19 H17 => ?_
            refine g_cond_f kr kr ?_
            refine g_skip kr ?_
            show WP _ _ _ _ _ _
            refine g_sreg [0, 1, 2, 3, 4, 5, 6, 7, 8, 9, 10, 11, 12, 13, 14, 15, 16, 17, 18, 19] kr kr ?_
            refine rp [.v, .v, .v, .v, .e (v := .bool (V.toList == V.toList)) (v' := .bool true) (bool_eq (str_self V)), .v, .v, .v, .v, .v, .v, .v, .v, .v, .v, .l 0, .l 2] H17 kr fun gs9 w30 H30 => ?_
            show WPs _ _ _ _ [17, 18, 19] _ _
            have H31 : St w.heap.size w w30 ((b24, boT p5 n5 c5 (builtM L).2) :: (b16, boT p3 n3 c3 (builtM (insM K V L)).2) :: (b8, boT pt nt ct (builtM L).2) :: (((rowl ++ Tt) ++ T2) ++ T3)) := H30.as kr
            refine s_callP H31 (some 167) 7 #[.agg #[.slice p5 n5 c5, .int .i64 (builtM L).2], .agg #[.slice pt nt ct, .int .i64 (builtM L).2]] _ _ (like_trie p5 pt n5 c5 nt ct hok) ⟨RowF.ndAt hr5 H31 fun e he => by simp [he], hrt.ndAt H31 fun e he => by simp [he]⟩ (fun w => by kernel_rfl) kr ?_
            intro w31 H32
            refine rp [.v, .v] H32 kr fun gs10 w32 H33 => ?_
            show WPs _ _ _ _ [] _ _
            refine s_nil ?_
            exact rRe [.tmp 6] [] (v := .bool true) (v' := .bool true) H33 rfl kr
          | true =>
            rw [hh] at hG
            have hmG : mayM K G = true := by
              obtain ⟨v, h1, h2⟩ := has_get hok.rise hh
              rw [h1] at hG
              have : v = G := congrArg Prod.fst hG
              rw [← this]; exact hok.may _ (List.mem_of_getElem? h2)
            have hno : (delP K (insM K V L)).length < 64 := by
              have h1 := del_len hok2.rise hhas
              have h2 := hok2.len
              omega
            have e1 : insM K G (delP K (insM K V L)) = L := ins_del_ins hok.rise hG
            refine rS [.v] H15 kr fun gs8 w19 H16 => ?_
            refine g_cond_t kr kr ?_
            refine g_reg0 [0, 1, 2, 3, 4, 5, 6, 7, 8] kr ?_
            refine rp [.l 0, .v, .v] H16 kr fun gs9 w20 H17 => ?_
            show WPs _ _ _ _ [3, 4, 5, 6, 7, 8] _ _
            have H18 : St w.heap.size w w20 ((b24, boT p5 n5 c5 (builtM (delP K (insM K V L))).2) :: (b16, boT p3 n3 c3 (builtM (insM K V L)).2) :: (b8, boT pt nt ct (builtM L).2) :: (((rowl ++ Tt) ++ T2) ++ T3)) := H17.as kr
            have hput := put_ok p5 n5 c5 (builtM (delP K (insM K V L))).2 (builtM (delP K (insM K V L))).1 (built_part hok3) (built_len hok3) K G hread3 hmG (.inr hno)
            rw [e1] at hput
            refine s_callFT H18 (some 147) 16 #[.agg #[.slice p5 n5 c5, .int .i64 (builtM (delP K (insM K V L))).2], .string K, .string G] hput (RowF.ndAt hr5 H18 fun e he => by simp [he]) kr kr ?_
            rintro _ T4 w21 ⟨p6, n6, c6, hr6, rfl⟩ H19
            have H20 : St w.heap.size w w21 ((b24, boT p5 n5 c5 (builtM (delP K (insM K V L))).2) :: (b16, boT p3 n3 c3 (builtM (insM K V L)).2) :: (b8, boT pt nt ct (builtM L).2) :: ((((rowl ++ Tt) ++ T2) ++ T3) ++ T4)) := H19.perm (List.perm_append_comm (l₁ := (b24, boT p5 n5 c5 (builtM (delP K (insM K V L))).2) :: (b16, boT p3 n3 c3 (builtM (insM K V L)).2) :: (b8, boT pt nt ct (builtM L).2) :: (((rowl ++ Tt) ++ T2) ++ T3)) (l₂ := T4))
            refine rp [.v, .v, .v, .s 0, .v] H20 kr fun gs10 w22 H21 => ?_
            show WPs _ _ _ _ [] _ _
            refine s_nil ?_
            show WP _ _ _ _ _ _
            have H22 : St w.heap.size w w22 ((b24, boT p6 n6 c6 (builtM L).2) :: (b16, boT p3 n3 c3 (builtM (insM K V L)).2) :: (b8, boT pt nt ct (builtM L).2) :: ((((rowl ++ Tt) ++ T2) ++ T3) ++ T4)) := H21.as kr
            refine g_sreg [0, 1, 2, 3, 4, 5, 6, 7, 8, 9, 10, 11, 12, 13, 14, 15, 16, 17, 18, 19] kr kr ?_
            refine rp [.v, .v, .v, .v, .e (v := .bool (V.toList == V.toList)) (v' := .bool true) (bool_eq (str_self V)), .v, .v, .v, .v, .v, .v, .v, .v, .v, .v, .l 0, .l 2] H22 kr fun gs9 w30 H30 => ?_
            show WPs _ _ _ _ [17, 18, 19] _ _
            have H31 : St w.heap.size w w30 ((b24, boT p6 n6 c6 (builtM L).2) :: (b16, boT p3 n3 c3 (builtM (insM K V L)).2) :: (b8, boT pt nt ct (builtM L).2) :: ((((rowl ++ Tt) ++ T2) ++ T3) ++ T4)) := H30.as kr
            refine s_callP H31 (some 167) 7 #[.agg #[.slice p6 n6 c6, .int .i64 (builtM L).2], .agg #[.slice pt nt ct, .int .i64 (builtM L).2]] _ _ (like_trie p6 pt n6 c6 nt ct hok) ⟨RowF.ndAt hr6 H31 fun e he => by simp [he], hrt.ndAt H31 fun e he => by simp [he]⟩ (fun w => by kernel_rfl) kr ?_
            intro w31 H32
            refine rp [.v, .v] H32 kr fun gs10 w32 H33 => ?_
            show WPs _ _ _ _ [] _ _
            refine s_nil ?_
            exact rRe [.tmp 6] [] (v := .bool true) (v' := .bool true) H33 rfl kr
      · skip
        have hh : hasM K L = false := by
          cases h : hasM K L with
          | false => rfl
          | true => exact absurd (.inl h) hn
        have hl : L.length = 64 := by
          have : ¬ L.length < 64 := fun h => hn (.inr h)
          omega
        refine s_callP H10 (some 82) 16 #[.agg #[.slice pt nt ct, .int .i64 (builtM L).2], .string K, .string V] _ _ (put_long pt nt ct (builtM L).2 (builtM L).1 hA hAl K V hread hm hh hl) (hrt.ndAt H10 fun e he => by simp [he]) (fun w => by kernel_rfl) kr ?_
        intro w16 H11
        refine rp [.v, .v, .v] H11 kr fun gs6 w17 H12 => ?_
        show WPs _ _ _ _ [7, 8, 9] _ _
        have H13 : St w.heap.size w w17 ((b8, boT pt nt ct (builtM L).2) :: (rowl ++ Tt)) := H12.as kr
        refine s_alloc H13 (some 16) 26 (.agg #[.slice none 0 0, .int .i64 0]) kr kr kr ?_
        intro b16 w18 H14
        refine rp [.s 0, .v] H14 kr fun gs7 w19 H15 => ?_
        show WPs _ _ _ _ [] _ _
        refine s_nil ?_
        refine g_seq kr ?_
        refine rS [.v, .v] H15 kr fun gs8 w20 H16 => ?_
        refine g_cond_t kr kr ?_
        refine rS [.v, .v, .c (mayR_fn K V), .e (v := .bool (!(mayM K V))) (v' := .bool false) (bool_eq (by rw [hm]; rfl)), .v, .v, .v, .e (v := .bool (decide (((m : Nat) : Int) ≥ 64))) (v' := .bool true) (bool_eq (decide_eq_true (by omega))), .v, .v] H16 kr fun gs9 w21 H17 => ?_
        exact rRe [.tmp 6] [] (v := .bool true) (v' := .bool true) H17 rfl kr
end Go.Proofs.YtlhfgbjhngkicaaGreatDoor

namespace Go.Proofs.YtlhfgbjhngkicaaGreatDoor
open Go Go.ChangeShapes Go.WideShapes Go.ChangeAt Go.RowKit
set_option linter.unusedVariables false
set_option maxRecDepth 100000
theorem cellsAc : Tryz.prog.cellsOf 52 = 2 := kr
section
variable {H : Type} {enc : TypeId × Value → H} {W : World} {sp : Nat → Bool} {held : Bool}
theorem trod_act (fuel : Nat) (cs : List Value) (x : DataW H × List MemPlace) (h : DataW.trod enc Tryz.prog W 0 sp held fuel 52 cs = some x) : ∃ a : Pr, cs = pS.cs a := by
  obtain ⟨xs, m, rfl, rfl, hl, hlen, hf⟩ := DataW.trod_struct Tryz.underlying52 h
  rw [cellsAc] at hl
  obtain ⟨c0, c1, rfl⟩ : ∃ c0 c1, cs = [c0, c1] := by
    match cs, hl with
    | [c0, c1], _ => exact ⟨c0, c1, rfl⟩
  obtain ⟨y0, y1, rfl⟩ : ∃ y0 y1, xs = [y0, y1] := by
    match xs, hlen with
    | [y0, y1], _ => exact ⟨y0, y1, rfl⟩
  have g0 := hf 0 _ rfl
  have g1 := hf 1 _ rfl
  change DataW.trod enc Tryz.prog W 0 sp held m 9 (([c0, c1].drop 0).take (Tryz.prog.cellsOf 9)) = some y0 at g0
  change DataW.trod enc Tryz.prog W 0 sp held m 9 (([c0, c1].drop 1).take (Tryz.prog.cellsOf 9)) = some y1 at g1
  rw [cellsSt] at g0 g1
  obtain ⟨s, e0, rfl, _⟩ := DataW.trod_string Tryz.underlying9 (show DataW.trod enc Tryz.prog W 0 sp held m 9 [c0] = some y0 from g0)
  obtain ⟨u, e1, rfl, _⟩ := DataW.trod_string Tryz.underlying9 (show DataW.trod enc Tryz.prog W 0 sp held m 9 [c1] = some y1 from g1)
  obtain rfl : c0 = .string s := by simpa using e0
  obtain rfl : c1 = .string u := by simpa using e1
  exact ⟨(s, u), rfl⟩
theorem openActs {v : Value} {d : DataW H} {p : List MemPlace} {base : Nat} (hv : Value.okWide Tryz.prog W .any base 22 v) (h : DataW.Trod enc Tryz.prog W 0 sp held 22 v d p) :
    ∃ (q : Option Addr) (n c : Nat) (As : List Pr), v = .slice q n c ∧ PrAt W q n As := by
  obtain ⟨ao, len0, cap0, rfl⟩ := okWide_slice Tryz.underlying22 hv
  obtain ⟨fuel, hf⟩ := h
  rcases DataW.trod_slice Tryz.underlying22 hf with ⟨hc, hx⟩ | ⟨a, len, cap, elems, rest, n', rfl, hc, hx, _, hlc, hcm, hel, hels, _, _⟩
  · obtain ⟨rfl, rfl, rfl⟩ : ao = none ∧ len0 = 0 ∧ cap0 = 0 := by simpa [Value.cells] using hc
    exact ⟨none, 0, 0, [], rfl, rfl, .inl rfl⟩
  · obtain ⟨rfl, rfl, rfl⟩ : ao = some a ∧ len0 = len ∧ cap0 = cap := by simpa [Value.cells] using hc
    have rows : ∀ q, q ≤ len0 → ∃ L : List Pr, L.length = q ∧ ∀ (i : Nat) (z : Pr), L[i]? = some z → W.cells? 0 (a.add (i * 2)) 2 = some (pS.cs z) := by
      intro q
      induction q with
      | zero => exact fun _ => ⟨[], rfl, fun i z h => by simp at h⟩
      | succ q ihq =>
        intro hq
        obtain ⟨L, hL, hcc⟩ := ihq (by omega)
        have hi := hels q (by omega)
        rw [cellsAc] at hi
        have hlt : q < elems.length := by omega
        rw [List.getElem?_eq_getElem hlt] at hi
        obtain ⟨cs', hcs, ht⟩ := Option.bind_eq_some_iff.1 hi
        obtain ⟨nd, rfl⟩ := trod_act n' cs' _ ht
        refine ⟨L ++ [nd], by simp [hL], fun i z hz => ?_⟩
        by_cases hiq : i < L.length
        · rw [List.getElem?_append_left hiq] at hz; exact hcc i z hz
        · rw [List.getElem?_append_right (by omega)] at hz
          have : i - L.length = 0 := by
            have := (List.getElem?_eq_some_iff.1 hz).1; simp at this; omega
          rw [this] at hz
          simp at hz; subst hz
          obtain rfl : i = q := by omega
          exact hcs
    obtain ⟨L, hL, hcl⟩ := rows len0 (Nat.le_refl _)
    refine ⟨some a, len0, cap0, L, rfl, hL.symm, ?_⟩
    cases L with
    | nil => exact .inl rfl
    | cons z0 L0 =>
      have f0 := (World.cells?_some (hcl 0 z0 rfl)).2.2 0 (by omega)
      rw [Nat.zero_mul] at f0
      have e0 : (a.add 0).add 0 = a := rfl
      rw [e0] at f0
      obtain ⟨ea, C, T, fz, hh, hC0⟩ := spot_none (v := .string z0.1) (by rw [f0]; rfl)
      refine .inr ⟨a.block, a.off, C, T, fz, congrArg some ea, hh, fun i z hz => ?_⟩
      refine extract_of (pS.len z) (by decide) fun j hj => ?_
      have h9 := (World.cells?_some (hcl i z hz)).2.2 j hj
      rw [ea, addr_add, addr_add] at h9
      exact cell_at hh h9
end
end Go.Proofs.YtlhfgbjhngkicaaGreatDoor
