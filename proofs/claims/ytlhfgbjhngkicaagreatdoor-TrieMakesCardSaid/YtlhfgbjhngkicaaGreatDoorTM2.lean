/-
  Texts of the proof, part 2.
-/
import Derived.Scope
import Derived.Test.YtlhfgbjhngkicaaGreatDoorProg
import Derived.Test.YtlhfgbjhngkicaaGreatDoorTM1

namespace Go.Proofs.YtlhfgbjhngkicaaGreatDoor
open Go Go.RowKit
set_option linter.unusedVariables false
/-- Lists of nodes: the first one's own, what is in it; the others. -/
inductive Fr (α : Type)
  | nil
  | cons (a : α) (k r : Fr α)
/-- A shape: how many cells, those but the last, what is known of each; how many at most. -/
structure Sh (α : Type) where
  K : Nat
  hd : α → List Value
  ok : α → Prop
  mx : Nat
  len : ∀ a, (hd a).length + 1 = K
  one : ∀ a, ∀ u ∈ hd a, u.oneCell' = true
section
variable {α : Type} {S : Sh α}
/-! ### In blocks of a list -/
/-! ### Rows of such structs -/
structure El (α : Type) where
  a : α
  p : Option Addr
  n : Nat
  c : Nat
  k : Fr α
/-- An element's cells, cut out. -/
theorem exE {C : Array Value} {o : Nat} {x : List Value} {K : Nat} (hl : x.length = K) (h : ∀ j, j < K → C[o + j]? = x[j]?) (h0 : 0 < K) : o + K ≤ C.size ∧ C.extract o (o + K) = x.toArray := by
  have hz : o + K ≤ C.size := by
    have h1 := h (K - 1) (by omega)
    rw [List.getElem?_eq_getElem (by omega)] at h1
    obtain ⟨h2, _⟩ := Array.getElem?_eq_some_iff.1 h1
    omega
  refine ⟨hz, ?_⟩
  apply Array.ext_getElem?
  intro j
  have e : x.toArray[j]? = x[j]? := by simp
  rw [Array.getElem?_extract, e]
  split
  · rename_i hj
    exact h j (by omega)
  · rename_i hj
    rw [List.getElem?_eq_none (by omega)]
end
theorem load_at {P : Program} {ρ : Env} {w : World} {b off : Nat} {C : Array Value} {T t : TypeId} {fz : Nat × Nat} {x : Operand} {v : Value} (hh : w.heap[b]? = some (.cells C T fz)) (ht : oneCell P t = true) (hx : ev ρ x = .pointer (some ⟨b, off, none⟩)) (hv : C[off]? = some v) (o : Oper) (ho : o.op = .load t x) :
    (execOp (ev ρ) o).run P w = .ok (.value v) w := by
  have := load_one (P := P) (w := w) ht hh hv
  simp [execOp, ho, Instr.loadAt, Instr.sureAddr, hx, this]
theorem store_at {P : Program} {ρ : Env} {w : World} {b off : Nat} {C C' : Array Value} {T t : TypeId} {x y : Operand} {v : Value} (hh : w.heap[b]? = some (.cells C T (0, 0))) (hi : (P.info? t).map (·.size) = some v.cells.size) (h1 : v.cells.all (·.oneCell') = true) (hs : off + v.cells.size ≤ C.size)
    (hC : (C.toList.take off ++ v.cells.toList ++ C.toList.drop (off + v.cells.size)).toArray = C') (hx : ev ρ x = .pointer (some ⟨b, off, none⟩)) (hy : ev ρ y = v) (o : Oper) (ho : o.op = .store t x y) : (execOp (ev ρ) o).run P w = .ok .skip (w.setRow b C') := by
  have := store_agg (P := P) (w := w) hi h1 hh hs
  rw [hC] at this
  simp [execOp, ho, Instr.storeAt, Instr.sureAddr, hx, hy, this]
theorem St.perm {B : Nat} {w0 w : World} {l l' : List (Nat × Obj)} (h : St B w0 w l) (hp : l'.Perm l) : St B w0 w l' :=
  ⟨h.below, h.le, fun x hx => h.own x (hp.mem_iff.1 hx), ((hp.map (·.1)).nodup_iff).2 h.nd⟩
/-- A call of one's own blocks, and those it made. -/
theorem St.addAll {B : Nat} {w0 w w' : World} {l T : List (Nat × Obj)} (h : St B w0 w l) (hT : St w.heap.size w w' T) : St B w0 w' (T ++ l) := by
  have h' := h.call hT.below
  refine ⟨h'.below, h'.le, ?_, ?_⟩
  · intro e he
    rcases List.mem_append.1 he with he | he
    · exact ⟨Nat.le_trans h.le (hT.own e he).1, (hT.own e he).2⟩
    · exact h'.own e he
  · rw [List.map_append, List.nodup_append]
    refine ⟨hT.nd, h'.nd, ?_⟩
    intro x hx y hy q
    obtain ⟨e, he, rfl⟩ := List.mem_map.1 hx
    obtain ⟨e', he', rfl⟩ := List.mem_map.1 hy
    have h1 := (hT.own e he).1
    have h2 := lt_of_heap (h.own e' he').2
    omega
/-! ### A row grows by one -/
section
variable {P : Program} {ρ : Env} {w w0 : World} {B : Nat} {l : List (Nat × Obj)}
theorem grow_own {K : Nat} (HS : St B w0 w l) {t e bytes : Nat} {s x : Operand} {o : Oper} {j k b bx n cap c : Nat} {cur Y : Array Value} {xs : List Value} (ht : sliceOf P t = some (e, K, bytes)) (ho : o.op = appendOp t s x)
    (hs : ev ρ s = .slice (some ⟨b, 0, none⟩) n cap) (hj : l[j]? = some (b, .cells cur e (0, 0))) (hr : Rw K cur cap n xs) (hx : ev ρ x = .slice (some ⟨bx, 0, none⟩) 1 c) (hk : l[k]? = some (bx, .cells Y e (0, 0)))
    (hY : Y.size = K) (hone : ∀ u ∈ Y.toList, u.oneCell' = true)
    (hb : (n + 1) * bytes ≤ 140737488355328) (hm : n + 1 ≤ maxLen) : ∃ b' cap' cur' w', (execOp (ev ρ) o).run P w = .ok (.value (.slice (some ⟨b', 0, none⟩) (n + 1) cap')) w' ∧ St B w0 w' (l.set j (b', .cells cur' e (0, 0))) ∧ Rw K cur' cap' (n + 1) (xs ++ Y.toList) := by
  obtain ⟨it, z, hu, hi, hz, hsz, hby, hzs, h0⟩ := sliceOf_spec ht
  have hnews : ∀ q u, (Y.toList)[q]? = some u → w.cell? ((⟨bx, 0, none⟩ : Addr).add q) = some u := fun q u hq => by
    rw [Array.getElem?_toList] at hq
    rw [addr_add, Nat.zero_add]
    simp [World.cell?, HS.get k hk, hq]
  obtain ⟨v', w', hrun, hown, hgr, hnil, hblk⟩ := run_append_own_at (P := P) w B t o.type e it z K bytes hu hi hz hsz hby hzs h0 _ n xs (hr.owns (HS.ge j hj) (HS.get j hj)) ⟨bx, 0, none⟩ 1 c Y.toList (by rw [Array.length_toList, hY, Nat.one_mul]) hnews hone hm hb HS.le
  have hown' := hown
  rcases hown'.2 with ⟨hv, _⟩ | ⟨g, cap', cur', rfl, hbg, hg, hnc, hcm, hcs, htk⟩
  · exact absurd (hnil.1 hv).1 (by simp)
  · have hgb : g = b ∨ g = w.heap.size := by
      rcases hblk with hq | hq
      · left; injection hq
      · right; injection hq
    refine ⟨g, cap', cur', w', ?_, HS.grown j hj hgr hgb hg, ?_⟩
    · unfold execOp
      simp only [ho, appendOp, resolve, invoke, builtin, Sem.run_bind, Sem.run_pure, Result.andThen_ok, List.map_toArray, List.map_cons, List.map_nil, hs, hx, hrun]
    · exact ⟨hown.1, hnc, hcm, htk, hcs⟩
theorem grow_nil {K : Nat} (HS : St B w0 w l) {t e bytes : Nat} {s x : Operand} {o : Oper} {k bx c : Nat} {Y : Array Value} (ht : sliceOf P t = some (e, K, bytes)) (ho : o.op = appendOp t s x)
    (hs : ev ρ s = .slice none 0 0) (hx : ev ρ x = .slice (some ⟨bx, 0, none⟩) 1 c) (hk : l[k]? = some (bx, .cells Y e (0, 0)))
    (hY : Y.size = K) (hone : ∀ u ∈ Y.toList, u.oneCell' = true)
    (hb : (0 + 1) * bytes ≤ 140737488355328) : ∃ b' cap' cur' w', (execOp (ev ρ) o).run P w = .ok (.value (.slice (some ⟨b', 0, none⟩) 1 cap')) w' ∧ St B w0 w' ((b', .cells cur' e (0, 0)) :: l) ∧ Rw K cur' cap' 1 Y.toList := by
  obtain ⟨it, z, hu, hi, hz, hsz, hby, hzs, h0⟩ := sliceOf_spec ht
  have hnews : ∀ q u, (Y.toList)[q]? = some u → w.cell? ((⟨bx, 0, none⟩ : Addr).add q) = some u := fun q u hq => by
    rw [Array.getElem?_toList] at hq
    rw [addr_add, Nat.zero_add]
    simp [World.cell?, HS.get k hk, hq]
  obtain ⟨v', w', hrun, hown, hgr, hnil, hblk⟩ := run_append_own_at (P := P) w B t o.type e it z K bytes hu hi hz hsz hby hzs h0 (.slice none 0 0) 0 [] (World.ownsRow_nil w B e K) ⟨bx, 0, none⟩ 1 c Y.toList (by rw [Array.length_toList, hY, Nat.one_mul]) hnews hone (by unfold maxLen; omega) hb HS.le
  have hown' := hown
  rcases hown'.2 with ⟨hv, _⟩ | ⟨g, cap', cur', rfl, hbg, hg, hnc, hcm, hcs, htk⟩
  · exact absurd (hnil.1 hv).2 (by simp)
  · have hgb : g = w.heap.size := by
      rcases hblk with hq | hq
      · simp [Value.ownBlock] at hq
      · injection hq
    have hbel : Below w.heap.size w w' := (Below.refl _ w).grown hgr (Nat.le_refl _) (fun k hk => by simp [Value.ownBlock] at hk)
    have HS' := HS.add hbel (by omega) hg
    rw [Nat.zero_add] at hnc htk
    refine ⟨g, cap', cur', w', ?_, HS', ⟨by rw [Array.length_toList, hY, Nat.one_mul], hnc, hcm, htk, hcs⟩⟩
    unfold execOp
    simp only [ho, appendOp, resolve, invoke, builtin, Sem.run_bind, Sem.run_pure, Result.andThen_ok, List.map_toArray, List.map_cons, List.map_nil, hs, hx, hrun]
/-- What a call lays for good. -/
def FnT (P : Program) (f : Nat) (args : Array Value) (pre : World → Prop) (ok : Value → List (Nat × Obj) → Prop) : Prop :=
  ∀ w, pre w → Calls P f args w fun e w' => ∃ v T, e = .returned v ∧ ok v T ∧ St w.heap.size w w' T
end
end Go.Proofs.YtlhfgbjhngkicaaGreatDoor

namespace Go.Proofs.YtlhfgbjhngkicaaGreatDoor
open Go Go.RowKit
set_option linter.unusedVariables false
namespace D2
section
variable {P : Program} {ops : Array Oper} {R : (Nat → Gh) → Env} {i : Nat} {d : Option Nat} {pre : (Nat → Bool) → (Nat → Gh) → World → Prop}
theorem gv_opW {V : Value} (hs : ∀ L g w, pre L g w → pre (put1 L i) g w) (op : Op) (h : ∀ g, opk ops i (R g) = some (d, true, op)) (hr : ∀ L g (o : Oper) w, Now ops i L → pre L g w → o.op = op → (execOp (ev (R g)) o).run P w = .ok (.value V) w) : Gives P ops R pre i d (fun _ => V) :=
  gives_of fun L g w hp hN => by
    obtain ⟨o, ho, hd, hw, hop⟩ := opk_some (h g)
    exact ⟨o, ho, hd, .inr ⟨hw, by rw [hr L g o w hN hp hop]; exact ⟨g i, rfl, by rw [setN_self]; exact hs _ _ _ hp⟩⟩⟩
theorem gv_ld {V : Value} (hs : ∀ L g w, pre L g w → pre (put1 L i) g w) (t : TypeId) (x : Operand) (b : (Nat → Gh) → Nat) (off : Nat) (C : Array Value) (T : TypeId) (fz : Nat × Nat) (h : ∀ g, opk ops i (R g) = some (d, true, .load t x))
    (hx : ∀ g, ev (R g) x = .pointer (some ⟨b g, off, none⟩)) (hh : ∀ L g w, Now ops i L → pre L g w → w.heap[b g]? = some (.cells C T fz)) (hok : ldOK P t off C = true) (hV : ldv P t off C = V) : Gives P ops R pre i d (fun _ => V) :=
  gv_opW hs _ h fun L g o w hN hp ho => by
    have := ldOK_run (P := P) hok (hh L g w hN hp)
    rw [hV] at this
    simp [execOp, ho, Instr.loadAt, Instr.sureAddr, hx, this]
theorem gv_cpW {V : Value} (hs : ∀ L g w, pre L g w → pre (put1 L i) g w) (f : Nat) (args : Array Value) {pr : World → Prop} (hc : FnP P f args pr V) (hpr : ∀ L g w, Now ops i L → pre L g w → pr w) (hb : ∀ L g w w', Now ops i L → pre L g w → Below w.heap.size w w' → pre L g w') (h : ∀ g w, opv P ops i (R g) w = some (d, true, .ok (.enter f args) w)) : Gives P ops R pre i d (fun _ => V) :=
  gives_of fun L g w hp hN => by
    obtain ⟨o, ho, hd, hw, hr⟩ := opv_some (h g w)
    refine ⟨o, ho, hd, .inr ⟨hw, ?_⟩⟩
    rw [hr]
    refine Calls.mono (hc w (hpr L g w hN hp)) ?_
    rintro e w' ⟨rfl, hbl⟩
    exact ⟨V, rfl, g i, rfl, by rw [setN_self]; exact hs _ _ _ (hb L g w w' hN hp hbl)⟩
theorem gv_ft {V : Gh → Value} (f : Nat) (args : Array Value) {pr : World → Prop} {ok : Value → List (Nat × Obj) → Prop} (hc : FnT P f args pr ok) (hpr : ∀ L g w, Now ops i L → pre L g w → pr w)
    (hk : ∀ L g w v T w', Now ops i L → pre L g w → ok v T → St w.heap.size w w' T → ∃ x : Gh, v = V x ∧ pre (put1 L i) (setN g i x) w') (h : ∀ g w, opv P ops i (R g) w = some (d, true, .ok (.enter f args) w)) : Gives P ops R pre i d V :=
  gives_of fun L g w hp hN => by
    obtain ⟨o, ho, hd, hw, hr⟩ := opv_some (h g w)
    refine ⟨o, ho, hd, .inr ⟨hw, ?_⟩⟩
    rw [hr]
    refine Calls.mono (hc w (hpr L g w hN hp)) ?_
    rintro e w' ⟨v, T, rfl, hok, hT⟩
    obtain ⟨x, hv, hq⟩ := hk L g w v T w' hN hp hok hT
    exact ⟨v, rfl, x, hv, hq⟩
theorem gv_cc {V : Gh → Value} (f : Nat) (args : Array Value) (hc : ∀ L g w, Now ops i L → pre L g w → Calls P f args w fun e w' => ∃ v, e = .returned v ∧ ∃ x : Gh, v = V x ∧ pre (put1 L i) (setN g i x) w') (h : ∀ g w, opv P ops i (R g) w = some (d, true, .ok (.enter f args) w)) : Gives P ops R pre i d V :=
  gives_of fun L g w hp hN => by
    obtain ⟨o, ho, hd, hw, hr⟩ := opv_some (h g w)
    refine ⟨o, ho, hd, .inr ⟨hw, ?_⟩⟩
    rw [hr]
    refine Calls.mono (hc L g w hN hp) ?_
    rintro e w' ⟨v, rfl, x, hv, hq⟩
    exact ⟨v, rfl, x, hv, hq⟩
/-- A region of which one operation alone changes what lies. -/
def two (k : Nat) (Pre : World → Prop) (Post : Gh → World → Prop) : (Nat → Bool) → (Nat → Gh) → World → Prop := fun L g w => bif L k then Post (g k) w else Pre w
theorem two.bef {k : Nat} {Pre : World → Prop} {Post : Gh → World → Prop} {L : Nat → Bool} {g : Nat → Gh} {w : World} (h : two k Pre Post L g w) (hk : L k = false) : Pre w := by
  unfold two at h; rw [hk] at h; exact h
theorem two.aft {k : Nat} {Pre : World → Prop} {Post : Gh → World → Prop} {L : Nat → Bool} {g : Nat → Gh} {w : World} (h : two k Pre Post L g w) (hk : L k = true) : Post (g k) w := by
  unfold two at h; rw [hk] at h; exact h
theorem two.call {k : Nat} {Pre : World → Prop} {Post : Gh → World → Prop} {L : Nat → Bool} {g : Nat → Gh} {w w' : World} (h : two k Pre Post L g w) (h1 : Pre w → Pre w') (h2 : ∀ x, Post x w → Post x w') : two k Pre Post L g w' := by
  unfold two at h ⊢
  cases hk : L k with
  | true => rw [hk] at h; exact h2 _ h
  | false => rw [hk] at h; exact h1 h
theorem two.to {k : Nat} {Pre : World → Prop} {Post : Gh → World → Prop} {L : Nat → Bool} {g : Nat → Gh} {w : World} {x : Gh} (h : Post x w) : two k Pre Post (put1 L k) (setN g k x) w := by
  unfold two
  rw [show put1 L k k = true from put1_self L k, show setN g k x k = x by unfold setN; rw [Nat.beq_refl]; rfl]
  exact h
end
end D2
abbrev outT (B : Nat) (w0 : World) (ok : Value → List (Nat × Obj) → Prop) : Value → World → Prop := fun v' w' => ∃ T, ok v' T ∧ St B w0 w' T
theorem FnT.intro {P : Program} {f : Nat} {fn : Func} {c : Code} (rs : List ResultVar) (N : Nat) {args : Array Value} {pre : World → Prop} {ok : Value → List (Nat × Obj) → Prop} (hf : P.funcs[f]? = some fn) (hb : fn.body = some c) (hr : fn.results.toList = rs) (hn : args.size + (fn.ntmps - args.size) = N)
    (h : ∀ w, pre w → WP P N c (ends P rs (outT w.heap.size w ok)) (ini args) w) : FnT P f args pre ok := fun w hp =>
  (calls_intro hf hb hr hn (h w hp)).mono fun e w' ⟨v', he, T, hv⟩ => ⟨v', T, he, hv⟩
section
variable {P : Program} {N : Nat} {ops : Array Oper} {i : Nat} {r : List Nat} {K : Env → World → Prop} {ρ : Env} {w : World} {B : Nat} {w0 : World} {l : List (Nat × Obj)}
theorem s_callFT (HS : St B w0 w l) (d : Option Nat) (f : Nat) (args : Array Value) {pre : World → Prop} {ok : Value → List (Nat × Obj) → Prop} (hc : FnT P f args pre ok) (hp : pre w)
    (h : opv P ops i ρ w = some (d, true, .ok (.enter f args) w)) (hd : dOK d N = true)
    (kk : ∀ v T w', ok v T → St B w0 w' (T ++ l) → WPs P N ops K r (updO ρ d v) w') : WPs P N ops K (i :: r) ρ w := by
  obtain ⟨o, ho, rfl, hw, hr⟩ := opv_some h
  refine WPo.run ho hw fun a ha => ?_
  rw [hr, Oper.upon_enter]
  refine (hc w hp).mono ?_
  rintro e w' ⟨v, T, rfl, hok, hT⟩
  exact ⟨_, ha.put _ (dOK_lt hd) _, kk v T w' hok (HS.addAll hT)⟩
theorem s_callC {R : Value → World → Prop} (d : Option Nat) (f : Nat) (args : Array Value) (hc : Calls P f args w fun e w' => ∃ v, e = .returned v ∧ R v w')
    (h : opv P ops i ρ w = some (d, true, .ok (.enter f args) w)) (hd : dOK d N = true) (kk : ∀ v w', R v w' → WPs P N ops K r (updO ρ d v) w') : WPs P N ops K (i :: r) ρ w := by
  obtain ⟨o, ho, rfl, hw, hr⟩ := opv_some h
  refine WPo.run ho hw fun a ha => ?_
  rw [hr, Oper.upon_enter]
  refine hc.mono ?_
  rintro e w' ⟨v, rfl, hR⟩
  exact ⟨_, ha.put _ (dOK_lt hd) _, kk v w' hR⟩
/-- make of a row of structs. -/
theorem s_makeK (HS : St B w0 w l) (d : Option Nat) (t e : TypeId) (K' bytes : Nat) (x y : Operand) (kl kc : IntKind) (n : Nat) (h : opk ops i ρ = some (d, true, .makeSlice t x y)) (hd : dOK d N = true) (ht : sliceOf P t = some (e, K', bytes))
    (hx : ev ρ x = .int kl (n : Int)) (hy : ev ρ y = .int kc (n : Int)) (hb : bytes * n ≤ 281474976710656) (hm : n ≤ maxLen)
    (kk : ∀ b cur w', St B w0 w' ((b, .cells cur e (0, 0)) :: l) → cur.size = n * K' → WPs P N ops K r (updO ρ d (.slice (some ⟨b, 0, none⟩) n n)) w') : WPs P N ops K (i :: r) ρ w := by
  obtain ⟨o, ho, rfl, hw, hop⟩ := opk_some h
  obtain ⟨it, z', hu, hi, hz', hsz, hby, hzs, h0⟩ := sliceOf_spec ht
  have hml : n ≤ 9223372036854775807 := by have := hm; simp only [maxLen] at this; omega
  have hbi : (it.bytes : Int) * (n : Int) ≤ 281474976710656 := by
    rw [hby, ← Int.natCast_mul]; omega
  have hr := run_make (P := P) w t e it z' hu hi hz' kl kc (n : Int) (n : Int) (by omega) (by omega) hbi (by omega)
  simp only [Int.toNat_natCast, hsz] at hr
  refine WPo.run ho hw fun a ha => ?_
  have hex : (execOp (ev ρ) o).run P w = .ok (.value (.slice (some ⟨w.heap.size, 0, none⟩) n n)) (w.alloc (.cells (madeCells z'.cells (n * K')) e)) := by
    unfold execOp
    simp only [hop, hx, hy, Sem.run_bind, hr, Result.andThen_ok]; rfl
  rw [hex, Oper.upon_value]
  refine ⟨_, ha.put _ (dOK_lt hd) _, kk _ _ _ (HS.alloc _) ?_⟩
  unfold madeCells; simp
end
end Go.Proofs.YtlhfgbjhngkicaaGreatDoor

namespace Go.Proofs.YtlhfgbjhngkicaaGreatDoor
open Go Go.RowKit
set_option linter.unusedVariables false
/-- A plain struct: how many cells, which. -/
structure Fl (α : Type) where
  K : Nat
  cs : α → List Value
  pos : 0 < K
  len : ∀ a, (cs a).length = K
  one : ∀ a, ∀ u ∈ cs a, u.oneCell' = true
section
variable {α : Type} {S : Fl α}
def cellsF (S : Fl α) : List α → List Value
  | [] => []
  | x :: r => S.cs x ++ cellsF S r
theorem cellsF_len : ∀ L : List α, (cellsF S L).length = L.length * S.K
  | [] => by simp [cellsF]
  | x :: r => by simp only [cellsF, List.length_append, cellsF_len r, S.len, List.length_cons, Nat.succ_mul]; omega
theorem cellsF_append : ∀ L M : List α, cellsF S (L ++ M) = cellsF S L ++ cellsF S M
  | [], M => by simp [cellsF]
  | y :: r, M => by simp only [List.cons_append, cellsF, cellsF_append r M, List.append_assoc]
theorem cellsF_snoc (x : α) (L : List α) : cellsF S (L ++ [x]) = cellsF S L ++ S.cs x := by
  rw [cellsF_append]; simp [cellsF]
theorem cellsF_one : ∀ L : List α, ∀ u ∈ cellsF S L, u.oneCell' = true
  | [], u, h => by simp [cellsF] at h
  | x :: r, u, h => by
    rcases List.mem_append.1 h with q | q
    · exact S.one x u q
    · exact cellsF_one r u q
theorem cellsF_get : ∀ (L : List α) (i : Nat) (x : α), L[i]? = some x → ∀ j, j < S.K → (cellsF S L)[i * S.K + j]? = (S.cs x)[j]?
  | y :: r, 0, x, h, j, hj => by
    obtain rfl : y = x := by simpa using h
    rw [Nat.zero_mul, Nat.zero_add]; unfold cellsF
    rw [List.getElem?_append_left (by rw [S.len]; exact hj)]
  | y :: r, i + 1, x, h, j, hj => by
    unfold cellsF
    rw [List.getElem?_append_right (by rw [S.len, Nat.succ_mul]; omega), S.len, show (i + 1) * S.K + j - S.K = i * S.K + j by rw [Nat.succ_mul]; omega]
    exact cellsF_get r i x (by simpa using h) j hj
/-- The structs lie in these cells, from a place on. -/
def RowAt (S : Fl α) (C : Array Value) (off : Nat) (L : List α) : Prop := ∀ (i : Nat) (x : α), L[i]? = some x → off + i * S.K + S.K ≤ C.size ∧ C.extract (off + i * S.K) (off + i * S.K + S.K) = (S.cs x).toArray
theorem RowAt.nil (C : Array Value) (off : Nat) : RowAt S C off [] := fun i x h => by simp at h
theorem RowAt.drop {C : Array Value} {off : Nat} {L : List α} (h : RowAt S C off L) (k : Nat) : RowAt S C (off + k * S.K) (L.drop k) := fun i x hx => by
  rw [List.getElem?_drop] at hx
  have := h (k + i) x hx
  rw [Nat.add_mul] at this
  rw [show off + k * S.K + i * S.K = off + (k * S.K + i * S.K) by omega]
  exact this
theorem RowAt.take {C : Array Value} {off : Nat} {L : List α} (h : RowAt S C off L) (k : Nat) : RowAt S C off (L.take k) := fun i x hx => by
  rw [List.getElem?_take] at hx
  split at hx
  · exact h i x hx
  · cases hx
/-- A cell of one of them. -/
theorem RowAt.cell {C : Array Value} {off : Nat} {L : List α} (h : RowAt S C off L) {i : Nat} {x : α} (hx : L[i]? = some x) (j : Nat) (hj : j < S.K) : C[off + i * S.K + j]? = (S.cs x)[j]? := by
  obtain ⟨h1, h2⟩ := h i x hx
  have e : (C.extract (off + i * S.K) (off + i * S.K + S.K))[j]? = C[off + i * S.K + j]? := by
    rw [Array.getElem?_extract, if_pos (by omega)]
  rw [← e, h2]; simp
theorem Rw.rowAt {cur : Array Value} {cap n : Nat} {L : List α} (h : Rw S.K cur cap n (cellsF S L)) : RowAt S cur 0 L := fun i x hx => by
  have hl := h.len
  rw [cellsF_len] at hl
  have hi : i < L.length := (List.getElem?_eq_some_iff.1 hx).1
  rw [Nat.zero_add]
  refine exE (S.len x) (fun j hj => ?_) S.pos
  rw [h.get _ (by
    rw [← hl]
    have : i * S.K + S.K ≤ L.length * S.K := by rw [← Nat.succ_mul]; exact Nat.mul_le_mul_right _ hi
    omega), cellsF_get L i x hx j hj]
theorem Rw.lenF {cur : Array Value} {cap n : Nat} {L : List α} (h : Rw S.K cur cap n (cellsF S L)) : L.length = n := by
  have hl := h.len
  rw [cellsF_len] at hl
  exact Nat.eq_of_mul_eq_mul_right S.pos hl
/-- A row that is nil, or lies in a block of one's own. -/
def RowF (S : Fl α) (ty : TypeId) (p : Option Addr) (n c : Nat) (row : List (Nat × Obj)) (L : List α) : Prop := (p = none ∧ n = 0 ∧ c = 0 ∧ row = [] ∧ L = []) ∨ ∃ b cur, p = some ⟨b, 0, none⟩ ∧ row = [(b, .cells cur ty (0, 0))] ∧ Rw S.K cur c n (cellsF S L)
theorem RowF.len {ty : TypeId} {p : Option Addr} {n c : Nat} {row : List (Nat × Obj)} {L : List α} (h : RowF S ty p n c row L) : L.length = n := by
  rcases h with ⟨_, rfl, _, _, rfl⟩ | ⟨b, cur, _, _, hr⟩
  · rfl
  · exact hr.lenF
/-- A row with room for n structs, the first i of which are there. -/
structure FillF (S : Fl α) (C : Array Value) (n i : Nat) (M : List α) : Prop where
  sz : C.size = n * S.K
  len : M.length = i
  take : C.toList.take (i * S.K) = cellsF S M
theorem FillF.start {C : Array Value} {n : Nat} (h : C.size = n * S.K) : FillF S C n 0 [] := ⟨h, rfl, by simp [cellsF]⟩
def putC' (C : Array Value) (off : Nat) (v : Value) : Array Value := (C.toList.take off ++ v.cells.toList ++ C.toList.drop (off + v.cells.size)).toArray
theorem FillF.put {C : Array Value} {n i : Nat} {M : List α} (h : FillF S C n i M) (x : α) {v : Value} (hv : v.cells.toList = S.cs x) (hi : i < n) :
    0 + i * S.K + v.cells.size ≤ C.size ∧ FillF S (putC' C (0 + i * S.K) v) n (i + 1) (M ++ [x]) := by
  have hsv : v.cells.size = S.K := by rw [← Array.length_toList, hv, S.len]
  have hsz := h.sz
  have hle : i * S.K + S.K ≤ C.size := by rw [hsz, ← Nat.succ_mul]; exact Nat.mul_le_mul_right _ hi
  rw [Nat.zero_add]
  refine ⟨by omega, ?_, by rw [List.length_append, h.len]; rfl, ?_⟩
  · unfold putC'
    rw [List.size_toArray, List.length_append, List.length_append, List.length_take, List.length_drop, Array.length_toList, Array.length_toList, hsv]; omega
  · have e1 : (C.toList.take (i * S.K)).length = i * S.K := by rw [List.length_take, Array.length_toList]; omega
    have e2 : (C.toList.take (i * S.K)).take (i * S.K + S.K) = C.toList.take (i * S.K) := List.take_of_length_le (by omega)
    have e3 : (S.cs x).take S.K = S.cs x := List.take_of_length_le (by rw [S.len]; exact Nat.le_refl _)
    unfold putC'
    rw [Nat.succ_mul, List.toList_toArray, List.append_assoc, List.take_append, e1, e2, Nat.add_sub_cancel_left, List.take_append, hv, S.len, Nat.sub_self, List.take_zero, List.append_nil, e3, cellsF_snoc, h.take]
theorem FillF.done {C : Array Value} {n : Nat} {M : List α} (h : FillF S C n n M) (hm : n ≤ maxLen) : Rw S.K C n n (cellsF S M) := ⟨by rw [cellsF_len, h.len], Nat.le_refl _, hm, h.take, h.sz⟩
end
end Go.Proofs.YtlhfgbjhngkicaaGreatDoor

namespace Go.Proofs.YtlhfgbjhngkicaaGreatDoor
open Go Go.RowKit
set_option linter.unusedVariables false
namespace D2
/-- Operation ka lays a row of one, operation kb puts it behind another, operation kc takes it. -/
def ApP (ka kb kc : Nat) (P0 : World → Prop) (P1 P2 : Gh → World → Prop) : (Nat → Bool) → (Nat → Gh) → World → Prop := fun L g w => bif L kc then P2 (g kc) w else bif L kb then P2 (g kb) w else bif L ka then P1 (g ka) w else P0 w
theorem ApP.get {ka kb kc : Nat} {P0 : World → Prop} {P1 P2 : Gh → World → Prop} {L : Nat → Bool} {g : Nat → Gh} {w : World} {Φ : Prop} (h : ApP ka kb kc P0 P1 P2 L g w) (h0 : P0 w → Φ) (h1 : ∀ y, P1 y w → Φ) (h2 : ∀ y, P2 y w → Φ) : Φ := by
  unfold ApP at h
  cases hc : L kc with
  | true => rw [hc] at h; exact h2 _ h
  | false =>
    rw [hc] at h
    cases hb : L kb with
    | true => rw [hb] at h; exact h2 _ h
    | false =>
      rw [hb] at h
      cases ha : L ka with
      | true => rw [ha] at h; exact h1 _ h
      | false => rw [ha] at h; exact h0 h
theorem ApP.call {ka kb kc : Nat} {P0 : World → Prop} {P1 P2 : Gh → World → Prop} {L : Nat → Bool} {g : Nat → Gh} {w w' : World} (h : ApP ka kb kc P0 P1 P2 L g w) (h0 : P0 w → P0 w') (h1 : ∀ y, P1 y w → P1 y w') (h2 : ∀ y, P2 y w → P2 y w') : ApP ka kb kc P0 P1 P2 L g w' := by
  unfold ApP at h ⊢
  cases hc : L kc with
  | true => rw [hc] at h; exact h2 _ h
  | false =>
    rw [hc] at h
    cases hb : L kb with
    | true => rw [hb] at h; exact h2 _ h
    | false =>
      rw [hb] at h
      cases ha : L ka with
      | true => rw [ha] at h; exact h1 _ h
      | false => rw [ha] at h; exact h0 h
section
variable {P : Program} {ops : Array Oper} {R : (Nat → Gh) → Env} {d : Option Nat}
theorem gv_cW {pre : (Nat → Bool) → (Nat → Gh) → World → Prop} {i : Nat} {V : Value} (hs : ∀ L g w, pre L g w → pre (put1 L i) g w) (f : Nat) (args : Array Value) (hc : Fn P f args V) (hb : ∀ L g w w', Now ops i L → pre L g w → Below w.heap.size w w' → pre L g w') (h : ∀ g w, opv P ops i (R g) w = some (d, true, .ok (.enter f args) w)) : Gives P ops R pre i d (fun _ => V) :=
  gv_cpW hs f args (pr := fun _ => True) (fun w _ => hc w) (fun _ _ _ _ _ => trivial) hb h
variable {B : Nat} {w0 : World} {E row : List (Nat × Obj)} {Y : Array Value} {ty : TypeId} {n : Nat} {K : Nat} {xs : List Value}
abbrev ap0 (B : Nat) (w0 : World) (row E : List (Nat × Obj)) : World → Prop := fun w => St B w0 w (row ++ E)
abbrev ap1 (B : Nat) (w0 : World) (row E : List (Nat × Obj)) (Y : Array Value) (ty : TypeId) : Gh → World → Prop := fun y w => St B w0 w ((y.b, .cells Y ty (0, 0)) :: (row ++ E))
abbrev ap2 (B : Nat) (w0 : World) (E : List (Nat × Obj)) (Y : Array Value) (ty : TypeId) (K n : Nat) (xs : List Value) : Gh → World → Prop := fun y w => Rw K y.cur y.cap (n + 1) (xs ++ Y.toList) ∧ St B w0 w ((y.b, .cells y.cur ty (0, 0)) :: E)
theorem gv_ap1 (ka kb kc : Nat) (hab : Nat.beq kb ka = false) (hac : Nat.beq kc ka = false) (hN : ∀ L, Now ops ka L → L kb = false ∧ L kc = false) (h : ∀ g w, opv P ops ka (R g) w = some (d, true, .ok (.value (.slice (some ⟨w.heap.size, 0, none⟩) 1 1)) (w.alloc (.cells Y ty)))) :
    Gives P ops R (ApP ka kb kc (ap0 B w0 row E) (ap1 B w0 row E Y ty) (ap2 B w0 E Y ty K n xs)) ka d (fun y => .slice (some ⟨y.b, 0, none⟩) 1 1) := by
  refine gives_of fun L g w hp hNw => ?_
  obtain ⟨hb, hc⟩ := hN L hNw
  unfold ApP at hp
  rw [hc, hb, hNw.1] at hp
  obtain ⟨o, ho, hd, hw, hrun⟩ := opv_some (h g w)
  refine ⟨o, ho, hd, .inr ⟨hw, ?_⟩⟩
  refine (congrArg (Runs _ _) hrun).mpr ?_
  refine ⟨{ b := w.heap.size }, rfl, ?_⟩
  unfold ApP
  rw [show put1 L ka kc = false by unfold put1; rw [hac, hc]; rfl, show put1 L ka kb = false by unfold put1; rw [hab, hb]; rfl, put1_self, show setN g ka { b := w.heap.size } ka = { b := w.heap.size } by unfold setN; rw [Nat.beq_refl]; rfl]
  exact St.alloc hp _
theorem gv_ap2 (ka kb kc : Nat) (hbc : Nat.beq kc kb = false) (c : Nat) (t bytes : Nat) (s x : Operand) (p : Option Addr) (hN : ∀ L, Now ops kb L → L ka = true ∧ L kc = false) (h : ∀ g, opk ops kb (R g) = some (d, true, appendOp t s x)) (ht : sliceOf P t = some (ty, K, bytes))
    (hs : ∀ g, ev (R g) s = .slice p n c) (hx : ∀ g, ev (R g) x = .slice (some ⟨(g ka).b, 0, none⟩) 1 1)
    (hrow : (p = none ∧ n = 0 ∧ c = 0 ∧ row = [] ∧ xs = []) ∨ ∃ b cur, p = some ⟨b, 0, none⟩ ∧ row = [(b, .cells cur ty (0, 0))] ∧ Rw K cur c n xs)
    (hY : Y.size = K) (hone : ∀ u ∈ Y.toList, u.oneCell' = true) (hb : (n + 1) * bytes ≤ 140737488355328) (hm : n + 1 ≤ maxLen) :
    Gives P ops R (ApP ka kb kc (ap0 B w0 row E) (ap1 B w0 row E Y ty) (ap2 B w0 E Y ty K n xs)) kb d (fun y => .slice (some ⟨y.b, 0, none⟩) (n + 1) y.cap) := by
  refine gives_of fun L g w hp hNw => ?_
  obtain ⟨ha, hc⟩ := hN L hNw
  unfold ApP at hp
  rw [hc, hNw.1, ha] at hp
  obtain ⟨o, ho, hd, hw, hop⟩ := opk_some (h g)
  refine ⟨o, ho, hd, .inr ⟨hw, ?_⟩⟩
  rcases hrow with ⟨rfl, rfl, rfl, rfl, rfl⟩ | ⟨bw, cur, rfl, rfl, hrw⟩
  · obtain ⟨b', cap', cur', w', hrun, HS', hr'⟩ := grow_nil (K := K) hp (k := 0) (bx := (g ka).b) (c := 1) (Y := Y) ht hop (hs g) (hx g) rfl hY hone hb
    rw [hrun]
    refine ⟨{ b := b', cap := cap', cur := cur' }, rfl, ?_⟩
    unfold ApP
    rw [show put1 L kb kc = false by unfold put1; rw [hbc, hc]; rfl, put1_self, show setN g kb { b := b', cap := cap', cur := cur' } kb = { b := b', cap := cap', cur := cur' } by unfold setN; rw [Nat.beq_refl]; rfl]
    exact ⟨hr', HS'.sub (List.Sublist.cons_cons _ (List.sublist_cons_self ..))⟩
  · obtain ⟨b', cap', cur', w', hrun, HS', hr'⟩ := grow_own (K := K) hp (j := 1) (k := 0) (bx := (g ka).b) (c := 1) (Y := Y) ht hop (hs g) rfl hrw (hx g) rfl hY hone hb hm
    rw [hrun]
    refine ⟨{ b := b', cap := cap', cur := cur' }, rfl, ?_⟩
    unfold ApP
    rw [show put1 L kb kc = false by unfold put1; rw [hbc, hc]; rfl, put1_self, show setN g kb { b := b', cap := cap', cur := cur' } kb = { b := b', cap := cap', cur := cur' } by unfold setN; rw [Nat.beq_refl]; rfl]
    exact ⟨hr', HS'.sub (List.sublist_cons_self ..)⟩
theorem gv_ap3 (ka kb kc : Nat) (hN : ∀ L, Now ops kc L → L kb = true) (h : ∀ g w, opv P ops kc (R g) w = some (d, true, .ok (.value (.slice (some ⟨(g kb).b, 0, none⟩) (n + 1) (g kb).cap)) w)) :
    Gives P ops R (ApP ka kb kc (ap0 B w0 row E) (ap1 B w0 row E Y ty) (ap2 B w0 E Y ty K n xs)) kc d (fun y => .slice (some ⟨y.b, 0, none⟩) (n + 1) y.cap) := by
  refine gv_valG (fun g => g kb) (fun L g w hNw hp => ?_) h
  have hb := hN L hNw
  unfold ApP at hp ⊢
  rw [hNw.1, hb] at hp
  rw [put1_self, show setN g kc (g kb) kc = g kb by unfold setN; rw [Nat.beq_refl]; rfl]
  exact hp
end
end D2
section
variable {α : Type} {S : Fl α}
theorem RowAt.at {C : Array Value} {off : Nat} {L : List α} (h : RowAt S C off L) {q : Nat} {u : Value} (hq : (cellsF S L)[q]? = some u) : C[off + q]? = some u := by
  have hlt := (List.getElem?_eq_some_iff.1 hq).1
  rw [cellsF_len] at hlt
  have hK := S.pos
  have hi : q / S.K < L.length := (Nat.div_lt_iff_lt_mul hK).2 hlt
  obtain ⟨x, hx⟩ : ∃ x, L[q / S.K]? = some x := ⟨_, List.getElem?_eq_getElem hi⟩
  have hj := Nat.mod_lt q hK
  have e : q / S.K * S.K + q % S.K = q := Nat.div_add_mod' q S.K
  have h1 := cellsF_get L _ x hx (q % S.K) hj
  have h2 := h.cell hx (q % S.K) hj
  rw [e] at h1
  rw [Nat.add_assoc, e] at h2
  rw [h2, ← h1, hq]
variable {P : Program} {ρ : Env} {w w0 : World} {B : Nat} {l : List (Nat × Obj)}
/-- A whole row is put behind an own one. -/
theorem grow_all (HS : St B w0 w l) {t e bytes : Nat} {s x : Operand} {o : Oper} {j b n cap m c : Nat} {a : Addr} {cur : Array Value} {xs : List Value} {M : List α} (ht : sliceOf P t = some (e, S.K, bytes)) (ho : o.op = appendOp t s x)
    (hs : ev ρ s = .slice (some ⟨b, 0, none⟩) n cap) (hj : l[j]? = some (b, .cells cur e (0, 0))) (hr : Rw S.K cur cap n xs) (hx : ev ρ x = .slice (some a) m c) (hM : m = M.length)
    (hk : M = [] ∨ ∃ bx off C T fz, a = ⟨bx, off, none⟩ ∧ w.heap[bx]? = some (.cells C T fz) ∧ RowAt S C off M)
    (hb : (n + m) * bytes ≤ 140737488355328) (hm : n + m ≤ maxLen) : ∃ b' cap' cur' w', (execOp (ev ρ) o).run P w = .ok (.value (.slice (some ⟨b', 0, none⟩) (n + m) cap')) w' ∧ St B w0 w' (l.set j (b', .cells cur' e (0, 0))) ∧ Rw S.K cur' cap' (n + m) (xs ++ cellsF S M) := by
  obtain ⟨it, z, hu, hi, hz, hsz, hby, hzs, h0⟩ := sliceOf_spec ht
  have hnews : ∀ q u, (cellsF S M)[q]? = some u → w.cell? (a.add q) = some u := fun q u hq => by
    rcases hk with rfl | ⟨bx, off, C, T, fz, rfl, hh, hR⟩
    · simp [cellsF] at hq
    · rw [addr_add]
      simp [World.cell?, hh, hR.at hq]
  obtain ⟨v', w', hrun, hown, hgr, hnil, hblk⟩ := run_append_own_at (P := P) w B t o.type e it z S.K bytes hu hi hz hsz hby hzs h0 _ n xs (hr.owns (HS.ge j hj) (HS.get j hj)) a m c (cellsF S M) (by rw [cellsF_len, hM]) hnews (cellsF_one M) hm hb HS.le
  have hown' := hown
  rcases hown'.2 with ⟨hv, _⟩ | ⟨g, cap', cur', rfl, hbg, hg, hnc, hcm, hcs, htk⟩
  · exact absurd (hnil.1 hv).1 (by simp)
  · have hgb : g = b ∨ g = w.heap.size := by
      rcases hblk with hq | hq
      · left; injection hq
      · right; injection hq
    refine ⟨g, cap', cur', w', ?_, HS.grown j hj hgr hgb hg, ?_⟩
    · unfold execOp
      simp only [ho, appendOp, resolve, invoke, builtin, Sem.run_bind, Sem.run_pure, Result.andThen_ok, List.map_toArray, List.map_cons, List.map_nil, hs, hx, hrun]
    · exact ⟨hown.1, hnc, hcm, htk, hcs⟩
variable {N : Nat} {ops : Array Oper} {i : Nat} {r : List Nat} {K : Env → World → Prop}
theorem s_growAll (HS : St B w0 w l) (d : Option Nat) (t e bytes : Nat) (s x : Operand) (j b n cap m c : Nat) (a : Addr) (cur : Array Value) (xs : List Value) (M : List α) (h : opk ops i ρ = some (d, true, appendOp t s x)) (hd : dOK d N = true) (ht : sliceOf P t = some (e, S.K, bytes))
    (hs : ev ρ s = .slice (some ⟨b, 0, none⟩) n cap) (hj : l[j]? = some (b, .cells cur e (0, 0))) (hr : Rw S.K cur cap n xs) (hx : ev ρ x = .slice (some a) m c) (hM : m = M.length)
    (hk : M = [] ∨ ∃ bx off C T fz, a = ⟨bx, off, none⟩ ∧ w.heap[bx]? = some (.cells C T fz) ∧ RowAt S C off M)
    (hb : (n + m) * bytes ≤ 140737488355328) (hm : n + m ≤ maxLen)
    (kk : ∀ b' cap' cur' w', St B w0 w' (l.set j (b', .cells cur' e (0, 0))) → Rw S.K cur' cap' (n + m) (xs ++ cellsF S M) → WPs P N ops K r (updO ρ d (.slice (some ⟨b', 0, none⟩) (n + m) cap')) w') : WPs P N ops K (i :: r) ρ w := by
  obtain ⟨o, ho, rfl, hw, hop⟩ := opk_some h
  obtain ⟨b', cap', cur', w', hrun, HS', hr'⟩ := grow_all (S := S) HS ht hop hs hj hr hx hM hk hb hm
  refine WPo.run ho hw fun a ha => ?_
  rw [hrun, Oper.upon_value]
  exact ⟨_, ha.put _ (dOK_lt hd) _, kk b' cap' cur' w' HS' hr'⟩
end
end Go.Proofs.YtlhfgbjhngkicaaGreatDoor

namespace Go.Proofs.YtlhfgbjhngkicaaGreatDoor
open Go Go.RowKit
set_option linter.unusedVariables false
section
variable {P : Program} {N : Nat} {Q : Exit → Env → World → Prop} {ρ : Env} {w : World} {c : Code}
end
section
variable {P : Program} {N : Nat} {ops : Array Oper} {i : Nat} {r : List Nat} {K : Env → World → Prop} {ρ : Env} {w : World} {B : Nat} {w0 : World} {l : List (Nat × Obj)}
theorem s_grow {K' : Nat} (HS : St B w0 w l) (d : Option Nat) (t e bytes : Nat) (s x : Operand) (j k b bx n cap c : Nat) (cur Y : Array Value) (xs : List Value) (h : opk ops i ρ = some (d, true, appendOp t s x)) (hd : dOK d N = true) (ht : sliceOf P t = some (e, K', bytes))
    (hs : ev ρ s = .slice (some ⟨b, 0, none⟩) n cap) (hj : l[j]? = some (b, .cells cur e (0, 0))) (hr : Rw K' cur cap n xs) (hx : ev ρ x = .slice (some ⟨bx, 0, none⟩) 1 c) (hk : l[k]? = some (bx, .cells Y e (0, 0)))
    (hY : Y.size = K') (hone : ∀ u ∈ Y.toList, u.oneCell' = true) (hb : (n + 1) * bytes ≤ 140737488355328) (hm : n + 1 ≤ maxLen)
    (kk : ∀ b' cap' cur' w', St B w0 w' (l.set j (b', .cells cur' e (0, 0))) → Rw K' cur' cap' (n + 1) (xs ++ Y.toList) → WPs P N ops K r (updO ρ d (.slice (some ⟨b', 0, none⟩) (n + 1) cap')) w') : WPs P N ops K (i :: r) ρ w := by
  obtain ⟨o, ho, rfl, hw, hop⟩ := opk_some h
  obtain ⟨b', cap', cur', w', hrun, HS', hr'⟩ := grow_own HS ht hop hs hj hr hx hk hY hone hb hm
  refine WPo.run ho hw fun a ha => ?_
  rw [hrun, Oper.upon_value]
  exact ⟨_, ha.put _ (dOK_lt hd) _, kk b' cap' cur' w' HS' hr'⟩
theorem s_growNil {K' : Nat} (HS : St B w0 w l) (d : Option Nat) (t e bytes : Nat) (s x : Operand) (k bx c : Nat) (Y : Array Value) (h : opk ops i ρ = some (d, true, appendOp t s x)) (hd : dOK d N = true) (ht : sliceOf P t = some (e, K', bytes))
    (hs : ev ρ s = .slice none 0 0) (hx : ev ρ x = .slice (some ⟨bx, 0, none⟩) 1 c) (hk : l[k]? = some (bx, .cells Y e (0, 0)))
    (hY : Y.size = K') (hone : ∀ u ∈ Y.toList, u.oneCell' = true) (hb : (0 + 1) * bytes ≤ 140737488355328)
    (kk : ∀ b' cap' cur' w', St B w0 w' ((b', .cells cur' e (0, 0)) :: l) → Rw K' cur' cap' 1 Y.toList → WPs P N ops K r (updO ρ d (.slice (some ⟨b', 0, none⟩) 1 cap')) w') : WPs P N ops K (i :: r) ρ w := by
  obtain ⟨o, ho, rfl, hw, hop⟩ := opk_some h
  obtain ⟨b', cap', cur', w', hrun, HS', hr'⟩ := grow_nil HS ht hop hs hx hk hY hone hb
  refine WPo.run ho hw fun a ha => ?_
  rw [hrun, Oper.upon_value]
  exact ⟨_, ha.put _ (dOK_lt hd) _, kk b' cap' cur' w' HS' hr'⟩
end
def putA (cur : Array Value) (off : Nat) (v : Value) : Array Value := (cur.toList.take off ++ v.cells.toList ++ cur.toList.drop (off + v.cells.size)).toArray
/-- Cells are put into a row. -/
theorem Rw.putA {K : Nat} {cur : Array Value} {cap n : Nat} {xs : List Value} (h : Rw K cur cap n xs) (off : Nat) (v : Value) (hle : off + v.cells.size ≤ n * K) :
    off + v.cells.size ≤ cur.size ∧ Rw K (putA cur off v) cap n (xs.take off ++ v.cells.toList ++ xs.drop (off + v.cells.size)) := by
  have hcap : n * K ≤ cap * K := Nat.mul_le_mul_right _ h.le
  have hsz := h.sz
  have hA : cur.toList.length = cap * K := by rw [Array.length_toList, hsz]
  have hx : xs = cur.toList.take (n * K) := h.take.symm
  have hv : v.cells.toList.length = v.cells.size := Array.length_toList
  have e1 : (cur.toList.take off).length = off := by rw [List.length_take]; omega
  refine ⟨by omega, ?_, h.le, h.max, ?_, ?_⟩
  · rw [List.length_append, List.length_append, List.length_take, List.length_drop, h.len, hv]; omega
  · unfold Go.Proofs.YtlhfgbjhngkicaaGreatDoor.putA
    rw [List.toList_toArray, List.take_append, List.length_append, e1, hv, List.take_of_length_le (l := cur.toList.take off ++ v.cells.toList) (by rw [List.length_append, e1, hv]; exact hle), hx, List.take_take, Nat.min_eq_left (by omega), List.drop_take]
  · unfold Go.Proofs.YtlhfgbjhngkicaaGreatDoor.putA
    rw [List.size_toArray, List.length_append, List.length_append, e1, List.length_drop, hv, hA]; omega
theorem put_last {X Z V : List Value} {off : Nat} (hX : X.length = off) (hZ : Z.length = V.length) : (X ++ Z).take off ++ V ++ (X ++ Z).drop (off + V.length) = X ++ V := by
  rw [List.take_append, hX, Nat.sub_self, List.take_zero, List.append_nil, List.take_of_length_le (by omega), List.drop_append, hX, List.drop_of_length_le (by omega), List.nil_append, List.drop_of_length_le (by omega), List.append_nil]
end Go.Proofs.YtlhfgbjhngkicaaGreatDoor

namespace Go.Proofs.YtlhfgbjhngkicaaGreatDoor
open Go Go.RowKit
set_option linter.unusedVariables false
/-- Half bytes of bytes, upper ones first. -/
def hv : List UInt8 → List UInt8
  | [] => []
  | b :: t => (b >>> 4) :: (b &&& 15) :: hv t
def isP (l : List UInt8) : Bool := l.all fun b => decide (b.toNat ≤ 15)
/-- Two half bytes each. -/
def jn : List UInt8 → List UInt8
  | a :: b :: t => (a <<< 4 ||| b) :: jn t
  | _ => []
def fl (e : Bool) : UInt8 := if e then 2 else 0
def hdP (n : Nat) (e : Bool) : List UInt8 := if n % 2 = 1 then [fl e + 1] else [fl e, 0]
def pk (l : List UInt8) (e : Bool) : List UInt8 := jn (hdP l.length e ++ l)
theorem u8_all {p : UInt8 → Prop} (h : ∀ x : BitVec 8, p (UInt8.ofBitVec x)) (b : UInt8) : p b := h b.toBitVec
theorem back1 (b : UInt8) : (b >>> 4) <<< 4 ||| (b &&& 15) = b := u8_all (p := fun b => (b >>> 4) <<< 4 ||| (b &&& 15) = b) (by decide +kernel) b
theorem low1 (b : UInt8) : (b >>> 4).toNat ≤ 15 ∧ (b &&& 15).toNat ≤ 15 := u8_all (p := fun b => (b >>> 4).toNat ≤ 15 ∧ (b &&& 15).toNat ≤ 15) (by decide +kernel) b
theorem div16 (b : UInt8) : b / (16 : UInt8) = b >>> 4 ∧ b % (16 : UInt8) = b &&& 15 := u8_all (p := fun b => b / (16 : UInt8) = b >>> 4 ∧ b % (16 : UInt8) = b &&& 15) (by decide +kernel) b
theorem pair_all : ∀ a b : Fin 16, (UInt8.ofNat a.val <<< 4 ||| UInt8.ofNat b.val) >>> 4 = UInt8.ofNat a.val ∧ (UInt8.ofNat a.val <<< 4 ||| UInt8.ofNat b.val) &&& 15 = UInt8.ofNat b.val ∧ (16 : UInt8) * UInt8.ofNat a.val + UInt8.ofNat b.val = UInt8.ofNat a.val <<< 4 ||| UInt8.ofNat b.val := by decide +kernel
theorem pair1 {a b : UInt8} (ha : a.toNat ≤ 15) (hb : b.toNat ≤ 15) : (a <<< 4 ||| b) >>> 4 = a ∧ (a <<< 4 ||| b) &&& 15 = b ∧ (16 : UInt8) * a + b = a <<< 4 ||| b := by
  have h := pair_all ⟨a.toNat, by omega⟩ ⟨b.toNat, by omega⟩
  simpa using h
theorem hv_len : ∀ l : List UInt8, (hv l).length = 2 * l.length
  | [] => rfl
  | b :: t => by simp [hv, hv_len t]; omega
theorem hv_append : ∀ a b : List UInt8, hv (a ++ b) = hv a ++ hv b
  | [], b => rfl
  | x :: a, b => by simp [hv, hv_append a b]
theorem hv_isP : ∀ l : List UInt8, isP (hv l) = true
  | [] => rfl
  | b :: t => by
    have h1 := low1 b; have h2 := hv_isP t
    unfold isP at h2 ⊢
    simp only [hv, List.all_cons, Bool.and_eq_true, decide_eq_true_eq]
    exact ⟨h1.1, h1.2, h2⟩
theorem jn_hv : ∀ l : List UInt8, jn (hv l) = l
  | [] => rfl
  | b :: t => by simp only [hv, jn]; rw [back1, jn_hv t]
theorem isP_append {a b : List UInt8} : isP (a ++ b) = true ↔ isP a = true ∧ isP b = true := by unfold isP; simp
theorem jn_len : ∀ l : List UInt8, (jn l).length = l.length / 2
  | [] => rfl
  | [a] => by simp [jn]
  | a :: b :: t => by simp only [jn, List.length_cons, jn_len t]; omega
theorem jn_get : ∀ (l : List UInt8) (i : Nat), i < l.length / 2 → (jn l).getD i 0 = l.getD (2 * i) 0 <<< 4 ||| l.getD (2 * i + 1) 0
  | [], i, h => by simp at h
  | [a], i, h => by simp at h
  | a :: b :: t, 0, _ => rfl
  | a :: b :: t, i + 1, h => by
    have := jn_get t i (by simp at h; omega)
    simp only [jn, List.getD_cons_succ]
    rw [this, show 2 * (i + 1) = 2 * i + 1 + 1 by omega]
    simp only [List.getD_cons_succ]
theorem hdP_len (n : Nat) (e : Bool) : ((hdP n e).length + n) % 2 = 0 ∧ (hdP n e).length = 2 - n % 2 := by
  unfold hdP
  split
  · simp; omega
  · simp; omega
theorem pk_len (l : List UInt8) (e : Bool) : (pk l e).length = l.length / 2 + 1 := by
  unfold pk; rw [jn_len, List.length_append]; have := (hdP_len l.length e).2; omega
/-- With how many both begin alike. -/
def shr : List UInt8 → List UInt8 → Nat
  | a :: x, b :: y => if a = b then 1 + shr x y else 0
  | _, _ => 0
theorem shr_le : ∀ x y : List UInt8, shr x y ≤ x.length ∧ shr x y ≤ y.length
  | [], y => by simp [shr]
  | a :: x, [] => by simp [shr]
  | a :: x, b :: y => by have := shr_le x y; unfold shr; split <;> simp <;> omega
theorem shr_comm : ∀ x y : List UInt8, shr x y = shr y x
  | [], [] => rfl
  | [], b :: y => rfl
  | a :: x, [] => rfl
  | a :: x, b :: y => by
    unfold shr
    by_cases h : a = b
    · subst h; simp [shr_comm x y]
    · rw [if_neg h, if_neg (Ne.symm h)]
theorem shr_take : ∀ x y : List UInt8, x.take (shr x y) = y.take (shr x y)
  | [], y => by simp [shr]
  | a :: x, [] => by simp [shr]
  | a :: x, b :: y => by
    unfold shr
    split
    · rename_i h; subst h; rw [show 1 + shr x y = shr x y + 1 by omega]; simp [shr_take x y]
    · simp
/-- The loop's step. -/
theorem shr_step : ∀ (x y : List UInt8) (i : Nat), i < x.length → i < y.length → shr (x.drop i) (y.drop i) = if x.getD i 0 = y.getD i 0 then 1 + shr (x.drop (i + 1)) (y.drop (i + 1)) else 0 := by
  intro x y i hx hy
  rw [List.drop_eq_getElem_cons hx, List.drop_eq_getElem_cons hy]
  rw [List.getD_eq_getElem?_getD, List.getD_eq_getElem?_getD, List.getElem?_eq_getElem hx, List.getElem?_eq_getElem hy]
  rfl
theorem shr_nil {x y : List UInt8} (h : x.length = 0 ∨ y.length = 0) : shr x y = 0 := by have := shr_le x y; omega
theorem hv_take (l : List UInt8) (i : Nat) (h : i < l.length) : hv (l.take (i + 1)) = hv (l.take i) ++ [l.getD i 0 >>> 4, l.getD i 0 &&& 15] := by
  rw [List.take_add_one, hv_append]
  congr 1
  rw [List.getD_eq_getElem?_getD, List.getElem?_eq_getElem h]; rfl
theorem isP_step {l : List UInt8} {i : Nat} (h : i < l.length) : isP (l.take (i + 1)) = (isP (l.take i) && decide ((l.getD i 0).toNat ≤ 15)) := by
  unfold isP
  rw [List.take_add_one, List.all_append, List.getD_eq_getElem?_getD, List.getElem?_eq_getElem h]
  simp
theorem isP_not {l : List UInt8} {i : Nat} (h : i < l.length) (hb : ¬ (l.getD i 0).toNat ≤ 15) : isP l = false := by
  rcases hq : isP l with _ | _
  · rfl
  · unfold isP at hq
    rw [List.all_eq_true] at hq
    have := hq (l.getD i 0) (by rw [List.getD_eq_getElem?_getD, List.getElem?_eq_getElem h]; exact List.getElem_mem h)
    exact absurd (of_decide_eq_true this) hb
theorem isP_get {l : List UInt8} (h : isP l = true) (i : Nat) : (l.getD i 0).toNat ≤ 15 := by
  rw [List.getD_eq_getElem?_getD]
  rcases Nat.lt_or_ge i l.length with hi | hi
  · rw [List.getElem?_eq_getElem hi]
    unfold isP at h; rw [List.all_eq_true] at h
    exact of_decide_eq_true (h _ (List.getElem_mem hi))
  · rw [List.getElem?_eq_none hi]; decide
theorem jn_set (l : List UInt8) (i : Nat) (h : i < l.length / 2) :
    (((jn l).take i ++ List.replicate (l.length / 2 - i) 0).set i (l.getD (2 * i) 0 <<< 4 ||| l.getD (2 * i + 1) 0)) = (jn l).take (i + 1) ++ List.replicate (l.length / 2 - (i + 1)) 0 := by
  have hl := jn_len l
  rw [← jn_get l i h, List.set_append_right _ _ (by rw [List.length_take]; omega), List.length_take, show i - min i (jn l).length = 0 by omega,
    show l.length / 2 - i = (l.length / 2 - (i + 1)) + 1 by omega, List.replicate_succ, List.set_cons_zero, List.take_add_one, List.append_assoc,
    List.getD_eq_getElem?_getD, List.getElem?_eq_getElem (by omega)]
  rfl
theorem jn_take (l : List UInt8) (k : Nat) (h : 2 * k + 1 < l.length) : jn (l.take (2 * k + 2)) = jn (l.take (2 * k)) ++ [l.getD (2 * k) 0 <<< 4 ||| l.getD (2 * k + 1) 0] := by
  have h1 := jn_get l k (by omega)
  have ht : ∀ (m : Nat) (l : List UInt8), jn (l.take (2 * m)) = (jn l).take m := by
    intro m
    induction m with
    | zero => intro l; simp [jn]
    | succ m ih =>
      intro l
      match l with
      | [] => simp [jn]
      | [a] => simp [jn, show 2 * (m + 1) = 2 * m + 1 + 1 by omega]
      | a :: b :: t => simp [jn, show 2 * (m + 1) = 2 * m + 1 + 1 by omega, ih t]
  rw [show 2 * k + 2 = 2 * (k + 1) by omega, ht, ht, List.take_add_one, ← h1, List.getD_eq_getElem?_getD, List.getElem?_eq_getElem (by rw [jn_len]; omega)]
  rfl
theorem hi4 (x : UInt8) : BitVec.toNat (x.toBitVec >>> 4) = (x >>> 4).toNat := u8_all (p := fun x => BitVec.toNat (x.toBitVec >>> 4) = (x >>> 4).toNat) (by decide +kernel) x
theorem lo4 (x : UInt8) : BitVec.toNat (x.toBitVec &&& (15 : BitVec 8)) = (x &&& 15).toNat := rfl
theorem cells_hl (x : UInt8) : [Value.int .u8 ((BitVec.toNat (x.toBitVec >>> 4) : Nat) : Int), .int .u8 ((BitVec.toNat (x.toBitVec &&& (15 : BitVec 8)) : Nat) : Int)] = cellsB [x >>> 4, x &&& 15] := by
  rw [hi4, lo4]; rfl
theorem cells_qr (x : UInt8) : [Value.int .u8 ((BitVec.toNat (x.toBitVec / (16 : BitVec 8)) : Nat) : Int), .int .u8 ((BitVec.toNat (x.toBitVec % (16 : BitVec 8)) : Nat) : Int)] = cellsB [x >>> 4, x &&& 15] := by
  rw [← (div16 x).1, ← (div16 x).2]; rfl
theorem shl4 (x y : UInt8) : UInt8.ofBitVec (x.toBitVec <<< 4 ||| y.toBitVec) = x <<< 4 ||| y := by
  have h : ∀ x : UInt8, x.toBitVec <<< 4 = (x <<< 4).toBitVec := fun x => u8_all (p := fun x => x.toBitVec <<< 4 = (x <<< 4).toBitVec) (by decide +kernel) x
  rw [h]; rfl
end Go.Proofs.YtlhfgbjhngkicaaGreatDoor

namespace Go.Proofs.YtlhfgbjhngkicaaGreatDoor
open Go Go.RowKit
set_option linter.unusedVariables false
theorem one_all {l : List Value} (h : l.all (·.oneCell') = true) : ∀ u ∈ l, u.oneCell' = true := fun u hu => List.all_eq_true.1 h u hu
/-- A part, and a value. -/
abbrev Ent := List UInt8 × ByteArray
/-- A text is ahead of another one. -/
def lexB : List UInt8 → List UInt8 → Bool
  | [], [] => false
  | [], _ :: _ => true
  | _ :: _, [] => false
  | a :: l, b :: m => if a.toNat < b.toNat then true else if a = b then lexB l m else false
theorem lexB_nil (l : List UInt8) : lexB l [] = false := by cases l <;> rfl
theorem lexB_self : ∀ l : List UInt8, lexB l l = false
  | [] => rfl
  | a :: l => by simp only [lexB, Nat.lt_irrefl, if_false, if_true]; exact lexB_self l
theorem lexB_cons {a b : UInt8} {l m : List UInt8} (h : lexB (a :: l) (b :: m) = true) : a.toNat < b.toNat ∨ (a = b ∧ lexB l m = true) := by
  unfold lexB at h
  split at h
  · rename_i q; exact .inl q
  · split at h
    · rename_i q; exact .inr ⟨q, h⟩
    · cases h
theorem lexB_pre : ∀ (p l m : List UInt8), lexB (p ++ l) (p ++ m) = lexB l m
  | [], _, _ => rfl
  | a :: p, l, m => by simp only [List.cons_append, lexB, Nat.lt_irrefl, if_false, if_true]; exact lexB_pre p l m
theorem lexB_drop {l m : List UInt8} (k : Nat) (h : lexB l m = true) (e : l.take k = m.take k) : lexB (l.drop k) (m.drop k) = true := by
  rw [← List.take_append_drop k l, ← List.take_append_drop k m, e, lexB_pre] at h
  exact h
/-- Parts rise. -/
def Rise (l : List Ent) : Prop := l.Pairwise fun a b => lexB a.1 b.1 = true
/-- What stands between two begins with what both begin with. -/
theorem shr_between : ∀ {x y z : List UInt8}, lexB x y = true → lexB y z = true → shr x z ≤ shr x y ∧ shr x z ≤ shr y z
  | [], _, _, _, _ => ⟨by simp [shr], by simp [shr]⟩
  | a :: x, [], _, h, _ => by simp [lexB] at h
  | a :: x, b :: y, [], _, h => by simp [lexB] at h
  | a :: x, b :: y, c :: z, h1, h2 => by
    by_cases hac : a = c
    · subst hac
      have hab : a = b := by
        rcases lexB_cons h1 with q | ⟨q, _⟩
        · rcases lexB_cons h2 with q2 | ⟨q2, _⟩
          · omega
          · rw [q2] at q; omega
        · exact q
      subst hab
      have h1' := (lexB_cons h1).resolve_left (Nat.lt_irrefl _)
      have h2' := (lexB_cons h2).resolve_left (Nat.lt_irrefl _)
      have := shr_between h1'.2 h2'.2
      simp only [shr, if_true]; omega
    · simp [shr, hac]
theorem lexB_trans {x y z : List UInt8} : lexB x y = true → lexB y z = true → lexB x z = true := by
  induction x generalizing y z with
  | nil =>
    intro h1 h2
    cases z with
    | nil => rw [lexB_nil] at h2; cases h2
    | cons c z => rfl
  | cons a x ih =>
    intro h1 h2
    cases y with
    | nil => cases h1
    | cons b y =>
      cases z with
      | nil => cases h2
      | cons c z =>
        unfold lexB
        rcases lexB_cons h1 with q1 | ⟨rfl, q1⟩ <;> rcases lexB_cons h2 with q2 | ⟨rfl, q2⟩
        · rw [if_pos (by omega)]
        · rw [if_pos q1]
        · rw [if_pos q2]
        · rw [if_neg (Nat.lt_irrefl _), if_pos rfl]; exact ih q1 q2
theorem shr_le_left : ∀ x y : List UInt8, shr x y ≤ x.length
  | [], _ => by simp [shr]
  | a :: x, [] => by simp [shr]
  | a :: x, b :: y => by
    have := shr_le_left x y
    simp only [shr, List.length_cons]; split <;> omega
theorem shr_pre : ∀ (p x y : List UInt8), shr (p ++ x) (p ++ y) = p.length + shr x y
  | [], _, _ => by simp
  | a :: p, x, y => by simp only [List.cons_append, shr, if_true, shr_pre p x y, List.length_cons]; omega
/-- With how many half bytes all begin alike, by each. -/
def cmL (x : List UInt8) : List Ent → Nat → Nat
  | [], n => n
  | p :: r, n => cmL x r (min (shr p.1 x) n)
def commonM : List Ent → Nat
  | [] => 0
  | e :: r => cmL e.1 (e :: r) e.1.length
theorem cmL_le (x : List UInt8) : ∀ (l : List Ent) (n : Nat), cmL x l n ≤ n ∧ ∀ p ∈ l, cmL x l n ≤ shr p.1 x
  | [], n => ⟨Nat.le_refl _, fun _ h => nomatch h⟩
  | p :: r, n => by
    have h := cmL_le x r (min (shr p.1 x) n)
    refine ⟨?_, fun q hq => ?_⟩
    · unfold cmL; omega
    · unfold cmL
      rcases List.mem_cons.1 hq with rfl | hq
      · omega
      · exact h.2 q hq
theorem cmL_min (x : List UInt8) (k : Nat) : ∀ (l : List Ent) (n : Nat), k ≤ n → (∀ p ∈ l, k ≤ shr p.1 x) → k ≤ cmL x l n
  | [], n, h, _ => h
  | p :: r, n, h, hp => by
    unfold cmL
    refine cmL_min x k r _ ?_ fun q hq => hp q (List.mem_cons_of_mem _ hq)
    have := hp p (List.mem_cons_self ..)
    omega
theorem commonM_le {l : List Ent} {e : Ent} (h : l.head? = some e) : ∀ p ∈ l, commonM l ≤ shr p.1 e.1 := by
  cases l with
  | nil => simp at h
  | cons e' r =>
    obtain rfl : e' = e := by simpa using h
    exact (cmL_le _ _ _).2
/-- In parts that rise the first and the last one tell it. -/
theorem common_last {e z : Ent} {r : List Ent} (h : Rise (e :: r)) (hz : (e :: r).getLast? = some z) : commonM (e :: r) = shr e.1 z.1 := by
  have hmem : z ∈ e :: r := List.mem_of_getLast? hz
  refine Nat.le_antisymm (by rw [shr_comm]; exact (cmL_le _ _ _).2 z hmem) ?_
  refine cmL_min _ _ _ _ (shr_le_left _ _) fun p hp => ?_
  rw [shr_comm p.1]
  rcases List.mem_cons.1 hp with rfl | hp
  · have : ∀ x : List UInt8, shr x x = x.length := fun x => by
      have := shr_pre x [] []; simp [shr] at this; exact this
    rw [this]; exact shr_le_left _ _
  · have h1 : lexB e.1 p.1 = true := (List.pairwise_cons.1 h).1 p hp
    by_cases hpz : p = z
    · rw [hpz]; exact Nat.le_refl _
    · have h2 : lexB p.1 z.1 = true := by
        obtain ⟨a, b, hab⟩ := List.append_of_mem hp
        have hb : z ∈ b := by
          have hl : (e :: r).getLast? = (p :: b).getLast? := by
            rw [hab, ← List.cons_append, List.getLast?_append]
            cases hq : (p :: b).getLast? with
            | none => simp at hq
            | some v => rfl
          rw [hl] at hz
          cases b with
          | nil => simp at hz; exact absurd hz hpz
          | cons b0 b' =>
            rw [List.getLast?_cons_cons] at hz
            exact List.mem_of_getLast? hz
        rw [hab] at h
        have h3 := (List.pairwise_append.1 (List.pairwise_cons.1 h).2).2.1
        exact (List.pairwise_cons.1 h3).1 z hb
      exact (shr_between h1 h2).1
/-! ### Nodes -/
structure Nd where
  kind : Int
  part : ByteArray
  value : ByteArray
  kids : List Int
def kidC (k : List Int) : List Value := (List.range 16).map fun j => Value.int .i64 (k.getD j (-1))
def nS : Fl Nd where
  K := 19
  cs x := [.int .i64 x.kind, .string x.part, .string x.value] ++ kidC x.kids
  pos := by decide
  len _ := rfl
  one _ := one_all rfl
def aloneL : List Int := List.replicate 16 (-1)
def dropE (k : Nat) (l : List Ent) : List Ent := l.map fun e => (e.1.drop k, e.2)
def cutE (c : Nat) (l : List Ent) : List Ent := l.filterMap fun e => match e.1 with
  | [] => none
  | b :: t => if b.toNat = c then some (t, e.2) else none
def valE : List Ent → ByteArray
  | [] => ⟨#[]⟩
  | e :: r => if e.1 = [] then e.2 else valE r
def kidsW (lay : List Ent → List Nd → List Nd × Int) (l : List Ent) : Nat → List Nd → List Nd × List Int
  | 0, A => (A, [])
  | c + 1, A => ((lay (cutE c l) (kidsW lay l c A).1).1, (kidsW lay l c A).2 ++ [(lay (cutE c l) (kidsW lay l c A).1).2])
/-- The nodes of pairs of parts, behind those that there are; the topmost one. -/
def layM : Nat → List Ent → List Nd → List Nd × Int
  | 0, _, A => (A, -1)
  | f + 1, [], A => (A, -1)
  | f + 1, [e], A => (A ++ [⟨1, strB e.1, e.2, aloneL⟩], (A.length : Int))
  | f + 1, e :: e' :: r, A =>
    if 0 < commonM (e :: e' :: r) then
      ((layM f (dropE (commonM (e :: e' :: r)) (e :: e' :: r)) A).1 ++ [⟨2, strB (e.1.take (commonM (e :: e' :: r))), ⟨#[]⟩, (layM f (dropE (commonM (e :: e' :: r)) (e :: e' :: r)) A).2 :: List.replicate 15 (-1)⟩], ((layM f (dropE (commonM (e :: e' :: r)) (e :: e' :: r)) A).1.length : Int))
    else
      ((kidsW (layM f) (e :: e' :: r) 16 A).1 ++ [⟨3, ⟨#[]⟩, valE (e :: e' :: r), (kidsW (layM f) (e :: e' :: r) 16 A).2⟩], ((kidsW (layM f) (e :: e' :: r) 16 A).1.length : Int))
theorem dropE_len (k : Nat) (l : List Ent) : (dropE k l).length = l.length := List.length_map ..
theorem cutE_len : ∀ (l : List Ent) (n : Nat), ((List.range n).map fun c => (cutE c l).length).sum ≤ l.length
  | [], n => by
    induction n with
    | zero => exact Nat.le_refl _
    | succ n ih => rw [List.range_succ, List.map_append, List.sum_append]; simp [cutE] at ih ⊢; exact ih
  | e :: r, n => by
    have h := cutE_len r n
    have key : ∀ c, (cutE c (e :: r)).length = (if (match e.1 with | [] => false | b :: _ => decide (b.toNat = c)) = true then 1 else 0) + (cutE c r).length := fun c => by
      obtain ⟨x, v⟩ := e
      cases x with
      | nil => simp [cutE]
      | cons b t =>
        by_cases hb : b.toNat = c
        · simp [cutE, hb]; omega
        · simp [cutE, hb]
    have key2 : ∀ n, ((List.range n).map fun c => (if (match e.1 with | [] => false | b :: _ => decide (b.toNat = c)) = true then 1 else 0 : Nat)).sum ≤ 1 := by
      intro n
      obtain ⟨x, v⟩ := e
      cases x with
      | nil =>
        have h0 : ∀ n, ((List.range n).map fun c => (0 : Nat)).sum = 0 := fun n => by
          induction n with
          | zero => rfl
          | succ n ih => rw [List.range_succ, List.map_append, List.sum_append, ih]; rfl
        show ((List.range n).map fun c => (0 : Nat)).sum ≤ 1
        rw [h0]; omega
      | cons b t =>
        have h2 : ∀ n, ((List.range n).map fun c => (if decide (b.toNat = c) = true then 1 else 0 : Nat)).sum = if b.toNat < n then 1 else 0 := by
          intro n
          induction n with
          | zero => rfl
          | succ n ih =>
            rw [List.range_succ, List.map_append, List.sum_append, ih]
            simp only [List.map_cons, List.map_nil, List.sum_cons, List.sum_nil, decide_eq_true_eq]
            split <;> split <;> split <;> omega
        show ((List.range n).map fun c => (if decide (b.toNat = c) = true then 1 else 0 : Nat)).sum ≤ 1
        rw [h2]; split <;> omega
    have e2 : ((List.range n).map fun c => (cutE c (e :: r)).length).sum = ((List.range n).map fun c => (if (match e.1 with | [] => false | b :: _ => decide (b.toNat = c)) = true then 1 else 0 : Nat)).sum + ((List.range n).map fun c => (cutE c r).length).sum := by
      clear h
      induction n with
      | zero => rfl
      | succ n ih =>
        rw [List.range_succ, List.map_append, List.map_append, List.map_append, List.sum_append, List.sum_append, List.sum_append, ih]
        simp only [List.map_cons, List.map_nil, List.sum_cons, List.sum_nil, key n]; omega
    rw [e2]
    have := key2 n
    simp only [List.length_cons]; omega
theorem kidsW_len (lay : List Ent → List Nd → List Nd × Int) (l : List Ent) : ∀ (n : Nat) (A : List Nd), (kidsW lay l n A).2.length = n
  | 0, _ => rfl
  | n + 1, A => by simp only [kidsW, List.length_append, kidsW_len lay l n A, List.length_cons, List.length_nil]
/-- How many nodes there are. -/
theorem layM_len : ∀ (f : Nat) (l : List Ent) (A : List Nd), (layM f l A).1.length ≤ A.length + f * l.length
  | 0, _, _ => by simp [layM]
  | f + 1, [], A => by simp [layM]
  | f + 1, [e], A => by simp [layM]
  | f + 1, e :: e' :: r, A => by
    unfold layM
    split
    · have := layM_len f (dropE (commonM (e :: e' :: r)) (e :: e' :: r)) A
      rw [dropE_len] at this
      rw [List.length_append]
      rw [Nat.succ_mul]
      simp only [List.length_cons, List.length_nil] at this ⊢; omega
    · have hk : ∀ n, (kidsW (layM f) (e :: e' :: r) n A).1.length ≤ A.length + f * ((List.range n).map fun c => (cutE c (e :: e' :: r)).length).sum := by
        intro n
        induction n with
        | zero => simp [kidsW]
        | succ n ih =>
          have := layM_len f (cutE n (e :: e' :: r)) (kidsW (layM f) (e :: e' :: r) n A).1
          rw [List.range_succ, List.map_append, List.sum_append, Nat.mul_add]
          simp only [kidsW, List.map_cons, List.map_nil, List.sum_cons, List.sum_nil, Nat.add_zero]
          omega
      have h16 := hk 16
      have h17 := Nat.mul_le_mul_left f (cutE_len (e :: e' :: r) 16)
      rw [List.length_append, Nat.succ_mul]
      simp only [List.length_cons, List.length_nil] at h16 h17 ⊢; omega
end Go.Proofs.YtlhfgbjhngkicaaGreatDoor

namespace Go.Proofs.YtlhfgbjhngkicaaGreatDoor
open Go Go.RowKit
set_option linter.unusedVariables false
set_option maxRecDepth 100000 in
set_option maxHeartbeats 2000000 in
theorem of_fn (s : ByteArray) (hs : ByteArray.size s ≤ 1000000000000) : Fn Tryz.prog 65 #[.string s] (.string (strB (hv (tl s)))) := by
  refine Fn.intro (c := codeOf Tryz.f65) [.tmp 2] 28 Tryz.func65 kr kr kr fun w => ?_
  have H0 := St.start w
  refine rS [.v] H0 kr fun gs1 w1 H1 => ?_
  clear H0
  refine g_sreg [0, 1, 2, 3, 4] kr kr ?_
  refine rp [.v, .v, .e (v := .int .i64 (IntKind.i64.wrap (2 * ((ByteArray.size s : Nat) : Int)))) (v' := .int .i64 ((2 * (ByteArray.size s) : Nat) : Int)) (int_eq (wrapMul_i64 (a := 2) (b := ByteArray.size s) (by omega)))] H1 kr fun gs2 w2 H2 => ?_
  show WPs _ _ _ _ [3, 4] _ _
  clear H1
  refine s_make2 H2 (some 8) 88 5 1 (.int .u8 0) (.const (.int .i64 0)) (.tmp 7) .i64 .i64 0 (2 * (ByteArray.size s)) kr kr kr kr rfl kr kr (by omega) (by omega) (by unfold maxLen; omega) ?_
  intro b_1 cur_2 w3 H3 hr_3; clear H2
  have hr_3z : Rw 1 cur_2 (2 * (ByteArray.size s)) (0) (cellsB ([] : List UInt8)) := hr_3
  refine rp [.v] H3 kr fun gs4 w4 H4 => ?_
  show WPs _ _ _ _ [] _ _
  clear H3
  refine s_nil ?_
  refine g_seq kr ?_
  refine rS [.v, .v, .v] H4 kr fun gs5 w5 H5 => ?_
  clear H4
  refine g_block 0 kr ?_
  have HL1 : St w.heap.size w w5 [(b_1, Obj.cells cur_2 5 (0, 0))] := H5.as kr
  clear H5
  refine g_loop kr (fun mz ρ ww => ∃ (b : Nat) (cap : Nat) (n : Nat) (cur : Array Value) (i : Nat), ByteArray.size s - i = mz ∧ (n = 2 * i) ∧ (Rw 1 cur cap n (cellsB (hv (List.take i (tl s))))) ∧ (i ≤ ByteArray.size s) ∧ St w.heap.size w ww [(b, Obj.cells cur 5 (0, 0))] ∧ Is [(0, .string s), (2, .string (⟨#[]⟩)), (3, .slice (some ⟨b, 0, none⟩) n cap), (10, .int .i64 ((ByteArray.size s : Nat) : Int)), (11, .int .i64 ((i : Nat) : Int))] ρ) (ByteArray.size s - 0) ⟨b_1, 2 * (ByteArray.size s), 0, cur_2, 0, rfl, rfl, hr_3z, (by omega), HL1, (Is.of ⟨kr, kr, kr, kr, kr, trivial⟩)⟩ ?_
  clear HL1
  rintro _ _ w6 ⟨b, cap, n, cur, i, rfl, hn, hr, hi, H6, _, rfl⟩
  by_cases hc2 : (i : Nat) < ByteArray.size s
  · skip
    refine rS [.e (v := .bool (decide (((i : Nat) : Int) < ((ByteArray.size s : Nat) : Int)))) (v' := .bool true) (bool_eq (decide_eq_true (by omega)))] H6 kr fun gs7 w7 H7 => ?_
    clear H6
    refine g_seq kr ?_
    refine g_cond_t kr kr ?_
    refine g_skip kr ?_
    show WP _ _ _ _ _ _
    refine g_seq kr ?_
    refine g_block 1 kr ?_
    refine rS [.v, .v] H7 kr fun gs8 w8 H8 => ?_
    clear H7
    have HL3 : St w.heap.size w w8 [(b, Obj.cells cur 5 (0, 0))] := H8.as kr
    clear H8
    refine D2.g_draw0 [0, 1, 2, 3, 4, 5, 6, 7, 8, 9, 10, 11] [((some 14), fun _ => .slice (some ⟨b, 0, none⟩) n cap), ((some 15), fun _ => .string s), ((some 16), fun _ => .int .i64 ((i : Nat) : Int)), ((some 17), fun _ => .int .u8 ((BitVec.toNat (UInt8.toBitVec (List.getD (tl s) i 0)) : Nat) : Int)), ((some 18), fun _ => .int .u8 ((BitVec.toNat ((UInt8.toBitVec (List.getD (tl s) i 0)) >>> 4) : Nat) : Int)), ((some 19), fun _ => .string s), ((some 20), fun _ => .int .i64 ((i : Nat) : Int)), ((some 21), fun _ => .int .u8 ((BitVec.toNat (UInt8.toBitVec (List.getD (tl s) i 0)) : Nat) : Int)), ((some 22), fun _ => .int .u8 ((BitVec.toNat ((UInt8.toBitVec (List.getD (tl s) i 0)) &&& (15 : BitVec 8)) : Nat) : Int)), ((some 23), fun b => .slice (some ⟨b.b, 0, none⟩) 2 2), ((some 24), fun y => .slice (some ⟨y.b, 0, none⟩) y.n y.cap), ((some 3), fun y => .slice (some ⟨y.b, 0, none⟩) (y.n) (y.cap))] (D2.Pre w.heap.size w (fun L g => [(true, (bif L 10 then ((g 10).b, Obj.cells ((g 10).cur) 5 (0, 0)) else (b, Obj.cells cur 5 (0, 0)))), (L 9, ((g 9).b, Obj.cells #[.int .u8 ((BitVec.toNat ((UInt8.toBitVec (List.getD (tl s) i 0)) >>> 4) : Nat) : Int), .int .u8 ((BitVec.toNat ((UInt8.toBitVec (List.getD (tl s) i 0)) &&& (15 : BitVec 8)) : Nat) : Int)] 5 (0, 0)))]) (fun L g => (L 10 = true → ((g 10).n = n + 2 ∧ Rw 1 (g 10).cur (g 10).cap (n + 2) (cellsB (hv (List.take (i + 1) (tl s)))))) ∧ (L 11 = true → g 11 = g 10) ∧ True)) kr kr kr ⟨D2.StE.of HL3.drew _ kr, ⟨(fun h => nomatch h), (fun h => nomatch h), trivial⟩⟩ ⟨?_, ?_, ?_, ?_, ?_, ?_, ?_, ?_, ?_, ?_, ?_, ?_, trivial⟩ ?_
    · exact D2.gv_val (fun _ _ _ h => h) (fun g w => by kernel_rfl)
    · exact D2.gv_val (fun _ _ _ h => h) (fun g w => by kernel_rfl)
    · exact D2.gv_val (fun _ _ _ h => h) (fun g w => by kernel_rfl)
    · exact D2.gv_op (fun _ _ _ h => h) _ (fun g => by kernel_rfl) (fun g => (fun o w ho => sindex_run (t := 9) (kd := .i64) kr (x := (.tmp 15)) (y := (.tmp 16)) s i ho kr kr (by omega) w))
    · exact D2.gv_valE (fun _ _ _ h => h) (V' := .int .u8 (Int.fdiv (((BitVec.toNat (UInt8.toBitVec (List.getD (tl s) i 0)) : Nat) : Int)) (2 ^ (min 4 8)))) (fun g w => by kernel_rfl) (bv_shr_u8 (UInt8.toBitVec (List.getD (tl s) i 0)) 4)
    · exact D2.gv_val (fun _ _ _ h => h) (fun g w => by kernel_rfl)
    · exact D2.gv_val (fun _ _ _ h => h) (fun g w => by kernel_rfl)
    · exact D2.gv_op (fun _ _ _ h => h) _ (fun g => by kernel_rfl) (fun g => (fun o w ho => sindex_run (t := 9) (kd := .i64) kr (x := (.tmp 19)) (y := (.tmp 20)) s i ho kr kr (by omega) w))
    · exact D2.gv_valE (fun _ _ _ h => h) (V' := .int .u8 (Go.bits .and .u8 (((BitVec.toNat (UInt8.toBitVec (List.getD (tl s) i 0)) : Nat) : Int)) (15))) (fun g w => by kernel_rfl) (bv_and_u8 (UInt8.toBitVec (List.getD (tl s) i 0)) (15 : BitVec 8))
    · exact D2.gv_new (fun b => .slice (some ⟨b, 0, none⟩) 2 2) #[.int .u8 ((BitVec.toNat ((UInt8.toBitVec (List.getD (tl s) i 0)) >>> 4) : Nat) : Int), .int .u8 ((BitVec.toNat ((UInt8.toBitVec (List.getD (tl s) i 0)) &&& (15 : BitVec 8)) : Nat) : Int)] 5 1 (fun g w => by kernel_rfl) (fun L g b hN => kr) (fun L g b hN hF => hF)
    · exact D2.gv_append 88 5 1 1 (.tmp 14) (.tmp 23) 0 1 (fun g => b) (fun g => (g 9).b) (fun g => n) (fun g => 2) (fun g => cap) (fun g => 2) (fun g => cur) (fun g => #[.int .u8 ((BitVec.toNat ((UInt8.toBitVec (List.getD (tl s) i 0)) >>> 4) : Nat) : Int), .int .u8 ((BitVec.toNat ((UInt8.toBitVec (List.getD (tl s) i 0)) &&& (15 : BitVec 8)) : Nat) : Int)]) 5 (0, 0) (fun g => (cellsB (hv (List.take i (tl s))))) (fun g => [.int .u8 ((BitVec.toNat ((UInt8.toBitVec (List.getD (tl s) i 0)) >>> 4) : Nat) : Int), .int .u8 ((BitVec.toNat ((UInt8.toBitVec (List.getD (tl s) i 0)) &&& (15 : BitVec 8)) : Nat) : Int)]) (fun g => by kernel_rfl) kr (fun g => by kernel_rfl) (fun L g hN => (by have hL10 : L 10 = false := hN.1; exact D2.ent_get' (p := true) (e := (bif L 10 then ((g 10).b, Obj.cells ((g 10).cur) 5 (0, 0)) else (b, Obj.cells cur 5 (0, 0)))) kr (by rfl) (by simp only [hL10, cond_true, cond_false] <;> rfl))) (fun L g hN hF => by exact hr) (fun g => by kernel_rfl) (fun L g hN => (by have hL9 : L 9 = true := (hN.bef 9 kr); exact D2.ent_get' (p := L 9) (e := ((g 9).b, Obj.cells #[.int .u8 ((BitVec.toNat ((UInt8.toBitVec (List.getD (tl s) i 0)) >>> 4) : Nat) : Int), .int .u8 ((BitVec.toNat ((UInt8.toBitVec (List.getD (tl s) i 0)) &&& (15 : BitVec 8)) : Nat) : Int)] 5 (0, 0))) kr (by exact hL9) (by simp only [hL9, cond_true, cond_false] <;> rfl))) (fun L g hN hF => by exact ⟨(by rfl), (by rfl), (by intro u hu; simp at hu; first | exact hu.elim | (rcases hu with rfl | rfl | rfl | rfl <;> rfl) | (rcases hu with rfl | rfl <;> rfl) | (subst hu; rfl)), (by omega), (by unfold maxLen; omega)⟩) (fun L g y hN => kr) (fun L g y hN hF hyn hyr => by have hnew := (show (y.n = n + 2 ∧ Rw 1 y.cur y.cap (n + 2) (cellsB (hv (List.take (i + 1) (tl s))))) from ⟨hyn, by rw [hv_take (tl s) i (by rw [tl_len]; omega), cellsB_append, ← cells_hl]; exact hyr⟩); exact ⟨fun _ => hnew, (fun hx => nomatch (Eq.trans (Eq.symm (show L 11 = true from hx)) (hN.post 11 kr))), trivial⟩)
    · exact D2.gv_valG (fun g => g 10) (fun L g w hN hp => ⟨hp.1, hp.2.1, fun _ => rfl, trivial⟩) (fun g w => by kernel_rfl)
    intro L0 G9 w9 hall HL; clear HL3
    have H9 : St w.heap.size w w9 [((G9 10).b, Obj.cells ((G9 10).cur) 5 (0, 0)), ((G9 9).b, Obj.cells #[.int .u8 ((BitVec.toNat ((UInt8.toBitVec (List.getD (tl s) i 0)) >>> 4) : Nat) : Int), .int .u8 ((BitVec.toNat ((UInt8.toBitVec (List.getD (tl s) i 0)) &&& (15 : BitVec 8)) : Nat) : Int)] 5 (0, 0))] := by have e9 := hall 9 (Nat.le_of_ble_eq_true kr); have e10 := hall 10 (Nat.le_of_ble_eq_true kr); have e11 := hall 11 (Nat.le_of_ble_eq_true kr); have hS := D2.StE.st HL.1; simp only [e9, e10, e11, cond_true, D2.pres] at hS; exact hS
    have hf10_9 : ((G9 10).n = n + 2 ∧ Rw 1 (G9 10).cur (G9 10).cap (n + 2) (cellsB (hv (List.take (i + 1) (tl s))))) := HL.2.1 (hall 10 (Nat.le_of_ble_eq_true kr))
    have hf11_9 : G9 11 = G9 10 := HL.2.2.1 (hall 11 (Nat.le_of_ble_eq_true kr))
    clear HL hall
    rw [← hf11_9] at H9 hf10_9
    show WP _ _ _ _ _ _
    refine g_keep [0, 2, 3, 4, 10, 11, 12] fun ρ1 => ?_
    refine rL [.e (v := .int .i64 (IntKind.i64.wrap (((i : Nat) : Int) + 1))) (v' := .int .i64 ((i + 1 : Nat) : Int)) (int_eq (wrapAdd_i64 (a := i) (b := 1) (by omega))), .v] H9 kr fun gs10 w10 H10 => ?_
    clear H9
    have HL4 : St w.heap.size w w10 [((G9 11).b, Obj.cells ((G9 11).cur) 5 (0, 0)), ((G9 9).b, Obj.cells #[.int .u8 ((BitVec.toNat ((UInt8.toBitVec (List.getD (tl s) i 0)) >>> 4) : Nat) : Int), .int .u8 ((BitVec.toNat ((UInt8.toBitVec (List.getD (tl s) i 0)) &&& (15 : BitVec 8)) : Nat) : Int)] 5 (0, 0))] := H10.as kr
    clear H10
    have HD5 : St w.heap.size w w10 [((G9 11).b, Obj.cells ((G9 11).cur) 5 (0, 0))] := HL4.sub (List.Sublist.cons_cons _ (List.Sublist.cons _ List.Sublist.slnil))
    show ∃ m, _ ∧ _
    exact ⟨_, (by omega), (G9 11).b, (G9 11).cap, (G9 11).n, (G9 11).cur, (i + 1), rfl, (by have h9 := hf10_9.1; omega), (by have h9 := hf10_9; rw [h9.1]; exact h9.2), (by omega), HD5, (Is.of ⟨kr, kr, kr, kr, kr, trivial⟩)⟩
  · skip
    refine rS [.e (v := .bool (decide (((i : Nat) : Int) < ((ByteArray.size s : Nat) : Int)))) (v' := .bool false) (bool_eq (decide_eq_false (by omega)))] H6 kr fun gs11 w11 H11 => ?_
    clear H6
    refine g_seq kr ?_
    refine g_cond_f kr kr ?_
    refine g_exit 0 kr ?_
    show WP _ _ _ _ _ _
    refine g_sreg [0, 1, 2] kr kr ?_
    refine rp [.v] H11 kr fun gs12 w12 H12 => ?_
    show WPs _ _ _ _ [1, 2] _ _
    clear H11
    refine s_bytesStrB H12 (some 27) 88 9 5 (.tmp 26) 0 b n cap cur 5 (0, 0) (hv (List.take i (tl s))) kr kr kr kr kr kr kr hr ?_
    refine rp [.v] H12 kr fun gs13 w13 H13 => ?_
    show WPs _ _ _ _ [] _ _
    clear H12
    refine s_nil ?_
    refine g_ret kr ?_
    show ∃ vs, Res _ _ _ _ vs ∧ _
    refine ⟨[.string (strB (hv (List.take i (tl s))))], (.tmp (.string (strB (hv (List.take i (tl s))))) kr .nil), ?_, H13.below⟩
    obtain rfl : i = ByteArray.size s := by omega
    rw [List.take_of_length_le (show (tl s).length ≤ ByteArray.size s by rw [tl_len]; omega)]
    rfl
set_option maxRecDepth 100000 in
set_option maxHeartbeats 2000000 in
theorem ofR_fn (s : ByteArray) (hs : ByteArray.size s ≤ 1000000000000) : Fn Tryz.prog 41 #[.string s] (.string (strB (hv (tl s)))) := by
  refine Fn.intro (c := codeOf Tryz.f41) [.tmp 2] 25 Tryz.func41 kr kr kr fun w => ?_
  have H0 := St.start w
  refine rS [.v] H0 kr fun gs1 w1 H1 => ?_
  clear H0
  refine rS [.nw (fun b => .slice (some ⟨b, 0, none⟩) 0 0) #[] 5, .v] H1 kr fun gs2 w2 H2 => ?_
  clear H1
  refine g_seq kr ?_
  refine rS [.v] H2 kr fun gs3 w3 H3 => ?_
  clear H2
  refine g_block 0 kr ?_
  have HL1 : St w.heap.size w w3 [((gs2 0).b, Obj.cells #[] 5 (0, 0))] := H3.as kr
  clear H3
  refine g_loop kr (fun mz ρ ww => ∃ (b : Nat) (cap : Nat) (n : Nat) (cur : Array Value) (i : Nat), ByteArray.size s - i = mz ∧ (n = 2 * i) ∧ (Rw 1 cur cap n (cellsB (hv (List.take i (tl s))))) ∧ (i ≤ ByteArray.size s) ∧ St w.heap.size w ww [(b, Obj.cells cur 5 (0, 0))] ∧ Is [(0, .string s), (2, .string (⟨#[]⟩)), (3, .slice (some ⟨b, 0, none⟩) n cap), (4, .int .i64 ((i : Nat) : Int))] ρ) (ByteArray.size s - 0) ⟨(gs2 0).b, 0, 0, #[], 0, rfl, rfl, (Rw.lit #[] 0 rfl (by unfold maxLen; omega)), (by omega), HL1, (Is.of ⟨kr, kr, kr, kr, trivial⟩)⟩ ?_
  clear HL1
  rintro _ _ w4 ⟨b, cap, n, cur, i, rfl, hn, hr, hi, H4, _, rfl⟩
  refine g_seq kr ?_
  refine g_sreg [0, 1, 2, 3] kr kr ?_
  refine rp [.v, .v, .v] H4 kr fun gs5 w5 H5 => ?_
  show WPs _ _ _ _ [3] _ _
  clear H4
  by_cases hc2 : (i : Nat) < ByteArray.size s
  · skip
    refine rp [.e (v := .bool (decide (((i : Nat) : Int) < ((ByteArray.size s : Nat) : Int)))) (v' := .bool true) (bool_eq (decide_eq_true (by omega)))] H5 kr fun gs6 w6 H6 => ?_
    show WPs _ _ _ _ [] _ _
    clear H5
    refine s_nil ?_
    refine g_cond_t kr kr ?_
    refine g_skip kr ?_
    show WP _ _ _ _ _ _
    refine g_seq kr ?_
    refine g_block 1 kr ?_
    have HL3 : St w.heap.size w w6 [(b, Obj.cells cur 5 (0, 0))] := H6.as kr
    clear H6
    refine D2.g_draw0 [0, 1, 2, 3, 4, 5, 6, 7, 8, 9, 10, 11] [((some 12), fun _ => .slice (some ⟨b, 0, none⟩) n cap), ((some 13), fun _ => .string s), ((some 14), fun _ => .int .i64 ((i : Nat) : Int)), ((some 15), fun _ => .int .u8 ((BitVec.toNat (UInt8.toBitVec (List.getD (tl s) i 0)) : Nat) : Int)), ((some 16), fun _ => .int .u8 ((BitVec.toNat ((UInt8.toBitVec (List.getD (tl s) i 0)) / (16 : BitVec 8)) : Nat) : Int)), ((some 17), fun _ => .string s), ((some 18), fun _ => .int .i64 ((i : Nat) : Int)), ((some 19), fun _ => .int .u8 ((BitVec.toNat (UInt8.toBitVec (List.getD (tl s) i 0)) : Nat) : Int)), ((some 20), fun _ => .int .u8 ((BitVec.toNat ((UInt8.toBitVec (List.getD (tl s) i 0)) % (16 : BitVec 8)) : Nat) : Int)), ((some 21), fun b => .slice (some ⟨b.b, 0, none⟩) 2 2), ((some 22), fun y => .slice (some ⟨y.b, 0, none⟩) y.n y.cap), ((some 3), fun y => .slice (some ⟨y.b, 0, none⟩) (y.n) (y.cap))] (D2.Pre w.heap.size w (fun L g => [(true, (bif L 10 then ((g 10).b, Obj.cells ((g 10).cur) 5 (0, 0)) else (b, Obj.cells cur 5 (0, 0)))), (L 9, ((g 9).b, Obj.cells #[.int .u8 ((BitVec.toNat ((UInt8.toBitVec (List.getD (tl s) i 0)) / (16 : BitVec 8)) : Nat) : Int), .int .u8 ((BitVec.toNat ((UInt8.toBitVec (List.getD (tl s) i 0)) % (16 : BitVec 8)) : Nat) : Int)] 5 (0, 0)))]) (fun L g => (L 10 = true → ((g 10).n = n + 2 ∧ Rw 1 (g 10).cur (g 10).cap (n + 2) (cellsB (hv (List.take (i + 1) (tl s)))))) ∧ (L 11 = true → g 11 = g 10) ∧ True)) kr kr kr ⟨D2.StE.of HL3.drew _ kr, ⟨(fun h => nomatch h), (fun h => nomatch h), trivial⟩⟩ ⟨?_, ?_, ?_, ?_, ?_, ?_, ?_, ?_, ?_, ?_, ?_, ?_, trivial⟩ ?_
    · exact D2.gv_val (fun _ _ _ h => h) (fun g w => by kernel_rfl)
    · exact D2.gv_val (fun _ _ _ h => h) (fun g w => by kernel_rfl)
    · exact D2.gv_val (fun _ _ _ h => h) (fun g w => by kernel_rfl)
    · exact D2.gv_op (fun _ _ _ h => h) _ (fun g => by kernel_rfl) (fun g => (fun o w ho => sindex_run (t := 9) (kd := .i64) kr (x := (.tmp 13)) (y := (.tmp 14)) s i ho kr kr (by omega) w))
    · exact D2.gv_valE (fun _ _ _ h => h) (V' := .int .u8 (IntKind.u8.wrap (Int.tdiv (((BitVec.toNat (UInt8.toBitVec (List.getD (tl s) i 0)) : Nat) : Int)) (16)))) (fun g w => by kernel_rfl) (bv_quo_u8 (UInt8.toBitVec (List.getD (tl s) i 0)) (16 : BitVec 8))
    · exact D2.gv_val (fun _ _ _ h => h) (fun g w => by kernel_rfl)
    · exact D2.gv_val (fun _ _ _ h => h) (fun g w => by kernel_rfl)
    · exact D2.gv_op (fun _ _ _ h => h) _ (fun g => by kernel_rfl) (fun g => (fun o w ho => sindex_run (t := 9) (kd := .i64) kr (x := (.tmp 17)) (y := (.tmp 18)) s i ho kr kr (by omega) w))
    · exact D2.gv_valE (fun _ _ _ h => h) (V' := .int .u8 (Int.tmod (((BitVec.toNat (UInt8.toBitVec (List.getD (tl s) i 0)) : Nat) : Int)) (16))) (fun g w => by kernel_rfl) (bv_rem_u8 (UInt8.toBitVec (List.getD (tl s) i 0)) (16 : BitVec 8))
    · exact D2.gv_new (fun b => .slice (some ⟨b, 0, none⟩) 2 2) #[.int .u8 ((BitVec.toNat ((UInt8.toBitVec (List.getD (tl s) i 0)) / (16 : BitVec 8)) : Nat) : Int), .int .u8 ((BitVec.toNat ((UInt8.toBitVec (List.getD (tl s) i 0)) % (16 : BitVec 8)) : Nat) : Int)] 5 1 (fun g w => by kernel_rfl) (fun L g b hN => kr) (fun L g b hN hF => hF)
    · exact D2.gv_append 88 5 1 1 (.tmp 12) (.tmp 21) 0 1 (fun g => b) (fun g => (g 9).b) (fun g => n) (fun g => 2) (fun g => cap) (fun g => 2) (fun g => cur) (fun g => #[.int .u8 ((BitVec.toNat ((UInt8.toBitVec (List.getD (tl s) i 0)) / (16 : BitVec 8)) : Nat) : Int), .int .u8 ((BitVec.toNat ((UInt8.toBitVec (List.getD (tl s) i 0)) % (16 : BitVec 8)) : Nat) : Int)]) 5 (0, 0) (fun g => (cellsB (hv (List.take i (tl s))))) (fun g => [.int .u8 ((BitVec.toNat ((UInt8.toBitVec (List.getD (tl s) i 0)) / (16 : BitVec 8)) : Nat) : Int), .int .u8 ((BitVec.toNat ((UInt8.toBitVec (List.getD (tl s) i 0)) % (16 : BitVec 8)) : Nat) : Int)]) (fun g => by kernel_rfl) kr (fun g => by kernel_rfl) (fun L g hN => (by have hL10 : L 10 = false := hN.1; exact D2.ent_get' (p := true) (e := (bif L 10 then ((g 10).b, Obj.cells ((g 10).cur) 5 (0, 0)) else (b, Obj.cells cur 5 (0, 0)))) kr (by rfl) (by simp only [hL10, cond_true, cond_false] <;> rfl))) (fun L g hN hF => by exact hr) (fun g => by kernel_rfl) (fun L g hN => (by have hL9 : L 9 = true := (hN.bef 9 kr); exact D2.ent_get' (p := L 9) (e := ((g 9).b, Obj.cells #[.int .u8 ((BitVec.toNat ((UInt8.toBitVec (List.getD (tl s) i 0)) / (16 : BitVec 8)) : Nat) : Int), .int .u8 ((BitVec.toNat ((UInt8.toBitVec (List.getD (tl s) i 0)) % (16 : BitVec 8)) : Nat) : Int)] 5 (0, 0))) kr (by exact hL9) (by simp only [hL9, cond_true, cond_false] <;> rfl))) (fun L g hN hF => by exact ⟨(by rfl), (by rfl), (by intro u hu; simp at hu; first | exact hu.elim | (rcases hu with rfl | rfl | rfl | rfl <;> rfl) | (rcases hu with rfl | rfl <;> rfl) | (subst hu; rfl)), (by omega), (by unfold maxLen; omega)⟩) (fun L g y hN => kr) (fun L g y hN hF hyn hyr => by have hnew := (show (y.n = n + 2 ∧ Rw 1 y.cur y.cap (n + 2) (cellsB (hv (List.take (i + 1) (tl s))))) from ⟨hyn, by rw [hv_take (tl s) i (by rw [tl_len]; omega), cellsB_append, ← cells_qr]; exact hyr⟩); exact ⟨fun _ => hnew, (fun hx => nomatch (Eq.trans (Eq.symm (show L 11 = true from hx)) (hN.post 11 kr))), trivial⟩)
    · exact D2.gv_valG (fun g => g 10) (fun L g w hN hp => ⟨hp.1, hp.2.1, fun _ => rfl, trivial⟩) (fun g w => by kernel_rfl)
    intro L0 G7 w7 hall HL; clear HL3
    have H7 : St w.heap.size w w7 [((G7 10).b, Obj.cells ((G7 10).cur) 5 (0, 0)), ((G7 9).b, Obj.cells #[.int .u8 ((BitVec.toNat ((UInt8.toBitVec (List.getD (tl s) i 0)) / (16 : BitVec 8)) : Nat) : Int), .int .u8 ((BitVec.toNat ((UInt8.toBitVec (List.getD (tl s) i 0)) % (16 : BitVec 8)) : Nat) : Int)] 5 (0, 0))] := by have e9 := hall 9 (Nat.le_of_ble_eq_true kr); have e10 := hall 10 (Nat.le_of_ble_eq_true kr); have e11 := hall 11 (Nat.le_of_ble_eq_true kr); have hS := D2.StE.st HL.1; simp only [e9, e10, e11, cond_true, D2.pres] at hS; exact hS
    have hf10_7 : ((G7 10).n = n + 2 ∧ Rw 1 (G7 10).cur (G7 10).cap (n + 2) (cellsB (hv (List.take (i + 1) (tl s))))) := HL.2.1 (hall 10 (Nat.le_of_ble_eq_true kr))
    have hf11_7 : G7 11 = G7 10 := HL.2.2.1 (hall 11 (Nat.le_of_ble_eq_true kr))
    clear HL hall
    rw [← hf11_7] at H7 hf10_7
    show WP _ _ _ _ _ _
    refine g_keep [0, 2, 3, 4, 9] fun ρ1 => ?_
    refine rL [.v, .e (v := .int .i64 (IntKind.i64.wrap (((i : Nat) : Int) + 1))) (v' := .int .i64 ((i + 1 : Nat) : Int)) (int_eq (wrapAdd_i64 (a := i) (b := 1) (by omega))), .v] H7 kr fun gs8 w8 H8 => ?_
    clear H7
    have HL4 : St w.heap.size w w8 [((G7 11).b, Obj.cells ((G7 11).cur) 5 (0, 0)), ((G7 9).b, Obj.cells #[.int .u8 ((BitVec.toNat ((UInt8.toBitVec (List.getD (tl s) i 0)) / (16 : BitVec 8)) : Nat) : Int), .int .u8 ((BitVec.toNat ((UInt8.toBitVec (List.getD (tl s) i 0)) % (16 : BitVec 8)) : Nat) : Int)] 5 (0, 0))] := H8.as kr
    clear H8
    have HD5 : St w.heap.size w w8 [((G7 11).b, Obj.cells ((G7 11).cur) 5 (0, 0))] := HL4.sub (List.Sublist.cons_cons _ (List.Sublist.cons _ List.Sublist.slnil))
    show ∃ m, _ ∧ _
    exact ⟨_, (by omega), (G7 11).b, (G7 11).cap, (G7 11).n, (G7 11).cur, (i + 1), rfl, (by have h9 := hf10_7.1; omega), (by have h9 := hf10_7; rw [h9.1]; exact h9.2), (by omega), HD5, (Is.of ⟨kr, kr, kr, kr, trivial⟩)⟩
  · skip
    refine rp [.e (v := .bool (decide (((i : Nat) : Int) < ((ByteArray.size s : Nat) : Int)))) (v' := .bool false) (bool_eq (decide_eq_false (by omega)))] H5 kr fun gs9 w9 H9 => ?_
    show WPs _ _ _ _ [] _ _
    clear H5
    refine s_nil ?_
    refine g_cond_f kr kr ?_
    refine g_exit 0 kr ?_
    show WP _ _ _ _ _ _
    refine g_sreg [0, 1, 2] kr kr ?_
    refine rp [.v] H9 kr fun gs10 w10 H10 => ?_
    show WPs _ _ _ _ [1, 2] _ _
    clear H9
    refine s_bytesStrB H10 (some 24) 88 9 5 (.tmp 23) 0 b n cap cur 5 (0, 0) (hv (List.take i (tl s))) kr kr kr kr kr kr kr hr ?_
    refine rp [.v] H10 kr fun gs11 w11 H11 => ?_
    show WPs _ _ _ _ [] _ _
    clear H10
    refine s_nil ?_
    refine g_ret kr ?_
    show ∃ vs, Res _ _ _ _ vs ∧ _
    refine ⟨[.string (strB (hv (List.take i (tl s))))], (.tmp (.string (strB (hv (List.take i (tl s))))) kr .nil), ?_, H11.below⟩
    obtain rfl : i = ByteArray.size s := by omega
    rw [List.take_of_length_le (show (tl s).length ≤ ByteArray.size s by rw [tl_len]; omega)]
    rfl
set_option maxRecDepth 100000 in
set_option maxHeartbeats 2000000 in
theorem may_fn (s : ByteArray) (hs : ByteArray.size s ≤ 1000000000000) : Fn Tryz.prog 109 #[.string s] (.bool (isP (tl s))) := by
  refine Fn.intro (c := codeOf Tryz.f109) [.tmp 2] 14 Tryz.func109 kr kr kr fun w => ?_
  have H0 := St.start w
  refine rS [.v] H0 kr fun gs1 w1 H1 => ?_
  clear H0
  refine g_seq kr ?_
  refine rS [.v, .v, .v] H1 kr fun gs2 w2 H2 => ?_
  clear H1
  refine g_block 0 kr ?_
  have HL1 : St w.heap.size w w2 [] := H2.as kr
  clear H2
  refine g_loop kr (fun mz ρ ww => ∃ (i : Nat), ByteArray.size s - i = mz ∧ (i ≤ ByteArray.size s) ∧ (isP (List.take i (tl s)) = true) ∧ St w.heap.size w ww [] ∧ Is [(0, .string s), (5, .int .i64 ((ByteArray.size s : Nat) : Int)), (6, .int .i64 ((i : Nat) : Int))] ρ) (ByteArray.size s - 0) ⟨0, rfl, (by omega), rfl, HL1, (Is.of ⟨kr, kr, kr, trivial⟩)⟩ ?_
  clear HL1
  rintro _ _ w3 ⟨i, rfl, hi, hp, H3, _, rfl⟩
  by_cases hc2 : (i : Nat) < ByteArray.size s
  · skip
    refine rS [.e (v := .bool (decide (((i : Nat) : Int) < ((ByteArray.size s : Nat) : Int)))) (v' := .bool true) (bool_eq (decide_eq_true (by omega)))] H3 kr fun gs4 w4 H4 => ?_
    clear H3
    refine g_seq kr ?_
    refine g_cond_t kr kr ?_
    refine g_skip kr ?_
    show WP _ _ _ _ _ _
    refine g_seq kr ?_
    refine g_block 1 kr ?_
    refine rS [.v, .v] H4 kr fun gs5 w5 H5 => ?_
    clear H4
    refine g_sreg [0, 1, 2, 3] kr kr ?_
    refine rp [.v, .v, .o (ins := [((.tmp 9), .string s), ((.tmp 10), .int .i64 ((i : Nat) : Int))]) (v := .int .u8 ((by_ s i : Nat) : Int)) (fun ρ o w ho hi => sindex_run (t := 9) (kd := .i64) kr (x := (.tmp 9)) (y := (.tmp 10)) s i ho hi.1 hi.2.1 (by omega) w)] H5 kr fun gs6 w6 H6 => ?_
    show WPs _ _ _ _ [3] _ _
    clear H5
    by_cases hc3 : (by_ s i : Nat) > 15
    · skip
      refine rp [.e (v := .bool (decide (15 < ((by_ s i : Nat) : Int)))) (v' := .bool true) (bool_eq (decide_eq_true (by omega)))] H6 kr fun gs7 w7 H7 => ?_
      show WPs _ _ _ _ [] _ _
      clear H6
      refine s_nil ?_
      refine g_cond_t kr kr ?_
      refine rS [.v] H7 kr fun gs8 w8 H8 => ?_
      clear H7
      refine g_ret kr ?_
      show ∃ vs, Res _ _ _ _ vs ∧ _
      refine ⟨[.bool false], (.tmp (.bool false) kr .nil), ?_, H8.below⟩
      exact bool_eq (isP_not (l := tl s) (i := i) (by rw [tl_len]; omega) (show ¬ by_ s i ≤ 15 by omega)).symm
    · skip
      refine rp [.e (v := .bool (decide (15 < ((by_ s i : Nat) : Int)))) (v' := .bool false) (bool_eq (decide_eq_false (by omega)))] H6 kr fun gs9 w9 H9 => ?_
      show WPs _ _ _ _ [] _ _
      clear H6
      refine s_nil ?_
      refine g_cond_f kr kr ?_
      refine g_skip kr ?_
      show WP _ _ _ _ _ _
      refine rL [.e (v := .int .i64 (IntKind.i64.wrap (((i : Nat) : Int) + 1))) (v' := .int .i64 ((i + 1 : Nat) : Int)) (int_eq (wrapAdd_i64 (a := i) (b := 1) (by omega))), .v] H9 kr fun gs10 w10 H10 => ?_
      clear H9
      have HL4 : St w.heap.size w w10 [] := H10.as kr
      clear H10
      show ∃ m, _ ∧ _
      exact ⟨_, (by omega), (i + 1), rfl, (by omega), (by rw [isP_step (by rw [tl_len]; omega), hp]; exact decide_eq_true (show by_ s i ≤ 15 by omega)), HL4, (Is.of ⟨kr, kr, kr, trivial⟩)⟩
  · skip
    refine rS [.e (v := .bool (decide (((i : Nat) : Int) < ((ByteArray.size s : Nat) : Int)))) (v' := .bool false) (bool_eq (decide_eq_false (by omega)))] H3 kr fun gs11 w11 H11 => ?_
    clear H3
    refine g_seq kr ?_
    refine g_cond_f kr kr ?_
    refine g_exit 0 kr ?_
    show WP _ _ _ _ _ _
    refine rS [.v] H11 kr fun gs12 w12 H12 => ?_
    clear H11
    refine g_ret kr ?_
    show ∃ vs, Res _ _ _ _ vs ∧ _
    refine ⟨[.bool true], (.tmp (.bool true) kr .nil), ?_, H12.below⟩
    obtain rfl : i = ByteArray.size s := by omega
    rw [List.take_of_length_le (show (tl s).length ≤ ByteArray.size s by rw [tl_len]; omega)] at hp
    exact bool_eq hp.symm
set_option maxRecDepth 100000 in
set_option maxHeartbeats 2000000 in
theorem odd_fn (n : Nat) (hn : n ≤ 9223372036854775807) : Fn Tryz.prog 110 #[.int .i64 ((n : Nat) : Int)] (.bool (decide (n % 2 = 1))) := by
  refine Fn.intro (c := codeOf Tryz.f110) [.tmp 2] 6 Tryz.func110 kr kr kr fun w => ?_
  have H0 := St.start w
  refine rS [.v] H0 kr fun gs1 w1 H1 => ?_
  clear H0
  refine g_sreg [0, 1, 2, 3] kr kr ?_
  refine rp [.v, .e (v := .int .i64 (Int.tmod ((n : Nat) : Int) 2)) (v' := .int .i64 ((n % 2 : Nat) : Int)) (int_eq (remN n 2))] H1 kr fun gs2 w2 H2 => ?_
  show WPs _ _ _ _ [2, 3] _ _
  clear H1
  by_cases hc1 : (n % 2 : Nat) = 1
  · skip
    refine rp [.e (v := .bool (((n % 2 : Nat) : Int) == 1)) (v' := .bool true) (bool_eq (beq_iff_eq.2 (by omega))), .v] H2 kr fun gs3 w3 H3 => ?_
    show WPs _ _ _ _ [] _ _
    clear H2
    refine s_nil ?_
    refine g_ret kr ?_
    show ∃ vs, Res _ _ _ _ vs ∧ _
    refine ⟨[.bool true], (.tmp (.bool true) kr .nil), ?_, H3.below⟩
    exact bool_eq (decide_eq_true (by omega)).symm
  · skip
    refine rp [.e (v := .bool (((n % 2 : Nat) : Int) == 1)) (v' := .bool false) (bool_eq (beq_eq_false_iff_ne.2 (by omega))), .v] H2 kr fun gs4 w4 H4 => ?_
    show WPs _ _ _ _ [] _ _
    clear H2
    refine s_nil ?_
    refine g_ret kr ?_
    show ∃ vs, Res _ _ _ _ vs ∧ _
    refine ⟨[.bool false], (.tmp (.bool false) kr .nil), ?_, H4.below⟩
    exact bool_eq (decide_eq_false (by omega)).symm
set_option maxRecDepth 100000 in
set_option maxHeartbeats 2000000 in
theorem nibHead_fn (n : Nat) (e : Bool) (hn : n ≤ 9223372036854775807) : Fn Tryz.prog 114 #[.int .i64 ((n : Nat) : Int), .bool e] (.string (strB (hdP n e))) := by
  refine Fn.intro (c := codeOf Tryz.f114) [.tmp 4] 16 Tryz.func114 kr kr kr fun w => ?_
  have H0 := St.start w
  refine rS [.v] H0 kr fun gs1 w1 H1 => ?_
  clear H0
  refine rS [.v] H1 kr fun gs2 w2 H2 => ?_
  clear H1
  refine g_seq kr ?_
  refine rS [.v] H2 kr fun gs3 w3 H3 => ?_
  clear H2
  refine Or.elim (Bool.eq_false_or_eq_true (e)).symm (fun hq1 => ?_) (fun hq1 => ?_)
  · skip
    refine g_now 1 (v := .bool e) (v' := .bool false) (bool_eq hq1) kr ?_
    refine g_now 6 (v := .bool e) (v' := .bool false) (bool_eq hq1) kr ?_
    refine g_cond_f kr kr ?_
    refine g_skip kr ?_
    show WP _ _ _ _ _ _
    refine g_seq kr ?_
    refine rS [.v, .c (odd_fn n (by omega))] H3 kr fun gs4 w4 H4 => ?_
    clear H3
    refine Or.elim (Bool.eq_false_or_eq_true (decide (n % 2 = 1))).symm (fun hq2 => ?_) (fun hq2 => ?_)
    · skip
      refine g_now 8 (v := .bool (decide (n % 2 = 1))) (v' := .bool false) (bool_eq hq2) kr ?_
      refine g_cond_f kr kr ?_
      refine g_skip kr ?_
      show WP _ _ _ _ _ _
      refine rS [.v, .nw (fun b => .slice (some ⟨b, 0, none⟩) 2 2) #[.int .u8 0, .int .u8 0] 5, .w fun nn => .x (op := .convert 88 9 (.tmp 14)) (ins := [((.tmp 14), .slice (some ⟨(nn 0), 0, none⟩) 2 2)]) [(0, ((nn 0), Obj.cells #[.int .u8 0, .int .u8 0] 5 (0, 0)))] (bytesX (t := 88) (t' := 9) (e := 5) [0, 0] kr kr kr (Rw.lit #[.int .u8 0, .int .u8 0] 2 (by rfl) (by unfold maxLen; omega))), .v] H4 kr fun gs5 w5 H5 => ?_
      clear H4
      refine g_ret kr ?_
      show ∃ vs, Res _ _ _ _ vs ∧ _
      refine ⟨[.string (strOfNums ([0, 0]))], (.tmp (.string (strOfNums ([0, 0]))) kr .nil), ?_, H5.below⟩
      rw [hdP, if_neg (of_decide_eq_false hq2), hq1]; rfl
    · skip
      refine g_now 8 (v := .bool (decide (n % 2 = 1))) (v' := .bool true) (bool_eq hq2) kr ?_
      refine g_cond_t kr kr ?_
      refine rS [.v, .v, .nw (fun b => .slice (some ⟨b, 0, none⟩) 1 1) #[.int .u8 1] 5, .w fun nn => .x (op := .convert 88 9 (.tmp 11)) (ins := [((.tmp 11), .slice (some ⟨(nn 0), 0, none⟩) 1 1)]) [(0, ((nn 0), Obj.cells #[.int .u8 1] 5 (0, 0)))] (bytesX (t := 88) (t' := 9) (e := 5) [1] kr kr kr (Rw.lit #[.int .u8 1] 1 (by rfl) (by unfold maxLen; omega))), .v] H4 kr fun gs6 w6 H6 => ?_
      clear H4
      refine g_ret kr ?_
      show ∃ vs, Res _ _ _ _ vs ∧ _
      refine ⟨[.string (strOfNums ([1]))], (.tmp (.string (strOfNums ([1]))) kr .nil), ?_, H6.below⟩
      rw [hdP, if_pos (of_decide_eq_true hq2), hq1]; rfl
  · skip
    refine g_now 1 (v := .bool e) (v' := .bool true) (bool_eq hq1) kr ?_
    refine g_now 6 (v := .bool e) (v' := .bool true) (bool_eq hq1) kr ?_
    refine g_cond_t kr kr ?_
    refine rL [.v] H3 kr fun gs7 w7 H7 => ?_
    clear H3
    show WP _ _ _ _ _ _
    refine g_seq kr ?_
    refine rS [.v, .c (odd_fn n (by omega))] H7 kr fun gs8 w8 H8 => ?_
    clear H7
    refine Or.elim (Bool.eq_false_or_eq_true (decide (n % 2 = 1))).symm (fun hq3 => ?_) (fun hq3 => ?_)
    · skip
      refine g_now 8 (v := .bool (decide (n % 2 = 1))) (v' := .bool false) (bool_eq hq3) kr ?_
      refine g_cond_f kr kr ?_
      refine g_skip kr ?_
      show WP _ _ _ _ _ _
      refine rS [.v, .nw (fun b => .slice (some ⟨b, 0, none⟩) 2 2) #[.int .u8 2, .int .u8 0] 5, .w fun nn => .x (op := .convert 88 9 (.tmp 14)) (ins := [((.tmp 14), .slice (some ⟨(nn 0), 0, none⟩) 2 2)]) [(0, ((nn 0), Obj.cells #[.int .u8 2, .int .u8 0] 5 (0, 0)))] (bytesX (t := 88) (t' := 9) (e := 5) [2, 0] kr kr kr (Rw.lit #[.int .u8 2, .int .u8 0] 2 (by rfl) (by unfold maxLen; omega))), .v] H8 kr fun gs9 w9 H9 => ?_
      clear H8
      refine g_ret kr ?_
      show ∃ vs, Res _ _ _ _ vs ∧ _
      refine ⟨[.string (strOfNums ([2, 0]))], (.tmp (.string (strOfNums ([2, 0]))) kr .nil), ?_, H9.below⟩
      rw [hdP, if_neg (of_decide_eq_false hq3), hq1]; rfl
    · skip
      refine g_now 8 (v := .bool (decide (n % 2 = 1))) (v' := .bool true) (bool_eq hq3) kr ?_
      refine g_cond_t kr kr ?_
      refine rS [.v, .v, .nw (fun b => .slice (some ⟨b, 0, none⟩) 1 1) #[.int .u8 3] 5, .w fun nn => .x (op := .convert 88 9 (.tmp 11)) (ins := [((.tmp 11), .slice (some ⟨(nn 0), 0, none⟩) 1 1)]) [(0, ((nn 0), Obj.cells #[.int .u8 3] 5 (0, 0)))] (bytesX (t := 88) (t' := 9) (e := 5) [3] kr kr kr (Rw.lit #[.int .u8 3] 1 (by rfl) (by unfold maxLen; omega))), .v] H8 kr fun gs10 w10 H10 => ?_
      clear H8
      refine g_ret kr ?_
      show ∃ vs, Res _ _ _ _ vs ∧ _
      refine ⟨[.string (strOfNums ([3]))], (.tmp (.string (strOfNums ([3]))) kr .nil), ?_, H10.below⟩
      rw [hdP, if_pos (of_decide_eq_true hq3), hq1]; rfl
end Go.Proofs.YtlhfgbjhngkicaaGreatDoor

namespace Go.Proofs.YtlhfgbjhngkicaaGreatDoor
open Go Go.RowKit
set_option linter.unusedVariables false
set_option maxRecDepth 100000 in
set_option maxHeartbeats 2000000 in
theorem join_fn (s : ByteArray) (hs : ByteArray.size s ≤ 1000000000000) : Fn Tryz.prog 111 #[.string s] (.string (strB (jn (tl s)))) := by
  refine Fn.intro (c := codeOf Tryz.f111) [.tmp 2] 31 Tryz.func111 kr kr kr fun w => ?_
  have H0 := St.start w
  refine rS [.v] H0 kr fun gs1 w1 H1 => ?_
  clear H0
  refine g_sreg [0, 1, 2, 3, 4] kr kr ?_
  refine rp [.v, .v, .e (v := .int .i64 (IntKind.i64.wrap (((ByteArray.size s : Nat) : Int).tdiv 2))) (v' := .int .i64 (((ByteArray.size s) / 2 : Nat) : Int)) (int_eq (quoN_i64 (a := ByteArray.size s) (b := 2) (by omega)))] H1 kr fun gs2 w2 H2 => ?_
  show WPs _ _ _ _ [3, 4] _ _
  clear H1
  refine s_make H2 (some 8) 88 5 1 (.int .u8 0) (.tmp 7) (.tmp 7) .i64 .i64 ((ByteArray.size s) / 2) kr kr kr kr rfl kr kr (by omega) (by unfold maxLen; omega) ?_
  intro b_1 cur_2 w3 H3 hr_3; clear H2
  have hr_3z : Rw 1 cur_2 ((ByteArray.size s) / 2) ((ByteArray.size s) / 2) (cellsB (List.take 0 (jn (tl s)) ++ List.replicate ((tl s).length / 2 - 0) 0)) := by rw [List.take_zero, List.nil_append, Nat.sub_zero, tl_len, cellsB_zeros']; exact hr_3
  refine rp [.v] H3 kr fun gs4 w4 H4 => ?_
  show WPs _ _ _ _ [] _ _
  clear H3
  refine s_nil ?_
  refine g_seq kr ?_
  refine rS [.v, .v, .v] H4 kr fun gs5 w5 H5 => ?_
  clear H4
  refine g_block 0 kr ?_
  have HL1 : St w.heap.size w w5 [(b_1, Obj.cells cur_2 5 (0, 0))] := H5.as kr
  clear H5
  refine g_loop kr (fun mz ρ ww => ∃ (cur : Array Value) (i : Nat), ByteArray.size s / 2 - i = mz ∧ (Rw 1 cur (ByteArray.size s / 2) (ByteArray.size s / 2) (cellsB (List.take i (jn (tl s)) ++ List.replicate ((tl s).length / 2 - i) 0))) ∧ (i ≤ ByteArray.size s / 2) ∧ St w.heap.size w ww [(b_1, Obj.cells cur 5 (0, 0))] ∧ Is [(0, .string s), (2, .string (⟨#[]⟩)), (3, .slice (some ⟨b_1, 0, none⟩) ((ByteArray.size s) / 2) ((ByteArray.size s) / 2)), (10, .int .i64 (((ByteArray.size s) / 2 : Nat) : Int)), (11, .int .i64 ((i : Nat) : Int))] ρ) (ByteArray.size s / 2 - 0) ⟨cur_2, 0, rfl, hr_3z, (by omega), HL1, (Is.of ⟨kr, kr, kr, kr, kr, trivial⟩)⟩ ?_
  clear HL1
  rintro _ _ w6 ⟨cur, i, rfl, hr, hi, H6, _, rfl⟩
  by_cases hc2 : (i : Nat) < (ByteArray.size s) / 2
  · skip
    refine rS [.e (v := .bool (decide (((i : Nat) : Int) < (((ByteArray.size s) / 2 : Nat) : Int)))) (v' := .bool true) (bool_eq (decide_eq_true (by omega)))] H6 kr fun gs7 w7 H7 => ?_
    clear H6
    refine g_seq kr ?_
    refine g_cond_t kr kr ?_
    refine g_skip kr ?_
    show WP _ _ _ _ _ _
    refine g_seq kr ?_
    refine g_block 1 kr ?_
    refine rS [.v, .v] H7 kr fun gs8 w8 H8 => ?_
    clear H7
    obtain ⟨cx, hx1, hx2, hx3⟩ := hr.putB i (UInt8.ofBitVec (UInt8.toBitVec (List.getD (tl s) (2 * i) 0) <<< 4 ||| UInt8.toBitVec (List.getD (tl s) (2 * i + 1) 0))) (by omega)
    rw [shl4, jn_set (tl s) i (by rw [tl_len]; omega)] at hx3
    refine dL [.v, .v, .v, .v, .e (v := .int .i64 (IntKind.i64.wrap (2 * ((i : Nat) : Int)))) (v' := .int .i64 ((2 * i : Nat) : Int)) (int_eq (wrapMul_i64 (a := 2) (b := i) (by omega))), .o (ins := [((.tmp 16), .string s), ((.tmp 18), .int .i64 ((2 * i : Nat) : Int))]) (v := .int .u8 ((BitVec.toNat (UInt8.toBitVec (List.getD (tl s) (2 * i) 0)) : Nat) : Int)) (fun ρ o w ho hi => sindex_run (t := 9) (kd := .i64) kr (x := (.tmp 16)) (y := (.tmp 18)) s (2 * i) ho hi.1 hi.2.1 (by omega) w), .e (v := .int .u8 (IntKind.u8.wrap ((((BitVec.toNat (UInt8.toBitVec (List.getD (tl s) (2 * i) 0)) : Nat) : Int)) * 2 ^ (min 4 8)))) (v' := .int .u8 ((BitVec.toNat ((UInt8.toBitVec (List.getD (tl s) (2 * i) 0)) <<< 4) : Nat) : Int)) (bv_shl_u8 (UInt8.toBitVec (List.getD (tl s) (2 * i) 0)) 4), .v, .v, .e (v := .int .i64 (IntKind.i64.wrap (2 * ((i : Nat) : Int)))) (v' := .int .i64 ((2 * i : Nat) : Int)) (int_eq (wrapMul_i64 (a := 2) (b := i) (by omega))), .e (v := .int .i64 (IntKind.i64.wrap (((2 * i : Nat) : Int) + 1))) (v' := .int .i64 (((2 * i) + 1 : Nat) : Int)) (int_eq (wrapAdd_i64 (a := 2 * i) (b := 1) (by omega))), .o (ins := [((.tmp 21), .string s), ((.tmp 24), .int .i64 (((2 * i) + 1 : Nat) : Int))]) (v := .int .u8 ((BitVec.toNat (UInt8.toBitVec (List.getD (tl s) ((2 * i) + 1) 0)) : Nat) : Int)) (fun ρ o w ho hi => sindex_run (t := 9) (kd := .i64) kr (x := (.tmp 21)) (y := (.tmp 24)) s ((2 * i) + 1) ho hi.1 hi.2.1 (by omega) w), .e (v := .int .u8 (Go.bits .or .u8 (((BitVec.toNat ((UInt8.toBitVec (List.getD (tl s) (2 * i) 0)) <<< 4) : Nat) : Int)) (((BitVec.toNat (UInt8.toBitVec (List.getD (tl s) ((2 * i) + 1) 0)) : Nat) : Int)))) (v' := .int .u8 ((BitVec.toNat (((UInt8.toBitVec (List.getD (tl s) (2 * i) 0)) <<< 4) ||| (UInt8.toBitVec (List.getD (tl s) ((2 * i) + 1) 0))) : Nat) : Int)) (bv_or_u8 ((UInt8.toBitVec (List.getD (tl s) (2 * i) 0)) <<< 4) (UInt8.toBitVec (List.getD (tl s) ((2 * i) + 1) 0))), .o (ins := [((.tmp 14), .slice (some ⟨b_1, 0, none⟩) ((ByteArray.size s) / 2) ((ByteArray.size s) / 2)), ((.tmp 15), .int .i64 ((i : Nat) : Int))]) (v := .pointer (some ⟨b_1, 0 + i * 1, none⟩)) (fun ρ o w ho hi => idxS_run (kd := .i64) (t := 88) (e := 5) (size := 1) (bytes := 1) kr (x := (.tmp 14)) (y := (.tmp 15)) b_1 0 ((ByteArray.size s) / 2) ((ByteArray.size s) / 2) i ho hi.1 hi.2.1 (by omega) w), .se (C := cur) (C' := cx) (off := 0 + i * 1) (v := .int .u8 ((BitVec.toNat (((UInt8.toBitVec (List.getD (tl s) (2 * i) 0)) <<< 4) ||| (UInt8.toBitVec (List.getD (tl s) ((2 * i) + 1) 0))) : Nat) : Int)) 0 hx2 hx1] H8 kr fun w9 H9 => ?_
    clear H8
    show WP _ _ _ _ _ _
    refine g_keep [0, 2, 3, 4, 10, 11, 12] fun ρ1 => ?_
    have HK3 := H9.keep
    clear H9
    refine rL [.e (v := .int .i64 (IntKind.i64.wrap (((i : Nat) : Int) + 1))) (v' := .int .i64 ((i + 1 : Nat) : Int)) (int_eq (wrapAdd_i64 (a := i) (b := 1) (by omega))), .v] HK3 kr fun gs10 w10 H10 => ?_
    clear HK3
    have HL4 : St w.heap.size w w10 [(b_1, Obj.cells cx 5 (0, 0))] := H10.as kr
    clear H10
    show ∃ m, _ ∧ _
    exact ⟨_, (by omega), cx, (i + 1), rfl, hx3, (by omega), HL4, (Is.of ⟨kr, kr, kr, kr, kr, trivial⟩)⟩
  · skip
    refine rS [.e (v := .bool (decide (((i : Nat) : Int) < (((ByteArray.size s) / 2 : Nat) : Int)))) (v' := .bool false) (bool_eq (decide_eq_false (by omega)))] H6 kr fun gs11 w11 H11 => ?_
    clear H6
    refine g_seq kr ?_
    refine g_cond_f kr kr ?_
    refine g_exit 0 kr ?_
    show WP _ _ _ _ _ _
    refine g_sreg [0, 1, 2] kr kr ?_
    refine rp [.v] H11 kr fun gs12 w12 H12 => ?_
    show WPs _ _ _ _ [1, 2] _ _
    clear H11
    refine s_bytesStrB H12 (some 30) 88 9 5 (.tmp 29) 0 b_1 ((ByteArray.size s) / 2) ((ByteArray.size s) / 2) cur 5 (0, 0) (List.take i (jn (tl s)) ++ List.replicate ((tl s).length / 2 - i) 0) kr kr kr kr kr kr kr hr ?_
    refine rp [.v] H12 kr fun gs13 w13 H13 => ?_
    show WPs _ _ _ _ [] _ _
    clear H12
    refine s_nil ?_
    refine g_ret kr ?_
    show ∃ vs, Res _ _ _ _ vs ∧ _
    refine ⟨[.string (strB (List.take i (jn (tl s)) ++ List.replicate ((tl s).length / 2 - i) 0))], (.tmp (.string (strB (List.take i (jn (tl s)) ++ List.replicate ((tl s).length / 2 - i) 0))) kr .nil), ?_, H13.below⟩
    obtain rfl : i = ByteArray.size s / 2 := by omega
    rw [tl_len, Nat.sub_self, List.replicate_zero, List.append_nil, List.take_of_length_le (show (jn (tl s)).length ≤ ByteArray.size s / 2 by rw [jn_len, tl_len]; omega)]
    rfl
theorem jn_over (l : List UInt8) (k : Nat) (h : l.length ≤ 2 * k + 1) : jn (List.take (2 * k) l) = jn l := by
  rcases Nat.lt_or_ge (2 * k) l.length with h2 | h2
  · have e : l.length = 2 * k + 1 := by omega
    apply List.ext_getElem
    · rw [jn_len, jn_len, List.length_take]; omega
    · intro i h1 h3
      rw [jn_len, List.length_take] at h1
      have g1 := jn_get (l.take (2 * k)) i (by rw [List.length_take]; omega)
      have g2 := jn_get l i (by omega)
      have q : ∀ j, j < 2 * k → (l.take (2 * k)).getD j 0 = l.getD j 0 := fun j hj => by
        rw [List.getD_eq_getElem?_getD, List.getD_eq_getElem?_getD, List.getElem?_take, if_pos hj]
      rw [q _ (by omega), q _ (by omega), ← g2] at g1
      rw [List.getD_eq_getElem?_getD, List.getD_eq_getElem?_getD, List.getElem?_eq_getElem h3, List.getElem?_eq_getElem (by rw [jn_len, List.length_take]; omega)] at g1
      exact g1
  · rw [List.take_of_length_le h2]
theorem cell_mul {a b : UInt8} (ha : a.toNat ≤ 15) (hb : b.toNat ≤ 15) : [Value.int .u8 ((BitVec.toNat ((16 : BitVec 8) * a.toBitVec + b.toBitVec) : Nat) : Int)] = cellsB [a <<< 4 ||| b] := by
  rw [← (pair1 ha hb).2.2]; rfl
set_option maxRecDepth 100000 in
set_option maxHeartbeats 2000000 in
theorem bytesR_fn (s : ByteArray) (hs : ByteArray.size s ≤ 1000000000000) (hp : isP (tl s) = true) : Fn Tryz.prog 85 #[.string s] (.string (strB (jn (tl s)))) := by
  refine Fn.intro (c := codeOf Tryz.f85) [.tmp 2] 27 Tryz.func85 kr kr kr fun w => ?_
  have H0 := St.start w
  refine rS [.v] H0 kr fun gs1 w1 H1 => ?_
  clear H0
  refine rS [.nw (fun b => .slice (some ⟨b, 0, none⟩) 0 0) #[] 5, .v] H1 kr fun gs2 w2 H2 => ?_
  clear H1
  refine g_seq kr ?_
  refine rS [.v] H2 kr fun gs3 w3 H3 => ?_
  clear H2
  refine g_block 0 kr ?_
  have HL1 : St w.heap.size w w3 [((gs2 0).b, Obj.cells #[] 5 (0, 0))] := H3.as kr
  clear H3
  refine g_loop kr (fun mz ρ ww => ∃ (b : Nat) (cap : Nat) (n : Nat) (cur : Array Value) (k : Nat), ByteArray.size s - 2 * k = mz ∧ (n = k) ∧ (Rw 1 cur cap n (cellsB (jn (List.take (2 * k) (tl s))))) ∧ (2 * k ≤ ByteArray.size s) ∧ St w.heap.size w ww [(b, Obj.cells cur 5 (0, 0))] ∧ Is [(0, .string s), (2, .string (⟨#[]⟩)), (3, .slice (some ⟨b, 0, none⟩) n cap), (4, .int .i64 ((2 * k : Nat) : Int))] ρ) (ByteArray.size s - 2 * 0) ⟨(gs2 0).b, 0, 0, #[], 0, rfl, rfl, (Rw.lit #[] 0 rfl (by unfold maxLen; omega)), (by omega), HL1, (Is.of ⟨kr, kr, kr, kr, trivial⟩)⟩ ?_
  clear HL1
  rintro _ _ w4 ⟨b, cap, n, cur, k, rfl, hn, hr, hi, H4, _, rfl⟩
  refine g_seq kr ?_
  refine g_sreg [0, 1, 2, 3, 4] kr kr ?_
  refine rp [.v, .e (v := .int .i64 (IntKind.i64.wrap (((2 * k : Nat) : Int) + 1))) (v' := .int .i64 (((2 * k) + 1 : Nat) : Int)) (int_eq (wrapAdd_i64 (a := 2 * k) (b := 1) (by omega))), .v, .v] H4 kr fun gs5 w5 H5 => ?_
  show WPs _ _ _ _ [4] _ _
  clear H4
  by_cases hc2 : ((2 * k) + 1 : Nat) < ByteArray.size s
  · skip
    refine rp [.e (v := .bool (decide ((((2 * k) + 1 : Nat) : Int) < ((ByteArray.size s : Nat) : Int)))) (v' := .bool true) (bool_eq (decide_eq_true (by omega)))] H5 kr fun gs6 w6 H6 => ?_
    show WPs _ _ _ _ [] _ _
    clear H5
    refine s_nil ?_
    refine g_cond_t kr kr ?_
    refine g_skip kr ?_
    show WP _ _ _ _ _ _
    refine g_seq kr ?_
    refine g_block 1 kr ?_
    have HL3 : St w.heap.size w w6 [(b, Obj.cells cur 5 (0, 0))] := H6.as kr
    clear H6
    refine D2.g_draw0 [0, 1, 2, 3, 4, 5, 6, 7, 8, 9, 10, 11, 12] [((some 13), fun _ => .slice (some ⟨b, 0, none⟩) n cap), ((some 14), fun _ => .string s), ((some 15), fun _ => .int .i64 ((2 * k : Nat) : Int)), ((some 16), fun _ => .int .u8 ((BitVec.toNat (UInt8.toBitVec (List.getD (tl s) (2 * k) 0)) : Nat) : Int)), ((some 17), fun _ => .int .u8 ((BitVec.toNat ((16 : BitVec 8) * (UInt8.toBitVec (List.getD (tl s) (2 * k) 0))) : Nat) : Int)), ((some 18), fun _ => .string s), ((some 19), fun _ => .int .i64 ((2 * k : Nat) : Int)), ((some 20), fun _ => .int .i64 (((2 * k) + 1 : Nat) : Int)), ((some 21), fun _ => .int .u8 ((BitVec.toNat (UInt8.toBitVec (List.getD (tl s) ((2 * k) + 1) 0)) : Nat) : Int)), ((some 22), fun _ => .int .u8 ((BitVec.toNat (((16 : BitVec 8) * (UInt8.toBitVec (List.getD (tl s) (2 * k) 0))) + (UInt8.toBitVec (List.getD (tl s) ((2 * k) + 1) 0))) : Nat) : Int)), ((some 23), fun b => .slice (some ⟨b.b, 0, none⟩) 1 1), ((some 24), fun y => .slice (some ⟨y.b, 0, none⟩) y.n y.cap), ((some 3), fun y => .slice (some ⟨y.b, 0, none⟩) (y.n) (y.cap))] (D2.Pre w.heap.size w (fun L g => [(true, (bif L 11 then ((g 11).b, Obj.cells ((g 11).cur) 5 (0, 0)) else (b, Obj.cells cur 5 (0, 0)))), (L 10, ((g 10).b, Obj.cells #[.int .u8 ((BitVec.toNat (((16 : BitVec 8) * (UInt8.toBitVec (List.getD (tl s) (2 * k) 0))) + (UInt8.toBitVec (List.getD (tl s) ((2 * k) + 1) 0))) : Nat) : Int)] 5 (0, 0)))]) (fun L g => (L 11 = true → ((g 11).n = n + 1 ∧ Rw 1 (g 11).cur (g 11).cap (n + 1) (cellsB (jn (List.take (2 * (k + 1)) (tl s)))))) ∧ (L 12 = true → g 12 = g 11) ∧ True)) kr kr kr ⟨D2.StE.of HL3.drew _ kr, ⟨(fun h => nomatch h), (fun h => nomatch h), trivial⟩⟩ ⟨?_, ?_, ?_, ?_, ?_, ?_, ?_, ?_, ?_, ?_, ?_, ?_, ?_, trivial⟩ ?_
    · exact D2.gv_val (fun _ _ _ h => h) (fun g w => by kernel_rfl)
    · exact D2.gv_val (fun _ _ _ h => h) (fun g w => by kernel_rfl)
    · exact D2.gv_val (fun _ _ _ h => h) (fun g w => by kernel_rfl)
    · exact D2.gv_op (fun _ _ _ h => h) _ (fun g => by kernel_rfl) (fun g => (fun o w ho => sindex_run (t := 9) (kd := .i64) kr (x := (.tmp 14)) (y := (.tmp 15)) s (2 * k) ho kr kr (by omega) w))
    · exact D2.gv_valE (fun _ _ _ h => h) (V' := .int .u8 (IntKind.u8.wrap ((16) * (((BitVec.toNat (UInt8.toBitVec (List.getD (tl s) (2 * k) 0)) : Nat) : Int))))) (fun g w => by kernel_rfl) (bv_mul_u8 (16 : BitVec 8) (UInt8.toBitVec (List.getD (tl s) (2 * k) 0)))
    · exact D2.gv_val (fun _ _ _ h => h) (fun g w => by kernel_rfl)
    · exact D2.gv_val (fun _ _ _ h => h) (fun g w => by kernel_rfl)
    · exact D2.gv_valE (fun _ _ _ h => h) (V' := .int .i64 (IntKind.i64.wrap (((2 * k : Nat) : Int) + 1))) (fun g w => by kernel_rfl) (int_eq (wrapAdd_i64 (a := 2 * k) (b := 1) (by omega)))
    · exact D2.gv_op (fun _ _ _ h => h) _ (fun g => by kernel_rfl) (fun g => (fun o w ho => sindex_run (t := 9) (kd := .i64) kr (x := (.tmp 18)) (y := (.tmp 20)) s ((2 * k) + 1) ho kr kr (by omega) w))
    · exact D2.gv_valE (fun _ _ _ h => h) (V' := .int .u8 (IntKind.u8.wrap ((((BitVec.toNat ((16 : BitVec 8) * (UInt8.toBitVec (List.getD (tl s) (2 * k) 0))) : Nat) : Int)) + (((BitVec.toNat (UInt8.toBitVec (List.getD (tl s) ((2 * k) + 1) 0)) : Nat) : Int))))) (fun g w => by kernel_rfl) (bv_add_u8 ((16 : BitVec 8) * (UInt8.toBitVec (List.getD (tl s) (2 * k) 0))) (UInt8.toBitVec (List.getD (tl s) ((2 * k) + 1) 0)))
    · exact D2.gv_new (fun b => .slice (some ⟨b, 0, none⟩) 1 1) #[.int .u8 ((BitVec.toNat (((16 : BitVec 8) * (UInt8.toBitVec (List.getD (tl s) (2 * k) 0))) + (UInt8.toBitVec (List.getD (tl s) ((2 * k) + 1) 0))) : Nat) : Int)] 5 1 (fun g w => by kernel_rfl) (fun L g b hN => kr) (fun L g b hN hF => hF)
    · exact D2.gv_append 88 5 1 1 (.tmp 13) (.tmp 23) 0 1 (fun g => b) (fun g => (g 10).b) (fun g => n) (fun g => 1) (fun g => cap) (fun g => 1) (fun g => cur) (fun g => #[.int .u8 ((BitVec.toNat (((16 : BitVec 8) * (UInt8.toBitVec (List.getD (tl s) (2 * k) 0))) + (UInt8.toBitVec (List.getD (tl s) ((2 * k) + 1) 0))) : Nat) : Int)]) 5 (0, 0) (fun g => (cellsB (jn (List.take (2 * k) (tl s))))) (fun g => [.int .u8 ((BitVec.toNat (((16 : BitVec 8) * (UInt8.toBitVec (List.getD (tl s) (2 * k) 0))) + (UInt8.toBitVec (List.getD (tl s) ((2 * k) + 1) 0))) : Nat) : Int)]) (fun g => by kernel_rfl) kr (fun g => by kernel_rfl) (fun L g hN => (by have hL11 : L 11 = false := hN.1; exact D2.ent_get' (p := true) (e := (bif L 11 then ((g 11).b, Obj.cells ((g 11).cur) 5 (0, 0)) else (b, Obj.cells cur 5 (0, 0)))) kr (by rfl) (by simp only [hL11, cond_true, cond_false] <;> rfl))) (fun L g hN hF => by exact hr) (fun g => by kernel_rfl) (fun L g hN => (by have hL10 : L 10 = true := (hN.bef 10 kr); exact D2.ent_get' (p := L 10) (e := ((g 10).b, Obj.cells #[.int .u8 ((BitVec.toNat (((16 : BitVec 8) * (UInt8.toBitVec (List.getD (tl s) (2 * k) 0))) + (UInt8.toBitVec (List.getD (tl s) ((2 * k) + 1) 0))) : Nat) : Int)] 5 (0, 0))) kr (by exact hL10) (by simp only [hL10, cond_true, cond_false] <;> rfl))) (fun L g hN hF => by exact ⟨(by rfl), (by rfl), (by intro u hu; simp at hu; first | exact hu.elim | (rcases hu with rfl | rfl | rfl | rfl <;> rfl) | (rcases hu with rfl | rfl <;> rfl) | (subst hu; rfl)), (by omega), (by unfold maxLen; omega)⟩) (fun L g y hN => kr) (fun L g y hN hF hyn hyr => by have hnew := (show (y.n = n + 1 ∧ Rw 1 y.cur y.cap (n + 1) (cellsB (jn (List.take (2 * (k + 1)) (tl s))))) from ⟨hyn, by rw [show 2 * (k + 1) = 2 * k + 2 by omega, jn_take (tl s) k (by rw [tl_len]; omega), cellsB_append, ← cell_mul (isP_get hp (2 * k)) (isP_get hp (2 * k + 1))]; exact hyr⟩); exact ⟨fun _ => hnew, (fun hx => nomatch (Eq.trans (Eq.symm (show L 12 = true from hx)) (hN.post 12 kr))), trivial⟩)
    · exact D2.gv_valG (fun g => g 11) (fun L g w hN hp => ⟨hp.1, hp.2.1, fun _ => rfl, trivial⟩) (fun g w => by kernel_rfl)
    intro L0 G7 w7 hall HL; clear HL3
    have H7 : St w.heap.size w w7 [((G7 11).b, Obj.cells ((G7 11).cur) 5 (0, 0)), ((G7 10).b, Obj.cells #[.int .u8 ((BitVec.toNat (((16 : BitVec 8) * (UInt8.toBitVec (List.getD (tl s) (2 * k) 0))) + (UInt8.toBitVec (List.getD (tl s) ((2 * k) + 1) 0))) : Nat) : Int)] 5 (0, 0))] := by have e10 := hall 10 (Nat.le_of_ble_eq_true kr); have e11 := hall 11 (Nat.le_of_ble_eq_true kr); have e12 := hall 12 (Nat.le_of_ble_eq_true kr); have hS := D2.StE.st HL.1; simp only [e10, e11, e12, cond_true, D2.pres] at hS; exact hS
    have hf11_7 : ((G7 11).n = n + 1 ∧ Rw 1 (G7 11).cur (G7 11).cap (n + 1) (cellsB (jn (List.take (2 * (k + 1)) (tl s))))) := HL.2.1 (hall 11 (Nat.le_of_ble_eq_true kr))
    have hf12_7 : G7 12 = G7 11 := HL.2.2.1 (hall 12 (Nat.le_of_ble_eq_true kr))
    clear HL hall
    rw [← hf12_7] at H7 hf11_7
    show WP _ _ _ _ _ _
    refine g_keep [0, 2, 3, 4, 10] fun ρ1 => ?_
    refine rL [.v, .e (v := .int .i64 (IntKind.i64.wrap (((2 * k : Nat) : Int) + 2))) (v' := .int .i64 (((2 * k) + 2 : Nat) : Int)) (int_eq (wrapAdd_i64 (a := 2 * k) (b := 2) (by omega))), .v] H7 kr fun gs8 w8 H8 => ?_
    clear H7
    have HL4 : St w.heap.size w w8 [((G7 12).b, Obj.cells ((G7 12).cur) 5 (0, 0)), ((G7 10).b, Obj.cells #[.int .u8 ((BitVec.toNat (((16 : BitVec 8) * (UInt8.toBitVec (List.getD (tl s) (2 * k) 0))) + (UInt8.toBitVec (List.getD (tl s) ((2 * k) + 1) 0))) : Nat) : Int)] 5 (0, 0))] := H8.as kr
    clear H8
    have HD5 : St w.heap.size w w8 [((G7 12).b, Obj.cells ((G7 12).cur) 5 (0, 0))] := HL4.sub (List.Sublist.cons_cons _ (List.Sublist.cons _ List.Sublist.slnil))
    show ∃ m, _ ∧ _
    exact ⟨_, (by omega), (G7 12).b, (G7 12).cap, (G7 12).n, (G7 12).cur, (k + 1), rfl, (by have h9 := hf11_7.1; omega), (by have h9 := hf11_7; rw [h9.1]; exact h9.2), (by omega), HD5, (Is.of ⟨kr, kr, kr, (int_eq (by omega)), trivial⟩)⟩
  · skip
    refine rp [.e (v := .bool (decide ((((2 * k) + 1 : Nat) : Int) < ((ByteArray.size s : Nat) : Int)))) (v' := .bool false) (bool_eq (decide_eq_false (by omega)))] H5 kr fun gs9 w9 H9 => ?_
    show WPs _ _ _ _ [] _ _
    clear H5
    refine s_nil ?_
    refine g_cond_f kr kr ?_
    refine g_exit 0 kr ?_
    show WP _ _ _ _ _ _
    refine g_sreg [0, 1, 2] kr kr ?_
    refine rp [.v] H9 kr fun gs10 w10 H10 => ?_
    show WPs _ _ _ _ [1, 2] _ _
    clear H9
    refine s_bytesStrB H10 (some 26) 88 9 5 (.tmp 25) 0 b n cap cur 5 (0, 0) (jn (List.take (2 * k) (tl s))) kr kr kr kr kr kr kr hr ?_
    refine rp [.v] H10 kr fun gs11 w11 H11 => ?_
    show WPs _ _ _ _ [] _ _
    clear H10
    refine s_nil ?_
    refine g_ret kr ?_
    show ∃ vs, Res _ _ _ _ vs ∧ _
    refine ⟨[.string (strB (jn (List.take (2 * k) (tl s))))], (.tmp (.string (strB (jn (List.take (2 * k) (tl s))))) kr .nil), ?_, H11.below⟩
    rw [jn_over (tl s) k (by rw [tl_len]; omega)]
    rfl
end Go.Proofs.YtlhfgbjhngkicaaGreatDoor

namespace Go.Proofs.YtlhfgbjhngkicaaGreatDoor
open Go Go.RowKit
set_option linter.unusedVariables false
def kyB (l : List UInt8) : Bool := isP l && !decide (l.length % 2 = 1)
def kyS (l : List UInt8) : ByteArray := bif kyB l then strB (jn l) else ⟨#[]⟩
def kyN (l : List UInt8) : Int := bif kyB l then 0 else 1
theorem ky_hv (l : List UInt8) : kyS (hv l) = strB l ∧ kyN (hv l) = 0 := by
  have h : kyB (hv l) = true := by unfold kyB; rw [hv_isP, hv_len, decide_eq_false (by omega)]; rfl
  unfold kyS kyN; rw [h]; exact ⟨congrArg strB (jn_hv l), rfl⟩
set_option maxRecDepth 100000 in
set_option maxHeartbeats 2000000 in
theorem key_fn (s : ByteArray) (hs : ByteArray.size s ≤ 1000000000000) : Fn Tryz.prog 92 #[.string s] (.tuple #[.string (kyS (tl s)), .int .i64 (kyN (tl s))]) := by
  refine Fn.intro (c := codeOf Tryz.f92) [.tmp 2, .tmp 3] 14 Tryz.func92 kr kr kr fun w => ?_
  have H0 := St.start w
  refine rS [.v, .v] H0 kr fun gs1 w1 H1 => ?_
  clear H0
  refine g_seq kr ?_
  refine g_sreg [0, 1, 2, 3, 4, 5, 6, 7] kr kr ?_
  refine rp [.v, .c (may_fn s (by omega))] H1 kr fun gs2 w2 H2 => ?_
  show WPs _ _ _ _ [2, 3, 4, 5, 6, 7] _ _
  clear H1
  refine Or.elim (Bool.eq_false_or_eq_true (isP (tl s))).symm (fun hq1 => ?_) (fun hq1 => ?_)
  · skip
    refine s_now 5 (v := .bool (isP (tl s))) (v' := .bool false) (bool_eq hq1) kr ?_
    refine rp [.v, .v, .n, .n, .n, .v] H2 kr fun gs3 w3 H3 => ?_
    show WPs _ _ _ _ [] _ _
    clear H2
    refine s_nil ?_
    refine g_cond_t kr kr ?_
    refine rS [.v, .v] H3 kr fun gs4 w4 H4 => ?_
    clear H3
    refine g_ret kr ?_
    show ∃ vs, Res _ _ _ _ vs ∧ _
    refine ⟨[.string (⟨#[]⟩), .int .i64 1], (.tmp (.string (⟨#[]⟩)) kr (.tmp (.int .i64 1) kr .nil)), ?_, H4.below⟩
    unfold kyS kyN
    rw [show kyB (tl s) = false by unfold kyB; rw [hq1]; rfl]; rfl
  · skip
    refine s_now 5 (v := .bool (isP (tl s))) (v' := .bool true) (bool_eq hq1) kr ?_
    refine rp [.v, .v, .v, .v, .c (odd_fn (ByteArray.size s) (by omega)), .v] H2 kr fun gs5 w5 H5 => ?_
    show WPs _ _ _ _ [] _ _
    clear H2
    refine s_nil ?_
    refine Or.elim (Bool.eq_false_or_eq_true (decide ((ByteArray.size s) % 2 = 1))).symm (fun hq2 => ?_) (fun hq2 => ?_)
    · skip
      refine g_now 10 (v := .bool (decide ((ByteArray.size s) % 2 = 1))) (v' := .bool false) (bool_eq hq2) kr ?_
      refine g_now 11 (v := .bool (decide ((ByteArray.size s) % 2 = 1))) (v' := .bool false) (bool_eq hq2) kr ?_
      refine g_cond_f kr kr ?_
      refine g_skip kr ?_
      show WP _ _ _ _ _ _
      refine rS [.v, .c (join_fn s (by omega)), .v, .v] H5 kr fun gs6 w6 H6 => ?_
      clear H5
      refine g_ret kr ?_
      show ∃ vs, Res _ _ _ _ vs ∧ _
      refine ⟨[.string (strB (jn (tl s))), .int .i64 0], (.tmp (.string (strB (jn (tl s)))) kr (.tmp (.int .i64 0) kr .nil)), ?_, H6.below⟩
      unfold kyS kyN
      rw [show kyB (tl s) = true by unfold kyB; rw [hq1, tl_len, hq2]; rfl]; rfl
    · skip
      refine g_now 10 (v := .bool (decide ((ByteArray.size s) % 2 = 1))) (v' := .bool true) (bool_eq hq2) kr ?_
      refine g_now 11 (v := .bool (decide ((ByteArray.size s) % 2 = 1))) (v' := .bool true) (bool_eq hq2) kr ?_
      refine g_cond_t kr kr ?_
      refine rS [.v, .v] H5 kr fun gs7 w7 H7 => ?_
      clear H5
      refine g_ret kr ?_
      show ∃ vs, Res _ _ _ _ vs ∧ _
      refine ⟨[.string (⟨#[]⟩), .int .i64 1], (.tmp (.string (⟨#[]⟩)) kr (.tmp (.int .i64 1) kr .nil)), ?_, H7.below⟩
      unfold kyS kyN
      rw [show kyB (tl s) = false by unfold kyB; rw [hq1, tl_len, hq2]; rfl]; rfl
set_option maxRecDepth 100000 in
set_option maxHeartbeats 2000000 in
theorem pack_yes (s : ByteArray) (hs : ByteArray.size s ≤ 100000000000) (e : Bool) (hp : isP (tl s) = true) : Fn Tryz.prog 96 #[.string s, .bool e] (.tuple #[.string (strB (pk (tl s) e)), .int .i64 0]) := by
  refine Fn.intro (c := codeOf Tryz.f96) [.tmp 4, .tmp 5] 16 Tryz.func96 kr kr kr fun w => ?_
  have H0 := St.start w
  refine rS [.v, .v] H0 kr fun gs1 w1 H1 => ?_
  clear H0
  refine g_seq kr ?_
  refine g_sreg [0, 1, 2] kr kr ?_
  refine rp [.v, .c (may_fn s (by omega))] H1 kr fun gs2 w2 H2 => ?_
  show WPs _ _ _ _ [2] _ _
  clear H1
  refine Or.elim (Bool.eq_false_or_eq_true (isP (tl s))).symm (fun hq1 => ?_) (fun hq1 => ?_)
  · skip
    refine s_now 7 (v := .bool (isP (tl s))) (v' := .bool false) (bool_eq hq1) kr ?_
    refine rp [.v] H2 kr fun gs3 w3 H3 => ?_
    show WPs _ _ _ _ [] _ _
    clear H2
    refine s_nil ?_
    refine g_cond_t kr kr ?_
    refine rS [.v, .v] H3 kr fun gs4 w4 H4 => ?_
    clear H3
    refine g_ret kr ?_
    show ∃ vs, Res _ _ _ _ vs ∧ _
    refine ⟨[.string (⟨#[]⟩), .int .i64 1], (.tmp (.string (⟨#[]⟩)) kr (.tmp (.int .i64 1) kr .nil)), ?_, H4.below⟩
    exact (absurd (hp.symm.trans hq1) (by decide))
  · skip
    refine s_now 7 (v := .bool (isP (tl s))) (v' := .bool true) (bool_eq hq1) kr ?_
    refine rp [.v] H2 kr fun gs5 w5 H5 => ?_
    show WPs _ _ _ _ [] _ _
    clear H2
    refine s_nil ?_
    refine g_cond_f kr kr ?_
    refine g_skip kr ?_
    show WP _ _ _ _ _ _
    refine g_sreg [0, 1, 2, 3, 4, 5, 6, 7, 8] kr kr ?_
    refine rp [.v, .v, .v, .c (nibHead_fn (ByteArray.size s) e (by omega)), .v] H5 kr fun gs6 w6 H6 => ?_
    show WPs _ _ _ _ [5, 6, 7, 8] _ _
    clear H5
    have hcz := (hdP_len (ByteArray.size s) e).2
    have hcy : ByteArray.size (strB (hdP (ByteArray.size s) e)) = (hdP (ByteArray.size s) e).length := rfl
    have hcw : ByteArray.size (strB (hdP (ByteArray.size s) e) ++ s) = ByteArray.size (strB (hdP (ByteArray.size s) e)) + ByteArray.size s := by rw [← tl_len, tl_add, List.length_append, tl_len, tl_len]
    refine rp [.o (ins := [((.tmp 12), .string (strB (hdP (ByteArray.size s) e))), ((.tmp 13), .string s)]) (v := .string ((strB (hdP (ByteArray.size s) e)) ++ s)) (fun ρ o w ho hi => sadd_run (t := 9) (t' := 9) (x := (.tmp 12)) (y := (.tmp 13)) (strB (hdP (ByteArray.size s) e)) s w ho hi.1 hi.2.1 (by omega)), .c (join_fn ((strB (hdP (ByteArray.size s) e)) ++ s) (by omega)), .v, .v] H6 kr fun gs7 w7 H7 => ?_
    show WPs _ _ _ _ [] _ _
    clear H6
    refine s_nil ?_
    refine g_ret kr ?_
    show ∃ vs, Res _ _ _ _ vs ∧ _
    refine ⟨[.string (strB (jn (tl ((strB (hdP (ByteArray.size s) e)) ++ s)))), .int .i64 0], (.tmp (.string (strB (jn (tl ((strB (hdP (ByteArray.size s) e)) ++ s))))) kr (.tmp (.int .i64 0) kr .nil)), ?_, H7.below⟩
    exact (rfl)
set_option maxRecDepth 100000 in
set_option maxHeartbeats 2000000 in
theorem packR_fn (s : ByteArray) (hs : ByteArray.size s ≤ 100000000000) (e : Bool) (hp : isP (tl s) = true) : Fn Tryz.prog 57 #[.string s, .bool e] (.string (strB (pk (tl s) e))) := by
  refine Fn.intro (c := codeOf Tryz.f57) [.tmp 4] 24 Tryz.func57 kr kr kr fun w => ?_
  have H0 := St.start w
  refine rS [.v] H0 kr fun gs1 w1 H1 => ?_
  clear H0
  refine rS [.v] H1 kr fun gs2 w2 H2 => ?_
  clear H1
  refine g_seq kr ?_
  refine rS [.v] H2 kr fun gs3 w3 H3 => ?_
  clear H2
  refine Or.elim (Bool.eq_false_or_eq_true (e)).symm (fun hq1 => ?_) (fun hq1 => ?_)
  · skip
    refine g_now 1 (v := .bool e) (v' := .bool false) (bool_eq hq1) kr ?_
    refine g_now 6 (v := .bool e) (v' := .bool false) (bool_eq hq1) kr ?_
    refine g_cond_f kr kr ?_
    refine g_skip kr ?_
    show WP _ _ _ _ _ _
    refine g_seq kr ?_
    refine g_sreg [0, 1, 2, 3] kr kr ?_
    refine rp [.v, .v, .e (v := .int .i64 (Int.tmod ((ByteArray.size s : Nat) : Int) 2)) (v' := .int .i64 (((ByteArray.size s) % 2 : Nat) : Int)) (int_eq (remN (ByteArray.size s) 2))] H3 kr fun gs4 w4 H4 => ?_
    show WPs _ _ _ _ [3] _ _
    clear H3
    by_cases hc1 : ((ByteArray.size s) % 2 : Nat) = 1
    · skip
      refine rp [.e (v := .bool ((((ByteArray.size s) % 2 : Nat) : Int) == 1)) (v' := .bool true) (bool_eq (beq_iff_eq.2 (by omega)))] H4 kr fun gs5 w5 H5 => ?_
      show WPs _ _ _ _ [] _ _
      clear H4
      refine s_nil ?_
      refine g_cond_t kr kr ?_
      refine g_sreg [0, 1, 2, 3, 4, 5, 6, 7] kr kr ?_
      refine rp [.v, .v, .nw (fun b => .slice (some ⟨b, 0, none⟩) 1 1) #[.int .u8 1] 5, .w fun nn => .x (op := .convert 88 9 (.tmp 13)) (ins := [((.tmp 13), .slice (some ⟨(nn 0), 0, none⟩) 1 1)]) [(0, ((nn 0), Obj.cells #[.int .u8 1] 5 (0, 0)))] (bytesX (t := 88) (t' := 9) (e := 5) [1] kr kr kr (Rw.lit #[.int .u8 1] 1 (by rfl) (by unfold maxLen; omega))), .v] H5 kr fun gs6 w6 H6 => ?_
      show WPs _ _ _ _ [5, 6, 7] _ _
      clear H5
      have hcw : ByteArray.size ((strOfNums ([1])) ++ s) = ByteArray.size (strOfNums ([1])) + ByteArray.size s := by rw [← tl_len, tl_add, List.length_append, tl_len, tl_len]
      have hcx : ByteArray.size (strOfNums ([1])) ≤ 2 := by first | exact (by decide : (1 : Nat) ≤ 2) | exact (by decide : (2 : Nat) ≤ 2)
      refine rp [.o (ins := [((.tmp 14), .string (strOfNums ([1]))), ((.tmp 15), .string s)]) (v := .string ((strOfNums ([1])) ++ s)) (fun ρ o w ho hi => sadd_run (t := 9) (t' := 9) (x := (.tmp 14)) (y := (.tmp 15)) (strOfNums ([1])) s w ho hi.1 hi.2.1 (by omega)), .c (bytesR_fn ((strOfNums ([1])) ++ s) (by omega) (by rw [tl_add]; exact isP_append.2 ⟨rfl, hp⟩)), .v] H6 kr fun gs7 w7 H7 => ?_
      show WPs _ _ _ _ [] _ _
      clear H6
      refine s_nil ?_
      refine g_ret kr ?_
      show ∃ vs, Res _ _ _ _ vs ∧ _
      refine ⟨[.string (strB (jn (tl ((strOfNums ([1])) ++ s))))], (.tmp (.string (strB (jn (tl ((strOfNums ([1])) ++ s))))) kr .nil), ?_, H7.below⟩
      rw [pk, hdP, if_pos (show (tl s).length % 2 = 1 by rw [tl_len]; omega), hq1]; exact congrArg (fun x => Value.string (strB (jn x))) (tl_add _ _)
    · skip
      refine rp [.e (v := .bool ((((ByteArray.size s) % 2 : Nat) : Int) == 1)) (v' := .bool false) (bool_eq (beq_eq_false_iff_ne.2 (by omega)))] H4 kr fun gs8 w8 H8 => ?_
      show WPs _ _ _ _ [] _ _
      clear H4
      refine s_nil ?_
      refine g_cond_f kr kr ?_
      refine g_skip kr ?_
      show WP _ _ _ _ _ _
      refine g_sreg [0, 1, 2, 3, 4, 5, 6] kr kr ?_
      refine rp [.v, .nw (fun b => .slice (some ⟨b, 0, none⟩) 2 2) #[.int .u8 0, .int .u8 0] 5, .w fun nn => .x (op := .convert 88 9 (.tmp 19)) (ins := [((.tmp 19), .slice (some ⟨(nn 0), 0, none⟩) 2 2)]) [(0, ((nn 0), Obj.cells #[.int .u8 0, .int .u8 0] 5 (0, 0)))] (bytesX (t := 88) (t' := 9) (e := 5) [0, 0] kr kr kr (Rw.lit #[.int .u8 0, .int .u8 0] 2 (by rfl) (by unfold maxLen; omega))), .v] H8 kr fun gs9 w9 H9 => ?_
      show WPs _ _ _ _ [4, 5, 6] _ _
      clear H8
      have hcw : ByteArray.size ((strOfNums ([0, 0])) ++ s) = ByteArray.size (strOfNums ([0, 0])) + ByteArray.size s := by rw [← tl_len, tl_add, List.length_append, tl_len, tl_len]
      have hcx : ByteArray.size (strOfNums ([0, 0])) ≤ 2 := by first | exact (by decide : (1 : Nat) ≤ 2) | exact (by decide : (2 : Nat) ≤ 2)
      refine rp [.o (ins := [((.tmp 20), .string (strOfNums ([0, 0]))), ((.tmp 21), .string s)]) (v := .string ((strOfNums ([0, 0])) ++ s)) (fun ρ o w ho hi => sadd_run (t := 9) (t' := 9) (x := (.tmp 20)) (y := (.tmp 21)) (strOfNums ([0, 0])) s w ho hi.1 hi.2.1 (by omega)), .c (bytesR_fn ((strOfNums ([0, 0])) ++ s) (by omega) (by rw [tl_add]; exact isP_append.2 ⟨rfl, hp⟩)), .v] H9 kr fun gs10 w10 H10 => ?_
      show WPs _ _ _ _ [] _ _
      clear H9
      refine s_nil ?_
      refine g_ret kr ?_
      show ∃ vs, Res _ _ _ _ vs ∧ _
      refine ⟨[.string (strB (jn (tl ((strOfNums ([0, 0])) ++ s))))], (.tmp (.string (strB (jn (tl ((strOfNums ([0, 0])) ++ s))))) kr .nil), ?_, H10.below⟩
      rw [pk, hdP, if_neg (show ¬ (tl s).length % 2 = 1 by rw [tl_len]; omega), hq1]; exact congrArg (fun x => Value.string (strB (jn x))) (tl_add _ _)
  · skip
    refine g_now 1 (v := .bool e) (v' := .bool true) (bool_eq hq1) kr ?_
    refine g_now 6 (v := .bool e) (v' := .bool true) (bool_eq hq1) kr ?_
    refine g_cond_t kr kr ?_
    refine rL [.v] H3 kr fun gs11 w11 H11 => ?_
    clear H3
    show WP _ _ _ _ _ _
    refine g_seq kr ?_
    refine g_sreg [0, 1, 2, 3] kr kr ?_
    refine rp [.v, .v, .e (v := .int .i64 (Int.tmod ((ByteArray.size s : Nat) : Int) 2)) (v' := .int .i64 (((ByteArray.size s) % 2 : Nat) : Int)) (int_eq (remN (ByteArray.size s) 2))] H11 kr fun gs12 w12 H12 => ?_
    show WPs _ _ _ _ [3] _ _
    clear H11
    by_cases hc2 : ((ByteArray.size s) % 2 : Nat) = 1
    · skip
      refine rp [.e (v := .bool ((((ByteArray.size s) % 2 : Nat) : Int) == 1)) (v' := .bool true) (bool_eq (beq_iff_eq.2 (by omega)))] H12 kr fun gs13 w13 H13 => ?_
      show WPs _ _ _ _ [] _ _
      clear H12
      refine s_nil ?_
      refine g_cond_t kr kr ?_
      refine g_sreg [0, 1, 2, 3, 4, 5, 6, 7] kr kr ?_
      refine rp [.v, .v, .nw (fun b => .slice (some ⟨b, 0, none⟩) 1 1) #[.int .u8 3] 5, .w fun nn => .x (op := .convert 88 9 (.tmp 13)) (ins := [((.tmp 13), .slice (some ⟨(nn 0), 0, none⟩) 1 1)]) [(0, ((nn 0), Obj.cells #[.int .u8 3] 5 (0, 0)))] (bytesX (t := 88) (t' := 9) (e := 5) [3] kr kr kr (Rw.lit #[.int .u8 3] 1 (by rfl) (by unfold maxLen; omega))), .v] H13 kr fun gs14 w14 H14 => ?_
      show WPs _ _ _ _ [5, 6, 7] _ _
      clear H13
      have hcw : ByteArray.size ((strOfNums ([3])) ++ s) = ByteArray.size (strOfNums ([3])) + ByteArray.size s := by rw [← tl_len, tl_add, List.length_append, tl_len, tl_len]
      have hcx : ByteArray.size (strOfNums ([3])) ≤ 2 := by first | exact (by decide : (1 : Nat) ≤ 2) | exact (by decide : (2 : Nat) ≤ 2)
      refine rp [.o (ins := [((.tmp 14), .string (strOfNums ([3]))), ((.tmp 15), .string s)]) (v := .string ((strOfNums ([3])) ++ s)) (fun ρ o w ho hi => sadd_run (t := 9) (t' := 9) (x := (.tmp 14)) (y := (.tmp 15)) (strOfNums ([3])) s w ho hi.1 hi.2.1 (by omega)), .c (bytesR_fn ((strOfNums ([3])) ++ s) (by omega) (by rw [tl_add]; exact isP_append.2 ⟨rfl, hp⟩)), .v] H14 kr fun gs15 w15 H15 => ?_
      show WPs _ _ _ _ [] _ _
      clear H14
      refine s_nil ?_
      refine g_ret kr ?_
      show ∃ vs, Res _ _ _ _ vs ∧ _
      refine ⟨[.string (strB (jn (tl ((strOfNums ([3])) ++ s))))], (.tmp (.string (strB (jn (tl ((strOfNums ([3])) ++ s))))) kr .nil), ?_, H15.below⟩
      rw [pk, hdP, if_pos (show (tl s).length % 2 = 1 by rw [tl_len]; omega), hq1]; exact congrArg (fun x => Value.string (strB (jn x))) (tl_add _ _)
    · skip
      refine rp [.e (v := .bool ((((ByteArray.size s) % 2 : Nat) : Int) == 1)) (v' := .bool false) (bool_eq (beq_eq_false_iff_ne.2 (by omega)))] H12 kr fun gs16 w16 H16 => ?_
      show WPs _ _ _ _ [] _ _
      clear H12
      refine s_nil ?_
      refine g_cond_f kr kr ?_
      refine g_skip kr ?_
      show WP _ _ _ _ _ _
      refine g_sreg [0, 1, 2, 3, 4, 5, 6] kr kr ?_
      refine rp [.v, .nw (fun b => .slice (some ⟨b, 0, none⟩) 2 2) #[.int .u8 2, .int .u8 0] 5, .w fun nn => .x (op := .convert 88 9 (.tmp 19)) (ins := [((.tmp 19), .slice (some ⟨(nn 0), 0, none⟩) 2 2)]) [(0, ((nn 0), Obj.cells #[.int .u8 2, .int .u8 0] 5 (0, 0)))] (bytesX (t := 88) (t' := 9) (e := 5) [2, 0] kr kr kr (Rw.lit #[.int .u8 2, .int .u8 0] 2 (by rfl) (by unfold maxLen; omega))), .v] H16 kr fun gs17 w17 H17 => ?_
      show WPs _ _ _ _ [4, 5, 6] _ _
      clear H16
      have hcw : ByteArray.size ((strOfNums ([2, 0])) ++ s) = ByteArray.size (strOfNums ([2, 0])) + ByteArray.size s := by rw [← tl_len, tl_add, List.length_append, tl_len, tl_len]
      have hcx : ByteArray.size (strOfNums ([2, 0])) ≤ 2 := by first | exact (by decide : (1 : Nat) ≤ 2) | exact (by decide : (2 : Nat) ≤ 2)
      refine rp [.o (ins := [((.tmp 20), .string (strOfNums ([2, 0]))), ((.tmp 21), .string s)]) (v := .string ((strOfNums ([2, 0])) ++ s)) (fun ρ o w ho hi => sadd_run (t := 9) (t' := 9) (x := (.tmp 20)) (y := (.tmp 21)) (strOfNums ([2, 0])) s w ho hi.1 hi.2.1 (by omega)), .c (bytesR_fn ((strOfNums ([2, 0])) ++ s) (by omega) (by rw [tl_add]; exact isP_append.2 ⟨rfl, hp⟩)), .v] H17 kr fun gs18 w18 H18 => ?_
      show WPs _ _ _ _ [] _ _
      clear H17
      refine s_nil ?_
      refine g_ret kr ?_
      show ∃ vs, Res _ _ _ _ vs ∧ _
      refine ⟨[.string (strB (jn (tl ((strOfNums ([2, 0])) ++ s))))], (.tmp (.string (strB (jn (tl ((strOfNums ([2, 0])) ++ s))))) kr .nil), ?_, H18.below⟩
      rw [pk, hdP, if_neg (show ¬ (tl s).length % 2 = 1 by rw [tl_len]; omega), hq1]; exact congrArg (fun x => Value.string (strB (jn x))) (tl_add _ _)
end Go.Proofs.YtlhfgbjhngkicaaGreatDoor

namespace Go.Proofs.YtlhfgbjhngkicaaGreatDoor
open Go Go.RowKit
set_option linter.unusedVariables false
theorem shr_go {s t : ByteArray} {i : Nat} (h1 : i < s.size) (h2 : i < t.size) (h : by_ s i = by_ t i) : shr ((tl s).drop i) ((tl t).drop i) = 1 + shr ((tl s).drop (i + 1)) ((tl t).drop (i + 1)) := by
  rw [shr_step _ _ _ (by rw [tl_len]; omega) (by rw [tl_len]; omega), if_pos (UInt8.toNat_inj.1 h)]
theorem shr_stop {s t : ByteArray} {i : Nat} (h1 : i < s.size) (h2 : i < t.size) (h : ¬ by_ s i = by_ t i) : shr ((tl s).drop i) ((tl t).drop i) = 0 := by
  rw [shr_step _ _ _ (by rw [tl_len]; omega) (by rw [tl_len]; omega), if_neg fun e => h (congrArg UInt8.toNat e)]
theorem shr_end {s t : ByteArray} {i : Nat} (h : s.size ≤ i ∨ t.size ≤ i) : shr ((tl s).drop i) ((tl t).drop i) = 0 :=
  shr_nil (by rw [List.length_drop, List.length_drop, tl_len, tl_len]; omega)
set_option maxRecDepth 100000 in
set_option maxHeartbeats 2000000 in
theorem share_fn (s t : ByteArray) (hs : ByteArray.size s ≤ 1000000000000) (ht : ByteArray.size t ≤ 1000000000000) : Fn Tryz.prog 108 #[.string s, .string t] (.int .i64 ((shr (tl s) (tl t) : Nat) : Int)) := by
  refine Fn.intro (c := codeOf Tryz.f108) [.tmp 4] 26 Tryz.func108 kr kr kr fun w => ?_
  have H0 := St.start w
  refine rS [.v] H0 kr fun gs1 w1 H1 => ?_
  clear H0
  refine rS [.v, .v, .v, .v, .e (v := .int .i64 (if (((ByteArray.size t : Nat) : Int) : Int) < (((ByteArray.size s : Nat) : Int) : Int) then (((ByteArray.size t : Nat) : Int) : Int) else (((ByteArray.size s : Nat) : Int) : Int))) (v' := .int .i64 ((min (ByteArray.size s) (ByteArray.size t) : Nat) : Int)) (int_eq (minN (ByteArray.size s) (ByteArray.size t))), .v] H1 kr fun gs2 w2 H2 => ?_
  clear H1
  refine g_seq kr ?_
  refine rS [.v, .v] H2 kr fun gs3 w3 H3 => ?_
  clear H2
  refine g_block 0 kr ?_
  have HL1 : St w.heap.size w w3 [] := H3.as kr
  clear H3
  refine g_loop kr (fun mz ρ ww => ∃ (i : Nat), min (ByteArray.size s) (ByteArray.size t) - i = mz ∧ (i ≤ ByteArray.size s ∧ i ≤ ByteArray.size t) ∧ (shr (tl s) (tl t) = i + shr ((tl s).drop i) ((tl t).drop i)) ∧ St w.heap.size w ww [] ∧ Is [(0, .string s), (1, .string t), (5, .int .i64 ((min (ByteArray.size s) (ByteArray.size t) : Nat) : Int)), (12, .int .i64 ((min (ByteArray.size s) (ByteArray.size t) : Nat) : Int)), (13, .int .i64 ((i : Nat) : Int))] ρ) (min (ByteArray.size s) (ByteArray.size t) - 0) ⟨0, rfl, (by omega), (by rw [List.drop_zero, List.drop_zero]; omega), HL1, (Is.of ⟨kr, kr, kr, kr, kr, trivial⟩)⟩ ?_
  clear HL1
  rintro _ _ w4 ⟨i, rfl, hi, hq, H4, _, rfl⟩
  by_cases hc2 : (i : Nat) < min (ByteArray.size s) (ByteArray.size t)
  · skip
    refine rS [.e (v := .bool (decide (((i : Nat) : Int) < ((min (ByteArray.size s) (ByteArray.size t) : Nat) : Int)))) (v' := .bool true) (bool_eq (decide_eq_true (by omega)))] H4 kr fun gs5 w5 H5 => ?_
    clear H4
    refine g_seq kr ?_
    refine g_cond_t kr kr ?_
    refine g_skip kr ?_
    show WP _ _ _ _ _ _
    refine g_seq kr ?_
    refine g_block 1 kr ?_
    refine rS [.v, .v] H5 kr fun gs6 w6 H6 => ?_
    clear H5
    by_cases hx3 : (by_ s i : Nat) ≠ by_ t i
    · skip
      refine dS [.v, .v, .o (ins := [((.tmp 16), .string s), ((.tmp 17), .int .i64 ((i : Nat) : Int))]) (v := .int .u8 ((by_ s i : Nat) : Int)) (fun ρ o w ho hi => sindex_run (t := 9) (kd := .i64) kr (x := (.tmp 16)) (y := (.tmp 17)) s i ho hi.1 hi.2.1 (by omega) w), .v, .v, .o (ins := [((.tmp 19), .string t), ((.tmp 20), .int .i64 ((i : Nat) : Int))]) (v := .int .u8 ((by_ t i : Nat) : Int)) (fun ρ o w ho hi => sindex_run (t := 9) (kd := .i64) kr (x := (.tmp 19)) (y := (.tmp 20)) t i ho hi.1 hi.2.1 (by omega) w), .e (v := .bool (!(((by_ s i : Nat) : Int) == ((by_ t i : Nat) : Int)))) (v' := .bool true) (bool_eq (by rw [beq_eq_false_iff_ne.2 (by omega)]; rfl))] H6 kr fun w7 H7 => ?_
      clear H6
      refine g_keep [0, 1, 5, 6, 12, 13, 14, 22] fun ρ1 => ?_
      have HK4 := H7.keep
      clear H7
      refine g_cond_t kr kr ?_
      refine rS [.v, .v] HK4 kr fun gs8 w8 H8 => ?_
      clear HK4
      refine g_ret kr ?_
      show ∃ vs, Res _ _ _ _ vs ∧ _
      refine ⟨[.int .i64 ((i : Nat) : Int)], (.tmp (.int .i64 ((i : Nat) : Int)) kr .nil), ?_, H8.below⟩
      refine int_eq ?_
      rw [hq, shr_stop (by omega) (by omega) (by omega)]; rfl
    · skip
      refine dS [.v, .v, .o (ins := [((.tmp 16), .string s), ((.tmp 17), .int .i64 ((i : Nat) : Int))]) (v := .int .u8 ((by_ s i : Nat) : Int)) (fun ρ o w ho hi => sindex_run (t := 9) (kd := .i64) kr (x := (.tmp 16)) (y := (.tmp 17)) s i ho hi.1 hi.2.1 (by omega) w), .v, .v, .o (ins := [((.tmp 19), .string t), ((.tmp 20), .int .i64 ((i : Nat) : Int))]) (v := .int .u8 ((by_ t i : Nat) : Int)) (fun ρ o w ho hi => sindex_run (t := 9) (kd := .i64) kr (x := (.tmp 19)) (y := (.tmp 20)) t i ho hi.1 hi.2.1 (by omega) w), .e (v := .bool (!(((by_ s i : Nat) : Int) == ((by_ t i : Nat) : Int)))) (v' := .bool false) (bool_eq (by rw [beq_iff_eq.2 (by omega)]; rfl))] H6 kr fun w9 H9 => ?_
      clear H6
      refine g_keep [0, 1, 5, 6, 12, 13, 14, 22] fun ρ2 => ?_
      have HK5 := H9.keep
      clear H9
      refine g_cond_f kr kr ?_
      refine g_skip kr ?_
      show WP _ _ _ _ _ _
      refine rL [.e (v := .int .i64 (IntKind.i64.wrap (((i : Nat) : Int) + 1))) (v' := .int .i64 ((i + 1 : Nat) : Int)) (int_eq (wrapAdd_i64 (a := i) (b := 1) (by omega))), .v] HK5 kr fun gs10 w10 H10 => ?_
      clear HK5
      have HL6 : St w.heap.size w w10 [] := H10.as kr
      clear H10
      show ∃ m, _ ∧ _
      exact ⟨_, (by omega), (i + 1), rfl, (by omega), (by rw [hq, shr_go (by omega) (by omega) (by omega)]; omega), HL6, (Is.of ⟨kr, kr, kr, kr, kr, trivial⟩)⟩
  · skip
    refine rS [.e (v := .bool (decide (((i : Nat) : Int) < ((min (ByteArray.size s) (ByteArray.size t) : Nat) : Int)))) (v' := .bool false) (bool_eq (decide_eq_false (by omega)))] H4 kr fun gs11 w11 H11 => ?_
    clear H4
    refine g_seq kr ?_
    refine g_cond_f kr kr ?_
    refine g_exit 0 kr ?_
    show WP _ _ _ _ _ _
    refine rS [.v, .v] H11 kr fun gs12 w12 H12 => ?_
    clear H11
    refine g_ret kr ?_
    show ∃ vs, Res _ _ _ _ vs ∧ _
    refine ⟨[.int .i64 ((min (ByteArray.size s) (ByteArray.size t) : Nat) : Int)], (.tmp (.int .i64 ((min (ByteArray.size s) (ByteArray.size t) : Nat) : Int)) kr .nil), ?_, H12.below⟩
    refine int_eq ?_
    rw [hq, shr_end (by omega)]; omega
set_option maxRecDepth 100000 in
set_option maxHeartbeats 2000000 in
theorem shareR_fn (s t : ByteArray) (hs : ByteArray.size s ≤ 1000000000000) (ht : ByteArray.size t ≤ 1000000000000) : Fn Tryz.prog 67 #[.string s, .string t] (.int .i64 ((shr (tl s) (tl t) : Nat) : Int)) := by
  refine Fn.intro (c := codeOf Tryz.f67) [.tmp 4] 28 Tryz.func67 kr kr kr fun w => ?_
  have H0 := St.start w
  refine rS [.v] H0 kr fun gs1 w1 H1 => ?_
  clear H0
  refine g_seq kr ?_
  refine rS [.v] H1 kr fun gs2 w2 H2 => ?_
  clear H1
  refine g_block 0 kr ?_
  have HL1 : St w.heap.size w w2 [] := H2.as kr
  clear H2
  refine g_loop kr (fun mz ρ ww => ∃ (i : Nat), ByteArray.size s - i = mz ∧ (i ≤ ByteArray.size s ∧ i ≤ ByteArray.size t) ∧ (shr (tl s) (tl t) = i + shr ((tl s).drop i) ((tl t).drop i)) ∧ St w.heap.size w ww [] ∧ Is [(0, .string s), (1, .string t), (5, .int .i64 ((i : Nat) : Int))] ρ) (ByteArray.size s - 0) ⟨0, rfl, (by omega), (by rw [List.drop_zero, List.drop_zero]; omega), HL1, (Is.of ⟨kr, kr, kr, trivial⟩)⟩ ?_
  clear HL1
  rintro _ _ w3 ⟨i, rfl, hi, hq, H3, _, rfl⟩
  refine g_seq kr ?_
  refine g_sreg [0, 1, 2, 3] kr kr ?_
  refine rp [.v, .v, .v] H3 kr fun gs4 w4 H4 => ?_
  show WPs _ _ _ _ [3] _ _
  clear H3
  by_cases hc2 : (i : Nat) < ByteArray.size s
  · skip
    refine rp [.e (v := .bool (decide (((i : Nat) : Int) < ((ByteArray.size s : Nat) : Int)))) (v' := .bool true) (bool_eq (decide_eq_true (by omega)))] H4 kr fun gs5 w5 H5 => ?_
    show WPs _ _ _ _ [] _ _
    clear H4
    refine s_nil ?_
    refine g_cond_t kr kr ?_
    refine g_skip kr ?_
    show WP _ _ _ _ _ _
    refine g_seq kr ?_
    refine g_block 1 kr ?_
    by_cases hx3 : (i : Nat) ≥ ByteArray.size t
    · skip
      by_cases hx4 : (by_ s i : Nat) ≠ by_ t i
      · skip
        refine dS [.v, .v, .v, .e (v := .bool (decide (((ByteArray.size t : Nat) : Int) ≤ ((i : Nat) : Int)))) (v' := .bool true) (bool_eq (decide_eq_true (by omega))), .v, .n, .n, .n, .n, .n, .n, .n, .v] H5 kr fun w6 H6 => ?_
        clear H5
        refine g_keep [0, 1, 5, 9, 24] fun ρ1 => ?_
        have HK5 := H6.keep
        clear H6
        refine g_cond_t kr kr ?_
        refine rS [.v, .v] HK5 kr fun gs7 w7 H7 => ?_
        clear HK5
        refine g_ret kr ?_
        show ∃ vs, Res _ _ _ _ vs ∧ _
        refine ⟨[.int .i64 ((i : Nat) : Int)], (.tmp (.int .i64 ((i : Nat) : Int)) kr .nil), ?_, H7.below⟩
        refine int_eq ?_
        rw [hq, shr_end (by omega)]; rfl
      · skip
        refine dS [.v, .v, .v, .e (v := .bool (decide (((ByteArray.size t : Nat) : Int) ≤ ((i : Nat) : Int)))) (v' := .bool true) (bool_eq (decide_eq_true (by omega))), .v, .n, .n, .n, .n, .n, .n, .n, .v] H5 kr fun w8 H8 => ?_
        clear H5
        refine g_keep [0, 1, 5, 9, 24] fun ρ2 => ?_
        have HK6 := H8.keep
        clear H8
        refine g_cond_t kr kr ?_
        refine rS [.v, .v] HK6 kr fun gs9 w9 H9 => ?_
        clear HK6
        refine g_ret kr ?_
        show ∃ vs, Res _ _ _ _ vs ∧ _
        refine ⟨[.int .i64 ((i : Nat) : Int)], (.tmp (.int .i64 ((i : Nat) : Int)) kr .nil), ?_, H9.below⟩
        refine int_eq ?_
        rw [hq, shr_end (by omega)]; rfl
    · skip
      by_cases hx7 : (by_ s i : Nat) ≠ by_ t i
      · skip
        refine dS [.v, .v, .v, .e (v := .bool (decide (((ByteArray.size t : Nat) : Int) ≤ ((i : Nat) : Int)))) (v' := .bool false) (bool_eq (decide_eq_false (by omega))), .v, .v, .v, .o (ins := [((.tmp 17), .string s), ((.tmp 18), .int .i64 ((i : Nat) : Int))]) (v := .int .u8 ((by_ s i : Nat) : Int)) (fun ρ o w ho hi => sindex_run (t := 9) (kd := .i64) kr (x := (.tmp 17)) (y := (.tmp 18)) s i ho hi.1 hi.2.1 (by omega) w), .v, .v, .o (ins := [((.tmp 20), .string t), ((.tmp 21), .int .i64 ((i : Nat) : Int))]) (v := .int .u8 ((by_ t i : Nat) : Int)) (fun ρ o w ho hi => sindex_run (t := 9) (kd := .i64) kr (x := (.tmp 20)) (y := (.tmp 21)) t i ho hi.1 hi.2.1 (by omega) w), .e (v := .bool (!(((by_ s i : Nat) : Int) == ((by_ t i : Nat) : Int)))) (v' := .bool true) (bool_eq (by rw [beq_eq_false_iff_ne.2 (by omega)]; rfl)), .v] H5 kr fun w10 H10 => ?_
        clear H5
        refine g_keep [0, 1, 5, 9, 24] fun ρ3 => ?_
        have HK8 := H10.keep
        clear H10
        refine g_cond_t kr kr ?_
        refine rS [.v, .v] HK8 kr fun gs11 w11 H11 => ?_
        clear HK8
        refine g_ret kr ?_
        show ∃ vs, Res _ _ _ _ vs ∧ _
        refine ⟨[.int .i64 ((i : Nat) : Int)], (.tmp (.int .i64 ((i : Nat) : Int)) kr .nil), ?_, H11.below⟩
        refine int_eq ?_
        rw [hq, shr_stop (by omega) (by omega) (by omega)]; rfl
      · skip
        refine dS [.v, .v, .v, .e (v := .bool (decide (((ByteArray.size t : Nat) : Int) ≤ ((i : Nat) : Int)))) (v' := .bool false) (bool_eq (decide_eq_false (by omega))), .v, .v, .v, .o (ins := [((.tmp 17), .string s), ((.tmp 18), .int .i64 ((i : Nat) : Int))]) (v := .int .u8 ((by_ s i : Nat) : Int)) (fun ρ o w ho hi => sindex_run (t := 9) (kd := .i64) kr (x := (.tmp 17)) (y := (.tmp 18)) s i ho hi.1 hi.2.1 (by omega) w), .v, .v, .o (ins := [((.tmp 20), .string t), ((.tmp 21), .int .i64 ((i : Nat) : Int))]) (v := .int .u8 ((by_ t i : Nat) : Int)) (fun ρ o w ho hi => sindex_run (t := 9) (kd := .i64) kr (x := (.tmp 20)) (y := (.tmp 21)) t i ho hi.1 hi.2.1 (by omega) w), .e (v := .bool (!(((by_ s i : Nat) : Int) == ((by_ t i : Nat) : Int)))) (v' := .bool false) (bool_eq (by rw [beq_iff_eq.2 (by omega)]; rfl)), .v] H5 kr fun w12 H12 => ?_
        clear H5
        refine g_keep [0, 1, 5, 9, 24] fun ρ4 => ?_
        have HK9 := H12.keep
        clear H12
        refine g_cond_f kr kr ?_
        refine g_skip kr ?_
        show WP _ _ _ _ _ _
        refine rL [.v, .e (v := .int .i64 (IntKind.i64.wrap (((i : Nat) : Int) + 1))) (v' := .int .i64 ((i + 1 : Nat) : Int)) (int_eq (wrapAdd_i64 (a := i) (b := 1) (by omega))), .v] HK9 kr fun gs13 w13 H13 => ?_
        clear HK9
        have HL10 : St w.heap.size w w13 [] := H13.as kr
        clear H13
        show ∃ m, _ ∧ _
        exact ⟨_, (by omega), (i + 1), rfl, (by omega), (by rw [hq, shr_go (by omega) (by omega) (by omega)]; omega), HL10, (Is.of ⟨kr, kr, kr, trivial⟩)⟩
  · skip
    refine rp [.e (v := .bool (decide (((i : Nat) : Int) < ((ByteArray.size s : Nat) : Int)))) (v' := .bool false) (bool_eq (decide_eq_false (by omega)))] H4 kr fun gs14 w14 H14 => ?_
    show WPs _ _ _ _ [] _ _
    clear H4
    refine s_nil ?_
    refine g_cond_f kr kr ?_
    refine g_exit 0 kr ?_
    show WP _ _ _ _ _ _
    refine rS [.v, .v, .v] H14 kr fun gs15 w15 H15 => ?_
    clear H14
    refine g_ret kr ?_
    show ∃ vs, Res _ _ _ _ vs ∧ _
    refine ⟨[.int .i64 ((ByteArray.size s : Nat) : Int)], (.tmp (.int .i64 ((ByteArray.size s : Nat) : Int)) kr .nil), ?_, H15.below⟩
    refine int_eq ?_
    rw [hq, shr_end (by omega)]; omega
end Go.Proofs.YtlhfgbjhngkicaaGreatDoor

namespace Go.Proofs.YtlhfgbjhngkicaaGreatDoor
open Go Go.RowKit
set_option linter.unusedVariables false
theorem idxP_run {P : Program} {ρ : Env} {t e : TypeId} {K bytes : Nat} (ht : sliceOf P t = some (e, K, bytes)) {x y : Operand} {o : Oper} {kd : IntKind} {p : Option Addr} (b q n c k : Nat) (hp : p = some ⟨b, q, none⟩) (ho : o.op = .indexAddr t x y) (hx : ev ρ x = .slice p n c) (hy : ev ρ y = .int kd (k : Int)) (hk : k < n) :
    ∀ w, (execOp (ev ρ) o).run P w = .ok (.value (.pointer (some ⟨b, q + k * K, none⟩))) w := by
  subst hp; exact idxS_run ht b q n c k ho hx hy hk
/-- Pairs of texts. -/
def pS : Fl (ByteArray × ByteArray) where
  K := 2
  cs x := [.string x.1, .string x.2]
  pos := by decide
  len _ := rfl
  one _ := one_all rfl
set_option maxRecDepth 100000 in
set_option maxHeartbeats 4000000 in
theorem alone_fn : Fn Tryz.prog 107 #[] (.agg (kidC aloneL).toArray) := by
  refine Fn.intro (c := codeOf Tryz.f107) [.cell 0 56] 10 Tryz.func107 kr kr kr fun w => ?_
  have H0 := St.start w
  refine rS [.a] H0 kr fun gs1 w1 H1 => ?_
  refine rS [.a] H1 kr fun gs2 w2 H2 => ?_
  refine g_seq kr ?_
  refine rS [.v] H2 kr fun gs3 w3 H3 => ?_
  refine g_block 0 kr ?_
  have H4 : St w.heap.size w w3 [((gs1 0).b, .cells (arrF 16 fun _ => .int .i64 0).toArray 56 (0, 0)), ((gs2 0).b, .cells (arrF 16 fun _ => .int .i64 0).toArray 56 (0, 0))] := H3.as kr
  clear H0 H1 H2 H3
  refine g_loop kr (fun mz ρ ww => ∃ (i : Nat), 16 - i = mz ∧ i ≤ 16 ∧ St w.heap.size w ww [((gs1 0).b, .cells (arrF 16 fun _ => .int .i64 0).toArray 56 (0, 0)), ((gs2 0).b, .cells (arrF 16 fun j => .int .i64 (if j < i then -1 else 0)).toArray 56 (0, 0))] ∧ Is [(0, .pointer (some ⟨(gs1 0).b, 0, none⟩)), (1, .pointer (some ⟨(gs2 0).b, 0, none⟩)), (3, .int .i64 ((i : Nat) : Int))] ρ) (16 - 0) ⟨0, rfl, Nat.zero_le _, H4, (Is.of ⟨kr, kr, kr, trivial⟩)⟩ ?_
  clear H4
  rintro _ _ w4 ⟨i, rfl, hi16, H5, _, rfl⟩
  by_cases hi : i < 16
  · refine rS [.e (v := .bool (decide (((i : Nat) : Int) < 16))) (v' := .bool true) (bool_eq (decide_eq_true (by omega)))] H5 kr fun gs4 w5 H6 => ?_
    refine g_seq kr ?_
    refine g_cond_t kr kr ?_
    refine g_skip kr ?_
    show WP _ _ _ _ _ _
    refine g_seq kr ?_
    refine g_block 1 kr ?_
    refine rS [.v, .v] H6 kr fun gs5 w6 H7 => ?_
    refine rL [.v, .o (ins := [((.tmp 1), .pointer (some ⟨(gs2 0).b, 0, none⟩)), ((.tmp 6), .int .i64 ((i : Nat) : Int))]) (v := .pointer (some ⟨(gs2 0).b, 0 + i * 1, none⟩)) (fun ρ o w ho hi2 => idxA_run (t := 56) (n := 16) (size := 1) (kd := .i64) kr (x := (.tmp 1)) (y := (.tmp 6)) (gs2 0).b 0 i ho hi2.1 hi2.2.1 hi w),
      .se 1 (C := (arrF 16 fun j => .int .i64 (if j < i then -1 else 0)).toArray) (C' := (arrF 16 fun j => .int .i64 (if j < i + 1 then -1 else 0)).toArray) (off := 0 + i * 1) (v := .int .i64 (-1)) (by show 0 + i * 1 + 1 ≤ _; rw [List.size_toArray, arrF_len]; omega) (by
        have := seg_put (C := (arrF 16 fun j => Value.int .i64 (if j < i then -1 else 0)).toArray) (pre := []) (post := []) (n := 16) (f := fun j => .int .i64 (if j < i then -1 else 0)) (g := fun j => .int .i64 (if j < i + 1 then -1 else 0)) (by simp) (off := 0 + i * 1) (k := i) (v := .int .i64 (-1)) rfl (by simp) hi (fun j _ => by
          by_cases h1 : j = i
          · subst h1; simp
          · rw [if_neg h1]; by_cases h2 : j < i
            · rw [if_pos h2, if_pos (by omega)]
            · rw [if_neg h2, if_neg (by omega)])
        simpa using this)] H7 kr fun gs6 w7 H8 => ?_
    show WP _ _ _ _ _ _
    refine rL [.e (v := .int .i64 (IntKind.i64.wrap (((i : Nat) : Int) + 1))) (v' := .int .i64 ((i + 1 : Nat) : Int)) (int_eq (wrapAdd_i64 (a := i) (b := 1) (by omega))), .v] H8 kr fun gs7 w8 H9 => ?_
    show ∃ m, _ ∧ _
    exact ⟨_, (by omega), i + 1, rfl, hi, H9.as kr, (Is.of ⟨kr, kr, kr, trivial⟩)⟩
  · obtain rfl : i = 16 := by omega
    refine rS [.v] H5 kr fun gs4 w5 H6 => ?_
    refine g_seq kr ?_
    refine g_cond_f kr kr ?_
    refine g_exit 0 kr ?_
    show WP _ _ _ _ _ _
    refine rS [.l 1, .s 0] H6 kr fun gs5 w6 H7 => ?_
    exact rR [.cell 0 56] [0] (.agg (kidC aloneL).toArray) H7 kr
set_option maxRecDepth 100000 in
set_option maxHeartbeats 4000000 in
theorem common_fn (br off n cap : Nat) (C : Array Value) (T : TypeId) (fz : Nat × Nat) (E : List (ByteArray × ByteArray)) (e z : ByteArray × ByteArray) (hR : RowAt pS C off E) (hn : E.length = n) (hn9 : n ≤ 1000000000) (he : E[0]? = some e) (hz : E[n - 1]? = some z) (h1 : e.1.size ≤ 1000000000000) (h2 : z.1.size ≤ 1000000000000) :
    FnP Tryz.prog 90 #[.slice (some ⟨br, off, none⟩) n cap] (fun w => w.heap[br]? = some (.cells C T fz)) (.int .i64 ((shr (tl e.1) (tl z.1) : Nat) : Int)) := by
  refine FnP.intro (c := codeOf Tryz.f90) [.tmp 2] 15 Tryz.func90 kr kr kr fun w hh => ?_
  have H0 := St.start w
  have hpos : 0 < n := by have := (List.getElem?_eq_some_iff.1 he).1; omega
  have c1 : C[off + 0 * 2]? = some (.string e.1) := hR.cell he 0 (by decide)
  have c2 : C[off + (n - 1) * 2]? = some (.string z.1) := hR.cell hz 0 (by decide)
  refine rS [.v] H0 kr fun gs1 w1 H1 => ?_
  refine dS [.v, .o (ins := [((.tmp 3), .slice (some ⟨br, off, none⟩) n cap), ((.const (.int .i64 0)), .int .i64 0)]) (v := .pointer (some ⟨br, off + 0 * 2, none⟩)) (fun ρ o w ho hi2 => idxP_run (kd := .i64) (t := 107) (e := 109) (K := 2) (bytes := 32) kr (x := (.tmp 3)) (y := (.const (.int .i64 0))) br off n cap 0 rfl ho hi2.1 hi2.2.1 hpos w), .v, .fs (off := off + 0 * 2) (v := .string e.1) hh (lt_of_heap hh) c1,
    .v, .v, .v, .e (v := .int .i64 (IntKind.i64.wrap (((n : Nat) : Int) - 1))) (v' := .int .i64 ((n - 1 : Nat) : Int)) (int_eq (wrapSub_i64 (a := n) (b := 1) (by omega))), .o (ins := [((.tmp 7), .slice (some ⟨br, off, none⟩) n cap), ((.tmp 10), .int .i64 ((n - 1 : Nat) : Int))]) (v := .pointer (some ⟨br, off + (n - 1) * 2, none⟩)) (fun ρ o w ho hi2 => idxP_run (kd := .i64) (t := 107) (e := 109) (K := 2) (bytes := 32) kr (x := (.tmp 7)) (y := (.tmp 10)) br off n cap (n - 1) rfl ho hi2.1 hi2.2.1 (by omega) w), .v, .fs (off := off + (n - 1) * 2) (v := .string z.1) hh (lt_of_heap hh) c2, .c (share_fn e.1 z.1 h1 h2), .v] H1 kr fun w2 H2 => ?_
  exact rR [.tmp 2] [] (.int .i64 ((shr (tl e.1) (tl z.1) : Nat) : Int)) H2 kr
abbrev arO (p : Option Addr) (n c : Nat) : Obj := .cells #[.slice p n c] 111 (0, 0)
abbrev ndV (x : Nd) : Value := .agg (nS.cs x).toArray
abbrev ndO (x : Nd) : Obj := .cells (nS.cs x).toArray 58 (0, 0)
abbrev nrO (C : Array Value) : Obj := .cells C 58 (0, 0)
/-- The arena in block ba holds these nodes. -/
def Arn (B : Nat) (w0 w : World) (ba : Nat) (A : List Nd) (L : List (Nat × Obj)) : Prop := ∃ (p : Option Addr) (n c : Nat) (row : List (Nat × Obj)), RowF nS 58 p n c row A ∧ St B w0 w ((ba, arO p n c) :: (row ++ L))
theorem Arn.call {B : Nat} {w0 w w' : World} {ba : Nat} {A : List Nd} {L : List (Nat × Obj)} (h : Arn B w0 w ba A L) (hb : Below w.heap.size w w') : Arn B w0 w' ba A L := by
  obtain ⟨p, n, c, row, h1, h2⟩ := h
  exact ⟨p, n, c, row, h1, h2.call hb⟩
theorem Arn.mem {B : Nat} {w0 w : World} {ba : Nat} {A : List Nd} {L : List (Nat × Obj)} (h : Arn B w0 w ba A L) {e : Nat × Obj} (he : e ∈ L) : w.heap[e.1]? = some e.2 := by
  obtain ⟨p, n, c, row, _, h2⟩ := h
  exact (h2.own e (List.mem_cons_of_mem _ (List.mem_append_right _ he))).2
theorem Arn.sub {B : Nat} {w0 w : World} {ba : Nat} {A : List Nd} {L L' : List (Nat × Obj)} (h : Arn B w0 w ba A L) (hs : List.Sublist L' L) : Arn B w0 w ba A L' := by
  obtain ⟨p, n, c, row, h1, h2⟩ := h
  exact ⟨p, n, c, row, h1, h2.sub (List.Sublist.cons_cons _ (List.Sublist.append (List.Sublist.refl _) hs))⟩
end Go.Proofs.YtlhfgbjhngkicaaGreatDoor

namespace Go.Proofs.YtlhfgbjhngkicaaGreatDoor
open Go Go.RowKit
set_option linter.unusedVariables false
/-- Where add stands. -/
def PreAd (B : Nat) (w0 : World) (bx ba : Nat) (xO : Obj) (xc : Array Value) (p : Option Addr) (n c : Nat) (row : List (Nat × Obj)) (xs : List Value) (L0 : List (Nat × Obj)) : (Nat → Bool) → (Nat → D2.Gh) → World → Prop := fun L g w =>
  bif L 7 then Rw 19 (g 7).cur (g 7).cap (n + 1) xs ∧ St B w0 w ((bx, xO) :: (ba, arO (bif L 10 then some ⟨(g 7).b, 0, none⟩ else p) (bif L 10 then n + 1 else n) (bif L 10 then (g 7).cap else c)) :: ((g 7).b, nrO (g 7).cur) :: L0)
  else bif L 6 then St B w0 w (((g 6).b, nrO xc) :: (bx, xO) :: (ba, arO p n c) :: (row ++ L0))
  else St B w0 w ((bx, xO) :: (ba, arO p n c) :: (row ++ L0))
theorem PreAd.st {B : Nat} {w0 : World} {bx ba : Nat} {xO : Obj} {xc : Array Value} {p : Option Addr} {n c : Nat} {row : List (Nat × Obj)} {xs : List Value} {L0 : List (Nat × Obj)} {L : Nat → Bool} {g : Nat → D2.Gh} {w : World} (h7 : L 7 = false) (h : PreAd B w0 bx ba xO xc p n c row xs L0 L g w) : ∃ l, St B w0 w l ∧ (bx, xO) ∈ l ∧ (ba, arO p n c) ∈ l := by
  unfold PreAd at h; rw [h7] at h
  cases h6 : L 6 with
  | true => rw [h6] at h; exact ⟨_, h, by simp, by simp⟩
  | false => rw [h6] at h; exact ⟨_, h, by simp, by simp⟩
set_option maxRecDepth 100000 in
set_option maxHeartbeats 4000000 in
theorem add_c (x : Nd) (ba : Nat) (A : List Nd) {B : Nat} {w0 w : World} {L : List (Nat × Obj)} (h : Arn B w0 w ba A L) (hA : A.length ≤ 100000000000) :
    Calls Tryz.prog 106 #[.pointer (some ⟨ba, 0, none⟩), ndV x] w fun e w' => ∃ v, e = .returned v ∧ v = .int .i64 ((A.length : Nat) : Int) ∧ Arn B w0 w' ba (A ++ [x]) L := by
  refine calls_intro (c := codeOf Tryz.f106) (rs := [.tmp 4]) (N := 21) Tryz.func106 kr kr kr ?_
  obtain ⟨p, n, c, row, hrow, H0⟩ := h
  have hlen := hrow.len
  refine g_sreg [0, 1] kr kr ?_
  refine s_box H0 (some 3) 58 (.tmp 1) (ndV x) kr kr kr ?_
  intro bx w1 H1
  refine rp [.v] H1 kr fun gs1 w2 H2 => ?_
  show WPs _ _ _ _ [] _ _
  refine s_nil ?_
  have H3 : St B w0 w2 ((bx, ndO x) :: (ba, arO p n c) :: (row ++ L)) := H2.as kr
  clear H1 H2
  refine g_seq kr ?_
  refine D2.g_draw0 [0, 1, 2, 3, 4, 5, 6, 7, 8, 9, 10] [(some 5, fun _ => .pointer (some ⟨ba, 0, none⟩)), (some 6, fun _ => .pointer (some ⟨ba, 0, none⟩)), (some 7, fun _ => .pointer (some ⟨ba, 0, none⟩)), (some 8, fun _ => .pointer (some ⟨ba, 0, none⟩)), (some 9, fun _ => .slice p n c), (some 10, fun _ => ndV x), (some 11, fun y => .slice (some ⟨y.b, 0, none⟩) 1 1), (some 12, fun y => .slice (some ⟨y.b, 0, none⟩) (n + 1) y.cap), (some 13, fun _ => .pointer (some ⟨ba, 0, none⟩)), (some 14, fun _ => .pointer (some ⟨ba, 0, none⟩)), (none, fun _ => undef)]
    (PreAd B w0 bx ba (ndO x) (nS.cs x).toArray p n c row (cellsF nS (A ++ [x])) L) kr kr kr H3.drew ⟨?_, ?_, ?_, ?_, ?_, ?_, ?_, ?_, ?_, ?_, ?_, trivial⟩ ?_
  · exact D2.gv_val (fun _ _ _ h => h) (fun g w => by kernel_rfl)
  · exact D2.gv_val (fun _ _ _ h => h) (fun g w => by kernel_rfl)
  · exact D2.gv_val (fun _ _ _ h => h) (fun g w => by kernel_rfl)
  · exact D2.gv_val (fun _ _ _ h => h) (fun g w => by kernel_rfl)
  · refine D2.gv_ld (fun _ _ _ h => h) 24 (.tmp 8) (fun _ => ba) 0 #[.slice p n c] 111 (0, 0) (fun g => by kernel_rfl) (fun g => by kernel_rfl) (fun L g w hN hp => ?_) kr kr
    obtain ⟨l, h, _, hm⟩ := hp.st (hN.post 7 kr)
    exact (h.own _ hm).2
  · refine D2.gv_ld (fun _ _ _ h => h) 58 (.tmp 3) (fun _ => bx) 0 (nS.cs x).toArray 58 (0, 0) (fun g => by kernel_rfl) (fun g => by kernel_rfl) (fun L g w hN hp => ?_) kr kr
    obtain ⟨l, h, hm, _⟩ := hp.st (hN.2.2.no 6 7 kr (hN.post 6 kr))
    exact (h.own _ hm).2
  · refine D2.gives_of fun L1 gg ww hp hN => ?_
    have h7 := hN.post 7 kr
    unfold PreAd at hp
    rw [h7, hN.1] at hp
    obtain ⟨o, ho, hd, hw, hrun⟩ := opv_some (show opv _ _ 6 _ ww = some (some 11, true, .ok (.value (.slice (some ⟨ww.heap.size, 0, none⟩) 1 1)) (ww.alloc (.cells (nS.cs x).toArray 58))) by kernel_rfl)
    refine ⟨o, ho, hd, .inr ⟨hw, ?_⟩⟩
    refine (congrArg (D2.Runs _ _) hrun).mpr ?_
    refine ⟨{ b := ww.heap.size }, rfl, ?_⟩
    unfold PreAd
    rw [show D2.put1 L1 6 7 = false from h7, show D2.put1 L1 6 6 = true from rfl]
    exact St.alloc hp _
  · refine D2.gives_of fun L1 gg ww hp hN => ?_
    have h6 := hN.bef 6 kr
    have h10 := hN.post 10 kr
    unfold PreAd at hp
    rw [hN.1, h6] at hp
    obtain ⟨o, ho, hd, hw, hop⟩ := opk_some (show opk _ 7 _ = some (some 12, true, appendOp 24 (.tmp 9) (.tmp 11)) by kernel_rfl)
    refine ⟨o, ho, hd, .inr ⟨hw, ?_⟩⟩
    rcases hrow with ⟨rfl, rfl, rfl, rfl, rfl⟩ | ⟨br, cur, rfl, rfl, hrw⟩
    · obtain ⟨b', cap', cur', w', hrun, HS', hr'⟩ := grow_nil (K := 19) hp (t := 24) (e := 58) (bytes := 168) (k := 0) (bx := (gg 6).b) (c := 1) (Y := (nS.cs x).toArray) kr hop kr kr rfl rfl (nS.one x) (by omega)
      rw [hrun]
      refine ⟨{ b := b', cap := cap', cur := cur' }, rfl, ?_⟩
      unfold PreAd
      rw [show D2.put1 L1 7 7 = true from rfl, show D2.put1 L1 7 10 = false from h10]
      refine ⟨?_, (HS'.sub (List.Sublist.cons_cons _ (List.sublist_cons_self ..))).perm (List.perm_middle (l₁ := [(bx, ndO x), (ba, arO none 0 0)]))⟩
      rw [cellsF_append]
      have e : cellsF nS [] ++ cellsF nS [x] = (nS.cs x).toArray.toList := by simp [cellsF]
      rw [e]; exact hr'
    · obtain ⟨b', cap', cur', w', hrun, HS', hr'⟩ := grow_own (K := 19) hp (t := 24) (e := 58) (bytes := 168) (j := 3) (k := 0) (bx := (gg 6).b) (c := 1) (Y := (nS.cs x).toArray) kr hop kr rfl hrw kr rfl rfl (nS.one x) (by omega) (by unfold maxLen; omega)
      rw [hrun]
      refine ⟨{ b := b', cap := cap', cur := cur' }, rfl, ?_⟩
      unfold PreAd
      rw [show D2.put1 L1 7 7 = true from rfl, show D2.put1 L1 7 10 = false from h10]
      refine ⟨?_, HS'.sub (List.sublist_cons_self ..)⟩
      rw [cellsF_snoc]; exact hr'
  · exact D2.gv_val (fun _ _ _ h => h) (fun g w => by kernel_rfl)
  · exact D2.gv_val (fun _ _ _ h => h) (fun g w => by kernel_rfl)
  · refine D2.gives_of fun L1 gg ww hp hN => ?_
    have h7 := hN.bef 7 kr
    unfold PreAd at hp
    rw [h7, hN.1] at hp
    obtain ⟨hr', HS⟩ := hp
    obtain ⟨o, ho, hd, hw, hop⟩ := opk_some (show opk _ 10 _ = some (none, true, .store 24 (.tmp 14) (.tmp 12)) by kernel_rfl)
    refine ⟨o, ho, hd, .inr ⟨hw, ?_⟩⟩
    rw [store_at (t := 24) (off := 0) (b := ba) (C := #[.slice p n c]) (T := 111) (v := .slice (some ⟨(gg 7).b, 0, none⟩) (n + 1) (gg 7).cap) (C' := #[.slice (some ⟨(gg 7).b, 0, none⟩) (n + 1) (gg 7).cap]) (HS.get 1 kr) kr kr (of_decide_eq_true kr) kr kr kr o hop]
    refine ⟨default, rfl, ?_⟩
    unfold PreAd
    rw [show D2.put1 L1 10 7 = true from h7, show D2.put1 L1 10 10 = true from rfl]
    exact ⟨hr', HS.store 1 (C := #[.slice p n c]) kr⟩
  · intro L1 gg w14 hall hp
    unfold PreAd at hp
    rw [hall 7 (Nat.le_of_ble_eq_true kr), hall 10 (Nat.le_of_ble_eq_true kr)] at hp
    obtain ⟨hr', HS⟩ := hp
    show WP _ _ _ _ _ _
    refine rS [.v, .v, .v, .l 1, .v, .e (v := .int .i64 (IntKind.i64.wrap (((n + 1 : Nat) : Int) - 1))) (v' := .int .i64 ((A.length : Nat) : Int)) (int_eq (by rw [show (((n + 1 : Nat) : Int) - 1) = ((A.length : Nat) : Int) by omega]; exact wrapN_i64 (by omega))), .v] HS kr fun gs5 w15 H5 => ?_
    refine rRr [.tmp 4] [] (.int .i64 ((A.length : Nat) : Int)) (fun v w' => v = .int .i64 ((A.length : Nat) : Int) ∧ Arn B w0 w' ba (A ++ [x]) L) H5 kr ?_
    have H6 : St B w0 w15 ((bx, ndO x) :: (ba, arO (some ⟨(gg 7).b, 0, none⟩) (n + 1) (gg 7).cap) :: ((gg 7).b, nrO (gg 7).cur) :: L) := H5.as kr
    exact ⟨rfl, _, _, _, [((gg 7).b, nrO (gg 7).cur)], .inr ⟨_, _, rfl, rfl, hr'⟩, H6.sub (List.sublist_cons_self ..)⟩
end Go.Proofs.YtlhfgbjhngkicaaGreatDoor

namespace Go.Proofs.YtlhfgbjhngkicaaGreatDoor
open Go Go.RowKit
set_option linter.unusedVariables false
theorem tl_ext (s : ByteArray) (a b : Nat) : tl (s.extract a b) = ((tl s).drop a).take (b - a) := by
  unfold tl
  rw [ByteArray.data_extract, Array.toList_extract, List.extract_eq_take_drop]
theorem ext_pre (p x : List UInt8) (k : Nat) (hk : k = p.length) : (strB (p ++ x)).extract k (strB (p ++ x)).size = strB x := by
  subst hk
  apply tl_inj
  rw [tl_ext, tl_strB, tl_strB, strB_size, List.drop_left, List.length_append, Nat.add_sub_cancel_left, List.take_length]
theorem ext_mid (p x : List UInt8) (k m n : Nat) (hk : k = p.length) (hm : m = p.length + n) : (strB (p ++ x)).extract k m = strB (x.take n) := by
  subst hk hm
  apply tl_inj
  rw [tl_ext, tl_strB, tl_strB, List.drop_left, Nat.add_sub_cancel_left]
theorem cutL_run {P : Program} {ρ : Env} {t e : TypeId} {size bytes : Nat} (ht : sliceOf P t = some (e, size, bytes)) {x z : Operand} {o : Oper} {kz : IntKind} (b q n c j : Nat) (ho : o.op = .slice t x (some z) none none) (hx : ev ρ x = .slice (some ⟨b, q, none⟩) n c)
    (hz : ev ρ z = .int kz (j : Int)) (hj : j ≤ n) (hn : n ≤ c) :
    ∀ w, (execOp (ev ρ) o).run P w = .ok (.value (.slice (some ⟨b, if c = j then q else q + j * size, none⟩) (n - j) (c - j))) w := fun w => by
  obtain ⟨it, z', hu, hi, hz', hsz, hby, hzs, h0⟩ := sliceOf_spec ht
  have hS : (sizeOf e).run P w = .ok size w := by simp [sizeOf, typeInfo, hi, hsz]
  unfold execOp
  by_cases hc : c = j
  · have hnj : n = j := by omega
    subst hc hnj
    simp [ho, hx, hz, Instr.sliceAt, Instr.slice, Instr.sliceBounds, Instr.sliceBound, asIntOf, run_underlying hu, hS]
  · simp [ho, hx, hz, Instr.sliceAt, Instr.slice, Instr.sliceBounds, Instr.sliceBound, asIntOf, run_underlying hu, hS, hj, addr_add, hc]
/-- The entries, as they lie: parts with what is ahead. -/
def ents (pre : List UInt8) (l : List Ent) : List (ByteArray × ByteArray) := l.map fun e => (strB (pre ++ e.1), e.2)
theorem ents_len (pre : List UInt8) (l : List Ent) : (ents pre l).length = l.length := List.length_map ..
theorem ents_at {pre : List UInt8} {l : List Ent} {i : Nat} {e : Ent} (h : l[i]? = some e) : (ents pre l)[i]? = some (strB (pre ++ e.1), e.2) := by
  unfold ents; rw [List.getElem?_map, h]; rfl
abbrev iN (n : Nat) : Value := .int .i64 ((n : Nat) : Int)
theorem Fn.toP {P : Program} {f : Nat} {args : Array Value} {v : Value} (h : Fn P f args v) : FnP P f args (fun _ => True) v := fun w _ => h w
set_option maxRecDepth 100000 in
set_option maxHeartbeats 4000000 in
theorem leaf_c (e : Ent) (pre : List UInt8) (ba : Nat) (A : List Nd) (br off cap : Nat) (C : Array Value) (T : TypeId) (fz : Nat × Nat) {B : Nat} {w0 w : World} {L : List (Nat × Obj)} (h : Arn B w0 w ba A L) (hm : (br, Obj.cells C T fz) ∈ L) (hR : RowAt pS C off (ents pre [e])) (hA : A.length ≤ 100000000000) :
    Calls Tryz.prog 89 #[.pointer (some ⟨ba, 0, none⟩), .slice (some ⟨br, off, none⟩) 1 cap, iN pre.length] w fun ed w' => ∃ v, ed = .returned v ∧ v = iN A.length ∧ Arn B w0 w' ba (A ++ [⟨1, strB e.1, e.2, aloneL⟩]) L := by
  refine calls_intro (c := codeOf Tryz.f89) (rs := [.tmp 6]) (N := 21) Tryz.func89 kr kr kr ?_
  obtain ⟨p, n, c, row, hrow, H0⟩ := h
  refine rS [.v] H0 kr fun gs1 w1 H1 => ?_
  have h1 : Arn B w0 w1 ba A L := ⟨p, n, c, row, hrow, H1.as kr⟩
  have c1 : C[off + 0 * 2]? = some (.string (strB (pre ++ e.1))) := hR.cell (i := 0) rfl 0 (by decide)
  have c2 : C[off + 0 * 2 + 1]? = some (.string e.2) := hR.cell (i := 0) rfl 1 (by decide)
  refine g_seq kr ?_
  have hd : Arn B w0 w1.drew ba A L := ⟨p, n, c, row, hrow, H1.drew⟩
  refine D2.g_draw0 [0, 1, 2, 3, 4, 5, 6, 7, 8, 9, 10, 11, 12, 13, 14] [(some 7, fun _ => .pointer (some ⟨ba, 0, none⟩)), (some 8, fun _ => .slice (some ⟨br, off, none⟩) 1 cap), (some 9, fun _ => .pointer (some ⟨br, off + 0 * 2, none⟩)), (some 10, fun _ => .pointer (some ⟨br, off + 0 * 2, none⟩)), (some 11, fun _ => .string (strB (pre ++ e.1))), (some 12, fun _ => iN pre.length), (some 13, fun _ => .string (strB e.1)), (some 14, fun _ => .slice (some ⟨br, off, none⟩) 1 cap), (some 15, fun _ => .pointer (some ⟨br, off + 0 * 2, none⟩)), (some 16, fun _ => .pointer (some ⟨br, off + 0 * 2 + 1, none⟩)), (some 17, fun _ => .string e.2), (some 18, fun _ => .agg (kidC aloneL).toArray), (some 19, fun _ => ndV ⟨1, strB e.1, e.2, aloneL⟩), (some 20, fun _ => iN A.length), (some 6, fun _ => iN A.length)]
    (D2.two 13 (fun w => Arn B w0 w ba A L) (fun _ w => Arn B w0 w ba (A ++ [⟨1, strB e.1, e.2, aloneL⟩]) L)) kr kr kr hd ⟨?_, ?_, ?_, ?_, ?_, ?_, ?_, ?_, ?_, ?_, ?_, ?_, ?_, ?_, ?_, trivial⟩ ?_
  · exact D2.gv_val (fun _ _ _ h => h) (fun g w => by kernel_rfl)
  · exact D2.gv_val (fun _ _ _ h => h) (fun g w => by kernel_rfl)
  · exact D2.gv_op (fun _ _ _ h => h) _ (fun g => by kernel_rfl) (fun g o w ho => idxP_run (kd := .i64) (t := 107) (e := 109) (K := 2) (bytes := 32) kr (x := (.tmp 8)) (y := (.const (.int .i64 0))) br off 1 cap 0 rfl ho kr kr (by decide) w)
  · exact D2.gv_val (fun _ _ _ h => h) (fun g w => by kernel_rfl)
  · refine D2.gv_opW (fun _ _ _ h => h) (.load 9 (.tmp 10)) (fun g => by kernel_rfl) (fun L g o w hN hp ho => ?_)
    exact load_at ((hp.bef (hN.2.2.no 12 13 kr (hN.2.2.no 6 12 kr (hN.post 6 kr)))).mem hm) kr kr c1 o ho
  · exact D2.gv_val (fun _ _ _ h => h) (fun g w => by kernel_rfl)
  · exact D2.gv_opE (fun _ _ _ h => h) _ (fun g => by kernel_rfl) (fun g o w ho => scut3_run (t := 9) (kz := .i64) kr (x := (.tmp 11)) (z := (.tmp 12)) (strB (pre ++ e.1)) pre.length ho kr kr (by rw [strB_size, List.length_append]; omega) w) (congrArg Value.string (ext_pre pre e.1 _ rfl))
  · exact D2.gv_val (fun _ _ _ h => h) (fun g w => by kernel_rfl)
  · exact D2.gv_op (fun _ _ _ h => h) _ (fun g => by kernel_rfl) (fun g o w ho => idxP_run (kd := .i64) (t := 107) (e := 109) (K := 2) (bytes := 32) kr (x := (.tmp 14)) (y := (.const (.int .i64 0))) br off 1 cap 0 rfl ho kr kr (by decide) w)
  · exact D2.gv_val (fun _ _ _ h => h) (fun g w => by kernel_rfl)
  · refine D2.gv_opW (fun _ _ _ h => h) (.load 9 (.tmp 16)) (fun g => by kernel_rfl) (fun L g o w hN hp ho => ?_)
    exact load_at ((hp.bef (hN.2.2.no 12 13 kr (hN.post 12 kr))).mem hm) kr kr c2 o ho
  · exact D2.gv_cpW (fun _ _ _ h => h) 107 #[] alone_fn.toP (fun _ _ _ _ _ => trivial) (fun L g w w' hN hp hb => hp.call (fun h => h.call hb) (fun _ h => h.call hb)) (fun g w => by kernel_rfl)
  · exact D2.gv_val (fun _ _ _ h => h) (fun g w => by kernel_rfl)
  · refine D2.gv_cc 106 #[.pointer (some ⟨ba, 0, none⟩), ndV ⟨1, strB e.1, e.2, aloneL⟩] (fun L g w hN hp => ?_) (fun g w => by kernel_rfl)
    refine (add_c ⟨1, strB e.1, e.2, aloneL⟩ ba A (hp.bef hN.1) hA).mono ?_
    rintro ed w' ⟨v, rfl, rfl, h2⟩
    exact ⟨_, rfl, default, rfl, D2.two.to h2⟩
  · exact D2.gv_val (fun _ _ _ h => h) (fun g w => by kernel_rfl)
  · intro L1 gg w14 hall hp
    have h2 := hp.aft (hall 13 (Nat.le_of_ble_eq_true kr))
    show WP _ _ _ _ _ _
    refine g_ret kr ?_
    show ∃ vs, Res _ _ _ _ vs ∧ _
    exact ⟨[iN A.length], (.tmp (iN A.length) kr .nil), rfl, h2⟩
end Go.Proofs.YtlhfgbjhngkicaaGreatDoor

namespace Go.Proofs.YtlhfgbjhngkicaaGreatDoor
open Go Go.RowKit
set_option linter.unusedVariables false
theorem Rise.tail {e : Ent} {l : List Ent} (h : Rise (e :: l)) : Rise l := (List.pairwise_cons.1 h).2
/-- Parts that are not empty, of half bytes, none below c. -/
def FromC (c : Nat) (l : List Ent) : Prop := ∀ e ∈ l, ∃ b t, e.1 = b :: t ∧ c ≤ b.toNat ∧ b.toNat < 16
/-- The first ones with this half byte are all with it. -/
theorem heap_split : ∀ {l : List Ent} {c : Nat}, Rise l → FromC c l → ∃ a r, l = a ++ r ∧ (∀ e ∈ a, ∃ b t, e.1 = b :: t ∧ b.toNat = c) ∧ FromC (c + 1) r
  | [], c, _, _ => ⟨[], [], rfl, (fun _ h => nomatch h), fun _ h => nomatch h⟩
  | e :: l, c, h, hF => by
    obtain ⟨b, t, e1, hb, hb2⟩ := hF e (List.mem_cons_self ..)
    by_cases hc : b.toNat = c
    · obtain ⟨a, r, rfl, ha, hr⟩ := heap_split (Rise.tail h) (fun x hx => hF x (List.mem_cons_of_mem _ hx))
      refine ⟨e :: a, r, rfl, fun x hx => ?_, hr⟩
      rcases List.mem_cons.1 hx with rfl | hx
      · exact ⟨b, t, e1, hc⟩
      · exact ha x hx
    · refine ⟨[], e :: l, rfl, (fun _ h => nomatch h), fun x hx => ?_⟩
      rcases List.mem_cons.1 hx with rfl | hx
      · exact ⟨b, t, e1, by omega, hb2⟩
      · obtain ⟨b', t', e2, _, h4⟩ := hF x (List.mem_cons_of_mem _ hx)
        have := (List.pairwise_cons.1 h).1 x hx
        rw [e1, e2] at this
        refine ⟨b', t', e2, ?_, h4⟩
        rcases lexB_cons this with q | ⟨q, _⟩
        · omega
        · rw [← q]; omega
theorem cutE_append (c : Nat) (a r : List Ent) : cutE c (a ++ r) = cutE c a ++ cutE c r := List.filterMap_append ..
theorem cutE_none {c : Nat} {l : List Ent} (h : ∀ e ∈ l, ∀ b t, e.1 = b :: t → b.toNat ≠ c) : cutE c l = [] := by
  unfold cutE
  rw [List.filterMap_eq_nil_iff]
  intro e he
  obtain ⟨x, v⟩ := e
  cases x with
  | nil => rfl
  | cons b t => simp only; rw [if_neg (h _ he b t rfl)]
theorem cutE_all {c : Nat} : ∀ {a : List Ent}, (∀ e ∈ a, ∃ b t, e.1 = b :: t ∧ b.toNat = c) → cutE c a = a.map fun e => (e.1.drop 1, e.2)
  | [], _ => rfl
  | e :: a, h => by
    obtain ⟨b, t, e1, hb⟩ := h e (List.mem_cons_self ..)
    obtain ⟨x, v⟩ := e
    simp only at e1; subst e1
    have ih := cutE_all (a := a) fun x hx => h x (List.mem_cons_of_mem _ hx)
    unfold cutE at ih ⊢
    simp only [List.filterMap_cons, hb, if_true, ih, List.map_cons, List.drop_succ_cons, List.drop_zero]
theorem ents_cut {pre : List UInt8} {c : Nat} {a : List Ent} (h : ∀ e ∈ a, ∃ b t, e.1 = b :: t ∧ b.toNat = c) : ents pre a = ents (pre ++ [UInt8.ofNat c]) (cutE c a) := by
  rw [cutE_all h]
  unfold ents
  rw [List.map_map]
  refine List.map_congr_left fun e he => ?_
  obtain ⟨b, t, e1, hb⟩ := h e he
  have : UInt8.ofNat c = b := by rw [← hb]; simp
  simp only [Function.comp, e1, this, List.drop_succ_cons, List.drop_zero, List.append_assoc, List.singleton_append]
theorem by_pre (pre x : List UInt8) (b : UInt8) : by_ (strB (pre ++ b :: x)) pre.length = b.toNat := by
  unfold by_; rw [tl_strB, List.getD_eq_getElem?_getD, List.getElem?_append_right (Nat.le_refl _), Nat.sub_self]; rfl
theorem FromC.some {c : Nat} {l : List Ent} (h : FromC c l) {i : Nat} (hi : i < l.length) : ∃ b t v, l[i]? = some (b :: t, v) ∧ c ≤ b.toNat ∧ b.toNat < 16 := by
  obtain ⟨b, t, e1, h1, h2⟩ := h l[i] (List.getElem_mem hi)
  refine ⟨b, t, l[i].2, ?_, h1, h2⟩
  rw [List.getElem?_eq_getElem hi, ← e1]
abbrev hpO (f : Nat → Value) : Obj := .cells (arrF 16 f).toArray 146 (0, 0)
/-- The heaps that are there. -/
def HpOK (C : Array Value) (pre : List UInt8) (l : List Ent) (br : Nat) (m : Nat) (q c : Nat → Nat) : Prop := ∀ j, j < m → RowAt pS C (q j) (ents (pre ++ [UInt8.ofNat j]) (cutE j l))
def hpF (l : List Ent) (br m : Nat) (q c : Nat → Nat) : Nat → Value := fun j => if j < m then .slice (some ⟨br, q j, none⟩) (cutE j l).length (c j) else .slice none 0 0
set_option maxRecDepth 100000 in
set_option maxHeartbeats 4000000 in
theorem heaps_fn (l : List Ent) (pre : List UInt8) (br off cap : Nat) (C : Array Value) (T : TypeId) (fz : Nat × Nat) (hR : RowAt pS C off (ents pre l)) (hrise : Rise l) (hF : FromC 0 l) (hlen : l.length ≤ 1000000000) (hcap : l.length ≤ cap) (hpre : pre.length ≤ 1000000000) :
    FnR Tryz.prog 105 #[.slice (some ⟨br, off, none⟩) l.length cap, iN pre.length] (fun w => w.heap[br]? = some (.cells C T fz)) (fun _ v _ => ∃ q c : Nat → Nat, v = .agg (arrF 16 (hpF l br 16 q c)).toArray ∧ HpOK C pre l br 16 q c ∧ ∀ j, j < 16 → (cutE j l).length ≤ c j) := by
  refine FnR.intro (c := codeOf Tryz.f105) [.cell 4 146] 39 Tryz.func105 kr kr kr fun w hh => ?_
  have H0 := St.start w
  refine rS [.a] H0 kr fun gs1 w1 H1 => ?_
  refine rS [.a] H1 kr fun gs2 w2 H2 => ?_
  refine g_seq kr ?_
  refine rS [.v] H2 kr fun gs3 w3 H3 => ?_
  refine g_block 0 kr ?_
  have H4 : St w.heap.size w w3 [((gs1 0).b, hpO fun _ => .slice none 0 0), ((gs2 0).b, hpO fun _ => .slice none 0 0)] := H3.as kr
  clear H0 H1 H2 H3
  refine g_loop kr (fun mz ρ ww => ∃ (i : Nat) (q c : Nat → Nat) (R : List Ent) (pq n cp : Nat), 16 - i = mz ∧ i ≤ 16 ∧ n = R.length ∧ n ≤ cp ∧ n ≤ 1000000000 ∧ HpOK C pre l br i q c ∧ (∀ j, j < i → (cutE j l).length ≤ c j) ∧ (∀ j, i ≤ j → cutE j l = cutE j R) ∧ Rise R ∧ FromC i R ∧ RowAt pS C pq (ents pre R) ∧
      St w.heap.size w ww [((gs1 0).b, hpO fun _ => .slice none 0 0), ((gs2 0).b, hpO (hpF l br i q c))] ∧ Is [(0, .slice (some ⟨br, pq, none⟩) n cp), (1, iN pre.length), (4, .pointer (some ⟨(gs1 0).b, 0, none⟩)), (5, .pointer (some ⟨(gs2 0).b, 0, none⟩)), (8, iN i)] ρ) (16 - 0) ⟨0, fun _ => 0, fun _ => 0, l, off, l.length, cap, rfl, Nat.zero_le _, rfl, hcap, hlen, (fun _ h => absurd h (Nat.not_lt_zero _)), (fun _ h => absurd h (Nat.not_lt_zero _)), (fun _ _ => rfl), hrise, hF, hR, H4, (Is.of ⟨kr, kr, kr, kr, kr, trivial⟩)⟩ ?_
  clear H4
  rintro _ _ w4 ⟨i, q, c, R, pq, n, cp, rfl, hi16, hnR, hncp, hn9, hOK, hcs, hcut, hRr, hRF, hRR, H5, _, rfl⟩
  by_cases hi : i < 16
  · refine rS [.e (v := .bool (decide (((i : Nat) : Int) < 16))) (v' := .bool true) (bool_eq (decide_eq_true (by omega)))] H5 kr fun gs4 w5 H6 => ?_
    refine g_seq kr ?_
    refine g_cond_t kr kr ?_
    refine g_skip kr ?_
    show WP _ _ _ _ _ _
    refine g_seq kr ?_
    refine g_block 1 kr ?_
    refine rS [.v, .v] H6 kr fun gs5 w6 H7 => ?_
    refine rS [.v] H7 kr fun gs6 w7 H8 => ?_
    obtain ⟨a, r, hsp, ha, hr⟩ := heap_split hRr hRF
    have hal : a.length ≤ n := by rw [hnR, hsp, List.length_append]; omega
    refine g_seq kr ?_
    have H9 : St w.heap.size w w7 [((gs1 0).b, hpO fun _ => .slice none 0 0), ((gs2 0).b, hpO (hpF l br i q c))] := H8.as kr
    refine g_mono (Q := fun e ρ ww => e = .normal ∧ St w.heap.size w ww [((gs1 0).b, hpO fun _ => .slice none 0 0), ((gs2 0).b, hpO (hpF l br i q c))] ∧ Is [(0, .slice (some ⟨br, pq, none⟩) n cp), (1, iN pre.length), (4, .pointer (some ⟨(gs1 0).b, 0, none⟩)), (5, .pointer (some ⟨(gs2 0).b, 0, none⟩)), (6, iN i), (7, iN a.length), (8, iN i)] ρ) ?_ ?_
    · refine g_block 2 kr ?_
      refine g_loop kr (fun mz ρ ww => ∃ (s : Nat), a.length - s = mz ∧ s ≤ a.length ∧ St w.heap.size w ww [((gs1 0).b, hpO fun _ => .slice none 0 0), ((gs2 0).b, hpO (hpF l br i q c))] ∧ Is [(0, .slice (some ⟨br, pq, none⟩) n cp), (1, iN pre.length), (4, .pointer (some ⟨(gs1 0).b, 0, none⟩)), (5, .pointer (some ⟨(gs2 0).b, 0, none⟩)), (6, iN i), (7, iN s), (8, iN i)] ρ) (a.length - 0) ⟨0, rfl, Nat.zero_le _, H9, (Is.of ⟨kr, kr, kr, kr, kr, kr, kr, trivial⟩)⟩ ?_
      clear H5 H6 H7 H8 H9
      rintro _ _ w8 ⟨s, rfl, hs, H10, _, rfl⟩
      refine g_seq kr ?_
      refine g_seq kr ?_
      by_cases hsa : s < a.length
      · obtain ⟨b, t, e1, hb⟩ := ha a[s] (List.getElem_mem hsa)
        have hRs : R[s]? = some (b :: t, a[s].2) := by
          rw [hsp, List.getElem?_append_left hsa, List.getElem?_eq_getElem hsa, ← e1]
        have hcell : C[pq + s * 2]? = some (.string (strB (pre ++ b :: t))) := hRR.cell (ents_at hRs) 0 (by decide)
        refine rL [.v, .v, .v, .e (v := .bool (decide (((s : Nat) : Int) < ((n : Nat) : Int)))) (v' := .bool true) (bool_eq (decide_eq_true (by omega))), .v, .v, .v, .o (ins := [((.tmp 16), .slice (some ⟨br, pq, none⟩) n cp), ((.tmp 17), iN s)]) (v := .pointer (some ⟨br, pq + s * 2, none⟩)) (fun ρ o w ho hi2 => idxP_run (kd := .i64) (t := 107) (e := 109) (K := 2) (bytes := 32) kr (x := (.tmp 16)) (y := (.tmp 17)) br pq n cp s rfl ho hi2.1 hi2.2.1 (by omega) w), .v, .fs (off := pq + s * 2) (v := .string (strB (pre ++ b :: t))) hh (lt_of_heap hh) hcell, .v, .oe (ins := [((.tmp 20), .string (strB (pre ++ b :: t))), ((.tmp 21), iN pre.length)]) (v := .int .u8 ((by_ (strB (pre ++ b :: t)) pre.length : Nat) : Int)) (v' := .int .u8 ((b.toNat : Nat) : Int)) (fun ρ o w ho hi2 => sindex_run (t := 9) (kd := .i64) kr (x := (.tmp 20)) (y := (.tmp 21)) (strB (pre ++ b :: t)) pre.length ho hi2.1 hi2.2.1 (by rw [strB_size, List.length_append, List.length_cons]; omega) w) (by rw [by_pre]), .v, .e (v := .int .u8 (IntKind.u8.wrap ((i : Nat) : Int))) (v' := .int .u8 ((i : Nat) : Int)) (int_eq (by rw [IntKind.wrap_u8]; omega)), .e (v := .bool (((b.toNat : Nat) : Int) == ((i : Nat) : Int))) (v' := .bool true) (bool_eq (beq_iff_eq.2 (by omega))), .v] H10 kr fun gs7 w9 H11 => ?_
        show WP _ _ _ _ _ _
        refine g_cond_t kr kr ?_
        refine g_skip kr ?_
        show WP _ _ _ _ _ _
        refine g_block 3 kr ?_
        refine rL [.v, .e (v := .int .i64 (IntKind.i64.wrap (((s : Nat) : Int) + 1))) (v' := .int .i64 ((s + 1 : Nat) : Int)) (int_eq (wrapAdd_i64 (a := s) (b := 1) (by omega))), .v] H11 kr fun gs8 w10 H12 => ?_
        show ∃ m, _ ∧ _
        exact ⟨_, (by omega), s + 1, rfl, hsa, H12.as kr, (Is.of ⟨kr, kr, kr, kr, kr, kr, kr, trivial⟩)⟩
      · obtain rfl : s = a.length := by omega
        by_cases hrn : r.length = 0
        · have hn0 : n = a.length := by rw [hnR, hsp, List.length_append]; omega
          refine rL [.v, .v, .v, .e (v := .bool (decide (((a.length : Nat) : Int) < ((n : Nat) : Int)))) (v' := .bool false) (bool_eq (decide_eq_false (by omega))), .v, .n, .n, .n, .n, .n, .n, .n, .n, .n, .n, .v] H10 kr fun gs7 w9 H11 => ?_
          show WP _ _ _ _ _ _
          refine g_cond_f kr kr ?_
          refine g_exit 2 kr ?_
          exact ⟨rfl, H11.as kr, (Is.of ⟨kr, kr, kr, kr, kr, kr, kr, trivial⟩)⟩
        · obtain ⟨b, t, v, hr0, hb, hb2⟩ := hr.some (i := 0) (by omega)
          have hRs : R[a.length]? = some (b :: t, v) := by
            rw [hsp, List.getElem?_append_right (Nat.le_refl _), Nat.sub_self]; exact hr0
          have hnlt : a.length < n := by rw [hnR, hsp, List.length_append]; omega
          generalize hs9 : a.length = s at *
          have hcell : C[pq + s * 2]? = some (.string (strB (pre ++ b :: t))) := hRR.cell (ents_at hRs) 0 (by decide)
          refine rL [.v, .v, .v, .e (v := .bool (decide (((s : Nat) : Int) < ((n : Nat) : Int)))) (v' := .bool true) (bool_eq (decide_eq_true (by omega))), .v, .v, .v, .o (ins := [((.tmp 16), .slice (some ⟨br, pq, none⟩) n cp), ((.tmp 17), iN s)]) (v := .pointer (some ⟨br, pq + s * 2, none⟩)) (fun ρ o w ho hi2 => idxP_run (kd := .i64) (t := 107) (e := 109) (K := 2) (bytes := 32) kr (x := (.tmp 16)) (y := (.tmp 17)) br pq n cp s rfl ho hi2.1 hi2.2.1 (by omega) w), .v, .fs (off := pq + s * 2) (v := .string (strB (pre ++ b :: t))) hh (lt_of_heap hh) hcell, .v, .oe (ins := [((.tmp 20), .string (strB (pre ++ b :: t))), ((.tmp 21), iN pre.length)]) (v := .int .u8 ((by_ (strB (pre ++ b :: t)) pre.length : Nat) : Int)) (v' := .int .u8 ((b.toNat : Nat) : Int)) (fun ρ o w ho hi2 => sindex_run (t := 9) (kd := .i64) kr (x := (.tmp 20)) (y := (.tmp 21)) (strB (pre ++ b :: t)) pre.length ho hi2.1 hi2.2.1 (by rw [strB_size, List.length_append, List.length_cons]; omega) w) (by rw [by_pre]), .v, .e (v := .int .u8 (IntKind.u8.wrap ((i : Nat) : Int))) (v' := .int .u8 ((i : Nat) : Int)) (int_eq (by rw [IntKind.wrap_u8]; omega)), .e (v := .bool (((b.toNat : Nat) : Int) == ((i : Nat) : Int))) (v' := .bool false) (bool_eq (beq_eq_false_iff_ne.2 (by omega))), .v] H10 kr fun gs7 w9 H11 => ?_
          show WP _ _ _ _ _ _
          refine g_cond_f kr kr ?_
          refine g_exit 2 kr ?_
          exact ⟨rfl, H11.as kr, (Is.of ⟨kr, kr, kr, kr, kr, kr, kr, trivial⟩)⟩
    clear H5 H6 H7 H8 H9
    rintro _ _ w8 ⟨rfl, H10, _, rfl⟩
    show WP _ _ _ _ _ _
    have hcr : cutE i r = [] := cutE_none fun e he b t e1 => by
      obtain ⟨b', t', e2, h3, _⟩ := hr e he
      rw [e1] at e2; injection e2 with e2 _; subst e2; omega
    have hci : cutE i l = cutE i a := by rw [hcut i (Nat.le_refl _), hsp, cutE_append, hcr, List.append_nil]
    have hcl : (cutE i l).length = a.length := by rw [hci, cutE_all ha, List.length_map]
    refine dL [.v, .v, .v, .o (ins := [((.tmp 30), .slice (some ⟨br, pq, none⟩) n cp), ((.tmp 31), iN a.length)]) (v := .slice (some ⟨br, pq, none⟩) a.length cp) (fun ρ o w ho hi2 => cutG_run (kd := .i64) (t := 107) (e := 109) (size := 2) (bytes := 32) kr (x := (.tmp 30)) (y := (.tmp 31)) ⟨br, pq, none⟩ n cp a.length ho hi2.1 hi2.2.1 (by omega) w),
      .v, .v, .o (ins := [((.tmp 33), .slice (some ⟨br, pq, none⟩) n cp), ((.tmp 34), iN a.length)]) (v := .slice (some ⟨br, if cp = a.length then pq else pq + a.length * 2, none⟩) (n - a.length) (cp - a.length)) (fun ρ o w ho hi2 => cutL_run (kz := .i64) (t := 107) (e := 109) (size := 2) (bytes := 32) kr (x := (.tmp 33)) (z := (.tmp 34)) br pq n cp a.length ho hi2.1 hi2.2.1 hal hncp w),
      .o (ins := [((.tmp 5), .pointer (some ⟨(gs2 0).b, 0, none⟩)), ((.tmp 29), iN i)]) (v := .pointer (some ⟨(gs2 0).b, 0 + i * 1, none⟩)) (fun ρ o w ho hi2 => idxA_run (t := 146) (n := 16) (size := 1) (kd := .i64) kr (x := (.tmp 5)) (y := (.tmp 29)) (gs2 0).b 0 i ho hi2.1 hi2.2.1 hi w),
      .se 1 (C := (arrF 16 (hpF l br i q c)).toArray) (C' := (arrF 16 (hpF l br (i + 1) (fun j => if j = i then pq else q j) (fun j => if j = i then cp else c j))).toArray) (off := 0 + i * 1) (v := .slice (some ⟨br, pq, none⟩) a.length cp) (by show 0 + i * 1 + 1 ≤ _; rw [List.size_toArray, arrF_len]; omega) (by
        have := seg_put (C := (arrF 16 (hpF l br i q c)).toArray) (pre := []) (post := []) (n := 16) (f := hpF l br i q c) (g := hpF l br (i + 1) (fun j => if j = i then pq else q j) (fun j => if j = i then cp else c j)) (by simp) (off := 0 + i * 1) (k := i) (v := .slice (some ⟨br, pq, none⟩) a.length cp) rfl (by simp) hi (fun j _ => by
          unfold hpF
          by_cases h1 : j = i
          · subst h1; simp [hcl]
          · simp only [if_neg h1]; by_cases h2 : j < i
            · rw [if_pos h2, if_pos (by omega)]
            · rw [if_neg h2, if_neg (by omega)])
        simpa using this), .v] H10 kr fun w9 H11 => ?_
    show WP _ _ _ _ _ _
    refine rL [.e (v := .int .i64 (IntKind.i64.wrap (((i : Nat) : Int) + 1))) (v' := .int .i64 ((i + 1 : Nat) : Int)) (int_eq (wrapAdd_i64 (a := i) (b := 1) (by omega))), .v] H11 kr fun gs7 w10 H12 => ?_
    show ∃ m, _ ∧ _
    have hlr : n - a.length = r.length := by rw [hnR, hsp, List.length_append]; omega
    refine ⟨_, (by omega), i + 1, (fun j => if j = i then pq else q j), (fun j => if j = i then cp else c j), r, (if cp = a.length then pq else pq + a.length * 2), n - a.length, cp - a.length, rfl, hi, hlr, by omega, by omega, ?_, ?_, ?_, ?_, hr, ?_, H12.as kr, (Is.of ⟨kr, kr, kr, kr, kr, trivial⟩)⟩
    · intro j hj
      by_cases h1 : j = i
      · subst h1
        simp only [if_true]
        rw [hci, ← ents_cut ha]
        have := hRR.take a.length
        rw [show (ents pre R).take a.length = ents pre a by rw [hsp]; unfold ents; rw [List.map_append, List.take_left' (List.length_map ..)]] at this
        exact this
      · simp only [if_neg h1]; exact hOK j (by omega)
    · intro j hj
      by_cases h1 : j = i
      · subst h1; simp only [if_true]; omega
      · simp only [if_neg h1]; exact hcs j (by omega)
    · intro j hj
      have hja : cutE j a = [] := cutE_none fun e he b t e1 => by
        obtain ⟨b', t', e2, h3⟩ := ha e he
        rw [e1] at e2; injection e2 with e2 _; subst e2; omega
      rw [hcut j (by omega), hsp, cutE_append, hja, List.nil_append]
    · rw [hsp] at hRr; exact (List.pairwise_append.1 hRr).2.1
    · by_cases h1 : cp = a.length
      · have : r = [] := List.eq_nil_of_length_eq_zero (by omega)
        rw [this]; exact RowAt.nil _ _
      · rw [if_neg h1]
        have := hRR.drop a.length
        rw [show (ents pre R).drop a.length = ents pre r by rw [hsp]; unfold ents; rw [List.map_append, List.drop_left' (List.length_map ..)]] at this
        exact this
  · obtain rfl : i = 16 := by omega
    refine rS [.v] H5 kr fun gs4 w5 H6 => ?_
    refine g_seq kr ?_
    refine g_cond_f kr kr ?_
    refine g_exit 0 kr ?_
    show WP _ _ _ _ _ _
    refine rS [.l 1, .s 0] H6 kr fun gs5 w6 H7 => ?_
    refine rRr [.cell 4 146] [0] (.agg (arrF 16 (hpF l br 16 q c)).toArray) (fun v' w' => Below w.heap.size w w' ∧ ∃ q c : Nat → Nat, v' = .agg (arrF 16 (hpF l br 16 q c)).toArray ∧ HpOK C pre l br 16 q c ∧ ∀ j, j < 16 → (cutE j l).length ≤ c j) H7 kr ?_
    exact ⟨H7.below, q, c, rfl, hOK, hcs⟩
end Go.Proofs.YtlhfgbjhngkicaaGreatDoor

namespace Go.Proofs.YtlhfgbjhngkicaaGreatDoor
open Go Go.RowKit
set_option linter.unusedVariables false
def Okl (f : Nat) (l : List Ent) : Prop := ∀ e ∈ l, e.1.length < f ∧ ∀ b ∈ e.1, b.toNat < 16
def NodeC (f : Nat) : Prop := ∀ (l : List Ent) (pre : List UInt8) (ba : Nat) (A : List Nd) (br off cap : Nat) (C : Array Value) (T : TypeId) (fz : Nat × Nat) {B : Nat} {w0 w : World} {L : List (Nat × Obj)}, Arn B w0 w ba A L → (br, Obj.cells C T fz) ∈ L → RowAt pS C off (ents pre l) → Rise l → Okl f l → l.length ≤ cap → (∀ e ∈ l, pre.length + e.1.length ≤ 1000000) → A.length + f * l.length ≤ 1000000000 →
    Calls Tryz.prog 66 #[.pointer (some ⟨ba, 0, none⟩), .slice (some ⟨br, off, none⟩) l.length cap, iN pre.length] w fun ed w' => ∃ v, ed = .returned v ∧ v = .int .i64 (layM f l A).2 ∧ Arn B w0 w' ba (layM f l A).1 L
theorem shr_takeLe {x y : List UInt8} {k : Nat} (h : k ≤ shr x y) : x.take k = y.take k := by
  have := congrArg (List.take k) (shr_take x y)
  rw [List.take_take, List.take_take, Nat.min_eq_left h] at this
  exact this
theorem dropE_rise {l : List Ent} {e : Ent} (h : Rise l) (he : l.head? = some e) : Rise (dropE (commonM l) l) := by
  unfold Rise dropE
  rw [List.pairwise_map]
  refine List.Pairwise.imp_of_mem ?_ h
  intro a b ha hb hab
  refine lexB_drop _ hab ?_
  rw [shr_takeLe (commonM_le he a ha), shr_takeLe (commonM_le he b hb)]
theorem dropE_ents {l : List Ent} {e : Ent} (he : l.head? = some e) (pre : List UInt8) : ents pre l = ents (pre ++ e.1.take (commonM l)) (dropE (commonM l) l) := by
  unfold ents dropE
  rw [List.map_map]
  refine List.map_congr_left fun x hx => ?_
  simp only [Function.comp]
  rw [← shr_takeLe (commonM_le he x hx), List.append_assoc, List.take_append_drop]
theorem dropE_ok {f : Nat} {l : List Ent} {e : Ent} (he : l.head? = some e) (hk : 0 < commonM l) (h : Okl (f + 1) l) : Okl f (dropE (commonM l) l) := fun x hx => by
  unfold dropE at hx
  obtain ⟨y, hy, rfl⟩ := List.mem_map.1 hx
  obtain ⟨h1, h2⟩ := h y hy
  have h3 := commonM_le he y hy
  have h4 := (shr_le y.1 e.1).1
  exact ⟨by simp only [List.length_drop]; omega, fun b hb => h2 b (List.mem_of_mem_drop hb)⟩
theorem last_at {l : List Ent} (h : l ≠ []) : ∃ z, l.getLast? = some z ∧ l[l.length - 1]? = some z := by
  refine ⟨l.getLast h, List.getLast?_eq_some_getLast h, ?_⟩
  have h0 : l.length - 1 < l.length := by have := List.length_pos_iff.2 h; omega
  rw [List.getElem?_eq_getElem h0, List.getLast_eq_getElem]
set_option maxRecDepth 100000 in
set_option maxHeartbeats 4000000 in
theorem joint_c (f : Nat) (ih : NodeC f) (e e' : Ent) (r : List Ent) (pre : List UInt8) (ba : Nat) (A : List Nd) (br off cap : Nat) (C : Array Value) (T : TypeId) (fz : Nat × Nat) {B : Nat} {w0 w : World} {L : List (Nat × Obj)} (h : Arn B w0 w ba A L) (hm : (br, Obj.cells C T fz) ∈ L) (hR : RowAt pS C off (ents pre (e :: e' :: r)))
    (hrise : Rise (e :: e' :: r)) (hok : Okl (f + 1) (e :: e' :: r)) (hcap : (e :: e' :: r).length ≤ cap) (hpf : ∀ x ∈ e :: e' :: r, pre.length + x.1.length ≤ 1000000) (hA : A.length + (f + 1) * (e :: e' :: r).length ≤ 1000000000) (hk : 0 < commonM (e :: e' :: r)) :
    Calls Tryz.prog 91 #[.pointer (some ⟨ba, 0, none⟩), .slice (some ⟨br, off, none⟩) (e :: e' :: r).length cap, iN pre.length] w fun ed w' => ∃ v, ed = .returned v ∧ v = .int .i64 (layM (f + 1) (e :: e' :: r) A).2 ∧ Arn B w0 w' ba (layM (f + 1) (e :: e' :: r) A).1 L := by
  unfold layM
  rw [if_pos hk]
  generalize hle : e :: e' :: r = l at *
  have hhd : l.head? = some e := by rw [← hle]; rfl
  obtain ⟨z, hz, hz2⟩ := last_at (l := l) (by rw [← hle]; simp)
  have hl0 : l[0]? = some e := by rw [← hle]; rfl
  have hcz : commonM l = shr e.1 z.1 := by rw [← hle] at hz hrise ⊢; exact common_last hrise hz
  obtain ⟨k, hkk⟩ : ∃ k, commonM l = k := ⟨_, rfl⟩
  obtain ⟨hoe1, hoe2⟩ := hok e (List.mem_of_getElem? hl0)
  obtain ⟨hoz1, hoz2⟩ := hok z (List.mem_of_getElem? hz2)
  have hpe := hpf e (List.mem_of_getElem? hl0)
  have hpz := hpf z (List.mem_of_getElem? hz2)
  have hke : k ≤ e.1.length := by rw [← hkk, hcz]; exact (shr_le _ _).1
  have hmul : (f + 1) * l.length = f * l.length + l.length := Nat.succ_mul ..
  have hlen : (ents pre l).length = l.length := ents_len ..
  have hcom : shr (tl (strB (pre ++ e.1))) (tl (strB (pre ++ z.1))) = pre.length + k := by rw [tl_strB, tl_strB, shr_pre, ← hcz, hkk]
  have hlay := layM_len f (dropE k l) A
  rw [dropE_len] at hlay
  rw [hkk]
  have hrise' := dropE_rise hrise hhd
  have hents := dropE_ents hhd pre
  have hok' := dropE_ok hhd hk hok
  rw [hkk] at hrise' hents hok'
  obtain ⟨X, hX⟩ : ∃ X, layM f (dropE k l) A = X := ⟨_, rfl⟩
  rw [hX] at hlay ⊢
  refine calls_intro (c := codeOf Tryz.f91) (rs := [.tmp 6]) (N := 28) Tryz.func91 kr kr kr ?_
  obtain ⟨p, n, c, row, hrow, H0⟩ := h
  refine rS [.v] H0 kr fun gs1 w1 H1 => ?_
  refine g_sreg [0, 1, 2] kr kr ?_
  refine rp [.v] H1 kr fun gs2 w2 H2 => ?_
  show WPs _ _ _ _ [1, 2] _ _
  have H3 : St B w0 w2 ((ba, arO p n c) :: (row ++ L)) := H2.as kr
  refine s_callP H3 (some 10) 90 #[.slice (some ⟨br, off, none⟩) l.length cap] _ _ (common_fn br off l.length cap C T fz (ents pre l) _ _ hR hlen (by omega) (ents_at hl0) (ents_at hz2) (by rw [strB_size, List.length_append]; omega) (by rw [strB_size, List.length_append]; omega)) (H3.own _ (List.mem_cons_of_mem _ (List.mem_append_right _ hm))).2 (fun w => by kernel_rfl) kr ?_
  intro w3 H4
  rw [hcom]
  refine rp [.v] H4 kr fun gs3 w4 H5 => ?_
  show WPs _ _ _ _ [] _ _
  refine s_nil ?_
  refine g_sreg [0, 1, 2] kr kr ?_
  refine rp [.c alone_fn] H5 kr fun gs4 w5 H6 => ?_
  show WPs _ _ _ _ [1, 2] _ _
  have H7 : St B w0 w5 ((ba, arO p n c) :: (row ++ L)) := H6.as kr
  refine s_alloc H7 (some 8) 56 (.agg (arrF 16 fun _ => .int .i64 0).toArray) kr kr kr ?_
  intro bk w6 H8
  refine rp [.s 0] H8 kr fun gs5 w7 H9 => ?_
  show WPs _ _ _ _ [] _ _
  refine s_nil ?_
  have H10 : St B w0 w7 ((bk, .cells (kidC aloneL).toArray 56 (0, 0)) :: (ba, arO p n c) :: (row ++ L)) := H9.as kr
  have A1 : Arn B w0 w7 ba A ((bk, .cells (kidC aloneL).toArray 56 (0, 0)) :: L) := ⟨p, n, c, row, hrow, H10.perm ((List.Perm.cons _ List.perm_middle).trans (List.Perm.swap _ _ _))⟩
  refine g_sreg [0, 1, 2, 3, 4, 5] kr kr ?_
  refine rp [.v, .v, .v] H10 kr fun gs6 w8 H11 => ?_
  show WPs _ _ _ _ [3, 4, 5] _ _
  have H12 : St B w0 w8 ((bk, .cells (kidC aloneL).toArray 56 (0, 0)) :: (ba, arO p n c) :: (row ++ L)) := H11.as kr
  have A2 : Arn B w0 w8 ba A ((bk, .cells (kidC aloneL).toArray 56 (0, 0)) :: L) := ⟨p, n, c, row, hrow, H12.perm ((List.Perm.cons _ List.perm_middle).trans (List.Perm.swap _ _ _))⟩
  have hplen : (pre ++ e.1.take k).length = pre.length + k := by rw [List.length_append, List.length_take, Nat.min_eq_left hke]
  have hpf' : ∀ x ∈ dropE k l, (pre ++ e.1.take k).length + x.1.length ≤ 1000000 := fun x hx => by
    unfold dropE at hx
    obtain ⟨y, hy, rfl⟩ := List.mem_map.1 hx
    have h3 := hpf y hy
    have h4 := commonM_le hhd y hy
    have h5 := (shr_le y.1 e.1).1
    rw [hplen]; simp only [List.length_drop]; omega
  have hcall := ih (dropE k l) (pre ++ e.1.take k) ba A br off cap C T fz A2 (List.mem_cons_of_mem _ hm) (hents ▸ hR) hrise' hok' (by rw [dropE_len]; exact hcap) hpf' (by rw [dropE_len]; omega)
  rw [hX, dropE_len, hplen] at hcall
  refine s_callC (some 15) 66 #[.pointer (some ⟨ba, 0, none⟩), .slice (some ⟨br, off, none⟩) l.length cap, iN (pre.length + k)] hcall kr kr ?_
  rintro _ w9 ⟨rfl, p', n', c', row', hrow', H13⟩
  have H14 : St B w0 w9 ((bk, .cells (kidC aloneL).toArray 56 (0, 0)) :: (ba, arO p' n' c') :: (row' ++ L)) := H13.perm ((List.Perm.swap _ _ _).trans (List.Perm.cons _ List.perm_middle.symm))
  refine rp [.v, .s 0] H14 kr fun gs7 w10 H15 => ?_
  show WPs _ _ _ _ [] _ _
  refine s_nil ?_
  have H16 : St B w0 w10 ((bk, .cells (kidC (X.2 :: List.replicate 15 (-1))).toArray 56 (0, 0)) :: (ba, arO p' n' c') :: (row' ++ L)) := H15.as kr
  have A3 : Arn B w0 w10.drew ba X.1 ((bk, .cells (kidC (X.2 :: List.replicate 15 (-1))).toArray 56 (0, 0)) :: L) := ⟨p', n', c', row', hrow', H16.drew.perm ((List.Perm.cons _ List.perm_middle).trans (List.Perm.swap _ _ _))⟩
  have c1 : C[off + 0 * 2]? = some (.string (strB (pre ++ e.1))) := hR.cell (ents_at hl0) 0 (by decide)
  have hl1 : 0 < l.length := by rw [← hle]; simp
  refine g_seq kr ?_
  refine D2.g_draw0 [0, 1, 2, 3, 4, 5, 6, 7, 8, 9, 10, 11] [(some 17, fun _ => .pointer (some ⟨ba, 0, none⟩)), (some 18, fun _ => .slice (some ⟨br, off, none⟩) l.length cap), (some 19, fun _ => .pointer (some ⟨br, off + 0 * 2, none⟩)), (some 20, fun _ => .pointer (some ⟨br, off + 0 * 2, none⟩)), (some 21, fun _ => .string (strB (pre ++ e.1))), (some 22, fun _ => iN pre.length), (some 23, fun _ => iN (pre.length + k)), (some 24, fun _ => .string (strB (e.1.take k))), (some 25, fun _ => .agg (kidC (X.2 :: List.replicate 15 (-1))).toArray), (some 26, fun _ => ndV ⟨2, strB (e.1.take k), ⟨#[]⟩, X.2 :: List.replicate 15 (-1)⟩), (some 27, fun _ => iN X.1.length), (some 6, fun _ => iN X.1.length)]
    (D2.two 10 (fun w => Arn B w0 w ba X.1 ((bk, .cells (kidC (X.2 :: List.replicate 15 (-1))).toArray 56 (0, 0)) :: L)) (fun _ w => Arn B w0 w ba (X.1 ++ [⟨2, strB (e.1.take k), ⟨#[]⟩, X.2 :: List.replicate 15 (-1)⟩]) ((bk, .cells (kidC (X.2 :: List.replicate 15 (-1))).toArray 56 (0, 0)) :: L))) kr kr kr A3 ⟨?_, ?_, ?_, ?_, ?_, ?_, ?_, ?_, ?_, ?_, ?_, ?_, trivial⟩ ?_
  · exact D2.gv_val (fun _ _ _ h => h) (fun g w => by kernel_rfl)
  · exact D2.gv_val (fun _ _ _ h => h) (fun g w => by kernel_rfl)
  · exact D2.gv_op (fun _ _ _ h => h) _ (fun g => by kernel_rfl) (fun g o w ho => idxP_run (kd := .i64) (t := 107) (e := 109) (K := 2) (bytes := 32) kr (x := (.tmp 18)) (y := (.const (.int .i64 0))) br off l.length cap 0 rfl ho kr kr hl1 w)
  · exact D2.gv_val (fun _ _ _ h => h) (fun g w => by kernel_rfl)
  · refine D2.gv_opW (fun _ _ _ h => h) (.load 9 (.tmp 20)) (fun g => by kernel_rfl) (fun L g o w hN hp ho => ?_)
    exact load_at ((hp.bef (hN.2.2.no 9 10 kr (hN.2.2.no 7 9 kr (hN.post 7 kr)))).mem (List.mem_cons_of_mem _ hm)) kr kr c1 o ho
  · exact D2.gv_val (fun _ _ _ h => h) (fun g w => by kernel_rfl)
  · exact D2.gv_val (fun _ _ _ h => h) (fun g w => by kernel_rfl)
  · exact D2.gv_opE (fun _ _ _ h => h) _ (fun g => by kernel_rfl) (fun g o w ho => scut2_run (t := 9) (kd := .i64) (kz := .i64) kr (x := (.tmp 21)) (y := (.tmp 23)) (z := (.tmp 22)) (strB (pre ++ e.1)) pre.length (pre.length + k) ho kr kr kr (by rw [strB_size, List.length_append]; omega) (by omega) w) (congrArg Value.string (ext_mid pre e.1 _ _ k rfl rfl))
  · refine D2.gv_ld (fun _ _ _ h => h) 56 (.tmp 8) (fun _ => bk) 0 (kidC (X.2 :: List.replicate 15 (-1))).toArray 56 (0, 0) (fun g => by kernel_rfl) (fun g => by kernel_rfl) (fun L g w hN hp => ?_) kr kr
    exact (hp.bef (hN.2.2.no 9 10 kr (hN.post 9 kr))).mem (List.mem_cons_self ..)
  · exact D2.gv_val (fun _ _ _ h => h) (fun g w => by kernel_rfl)
  · refine D2.gv_cc 106 #[.pointer (some ⟨ba, 0, none⟩), ndV ⟨2, strB (e.1.take k), ⟨#[]⟩, X.2 :: List.replicate 15 (-1)⟩] (fun L g w hN hp => ?_) (fun g w => by kernel_rfl)
    refine (add_c _ ba X.1 (hp.bef hN.1) (by omega)).mono ?_
    rintro ed w' ⟨v, rfl, rfl, h2⟩
    exact ⟨_, rfl, default, rfl, D2.two.to h2⟩
  · exact D2.gv_val (fun _ _ _ h => h) (fun g w => by kernel_rfl)
  · intro L1 gg w14 hall hp
    have h2 := hp.aft (hall 10 (Nat.le_of_ble_eq_true kr))
    show WP _ _ _ _ _ _
    refine g_ret kr ?_
    show ∃ vs, Res _ _ _ _ vs ∧ _
    exact ⟨[iN X.1.length], (.tmp (iN X.1.length) kr .nil), rfl, h2.sub (List.sublist_cons_self ..)⟩
end Go.Proofs.YtlhfgbjhngkicaaGreatDoor

namespace Go.Proofs.YtlhfgbjhngkicaaGreatDoor
open Go Go.RowKit
set_option linter.unusedVariables false
section
variable {P : Program} {N : Nat} {ops : Array Oper} {i : Nat} {r : List Nat} {K : Env → World → Prop} {ρ : Env} {w : World}
theorem s_ld1 (d : Option Nat) (t : TypeId) (x : Operand) (b off : Nat) {C : Array Value} {T : TypeId} {fz : Nat × Nat} (v : Value) (h : opk ops i ρ = some (d, true, .load t x)) (hd : dOK d N = true) (ht : oneCell P t = true) (hx : ev ρ x = .pointer (some ⟨b, off, none⟩))
    (hh : w.heap[b]? = some (.cells C T fz)) (hv : C[off]? = some v) (kk : WPs P N ops K r (updO ρ d v) w) : WPs P N ops K (i :: r) ρ w := by
  obtain ⟨o, ho, rfl, hw, hop⟩ := opk_some h
  refine WPo.run ho hw fun a ha => ?_
  rw [load_at hh ht hx hv o hop, Oper.upon_value]
  exact ⟨_, ha.put _ (dOK_lt hd) _, kk⟩
end
theorem arr_indexS {P : Program} {ρ : Env} {t e e2 : TypeId} {n : Nat} (ht : P.underlying t = some (.array n e)) (he : P.underlying e = some (.slice e2)) (hz : (P.info? e).map (·.size) = some 1) {x y : Operand} {o : Oper} {kd : IntKind} (C : Array Value) (k : Nat) (v : Value)
    (ho : o.op = .index t x y) (hx : ev ρ x = .agg C) (hy : ev ρ y = .int kd (k : Int)) (hk : k < n) (hv : C[0 + k * 1]? = some v) : ∀ w, (execOp (ev ρ) o).run P w = .ok (.value v) w := fun w => by
  obtain ⟨it, hi, hsz⟩ := Option.map_eq_some_iff.1 hz
  have hS : (sizeOf e).run P w = .ok 1 w := by simp [sizeOf, typeInfo, hi, hsz]
  have hv2 : C[k]? = some v := by rw [Nat.zero_add, Nat.mul_one] at hv; exact hv
  have hp : (part e C k).run P w = .ok v w := by
    unfold part isAgg
    simp [run_underlying he, hv2]
  have h1 : (0 : Int) ≤ (k : Int) ∧ (k : Int) < (n : Int) := by omega
  unfold execOp
  simp [ho, hx, hy, Instr.index, asIntOf, run_underlying ht, hS, hp, hk]
theorem cutE_rise {l : List Ent} (c : Nat) (h : Rise l) : Rise (cutE c l) := by
  unfold Rise cutE
  refine List.Pairwise.filterMap _ ?_ h
  rintro ⟨x, v⟩ ⟨y, v'⟩ hab a ha b hb
  cases x with
  | nil => simp at ha
  | cons a0 x =>
    cases y with
    | nil => simp at hb
    | cons b0 y =>
      simp only [Option.ite_none_right_eq_some, Option.some.injEq] at ha hb
      obtain ⟨ha0, rfl⟩ := ha
      obtain ⟨hb0, rfl⟩ := hb
      rcases lexB_cons hab with q | ⟨_, q⟩
      · omega
      · exact q
theorem cutE_mem {l : List Ent} {c : Nat} {x : Ent} (h : x ∈ cutE c l) : ∃ b, (b :: x.1, x.2) ∈ l ∧ b.toNat = c := by
  unfold cutE at h
  obtain ⟨⟨y, v⟩, hy, he⟩ := List.mem_filterMap.1 h
  cases y with
  | nil => simp at he
  | cons b t =>
    simp only [Option.ite_none_right_eq_some, Option.some.injEq] at he
    obtain ⟨hb, rfl⟩ := he
    exact ⟨b, hy, hb⟩
theorem cutE_ok {f : Nat} {l : List Ent} (c : Nat) (h : Okl (f + 1) l) : Okl f (cutE c l) := fun x hx => by
  obtain ⟨b, hb, _⟩ := cutE_mem hx
  obtain ⟨h1, h2⟩ := h _ hb
  exact ⟨by simp only [List.length_cons] at h1; omega, fun y hy => h2 y (List.mem_cons_of_mem _ hy)⟩
theorem kidsW_get (lay : List Ent → List Nd → List Nd × Int) (l : List Ent) (A : List Nd) : ∀ (n j : Nat), j < n → (kidsW lay l n A).2.getD j (-1) = (lay (cutE j l) (kidsW lay l j A).1).2
  | n + 1, j, h => by
    have hl := kidsW_len lay l n A
    have hu : (kidsW lay l (n + 1) A).2 = (kidsW lay l n A).2 ++ [(lay (cutE n l) (kidsW lay l n A).1).2] := rfl
    rw [List.getD_eq_getElem?_getD, hu]
    by_cases h1 : j = n
    · subst h1; rw [List.getElem?_append_right (by omega), hl, Nat.sub_self]; rfl
    · rw [List.getElem?_append_left (by omega), ← List.getD_eq_getElem?_getD]
      exact kidsW_get lay l A n j (by omega)
theorem kidsW_size (f : Nat) (l : List Ent) (A : List Nd) (n : Nat) : (kidsW (layM f) l n A).1.length ≤ A.length + f * ((List.range n).map fun c => (cutE c l).length).sum := by
  induction n with
  | zero => simp [kidsW]
  | succ n ih =>
    have := layM_len f (cutE n l) (kidsW (layM f) l n A).1
    rw [List.range_succ, List.map_append, List.sum_append, Nat.mul_add]
    simp only [kidsW, List.map_cons, List.map_nil, List.sum_cons, List.sum_nil, Nat.add_zero]
    omega
theorem kidsW_room (f : Nat) (l : List Ent) (A : List Nd) (n : Nat) : (kidsW (layM f) l n A).1.length + f * (cutE n l).length ≤ A.length + f * l.length := by
  have h1 := kidsW_size f l A n
  have h2 := Nat.mul_le_mul_left f (cutE_len l (n + 1))
  rw [List.range_succ, List.map_append, List.sum_append, Nat.mul_add] at h2
  simp only [List.map_cons, List.map_nil, List.sum_cons, List.sum_nil, Nat.add_zero] at h2
  omega
theorem valE_none : ∀ {l : List Ent}, (∀ e ∈ l, e.1 ≠ []) → valE l = ⟨#[]⟩
  | [], _ => rfl
  | e :: r, h => by unfold valE; rw [if_neg (h e (List.mem_cons_self ..))]; exact valE_none fun x hx => h x (List.mem_cons_of_mem _ hx)
theorem rise_ne {e : Ent} {r : List Ent} (h : Rise (e :: r)) : ∀ x ∈ r, x.1 ≠ [] := fun x hx e0 => by
  have := (List.pairwise_cons.1 h).1 x hx
  rw [e0, lexB_nil] at this; cases this
abbrev bnO (v : ByteArray) (g : Nat → Value) : Obj := .cells ([Value.int .i64 3, Value.string ⟨#[]⟩, Value.string v] ++ arrF 16 g).toArray 58 (0, 0)
set_option maxRecDepth 100000 in
set_option maxHeartbeats 4000000 in
theorem branch_c (f : Nat) (ih : NodeC f) (e e' : Ent) (r : List Ent) (pre : List UInt8) (ba : Nat) (A : List Nd) (br off cap : Nat) (C : Array Value) (T : TypeId) (fz : Nat × Nat) {B : Nat} {w0 w : World} {L : List (Nat × Obj)} (h : Arn B w0 w ba A L) (hm : (br, Obj.cells C T fz) ∈ L) (hR : RowAt pS C off (ents pre (e :: e' :: r)))
    (hrise : Rise (e :: e' :: r)) (hok : Okl (f + 1) (e :: e' :: r)) (hcap : (e :: e' :: r).length ≤ cap) (hpf : ∀ x ∈ e :: e' :: r, pre.length + x.1.length ≤ 1000000) (hA : A.length + (f + 1) * (e :: e' :: r).length ≤ 1000000000) (hk : ¬ 0 < commonM (e :: e' :: r)) :
    Calls Tryz.prog 88 #[.pointer (some ⟨ba, 0, none⟩), .slice (some ⟨br, off, none⟩) (e :: e' :: r).length cap, iN pre.length] w fun ed w' => ∃ v, ed = .returned v ∧ v = .int .i64 (layM (f + 1) (e :: e' :: r) A).2 ∧ Arn B w0 w' ba (layM (f + 1) (e :: e' :: r) A).1 L := by
  unfold layM
  rw [if_neg hk]
  have hne : ∀ x ∈ e' :: r, x.1 ≠ [] := rise_ne hrise
  generalize hle : e :: e' :: r = l at *
  have hl0 : l[0]? = some e := by rw [← hle]; rfl
  have hl2 : 2 ≤ l.length := by rw [← hle]; simp
  have hpe := hpf e (List.mem_of_getElem? hl0)
  have hmul : (f + 1) * l.length = f * l.length + l.length := Nat.succ_mul ..
  have c1 : C[off + 0 * 2]? = some (.string (strB (pre ++ e.1))) := hR.cell (ents_at hl0) 0 (by decide)
  have c2 : C[off + 0 * 2 + 1]? = some (.string e.2) := hR.cell (ents_at hl0) 1 (by decide)
  refine calls_intro (c := codeOf Tryz.f88) (rs := [.tmp 6]) (N := 44) Tryz.func88 kr kr kr ?_
  obtain ⟨p, n, c, row, hrow, H0⟩ := h
  refine rS [.v] H0 kr fun gs1 w1 H1 => ?_
  refine g_sreg [0, 1, 2] kr kr ?_
  refine rp [.v] H1 kr fun gs2 w2 H2 => ?_
  show WPs _ _ _ _ [1, 2] _ _
  have H3 : St B w0 w2 ((ba, arO p n c) :: (row ++ L)) := H2.as kr
  refine s_alloc H3 (some 7) 58 (.agg ([Value.int .i64 0, Value.string ⟨#[]⟩, Value.string ⟨#[]⟩] ++ arrF 16 fun _ => .int .i64 0).toArray) kr kr kr ?_
  intro b7 w3 H4
  refine rp [.s 0] H4 kr fun gs3 w4 H5 => ?_
  show WPs _ _ _ _ [] _ _
  refine s_nil ?_
  have H6 : St B w0 w4 ((b7, bnO ⟨#[]⟩ fun _ => .int .i64 0) :: (ba, arO p n c) :: (row ++ L)) := H5.as kr
  clear H0 H1 H2 H3 H4 H5
  have hbr : ∀ {w' : World} {x : Nat × Obj} {y : Nat × Obj} {row' : List (Nat × Obj)}, St B w0 w' (x :: y :: (row' ++ L)) → w'.heap[br]? = some (.cells C T fz) := fun hS => (hS.own _ (List.mem_cons_of_mem _ (List.mem_cons_of_mem _ (List.mem_append_right _ hm)))).2
  refine g_seq kr ?_
  refine g_mono (Q := fun ed ρ ww => ed = .normal ∧ ∃ (l' : List Ent) (off' m' cap' : Nat) (v : ByteArray), m' = l'.length ∧ FromC 0 l' ∧ Rise l' ∧ RowAt pS C off' (ents pre l') ∧ l'.length ≤ cap' ∧ l'.length ≤ 1000000000 ∧ (∀ c, cutE c l' = cutE c l) ∧ v = valE l ∧
      St B w0 ww ((b7, bnO v fun _ => .int .i64 0) :: (ba, arO p n c) :: (row ++ L)) ∧ Is [(0, .pointer (some ⟨ba, 0, none⟩)), (1, .slice (some ⟨br, off', none⟩) m' cap'), (2, iN pre.length), (7, .pointer (some ⟨b7, 0, none⟩))] ρ) ?_ ?_
  · refine g_seq kr ?_
    refine g_reg [0, 1, 2, 3, 4, 5, 6] kr ?_
    refine rp [.v, .o (ins := [((.tmp 11), .slice (some ⟨br, off, none⟩) l.length cap), ((.const (.int .i64 0)), .int .i64 0)]) (v := .pointer (some ⟨br, off + 0 * 2, none⟩)) (fun ρ o w ho hi2 => idxP_run (kd := .i64) (t := 107) (e := 109) (K := 2) (bytes := 32) kr (x := (.tmp 11)) (y := (.const (.int .i64 0))) br off l.length cap 0 rfl ho hi2.1 hi2.2.1 (by omega) w), .v] H6 kr fun gs4 w5 H7 => ?_
    show WPs _ _ _ _ [3, 4, 5, 6] _ _
    have H8 : St B w0 w5 ((b7, bnO ⟨#[]⟩ fun _ => .int .i64 0) :: (ba, arO p n c) :: (row ++ L)) := H7.as kr
    refine s_ld1 (some 14) 9 (.tmp 13) br (off + 0 * 2) (.string (strB (pre ++ e.1))) kr kr kr kr (hbr H8) c1 ?_
    by_cases he0 : e.1 = []
    · refine rp [.v, .v, .e (v := .bool ((((strB (pre ++ e.1)).size : Nat) : Int) == ((pre.length : Nat) : Int))) (v' := .bool true) (bool_eq (beq_iff_eq.2 (by rw [strB_size, he0, List.append_nil])))] H8 kr fun gs5 w6 H9 => ?_
      show WPs _ _ _ _ [] _ _
      refine s_nil ?_
      show WP _ _ _ _ _ _
      refine g_cond_t kr kr ?_
      refine g_sreg [0, 1, 2, 3, 4, 5] kr kr ?_
      refine rp [.v, .o (ins := [((.tmp 18), .slice (some ⟨br, off, none⟩) l.length cap), ((.const (.int .i64 0)), .int .i64 0)]) (v := .pointer (some ⟨br, off + 0 * 2, none⟩)) (fun ρ o w ho hi2 => idxP_run (kd := .i64) (t := 107) (e := 109) (K := 2) (bytes := 32) kr (x := (.tmp 18)) (y := (.const (.int .i64 0))) br off l.length cap 0 rfl ho hi2.1 hi2.2.1 (by omega) w), .v] H9 kr fun gs6 w7 H10 => ?_
      show WPs _ _ _ _ [3, 4, 5] _ _
      have H11 : St B w0 w7 ((b7, bnO ⟨#[]⟩ fun _ => .int .i64 0) :: (ba, arO p n c) :: (row ++ L)) := H10.as kr
      refine s_ld1 (some 21) 9 (.tmp 20) br (off + 0 * 2 + 1) (.string e.2) kr kr kr kr (hbr H11) c2 ?_
      refine rp [.v, .s 0] H11 kr fun gs7 w8 H12 => ?_
      show WPs _ _ _ _ [] _ _
      refine s_nil ?_
      refine rL [.v, .o (ins := [((.tmp 23), .slice (some ⟨br, off, none⟩) l.length cap), ((.const (.int .i64 1)), .int .i64 1)]) (v := .slice (some ⟨br, if cap = 1 then off else off + 1 * 2, none⟩) (l.length - 1) (cap - 1)) (fun ρ o w ho hi2 => cutL_run (kz := .i64) (t := 107) (e := 109) (size := 2) (bytes := 32) kr (x := (.tmp 23)) (z := (.const (.int .i64 1))) br off l.length cap 1 ho hi2.1 hi2.2.1 (by omega) hcap w), .v] H12 kr fun gs8 w9 H13 => ?_
      have hd1 : l.drop 1 = e' :: r := by rw [← hle]; rfl
      refine ⟨rfl, e' :: r, (if cap = 1 then off else off + 1 * 2), l.length - 1, cap - 1, e.2, by rw [← hle]; rfl, fun x hx => ?_, ?_, ?_, ?_, ?_, fun c => ?_, ?_, H13.as kr, (Is.of ⟨kr, kr, kr, kr, trivial⟩)⟩
      · have hx2 : x ∈ l := by rw [← hle]; exact List.mem_cons_of_mem _ hx
        have hb := (hok x hx2).2
        have hn0 := hne x hx
        obtain ⟨y, v⟩ := x
        cases y with
        | nil => exact absurd rfl hn0
        | cons b t => exact ⟨b, t, rfl, Nat.zero_le _, hb b (List.mem_cons_self ..)⟩
      · rw [← hle] at hrise; exact hrise.tail
      · rw [if_neg (by omega)]
        have := hR.drop 1
        rw [show (ents pre l).drop 1 = ents pre (e' :: r) by rw [← hd1]; unfold ents; rw [List.map_drop]] at this
        exact this
      · rw [← hd1, List.length_drop]; omega
      · rw [← hd1, List.length_drop]; omega
      · rw [← hle]; obtain ⟨y, v⟩ := e; simp only at he0; subst he0; rfl
      · rw [← hle]; unfold valE; rw [if_pos he0]
    · refine rp [.v, .v, .e (v := .bool ((((strB (pre ++ e.1)).size : Nat) : Int) == ((pre.length : Nat) : Int))) (v' := .bool false) (bool_eq (beq_eq_false_iff_ne.2 (by
        have : e.1.length ≠ 0 := fun q => he0 (List.eq_nil_of_length_eq_zero q)
        rw [strB_size, List.length_append]; omega)))] H8 kr fun gs5 w6 H9 => ?_
      show WPs _ _ _ _ [] _ _
      refine s_nil ?_
      show WP _ _ _ _ _ _
      refine g_cond_f kr kr ?_
      refine g_skip kr ?_
      have hall : ∀ x ∈ l, x.1 ≠ [] := fun x hx => by
        rw [← hle] at hx
        rcases List.mem_cons.1 hx with rfl | hx
        · exact he0
        · exact hne x hx
      refine ⟨rfl, l, off, l.length, cap, ⟨#[]⟩, rfl, fun x hx => ?_, hrise, hR, hcap, by omega, fun _ => rfl, (valE_none hall).symm, H9.as kr, (Is.of ⟨kr, kr, kr, kr, trivial⟩)⟩
      have hb := (hok x hx).2
      have hn0 := hall x hx
      obtain ⟨y, v⟩ := x
      cases y with
      | nil => exact absurd rfl hn0
      | cons b t => exact ⟨b, t, rfl, Nat.zero_le _, hb b (List.mem_cons_self ..)⟩
  rintro _ _ w5 ⟨rfl, l', off', m', cap', v, rfl, hF', hrise', hR', hcap', hlen', hcut, hv, H7, _, rfl⟩
  show WP _ _ _ _ _ _
  refine g_seq kr ?_
  refine g_sreg [0, 1, 2, 3] kr kr ?_
  refine rp [.v, .v] H7 kr fun gs4 w6 H8 => ?_
  show WPs _ _ _ _ [2, 3] _ _
  have H9 : St B w0 w6 ((b7, bnO v fun _ => .int .i64 0) :: (ba, arO p n c) :: (row ++ L)) := H8.as kr
  refine s_callR H9 (some 27) 105 #[.slice (some ⟨br, off', none⟩) l'.length cap', iN pre.length] _ _ (heaps_fn l' pre br off' cap' C T fz hR' hrise' hF' hlen' hcap' (by omega)) (hbr H9) kr kr ?_
  rintro _ w7 _ H10 ⟨q, cc, rfl, hHp, hcs⟩
  refine rp [.v] H10 kr fun gs5 w8 H11 => ?_
  show WPs _ _ _ _ [] _ _
  refine s_nil ?_
  refine g_block 0 kr ?_
  have H12 : St B w0 w8 ((b7, bnO v fun _ => .int .i64 0) :: (ba, arO p n c) :: (row ++ L)) := H11.as kr
  clear H6 H7 H8 H9 H10 H11
  let kd : Nat → Int := fun j => (layM f (cutE j l) (kidsW (layM f) l j A).1).2
  have hkd : ∀ j, (layM f (cutE j l) (kidsW (layM f) l j A).1).2 = kd j := fun _ => rfl
  generalize kd = kd at hkd
  refine g_loop kr (fun mz ρ ww => ∃ (i : Nat) (p : Option Addr) (n c : Nat) (row : List (Nat × Obj)), 16 - i = mz ∧ i ≤ 16 ∧ RowF nS 58 p n c row (kidsW (layM f) l i A).1 ∧ St B w0 ww ((b7, bnO v fun j => .int .i64 (if j < i then kd j else 0)) :: (ba, arO p n c) :: (row ++ L)) ∧ Is [(0, .pointer (some ⟨ba, 0, none⟩)), (2, iN pre.length), (7, .pointer (some ⟨b7, 0, none⟩)), (27, .agg (arrF 16 (hpF l' br 16 q cc)).toArray), (28, iN i)] ρ) (16 - 0) ⟨0, p, n, c, row, rfl, Nat.zero_le _, hrow, H12, (Is.of ⟨kr, kr, kr, kr, kr, trivial⟩)⟩ ?_
  clear H12
  rintro _ _ w9 ⟨i, p, n, c, row, rfl, hi16, hrow, H13, _, rfl⟩
  by_cases hi : i < 16
  · refine rS [.e (v := .bool (decide (((i : Nat) : Int) < 16))) (v' := .bool true) (bool_eq (decide_eq_true (by omega)))] H13 kr fun gs6 w10 H14 => ?_
    refine g_seq kr ?_
    refine g_cond_t kr kr ?_
    refine g_skip kr ?_
    show WP _ _ _ _ _ _
    refine g_seq kr ?_
    refine g_block 1 kr ?_
    have hval : (arrF 16 (hpF l' br 16 q cc)).toArray[0 + i * 1]? = some (.slice (some ⟨br, q i, none⟩) (cutE i l').length (cc i)) := by
      rw [List.getElem?_toArray, Nat.zero_add, Nat.mul_one, arrF_get hi]; unfold hpF; rw [if_pos hi]
    refine rS [.v, .o (ins := [((.tmp 27), .agg (arrF 16 (hpF l' br 16 q cc)).toArray), ((.tmp 28), iN i)]) (v := .slice (some ⟨br, q i, none⟩) (cutE i l').length (cc i)) (fun ρ o w ho hi2 => arr_indexS (t := 146) (e := 107) (e2 := 109) (n := 16) (kd := .i64) kr kr kr (x := (.tmp 27)) (y := (.tmp 28)) _ i _ ho hi2.1 hi2.2.1 hi hval w), .v, .v] H14 kr fun gs7 w11 H15 => ?_
    refine g_reg0 [0, 1, 2, 3, 4, 5, 6, 7, 8] kr ?_
    refine rp [.v, .v, .v, .v, .e (v := .int .i64 (IntKind.i64.wrap (((pre.length : Nat) : Int) + 1))) (v' := iN (pre.length + 1)) (int_eq (wrapAdd_i64 (a := pre.length) (b := 1) (by omega)))] H15 kr fun gs8 w12 H16 => ?_
    show WPs _ _ _ _ [5, 6, 7, 8] _ _
    have H17 : St B w0 w12 ((b7, bnO v fun j => .int .i64 (if j < i then kd j else 0)) :: (ba, arO p n c) :: (row ++ L)) := H16.as kr
    have A2 : Arn B w0 w12 ba (kidsW (layM f) l i A).1 ((b7, bnO v fun j => .int .i64 (if j < i then kd j else 0)) :: L) := ⟨p, n, c, row, hrow, H17.perm ((List.Perm.cons _ List.perm_middle).trans (List.Perm.swap _ _ _))⟩
    have hroom := kidsW_room f l A i
    have hcall := ih (cutE i l) (pre ++ [UInt8.ofNat i]) ba (kidsW (layM f) l i A).1 br (q i) (cc i) C T fz A2 (List.mem_cons_of_mem _ hm) (by rw [← hcut i]; exact hHp i hi) (cutE_rise i hrise) (cutE_ok i hok) (by rw [← hcut i]; exact hcs i hi) (fun x hx => by
      obtain ⟨b, hb, _⟩ := cutE_mem hx
      have := hpf _ hb
      simp only [List.length_append, List.length_cons, List.length_nil] at this ⊢; omega) (by omega)
    rw [hkd i, show (pre ++ [UInt8.ofNat i]).length = pre.length + 1 by simp, ← hcut i] at hcall
    refine s_callC (some 37) 66 #[.pointer (some ⟨ba, 0, none⟩), .slice (some ⟨br, q i, none⟩) (cutE i l').length (cc i), iN (pre.length + 1)] hcall kr kr ?_
    rintro _ w13 ⟨rfl, p', n', c', row', hrow', H18⟩
    rw [hcut i] at hrow'
    have H19 : St B w0 w13 ((b7, bnO v fun j => .int .i64 (if j < i then kd j else 0)) :: (ba, arO p' n' c') :: (row' ++ L)) := H18.perm ((List.Perm.swap _ _ _).trans (List.Perm.cons _ List.perm_middle.symm))
    refine rp [.v, .o (ins := [((.tmp 38), .pointer (some ⟨b7, 3, none⟩)), ((.tmp 32), iN i)]) (v := .pointer (some ⟨b7, 3 + i * 1, none⟩)) (fun ρ o w ho hi2 => idxA_run (t := 56) (n := 16) (size := 1) (kd := .i64) kr (x := (.tmp 38)) (y := (.tmp 32)) b7 3 i ho hi2.1 hi2.2.1 hi w),
      .se 0 (C := ([Value.int .i64 3, Value.string ⟨#[]⟩, Value.string v] ++ arrF 16 fun j => .int .i64 (if j < i then kd j else 0)).toArray) (C' := ([Value.int .i64 3, Value.string ⟨#[]⟩, Value.string v] ++ arrF 16 fun j => .int .i64 (if j < i + 1 then kd j else 0)).toArray) (off := 3 + i * 1) (v := .int .i64 (kd i)) (by show 3 + i * 1 + 1 ≤ _; rw [List.size_toArray, List.length_append, arrF_len]; simp only [List.length_cons, List.length_nil]; omega) (by
        have := seg_put (C := ([Value.int .i64 3, Value.string ⟨#[]⟩, Value.string v] ++ arrF 16 fun j => Value.int .i64 (if j < i then kd j else 0)).toArray) (pre := [Value.int .i64 3, Value.string ⟨#[]⟩, Value.string v]) (post := []) (n := 16) (f := fun j => .int .i64 (if j < i then kd j else 0)) (g := fun j => .int .i64 (if j < i + 1 then kd j else 0)) (by simp) (off := 3 + i * 1) (k := i) (v := .int .i64 (kd i)) rfl (by simp) hi (fun j _ => by
          by_cases h1 : j = i
          · subst h1; simp
          · rw [if_neg h1]; by_cases h2 : j < i
            · rw [if_pos h2, if_pos (by omega)]
            · rw [if_neg h2, if_neg (by omega)])
        rw [List.append_nil] at this
        exact this)] H19 kr fun gs9 w14 H20 => ?_
    show WPs _ _ _ _ [] _ _
    refine s_nil ?_
    show WP _ _ _ _ _ _
    refine rL [.e (v := .int .i64 (IntKind.i64.wrap (((i : Nat) : Int) + 1))) (v' := .int .i64 ((i + 1 : Nat) : Int)) (int_eq (wrapAdd_i64 (a := i) (b := 1) (by omega))), .v] H20 kr fun gs10 w15 H21 => ?_
    show ∃ m, _ ∧ _
    exact ⟨_, (by omega), i + 1, p', n', c', row', rfl, hi, hrow', H21.as kr, (Is.of ⟨kr, kr, kr, kr, kr, trivial⟩)⟩
  · obtain rfl : i = 16 := by omega
    refine rS [.v] H13 kr fun gs6 w10 H14 => ?_
    refine g_seq kr ?_
    refine g_cond_f kr kr ?_
    refine g_exit 0 kr ?_
    show WP _ _ _ _ _ _
    have hnd : bnO v (fun j => .int .i64 (if j < 16 then kd j else 0)) = ndO ⟨3, ⟨#[]⟩, valE l, (kidsW (layM f) l 16 A).2⟩ := by
      have e1 : arrF 16 (fun j => Value.int .i64 (if j < 16 then kd j else 0)) = kidC (kidsW (layM f) l 16 A).2 := arrF_congr fun j hj => by
        rw [if_pos hj, kidsW_get (layM f) l A 16 j hj, hkd j]
      unfold bnO ndO
      rw [e1, hv]; rfl
    refine g_sreg [0, 1, 2, 3] kr kr ?_
    have H15 : St B w0 w10 ((b7, bnO v fun j => .int .i64 (if j < 16 then kd j else 0)) :: (ba, arO p n c) :: (row ++ L)) := H14.as kr
    rw [hnd] at H15
    refine rp [.v, .l 0] H15 kr fun gs7 w11 H16 => ?_
    show WPs _ _ _ _ [2, 3] _ _
    have H17 : St B w0 w11 ((b7, ndO ⟨3, ⟨#[]⟩, valE l, (kidsW (layM f) l 16 A).2⟩) :: (ba, arO p n c) :: (row ++ L)) := H16.as kr
    have A2 : Arn B w0 w11 ba (kidsW (layM f) l 16 A).1 ((b7, ndO ⟨3, ⟨#[]⟩, valE l, (kidsW (layM f) l 16 A).2⟩) :: L) := ⟨p, n, c, row, hrow, H17.perm ((List.Perm.cons _ List.perm_middle).trans (List.Perm.swap _ _ _))⟩
    have hsz := kidsW_size f l A 16
    have hsz2 := Nat.mul_le_mul_left f (cutE_len l 16)
    refine s_callC (some 43) 106 #[.pointer (some ⟨ba, 0, none⟩), ndV ⟨3, ⟨#[]⟩, valE l, (kidsW (layM f) l 16 A).2⟩] (add_c _ ba _ A2 (by omega)) kr kr ?_
    rintro _ w12 ⟨rfl, hA3⟩
    obtain ⟨p', n', c', row', hrow', H18⟩ := hA3
    refine rp [.v] H18 kr fun gs8 w13 H19 => ?_
    show WPs _ _ _ _ [] _ _
    refine s_nil ?_
    refine rRr [.tmp 6] [] (iN (kidsW (layM f) l 16 A).1.length) (fun v' w' => v' = .int .i64 ((kidsW (layM f) l 16 A).1.length : Int) ∧ Arn B w0 w' ba ((kidsW (layM f) l 16 A).1 ++ [⟨3, ⟨#[]⟩, valE l, (kidsW (layM f) l 16 A).2⟩]) L) H19 kr ?_
    exact ⟨rfl, Arn.sub (L := (b7, ndO ⟨3, ⟨#[]⟩, valE l, (kidsW (layM f) l 16 A).2⟩) :: L) ⟨p', n', c', row', hrow', H19.as kr⟩ (List.sublist_cons_self ..)⟩
end Go.Proofs.YtlhfgbjhngkicaaGreatDoor

namespace Go.Proofs.YtlhfgbjhngkicaaGreatDoor
open Go Go.RowKit
set_option linter.unusedVariables false
set_option maxRecDepth 100000 in
set_option maxHeartbeats 4000000 in
theorem node_nil (f : Nat) (pre : List UInt8) (ba : Nat) (A : List Nd) (sp : Option Addr) (cap : Nat) {B : Nat} {w0 w : World} {L : List (Nat × Obj)} (h : Arn B w0 w ba A L) :
    Calls Tryz.prog 66 #[.pointer (some ⟨ba, 0, none⟩), .slice sp 0 cap, iN pre.length] w fun ed w' => ∃ v, ed = .returned v ∧ v = .int .i64 (layM f [] A).2 ∧ Arn B w0 w' ba (layM f [] A).1 L := by
  have e0 : layM f [] A = (A, -1) := by cases f <;> rfl
  rw [e0]
  refine calls_intro (c := codeOf Tryz.f66) (rs := [.tmp 6]) (N := 31) Tryz.func66 kr kr kr ?_
  obtain ⟨p, n, c, row, hrow, H0⟩ := h
  refine rS [.v] H0 kr fun gs1 w1 H1 => ?_
  refine rS [.v, .v, .v] H1 kr fun gs2 w2 H2 => ?_
  refine g_seq kr ?_
  refine g_block 0 kr ?_
  refine rS [.v, .v, .v, .v] H2 kr fun gs3 w3 H3 => ?_
  refine g_cond_t kr kr ?_
  refine rS [.v] H3 kr fun gs4 w4 H4 => ?_
  refine rRr [.tmp 6] [] (.int .i64 (-1)) (fun v' w' => v' = .int .i64 (-1) ∧ Arn B w0 w' ba A L) H4 kr ?_
  exact ⟨rfl, p, n, c, row, hrow, H4.as kr⟩
set_option maxRecDepth 100000 in
set_option maxHeartbeats 4000000 in
theorem node_step (f : Nat) (ih : NodeC f) : NodeC (f + 1) := by
  intro l pre ba A br off cap C T fz B w0 w L h hm hR hrise hok hcap hpf hA
  match l, hR, hrise, hok, hcap, hpf, hA with
  | [], _, _, _, _, _, _ => exact node_nil (f + 1) pre ba A _ cap h
  | [e], hR, hrise, hok, hcap, hpf, hA =>
    have hA2 : A.length ≤ 100000000000 := by omega
    refine calls_intro (c := codeOf Tryz.f66) (rs := [.tmp 6]) (N := 31) Tryz.func66 kr kr kr ?_
    obtain ⟨p, n, c, row, hrow, H0⟩ := h
    refine rS [.v] H0 kr fun gs1 w1 H1 => ?_
    refine rS [.v, .v, .v] H1 kr fun gs2 w2 H2 => ?_
    refine g_seq kr ?_
    refine g_block 0 kr ?_
    refine rS [.v, .v, .v, .v] H2 kr fun gs3 w3 H3 => ?_
    refine g_cond_f kr kr ?_
    refine rS [.v, .v, .v, .v] H3 kr fun gs4 w4 H4 => ?_
    refine g_cond_t kr kr ?_
    refine rL [.v, .v, .v] H4 kr fun gs5 w5 H5 => ?_
    show WP _ _ _ _ _ _
    refine g_sreg [0, 1, 2, 3, 4] kr kr ?_
    refine rp [.v, .v, .v] H5 kr fun gs6 w6 H6 => ?_
    show WPs _ _ _ _ [3, 4] _ _
    refine s_callC (some 30) 89 #[.pointer (some ⟨ba, 0, none⟩), .slice (some ⟨br, off, none⟩) 1 cap, iN pre.length] (leaf_c e pre ba A br off cap C T fz ⟨p, n, c, row, hrow, H6.as kr⟩ hm hR hA2) kr kr ?_
    rintro _ w7 ⟨rfl, p', n', c', row', hrow', H7⟩
    refine rp [.v] H7 kr fun gs7 w8 H8 => ?_
    show WPs _ _ _ _ [] _ _
    refine s_nil ?_
    refine rRr [.tmp 6] [] (iN A.length) (fun v' w' => v' = .int .i64 (layM (f + 1) [e] A).2 ∧ Arn B w0 w' ba (layM (f + 1) [e] A).1 L) H8 kr ?_
    exact ⟨rfl, p', n', c', row', hrow', H8.as kr⟩
  | e :: e' :: r, hR, hrise, hok, hcap, hpf, hA =>
    obtain ⟨z, hz, hz2⟩ := last_at (l := e :: e' :: r) (by simp)
    have hl0 : (e :: e' :: r)[0]? = some e := rfl
    have hpe := hpf e (List.mem_of_getElem? hl0)
    have hpz := hpf z (List.mem_of_getElem? hz2)
    have hmul : (f + 1) * (e :: e' :: r).length = f * (e :: e' :: r).length + (e :: e' :: r).length := Nat.succ_mul ..
    obtain ⟨m, hml⟩ : ∃ m, (e :: e' :: r).length = m := ⟨_, rfl⟩
    have hm2 : 2 ≤ m := by rw [← hml]; simp
    have hcom : shr (tl (strB (pre ++ e.1))) (tl (strB (pre ++ z.1))) = pre.length + commonM (e :: e' :: r) := by rw [tl_strB, tl_strB, shr_pre, ← common_last hrise hz]
    have hcf := common_fn br off m cap C T fz (ents pre (e :: e' :: r)) _ _ hR (by rw [ents_len, hml]) (by omega) (ents_at hl0) (by rw [← hml]; exact ents_at hz2) (by rw [strB_size, List.length_append]; omega) (by rw [strB_size, List.length_append]; omega)
    rw [hcom] at hcf
    have hj := fun w => joint_c f ih e e' r pre ba A br off cap C T fz (B := B) (w0 := w0) (w := w) (L := L)
    have hb := fun w => branch_c f ih e e' r pre ba A br off cap C T fz (B := B) (w0 := w0) (w := w) (L := L)
    rw [hml] at hj hb ⊢
    refine calls_intro (c := codeOf Tryz.f66) (rs := [.tmp 6]) (N := 31) Tryz.func66 kr kr kr ?_
    obtain ⟨p, n, c, row, hrow, H0⟩ := h
    refine rS [.v] H0 kr fun gs1 w1 H1 => ?_
    refine rS [.v, .v, .v] H1 kr fun gs2 w2 H2 => ?_
    refine g_seq kr ?_
    refine g_block 0 kr ?_
    refine rS [.v, .v, .e (v := .bool (((m : Nat) : Int) == 0)) (v' := .bool false) (bool_eq (beq_eq_false_iff_ne.2 (by omega))), .v] H2 kr fun gs3 w3 H3 => ?_
    refine g_cond_f kr kr ?_
    refine rS [.v, .v, .e (v := .bool (((m : Nat) : Int) == 1)) (v' := .bool false) (bool_eq (beq_eq_false_iff_ne.2 (by omega))), .v] H3 kr fun gs4 w4 H4 => ?_
    refine g_cond_f kr kr ?_
    refine g_sreg [0, 1, 2, 3, 4] kr kr ?_
    refine rp [.v] H4 kr fun gs5 w5 H5 => ?_
    show WPs _ _ _ _ [1, 2, 3, 4] _ _
    have H6 : St B w0 w5 ((ba, arO p n c) :: (row ++ L)) := H5.as kr
    refine s_callP H6 (some 22) 90 #[.slice (some ⟨br, off, none⟩) m cap] _ _ hcf (H6.own _ (List.mem_cons_of_mem _ (List.mem_append_right _ hm))).2 (fun w => by kernel_rfl) kr ?_
    intro w6 H7
    by_cases hk : 0 < commonM (e :: e' :: r)
    · refine rp [.v, .e (v := .bool (decide (((pre.length : Nat) : Int) < ((pre.length + commonM (e :: e' :: r) : Nat) : Int)))) (v' := .bool true) (bool_eq (decide_eq_true (by omega))), .v] H7 kr fun gs6 w7 H8 => ?_
      show WPs _ _ _ _ [] _ _
      refine s_nil ?_
      refine g_cond_t kr kr ?_
      refine rL [.v, .v, .v] H8 kr fun gs7 w8 H9 => ?_
      show WP _ _ _ _ _ _
      refine g_sreg [0, 1, 2, 3, 4] kr kr ?_
      refine rp [.v, .v, .v] H9 kr fun gs8 w9 H10 => ?_
      show WPs _ _ _ _ [3, 4] _ _
      refine s_callC (some 30) 91 #[.pointer (some ⟨ba, 0, none⟩), .slice (some ⟨br, off, none⟩) m cap, iN pre.length] (hj _ ⟨p, n, c, row, hrow, H10.as kr⟩ hm hR hrise hok (hml ▸ hcap) hpf (hml ▸ hA) hk) kr kr ?_
      rintro _ w10 ⟨rfl, p', n', c', row', hrow', H11⟩
      refine rp [.v] H11 kr fun gs9 w11 H12 => ?_
      show WPs _ _ _ _ [] _ _
      refine s_nil ?_
      refine rRr [.tmp 6] [] (.int .i64 (layM (f + 1) (e :: e' :: r) A).2) (fun v' w' => v' = .int .i64 (layM (f + 1) (e :: e' :: r) A).2 ∧ Arn B w0 w' ba (layM (f + 1) (e :: e' :: r) A).1 L) H12 kr ?_
      exact ⟨rfl, p', n', c', row', hrow', H12.as kr⟩
    · refine rp [.v, .e (v := .bool (decide (((pre.length : Nat) : Int) < ((pre.length + commonM (e :: e' :: r) : Nat) : Int)))) (v' := .bool false) (bool_eq (decide_eq_false (by omega))), .v] H7 kr fun gs6 w7 H8 => ?_
      show WPs _ _ _ _ [] _ _
      refine s_nil ?_
      refine g_cond_f kr kr ?_
      refine g_skip kr ?_
      show WP _ _ _ _ _ _
      refine g_sreg [0, 1, 2, 3, 4] kr kr ?_
      refine rp [.v, .v, .v] H8 kr fun gs8 w9 H10 => ?_
      show WPs _ _ _ _ [3, 4] _ _
      refine s_callC (some 30) 88 #[.pointer (some ⟨ba, 0, none⟩), .slice (some ⟨br, off, none⟩) m cap, iN pre.length] (hb _ ⟨p, n, c, row, hrow, H10.as kr⟩ hm hR hrise hok (hml ▸ hcap) hpf (hml ▸ hA) hk) kr kr ?_
      rintro _ w10 ⟨rfl, p', n', c', row', hrow', H11⟩
      refine rp [.v] H11 kr fun gs9 w11 H12 => ?_
      show WPs _ _ _ _ [] _ _
      refine s_nil ?_
      refine rRr [.tmp 6] [] (.int .i64 (layM (f + 1) (e :: e' :: r) A).2) (fun v' w' => v' = .int .i64 (layM (f + 1) (e :: e' :: r) A).2 ∧ Arn B w0 w' ba (layM (f + 1) (e :: e' :: r) A).1 L) H12 kr ?_
      exact ⟨rfl, p', n', c', row', hrow', H12.as kr⟩
theorem node_all : ∀ f, NodeC f
  | 0 => by
    intro l pre ba A br off cap C T fz B w0 w L h hm hR hrise hok hcap hpf hA
    cases l with
    | nil => exact node_nil 0 pre ba A _ cap h
    | cons e r => exact absurd (hok e (List.mem_cons_self ..)).1 (Nat.not_lt_zero _)
  | f + 1 => node_step f (node_all f)
end Go.Proofs.YtlhfgbjhngkicaaGreatDoor

namespace Go.Proofs.YtlhfgbjhngkicaaGreatDoor
open Go Go.RowKit
set_option linter.unusedVariables false
abbrev Pr := ByteArray × ByteArray
def entsOf (L : List Pr) : List Ent := L.map fun x => (hv (tl x.1), x.2)
/-- Pairs lie where a slice says. -/
def PrAt (w : World) (p : Option Addr) (n : Nat) (L : List Pr) : Prop := n = L.length ∧ (L = [] ∨ ∃ b off C T fz, p = some ⟨b, off, none⟩ ∧ w.heap[b]? = some (.cells C T fz) ∧ RowAt pS C off L)
theorem PrAt.call {w w' : World} {p : Option Addr} {n : Nat} {L : List Pr} (h : PrAt w p n L) (hb : Below w.heap.size w w') : PrAt w' p n L := by
  obtain ⟨h1, h2⟩ := h
  refine ⟨h1, h2.imp id ?_⟩
  rintro ⟨b, off, C, T, fz, e, hh, hr⟩
  exact ⟨b, off, C, T, fz, e, by rw [hb.block b (lt_of_heap hh)]; exact hh, hr⟩
theorem hv_low (l : List UInt8) : ∀ b ∈ hv l, b.toNat < 16 := fun b hb => by
  have h := hv_isP l
  unfold isP at h
  have := of_decide_eq_true (List.all_eq_true.1 h b hb)
  omega
/-- The trie that is there. -/
def okTrie (L : List Pr) (v : Value) (T : List (Nat × Obj)) : Prop := ∃ (p : Option Addr) (n c : Nat), RowF nS 58 p n c T (layM 65 (entsOf L) []).1 ∧ v = .agg #[.slice p n c, .int .i64 (layM 65 (entsOf L) []).2]
abbrev trO (p : Option Addr) (n c : Nat) (r : Int) : Obj := .cells #[.slice p n c, .int .i64 r] 26 (0, 0)
abbrev eR (C : Array Value) : Obj := .cells C 109 (0, 0)
set_option maxRecDepth 100000 in
set_option maxHeartbeats 4000000 in
theorem build_fn (p : Option Addr) (n c : Nat) (L : List Pr) (hL : L.length ≤ 1000000) (hk : ∀ x ∈ L, x.1.size ≤ 32) (hrise : Rise (entsOf L)) : FnT Tryz.prog 36 #[.slice p n c] (fun w => PrAt w p n L) (okTrie L) := by
  refine FnT.intro (c := codeOf Tryz.f36) [.cell 2 26] 34 Tryz.func36 kr kr kr fun w hP => ?_
  have H0 := St.start w
  have hn := hP.1
  refine rS [.a] H0 kr fun gs1 w1 H1 => ?_
  refine g_sreg [0, 1, 2, 3] kr kr ?_
  refine rp [.v, .v] H1 kr fun gs2 w2 H2 => ?_
  show WPs _ _ _ _ [2, 3] _ _
  have H3 : St w.heap.size w w2 [((gs1 0).b, trO none 0 0 0)] := H2.as kr
  refine s_makeK H3 (some 10) 107 109 2 32 (.tmp 9) (.tmp 9) .i64 .i64 n kr kr kr kr kr (by omega) (by unfold maxLen; omega) ?_
  intro br C0 w3 H4 hC0
  refine rp [.v] H4 kr fun gs3 w4 H5 => ?_
  show WPs _ _ _ _ [] _ _
  refine s_nil ?_
  refine g_seq kr ?_
  refine rS [.v, .v, .v] H5 kr fun gs4 w5 H6 => ?_
  refine g_block 0 kr ?_
  have H7 : St w.heap.size w w5 [(br, eR C0), ((gs1 0).b, trO none 0 0 0)] := H6.as kr
  clear H0 H1 H2 H3 H4 H5 H6
  refine g_loop kr (fun mz ρ ww => ∃ (i : Nat) (C : Array Value), n - i = mz ∧ i ≤ n ∧ FillF pS C n i (ents [] (entsOf (L.take i))) ∧ St w.heap.size w ww [(br, eR C), ((gs1 0).b, trO none 0 0 0)] ∧ Is [(2, .pointer (some ⟨(gs1 0).b, 0, none⟩)), (3, .slice (some ⟨br, 0, none⟩) n n), (11, .slice p n c), (12, iN n), (13, iN i)] ρ) (n - 0) ⟨0, C0, rfl, Nat.zero_le _, FillF.start hC0, H7, (Is.of ⟨kr, kr, kr, kr, kr, trivial⟩)⟩ ?_
  clear H7
  rintro _ _ w6 ⟨i, C, rfl, hin, hFill, H8, _, rfl⟩
  by_cases hi : i < n
  · refine rS [.e (v := .bool (decide (((i : Nat) : Int) < ((n : Nat) : Int)))) (v' := .bool true) (bool_eq (decide_eq_true (by omega)))] H8 kr fun gs5 w7 H9 => ?_
    refine g_seq kr ?_
    refine g_cond_t kr kr ?_
    refine g_skip kr ?_
    show WP _ _ _ _ _ _
    refine g_seq kr ?_
    refine g_block 1 kr ?_
    obtain ⟨x, hx⟩ : ∃ x, L[i]? = some x := ⟨_, List.getElem?_eq_getElem (by omega)⟩
    obtain ⟨b, off, C1, T1, fz1, hp, hh, hR⟩ : ∃ b off C T fz, p = some ⟨b, off, none⟩ ∧ w.heap[b]? = some (.cells C T fz) ∧ RowAt pS C off L := by
      rcases hP.2 with h | h
      · rw [h] at hx; simp at hx
      · exact h
    obtain ⟨hr1, hr2⟩ := hR i x hx
    have hxk := hk x (List.mem_of_getElem? hx)
    refine rS [.v, .o (ins := [((.tmp 11), .slice p n c), ((.tmp 13), iN i)]) (v := .pointer (some ⟨b, off + i * 2, none⟩)) (fun ρ o w ho hi2 => idxP_run (kd := .i64) (t := 23) (e := 48) (K := 2) (bytes := 32) kr (x := (.tmp 11)) (y := (.tmp 13)) b off n c i hp ho hi2.1 hi2.2.1 hi w), .fp (off := off + i * 2) (n := 2) (W := #[.string x.1, .string x.2]) hh (lt_of_heap hh) hr1 hr2, .a, .v, .s 2] H9 kr fun gs6 w8 H10 => ?_
    have hput := hFill.put (strB (hv (tl x.1)), x.2) (v := .agg #[.string (strB (hv (tl x.1))), .string x.2]) rfl hi
    refine dL [.v, .v, .v, .l 2, .c (of_fn x.1 (by omega)), .v, .l 2, .v, .o (ins := [((.tmp 18), .slice (some ⟨br, 0, none⟩) n n), ((.tmp 19), iN i)]) (v := .pointer (some ⟨br, 0 + i * 2, none⟩)) (fun ρ o w ho hi2 => idxP_run (kd := .i64) (t := 107) (e := 109) (K := 2) (bytes := 32) kr (x := (.tmp 18)) (y := (.tmp 19)) br 0 n n i rfl ho hi2.1 hi2.2.1 hi w), .se 0 (C := C) (C' := putC' C (0 + i * 2) (.agg #[.string (strB (hv (tl x.1))), .string x.2])) (off := 0 + i * 2) (v := .agg #[.string (strB (hv (tl x.1))), .string x.2]) hput.1 rfl] H10 kr fun w9 H11 => ?_
    show WP _ _ _ _ _ _
    refine rL [.e (v := .int .i64 (IntKind.i64.wrap (((i : Nat) : Int) + 1))) (v' := .int .i64 ((i + 1 : Nat) : Int)) (int_eq (wrapAdd_i64 (a := i) (b := 1) (by omega))), .v] H11 kr fun gs7 w10 H12 => ?_
    have H13 : St w.heap.size w w10 [(br, eR (putC' C (0 + i * 2) (.agg #[.string (strB (hv (tl x.1))), .string x.2]))), ((gs1 0).b, trO none 0 0 0), ((gs6 3).b, .cells #[.string x.1, .string x.2] 48 (0, 0))] := H12.as kr
    show ∃ m, _ ∧ _
    refine ⟨_, (by omega), i + 1, _, rfl, hi, ?_, H13.sub (List.Sublist.cons_cons _ (List.Sublist.cons_cons _ (List.nil_sublist _))), (Is.of ⟨kr, kr, kr, kr, kr, trivial⟩)⟩
    have e1 : ents [] (entsOf (L.take (i + 1))) = ents [] (entsOf (L.take i)) ++ [(strB (hv (tl x.1)), x.2)] := by
      rw [List.take_add_one, hx]; unfold ents entsOf; simp
    rw [e1]; exact hput.2
  · obtain rfl : i = n := by omega
    refine rS [.e (v := .bool (decide (((i : Nat) : Int) < ((i : Nat) : Int)))) (v' := .bool false) (bool_eq (decide_eq_false (by omega)))] H8 kr fun gs5 w7 H9 => ?_
    refine g_seq kr ?_
    refine g_cond_f kr kr ?_
    refine g_exit 0 kr ?_
    show WP _ _ _ _ _ _
    have hall : ents [] (entsOf (L.take i)) = ents [] (entsOf L) := by rw [List.take_of_length_le (by omega)]
    rw [hall] at hFill
    have hrow := (hFill.done (by unfold maxLen; omega)).rowAt
    have H10 : St w.heap.size w w7 [(br, eR C), ((gs1 0).b, trO none 0 0 0)] := H9.as kr
    refine g_sreg [0] kr kr ?_
    refine s_alloc H10 (some 6) 111 (.agg #[.slice none 0 0]) kr kr kr ?_
    intro b6 w8 H11
    refine s_nil ?_
    refine g_sreg [0, 1, 2] kr kr ?_
    refine rp [.v] H11 kr fun gs6 w9 H12 => ?_
    show WPs _ _ _ _ [1, 2] _ _
    have A1 : Arn w.heap.size w w9 b6 [] [(br, eR C), ((gs1 0).b, trO none 0 0 0)] := ⟨none, 0, 0, [], .inl ⟨rfl, rfl, rfl, rfl, rfl⟩, H12.as kr⟩
    have hel : (entsOf L).length = i := by unfold entsOf; rw [List.length_map]; exact hn.symm
    have hcall := node_all 65 (entsOf L) [] b6 [] br 0 i C 109 (0, 0) A1 (List.mem_cons_self ..) hrow hrise (fun e he => by
      unfold entsOf at he
      obtain ⟨y, hy, rfl⟩ := List.mem_map.1 he
      have := hk y hy
      exact ⟨by show (hv (tl y.1)).length < 65; rw [hv_len, tl_len]; omega, hv_low _⟩) (by rw [hel]; exact Nat.le_refl _) (fun e he => by
      unfold entsOf at he
      obtain ⟨y, hy, rfl⟩ := List.mem_map.1 he
      have := hk y hy
      show 0 + (hv (tl y.1)).length ≤ 1000000
      rw [hv_len, tl_len]; omega) (by rw [hel]; simp only [List.length_nil]; omega)
    rw [hel] at hcall
    refine s_callC (some 29) 66 #[.pointer (some ⟨b6, 0, none⟩), .slice (some ⟨br, 0, none⟩) i i, iN 0] hcall kr kr ?_
    rintro _ w10 ⟨rfl, p', n', c', row', hrow', H13⟩
    have H14 : St w.heap.size w w10 ((b6, arO p' n' c') :: (br, eR C) :: ((gs1 0).b, trO none 0 0 0) :: row') := H13.perm (List.Perm.cons _ (List.perm_append_comm (l₁ := [(br, eR C), ((gs1 0).b, trO none 0 0 0)]) (l₂ := row')))
    refine rp [.v] H14 kr fun gs7 w11 H15 => ?_
    show WPs _ _ _ _ [] _ _
    refine s_nil ?_
    refine rS [.v, .l 0, .v, .v, .s 2] H15 kr fun gs8 w12 H16 => ?_
    refine rRr [.cell 2 26] [2] (.agg #[.slice p' n' c', .int .i64 (layM 65 (entsOf L) []).2]) (outT w.heap.size w (okTrie L)) H16 kr ?_
    have H17 : St w.heap.size w w12 ((b6, arO p' n' c') :: (br, eR C) :: ((gs1 0).b, trO p' n' c' (layM 65 (entsOf L) []).2) :: row') := H16.as kr
    exact ⟨row', ⟨p', n', c', hrow', rfl⟩, H17.sub (List.Sublist.cons _ (List.Sublist.cons _ (List.sublist_cons_self ..)))⟩
end Go.Proofs.YtlhfgbjhngkicaaGreatDoor

namespace Go.Proofs.YtlhfgbjhngkicaaGreatDoor
open Go Go.RowKit
set_option linter.unusedVariables false
def mayM (k v : ByteArray) : Bool := (decide (1 ≤ k.size) && decide (k.size ≤ 32)) && (decide (1 ≤ v.size) && decide (v.size ≤ 500))
def foundM (part : List UInt8) (v : ByteArray) (ps : List Pr) : List Pr := if mayM (kyS part) v = true then ps ++ [(kyS part, v)] else ps
def stepM' (kind : Int) (i : Nat) : List UInt8 := if kind = 3 then [UInt8.ofNat i] else []
def kidsR (go : Int → List UInt8 → Nat × List Pr → Nat × List Pr) (x : Nd) (part : List UInt8) : Nat → Nat × List Pr → Nat × List Pr
  | 0, s => s
  | i + 1, s => if x.kids.getD i (-1) = -1 then kidsR go x part i s else go (x.kids.getD i (-1)) (part ++ stepM' x.kind i) (kidsR go x part i s)
def walkM (A : List Nd) : Nat → Int → List UInt8 → Nat × List Pr → Nat × List Pr
  | 0, _, _, s => s
  | f + 1, at_, ahead, s =>
    if s.1 = 0 ∨ at_ < 0 ∨ (A.length : Int) ≤ at_ then s
    else match A[at_.toNat]? with
      | none => s
      | some x => if 64 < ahead.length + x.part.size then (s.1 - 1, s.2)
        else kidsR (walkM A f) x (ahead ++ tl x.part) 16 (s.1 - 1, foundM (ahead ++ tl x.part) x.value s.2)
def NdAt (w : World) (p : Option Addr) (n : Nat) (A : List Nd) : Prop := n = A.length ∧ (A = [] ∨ ∃ b off C T fz, p = some ⟨b, off, none⟩ ∧ w.heap[b]? = some (.cells C T fz) ∧ RowAt nS C off A)
theorem NdAt.call {w w' : World} {p : Option Addr} {n : Nat} {A : List Nd} (h : NdAt w p n A) (hb : Below w.heap.size w w') : NdAt w' p n A := by
  obtain ⟨h1, h2⟩ := h
  refine ⟨h1, h2.imp id ?_⟩
  rintro ⟨b, off, C, T, fz, e, hh, hr⟩
  exact ⟨b, off, C, T, fz, e, by rw [hb.block b (lt_of_heap hh)]; exact hh, hr⟩
/-- The nodes stay, whatever of one's own but L is changed. -/
def NdS (B : Nat) (w0 : World) (L : List (Nat × Obj)) (p : Option Addr) (n : Nat) (A : List Nd) : Prop := ∀ w' l, St B w0 w' l → (∀ e ∈ L, e ∈ l) → NdAt w' p n A
theorem NdS.mono {B : Nat} {w0 : World} {L L' : List (Nat × Obj)} {p : Option Addr} {n : Nat} {A : List Nd} (h : NdS B w0 L p n A) (hL : ∀ e ∈ L, e ∈ L') : NdS B w0 L' p n A := fun w' l hS hl => h w' l hS fun e he => hl e (hL e he)
theorem NdS.below {w0 : World} {p : Option Addr} {n : Nat} {A : List Nd} (h : NdAt w0 p n A) : NdS w0.heap.size w0 [] p n A := fun w' l hS _ => h.call hS.below
theorem NdS.own {B : Nat} {w0 : World} {L : List (Nat × Obj)} {p : Option Addr} {n c : Nat} {A : List Nd} {ty : TypeId} (h : RowF nS ty p n c L A) : NdS B w0 L p n A := fun w' l hS hl => by
  refine ⟨h.len.symm, ?_⟩
  rcases h with ⟨_, _, _, _, hA⟩ | ⟨b, cur, hp, rfl, hr⟩
  · exact .inl hA
  · exact .inr ⟨b, 0, cur, ty, (0, 0), hp, (hS.own _ (hl _ (List.mem_cons_self ..))).2, hr.rowAt⟩
abbrev rdO (np : Option Addr) (nn nc : Nat) (p : Option Addr) (n c : Nat) (left : Nat) : Obj := .cells #[.slice np nn nc, .slice p n c, .int .i64 ((left : Nat) : Int)] 80 (0, 0)
abbrev prO (C : Array Value) : Obj := .cells C 48 (0, 0)
/-- The reader in block br. -/
def Rdr (B : Nat) (w0 w : World) (br : Nat) (np : Option Addr) (nn nc : Nat) (s : Nat × List Pr) (L : List (Nat × Obj)) : Prop := ∃ (p : Option Addr) (n c : Nat) (row : List (Nat × Obj)), RowF pS 48 p n c row s.2 ∧ St B w0 w ((br, rdO np nn nc p n c s.1) :: (row ++ L))
set_option maxRecDepth 100000 in
set_option maxHeartbeats 4000000 in
theorem between_fn (a b : Nat) : Fn Tryz.prog 62 #[iN a, iN b] (.bool (decide (1 ≤ a) && decide (a ≤ b))) := by
  refine Fn.intro (c := codeOf Tryz.f62) [.tmp 4] 12 Tryz.func62 kr kr kr fun w => ?_
  have H0 := St.start w
  refine rS [.v] H0 kr fun gs1 w1 H1 => ?_
  by_cases h1 : 1 ≤ a
  · refine rS [.v, .e (v := .bool (decide ((1 : Int) ≤ ((a : Nat) : Int)))) (v' := .bool true) (bool_eq (decide_eq_true (by omega))), .v, .v, .v, .e (v := .bool (decide (((a : Nat) : Int) ≤ ((b : Nat) : Int)))) (v' := .bool (decide (a ≤ b))) (bool_eq (decide_eq_decide.2 (by omega))), .v, .v] H1 kr fun gs2 w2 H2 => ?_
    exact rRe [.tmp 4] [] (v := .bool (decide (a ≤ b))) (v' := .bool (decide (1 ≤ a) && decide (a ≤ b))) H2 (bool_eq (by simp [h1])) kr
  · refine rS [.v, .e (v := .bool (decide ((1 : Int) ≤ ((a : Nat) : Int)))) (v' := .bool false) (bool_eq (decide_eq_false (by omega))), .v, .n, .n, .n, .v, .v] H1 kr fun gs2 w2 H2 => ?_
    exact rRe [.tmp 4] [] (v := .bool false) (v' := .bool (decide (1 ≤ a) && decide (a ≤ b))) H2 (bool_eq (by simp [h1])) kr
set_option maxRecDepth 100000 in
set_option maxHeartbeats 4000000 in
theorem tmay_fn (k v : ByteArray) : Fn Tryz.prog 34 #[.agg #[.string k, .string v]] (.bool (mayM k v)) := by
  refine Fn.intro (c := codeOf Tryz.f34) [.tmp 2] 13 Tryz.func34 kr kr kr fun w => ?_
  have H0 := St.start w
  refine rS [.b, .v] H0 kr fun gs1 w1 H1 => ?_
  have c1 := between_fn k.size 32
  cases hb : (decide (1 ≤ k.size) && decide (k.size ≤ 32)) with
  | true =>
    rw [hb] at c1
    refine rS [.v, .l 0, .v, .c c1, .v, .v, .l 0, .v, .c (between_fn v.size 500), .v, .v] H1 kr fun gs2 w2 H2 => ?_
    exact rRe [.tmp 2] [] (v := .bool (decide (1 ≤ v.size) && decide (v.size ≤ 500))) (v' := .bool (mayM k v)) H2 (bool_eq (by unfold mayM; rw [hb]; rfl)) kr
  | false =>
    rw [hb] at c1
    refine rS [.v, .l 0, .v, .c c1, .v, .n, .n, .n, .n, .v, .v] H1 kr fun gs2 w2 H2 => ?_
    exact rRe [.tmp 2] [] (v := .bool false) (v' := .bool (mayM k v)) H2 (bool_eq (by unfold mayM; rw [hb]; rfl)) kr
end Go.Proofs.YtlhfgbjhngkicaaGreatDoor

namespace Go.Proofs.YtlhfgbjhngkicaaGreatDoor
open Go Go.RowKit
set_option linter.unusedVariables false
section
variable {P : Program} {N : Nat} {ops : Array Oper} {i : Nat} {r : List Nat} {K : Env → World → Prop} {ρ : Env} {w : World}
/-- A struct is loaded from where it lies. -/
theorem s_ldA (d : Option Nat) (t : TypeId) (x : Operand) (b off m : Nat) {C W : Array Value} {T : TypeId} {fz : Nat × Nat} (h : opk ops i ρ = some (d, true, .load t x)) (hd : dOK d N = true) (ht : aggSize P t = some m) (hx : ev ρ x = .pointer (some ⟨b, off, none⟩))
    (hh : w.heap[b]? = some (.cells C T fz)) (hz : off + m ≤ C.size) (hv : C.extract off (off + m) = W) (kk : WPs P N ops K r (updO ρ d (.agg W)) w) : WPs P N ops K (i :: r) ρ w := by
  obtain ⟨o, ho, rfl, hw, hop⟩ := opk_some h
  refine WPo.run ho hw fun a ha => ?_
  have := load_agg (P := P) (w := w) ht hh hz
  rw [hv] at this
  have e : (execOp (ev ρ) o).run P w = .ok (.value (.agg W)) w := by
    simp [execOp, hop, Instr.loadAt, Instr.sureAddr, hx, this]
  rw [e, Oper.upon_value]
  exact ⟨_, ha.put _ (dOK_lt hd) _, kk⟩
end
set_option maxRecDepth 100000 in
set_option maxHeartbeats 4000000 in
theorem step_fn (kind : Int) (i : Nat) (hi : i < 16) : Fn Tryz.prog 69 #[.int .i64 kind, iN i] (.string (strB (stepM' kind i))) := by
  refine Fn.intro (c := codeOf Tryz.f69) [.tmp 4] 11 Tryz.func69 kr kr kr fun w => ?_
  have H0 := St.start w
  refine rS [.v] H0 kr fun gs1 w1 H1 => ?_
  refine g_seq kr ?_
  by_cases hk : kind = 3
  · refine rS [.v, .e (v := .bool (kind == 3)) (v' := .bool true) (bool_eq (beq_iff_eq.2 hk))] H1 kr fun gs2 w2 H2 => ?_
    refine g_cond_t kr kr ?_
    refine g_sreg [0, 1, 2, 3, 4] kr kr ?_
    refine rp [.v, .e (v := .int .u8 (IntKind.u8.wrap ((i : Nat) : Int))) (v' := .int .u8 ((i : Nat) : Int)) (int_eq (by rw [IntKind.wrap_u8]; omega)), .nw (fun b => .slice (some ⟨b, 0, none⟩) 1 1) #[.int .u8 ((i : Nat) : Int)] 5] H2 kr fun gs3 w3 H3 => ?_
    show WPs _ _ _ _ [3, 4] _ _
    have H4 : St w.heap.size w w3 [((gs3 2).b, .cells #[.int .u8 ((i : Nat) : Int)] 5 (0, 0))] := H3.as kr
    have hc : cellsB [UInt8.ofNat i] = [Value.int .u8 ((i : Nat) : Int)] := by
      unfold cellsB
      have : (UInt8.ofNat i).toNat = i := by simp; omega
      simp [this]
    refine s_bytesStrB H4 (some 10) 88 9 5 (.tmp 9) 0 (gs3 2).b 1 1 #[.int .u8 ((i : Nat) : Int)] 5 (0, 0) [UInt8.ofNat i] kr kr kr kr kr kr kr ⟨by rw [hc]; rfl, Nat.le_refl _, by unfold maxLen; omega, by rw [hc]; rfl, rfl⟩ ?_
    refine rp [.v] H4 kr fun gs4 w4 H5 => ?_
    show WPs _ _ _ _ [] _ _
    refine s_nil ?_
    exact rRe [.tmp 4] [] (v := .string (strB [UInt8.ofNat i])) (v' := .string (strB (stepM' kind i))) H5 (by unfold stepM'; rw [if_pos hk]) kr
  · refine rS [.v, .e (v := .bool (kind == 3)) (v' := .bool false) (bool_eq (beq_eq_false_iff_ne.2 hk))] H1 kr fun gs2 w2 H2 => ?_
    refine g_cond_f kr kr ?_
    refine g_skip kr ?_
    show WP _ _ _ _ _ _
    refine rS [.v] H2 kr fun gs3 w3 H3 => ?_
    exact rRe [.tmp 4] [] (v := .string ⟨#[]⟩) (v' := .string (strB (stepM' kind i))) H3 (by unfold stepM'; rw [if_neg hk]; rfl) kr
/-- Where found stands. -/
def PreFo (B : Nat) (w0 : World) (bx br : Nat) (xO : Obj) (xc : Array Value) (np : Option Addr) (nn nc : Nat) (left : Nat) (p : Option Addr) (n c : Nat) (row : List (Nat × Obj)) (xs : List Value) (L0 : List (Nat × Obj)) : (Nat → Bool) → (Nat → D2.Gh) → World → Prop := fun L g w =>
  bif L 7 then Rw 2 (g 7).cur (g 7).cap (n + 1) xs ∧ St B w0 w ((bx, xO) :: (br, rdO np nn nc (bif L 10 then some ⟨(g 7).b, 0, none⟩ else p) (bif L 10 then n + 1 else n) (bif L 10 then (g 7).cap else c) left) :: ((g 7).b, prO (g 7).cur) :: L0)
  else bif L 6 then St B w0 w (((g 6).b, prO xc) :: (bx, xO) :: (br, rdO np nn nc p n c left) :: (row ++ L0))
  else St B w0 w ((bx, xO) :: (br, rdO np nn nc p n c left) :: (row ++ L0))
theorem PreFo.st {B : Nat} {w0 : World} {bx br : Nat} {xO : Obj} {xc : Array Value} {np : Option Addr} {nn nc left : Nat} {p : Option Addr} {n c : Nat} {row : List (Nat × Obj)} {xs : List Value} {L0 : List (Nat × Obj)} {L : Nat → Bool} {g : Nat → D2.Gh} {w : World} (h7 : L 7 = false) (h : PreFo B w0 bx br xO xc np nn nc left p n c row xs L0 L g w) : ∃ l, St B w0 w l ∧ (bx, xO) ∈ l ∧ (br, rdO np nn nc p n c left) ∈ l := by
  unfold PreFo at h; rw [h7] at h
  cases h6 : L 6 with
  | true => rw [h6] at h; exact ⟨_, h, by simp, by simp⟩
  | false => rw [h6] at h; exact ⟨_, h, by simp, by simp⟩
set_option maxRecDepth 100000 in
set_option maxHeartbeats 4000000 in
theorem found_c (part : List UInt8) (v : ByteArray) (br : Nat) (np : Option Addr) (nn nc : Nat) (s : Nat × List Pr) {B : Nat} {w0 w : World} {L : List (Nat × Obj)} (h : Rdr B w0 w br np nn nc s L) (hp : part.length ≤ 1000) (hs : s.2.length ≤ 1000000) :
    Calls Tryz.prog 68 #[.pointer (some ⟨br, 0, none⟩), .string (strB part), .string v] w fun e w' => ∃ r, e = .returned r ∧ Rdr B w0 w' br np nn nc (s.1, foundM part v s.2) L := by
  refine calls_intro (c := codeOf Tryz.f68) (rs := []) (N := 29) Tryz.func68 kr kr kr ?_
  obtain ⟨p, n, c, row, hrow, H0⟩ := h
  have hlen := hrow.len
  have hkey := key_fn (strB part) (by rw [strB_size]; omega)
  rw [tl_strB] at hkey
  refine rS [.v, .c hkey, .v, .v, .v, .v, .v] H0 kr fun gs1 w1 H1 => ?_
  have H2 : St B w0 w1 ((br, rdO np nn nc p n c s.1) :: (row ++ L)) := H1.as kr
  refine g_sreg [0, 1, 2, 3, 4] kr kr ?_
  refine rp [.v, .v, .v] H2 kr fun gs2 w2 H3 => ?_
  show WPs _ _ _ _ [3, 4] _ _
  refine s_alloc H3 (some 8) 48 (.agg #[.string ⟨#[]⟩, .string ⟨#[]⟩]) kr kr kr ?_
  intro bx w3 H4
  refine rp [.s 0] H4 kr fun gs3 w4 H5 => ?_
  show WPs _ _ _ _ [] _ _
  refine s_nil ?_
  have H6 : St B w0 w4 ((bx, prO #[.string (kyS part), .string v]) :: (br, rdO np nn nc p n c s.1) :: (row ++ L)) := H5.as kr
  have hm := tmay_fn (kyS part) v
  unfold foundM
  cases hb : mayM (kyS part) v with
  | false =>
    rw [hb] at hm
    rw [if_neg (by decide)]
    refine rS [.l 0, .c hm] H6 kr fun gs4 w5 H7 => ?_
    refine g_cond_f kr kr ?_
    refine g_skip kr ?_
    show ∃ vs, Res _ _ _ _ vs ∧ _
    have H8 : St B w0 w5 ((bx, prO #[.string (kyS part), .string v]) :: (br, rdO np nn nc p n c s.1) :: (row ++ L)) := H7.as kr
    exact ⟨[], .nil, p, n, c, row, hrow, H8.sub (List.sublist_cons_self ..)⟩
  | true =>
    rw [hb] at hm
    rw [if_pos rfl]
    refine rS [.l 0, .c hm] H6 kr fun gs4 w5 H7 => ?_
    refine g_cond_t kr kr ?_
    have H8 : St B w0 w5 ((bx, prO #[.string (kyS part), .string v]) :: (br, rdO np nn nc p n c s.1) :: (row ++ L)) := H7.as kr
    refine D2.g_draw0 [0, 1, 2, 3, 4, 5, 6, 7, 8, 9, 10] [(some 19, fun _ => .pointer (some ⟨br, 0, none⟩)), (some 20, fun _ => .pointer (some ⟨br, 0, none⟩)), (some 21, fun _ => .pointer (some ⟨br, 0, none⟩)), (some 22, fun _ => .pointer (some ⟨br, 1, none⟩)), (some 23, fun _ => .slice p n c), (some 24, fun _ => .agg #[.string (kyS part), .string v]), (some 25, fun y => .slice (some ⟨y.b, 0, none⟩) 1 1), (some 26, fun y => .slice (some ⟨y.b, 0, none⟩) (n + 1) y.cap), (some 27, fun _ => .pointer (some ⟨br, 0, none⟩)), (some 28, fun _ => .pointer (some ⟨br, 1, none⟩)), (none, fun _ => undef)]
      (PreFo B w0 bx br (prO #[.string (kyS part), .string v]) #[.string (kyS part), .string v] np nn nc s.1 p n c row (cellsF pS (s.2 ++ [(kyS part, v)])) L) kr kr kr H8.drew ⟨?_, ?_, ?_, ?_, ?_, ?_, ?_, ?_, ?_, ?_, ?_, trivial⟩ ?_
    · exact D2.gv_val (fun _ _ _ h => h) (fun g w => by kernel_rfl)
    · exact D2.gv_val (fun _ _ _ h => h) (fun g w => by kernel_rfl)
    · exact D2.gv_val (fun _ _ _ h => h) (fun g w => by kernel_rfl)
    · exact D2.gv_val (fun _ _ _ h => h) (fun g w => by kernel_rfl)
    · refine D2.gv_ld (fun _ _ _ h => h) 23 (.tmp 22) (fun _ => br) 1 #[.slice np nn nc, .slice p n c, .int .i64 ((s.1 : Nat) : Int)] 80 (0, 0) (fun g => by kernel_rfl) (fun g => by kernel_rfl) (fun L g w hN hp => ?_) kr kr
      obtain ⟨l, h, _, hm⟩ := hp.st (hN.post 7 kr)
      exact (h.own _ hm).2
    · refine D2.gv_ld (fun _ _ _ h => h) 48 (.tmp 8) (fun _ => bx) 0 #[.string (kyS part), .string v] 48 (0, 0) (fun g => by kernel_rfl) (fun g => by kernel_rfl) (fun L g w hN hp => ?_) kr kr
      obtain ⟨l, h, hm, _⟩ := hp.st (hN.2.2.no 6 7 kr (hN.post 6 kr))
      exact (h.own _ hm).2
    · refine D2.gives_of fun L1 gg ww hp hN => ?_
      have h7 := hN.post 7 kr
      unfold PreFo at hp
      rw [h7, hN.1] at hp
      obtain ⟨o, ho, hd, hw, hrun⟩ := opv_some (show opv _ _ 6 _ ww = some (some 25, true, .ok (.value (.slice (some ⟨ww.heap.size, 0, none⟩) 1 1)) (ww.alloc (.cells #[.string (kyS part), .string v] 48))) by kernel_rfl)
      refine ⟨o, ho, hd, .inr ⟨hw, ?_⟩⟩
      refine (congrArg (D2.Runs _ _) hrun).mpr ?_
      refine ⟨{ b := ww.heap.size }, rfl, ?_⟩
      unfold PreFo
      rw [show D2.put1 L1 6 7 = false from h7, show D2.put1 L1 6 6 = true from rfl]
      exact St.alloc hp _
    · refine D2.gives_of fun L1 gg ww hp hN => ?_
      have h6 := hN.bef 6 kr
      have h10 := hN.post 10 kr
      unfold PreFo at hp
      rw [hN.1, h6] at hp
      obtain ⟨o, ho, hd, hw, hop⟩ := opk_some (show opk _ 7 _ = some (some 26, true, appendOp 23 (.tmp 23) (.tmp 25)) by kernel_rfl)
      refine ⟨o, ho, hd, .inr ⟨hw, ?_⟩⟩
      obtain ⟨left, ps⟩ := s
      rcases hrow with ⟨rfl, rfl, rfl, rfl, hA⟩ | ⟨bw, cur, rfl, rfl, hrw⟩
      · simp only at hA; subst hA
        obtain ⟨b', cap', cur', w', hrun, HS', hr'⟩ := grow_nil (K := 2) hp (t := 23) (e := 48) (bytes := 32) (k := 0) (bx := (gg 6).b) (c := 1) (Y := #[.string (kyS part), .string v]) kr hop kr kr rfl rfl (one_all rfl) (by omega)
        rw [hrun]
        refine ⟨{ b := b', cap := cap', cur := cur' }, rfl, ?_⟩
        unfold PreFo
        rw [show D2.put1 L1 7 7 = true from rfl, show D2.put1 L1 7 10 = false from h10]
        exact ⟨hr', (HS'.sub (List.Sublist.cons_cons _ (List.sublist_cons_self ..))).perm (List.perm_middle (l₁ := [(bx, prO #[.string (kyS part), .string v]), (br, rdO np nn nc none 0 0 left)]))⟩
      · obtain ⟨b', cap', cur', w', hrun, HS', hr'⟩ := grow_own (K := 2) hp (t := 23) (e := 48) (bytes := 32) (j := 3) (k := 0) (bx := (gg 6).b) (c := 1) (Y := #[.string (kyS part), .string v]) kr hop kr rfl hrw kr rfl rfl (one_all rfl) (by simp only at hlen hs; omega) (by simp only at hlen hs; unfold maxLen; omega)
        rw [hrun]
        refine ⟨{ b := b', cap := cap', cur := cur' }, rfl, ?_⟩
        unfold PreFo
        rw [show D2.put1 L1 7 7 = true from rfl, show D2.put1 L1 7 10 = false from h10]
        refine ⟨?_, HS'.sub (List.sublist_cons_self ..)⟩
        rw [cellsF_snoc]; exact hr'
    · exact D2.gv_val (fun _ _ _ h => h) (fun g w => by kernel_rfl)
    · exact D2.gv_val (fun _ _ _ h => h) (fun g w => by kernel_rfl)
    · refine D2.gives_of fun L1 gg ww hp hN => ?_
      have h7 := hN.bef 7 kr
      unfold PreFo at hp
      rw [h7, hN.1] at hp
      obtain ⟨hr', HS⟩ := hp
      obtain ⟨o, ho, hd, hw, hop⟩ := opk_some (show opk _ 10 _ = some (none, true, .store 23 (.tmp 28) (.tmp 26)) by kernel_rfl)
      refine ⟨o, ho, hd, .inr ⟨hw, ?_⟩⟩
      rw [store_at (t := 23) (off := 1) (b := br) (C := #[.slice np nn nc, .slice p n c, .int .i64 ((s.1 : Nat) : Int)]) (T := 80) (v := .slice (some ⟨(gg 7).b, 0, none⟩) (n + 1) (gg 7).cap) (C' := #[.slice np nn nc, .slice (some ⟨(gg 7).b, 0, none⟩) (n + 1) (gg 7).cap, .int .i64 ((s.1 : Nat) : Int)]) (HS.get 1 kr) kr kr (of_decide_eq_true kr) kr kr kr o hop]
      refine ⟨default, rfl, ?_⟩
      unfold PreFo
      rw [show D2.put1 L1 10 7 = true from h7, show D2.put1 L1 10 10 = true from rfl]
      exact ⟨hr', HS.store 1 (C := #[.slice np nn nc, .slice p n c, .int .i64 ((s.1 : Nat) : Int)]) kr⟩
    · intro L1 gg w14 hall hp
      unfold PreFo at hp
      rw [hall 7 (Nat.le_of_ble_eq_true kr), hall 10 (Nat.le_of_ble_eq_true kr)] at hp
      obtain ⟨hr', HS⟩ := hp
      show ∃ vs, Res _ _ _ _ vs ∧ _
      exact ⟨[], .nil, _, _, _, [((gg 7).b, prO (gg 7).cur)], .inr ⟨_, _, rfl, rfl, hr'⟩, HS.sub (List.sublist_cons_self ..)⟩
end Go.Proofs.YtlhfgbjhngkicaaGreatDoor

namespace Go.Proofs.YtlhfgbjhngkicaaGreatDoor
open Go Go.RowKit
set_option linter.unusedVariables false
def Less (s t : Nat × List Pr) : Prop := t.1 ≤ s.1 ∧ t.2.length + t.1 ≤ s.2.length + s.1
theorem Less.trans {a b c : Nat × List Pr} (h : Less a b) (h2 : Less b c) : Less a c := ⟨Nat.le_trans h2.1 h.1, Nat.le_trans h2.2 h.2⟩
theorem kidsR_less {go : Int → List UInt8 → Nat × List Pr → Nat × List Pr} (hg : ∀ a p s, Less s (go a p s)) (x : Nd) (part : List UInt8) : ∀ (n : Nat) (s : Nat × List Pr), Less s (kidsR go x part n s)
  | 0, s => ⟨Nat.le_refl _, Nat.le_refl _⟩
  | n + 1, s => by
    unfold kidsR
    split
    · exact kidsR_less hg x part n s
    · exact (kidsR_less hg x part n s).trans (hg ..)
theorem found_len (part : List UInt8) (v : ByteArray) (ps : List Pr) : (foundM part v ps).length ≤ ps.length + 1 := by
  unfold foundM
  split
  · rw [List.length_append]; exact Nat.le_refl _
  · omega
theorem walkM_less (A : List Nd) : ∀ (f : Nat) (a : Int) (p : List UInt8) (s : Nat × List Pr), Less s (walkM A f a p s)
  | 0, _, _, _ => ⟨Nat.le_refl _, Nat.le_refl _⟩
  | f + 1, a, p, s => by
    unfold walkM
    split
    · exact ⟨Nat.le_refl _, Nat.le_refl _⟩
    · rename_i h0
      cases hx : A[a.toNat]? with
      | none => exact ⟨Nat.le_refl _, Nat.le_refl _⟩
      | some x =>
        simp only
        split
        · exact ⟨Nat.sub_le _ _, by simp only; omega⟩
        · refine Less.trans ?_ (kidsR_less (walkM_less A f) x _ 16 _)
          have := found_len (p ++ tl x.part) x.value s.2
          exact ⟨Nat.sub_le _ _, by simp only; omega⟩
theorem str_cat (a : List UInt8) (b : ByteArray) : strB a ++ b = strB (a ++ tl b) := by apply tl_inj; rw [tl_add, tl_strB, tl_strB]
def WalkC (A : List Nd) (f : Nat) : Prop := ∀ (at_ : Int) (ahead : List UInt8) (br : Nat) (np : Option Addr) (nn nc : Nat) (s : Nat × List Pr) {B : Nat} {w0 w : World} {L : List (Nat × Obj)}, Rdr B w0 w br np nn nc s L → NdS B w0 L np nn A → s.1 ≤ f → ahead.length ≤ 65 → s.2.length + s.1 ≤ 1000 →
  Calls Tryz.prog 42 #[.pointer (some ⟨br, 0, none⟩), .int .i64 at_, .string (strB ahead)] w fun e w' => ∃ r, e = .returned r ∧ Rdr B w0 w' br np nn nc (walkM A f at_ ahead s) L
set_option maxRecDepth 100000 in
set_option maxHeartbeats 4000000 in
theorem walk_out (A : List Nd) (at_ : Int) (ahead : List UInt8) (br : Nat) (np : Option Addr) (nn nc : Nat) (s : Nat × List Pr) {B : Nat} {w0 w : World} {L : List (Nat × Obj)} (h : Rdr B w0 w br np nn nc s L) (hc : s.1 = 0 ∨ at_ < 0 ∨ (nn : Int) ≤ at_) :
    Calls Tryz.prog 42 #[.pointer (some ⟨br, 0, none⟩), .int .i64 at_, .string (strB ahead)] w fun e w' => ∃ r, e = .returned r ∧ Rdr B w0 w' br np nn nc s L := by
  refine calls_intro (c := codeOf Tryz.f42) (rs := []) (N := 76) Tryz.func42 kr kr kr ?_
  obtain ⟨p, n, c, row, hrow, H0⟩ := h
  refine g_seq kr ?_
  refine g_seq kr ?_
  by_cases h1 : s.1 = 0
  · refine rL [.v, .v, .v, .l 0, .e (v := .bool (((s.1 : Nat) : Int) == 0)) (v' := .bool true) (bool_eq (beq_iff_eq.2 (by omega))), .v, .n, .n, .v, .v, .n, .n, .n, .n, .n, .n, .n, .v] H0 kr fun gs1 w1 H1 => ?_
    show WP _ _ _ _ _ _
    refine g_cond_t kr kr ?_
    refine g_ret kr ?_
    show ∃ vs, Res _ _ _ _ vs ∧ _
    exact ⟨[], .nil, p, n, c, row, hrow, H1.as kr⟩
  · by_cases h2 : at_ < 0
    · refine rL [.v, .v, .v, .l 0, .e (v := .bool (((s.1 : Nat) : Int) == 0)) (v' := .bool false) (bool_eq (beq_eq_false_iff_ne.2 (by omega))), .v, .v, .e (v := .bool (decide (at_ < 0))) (v' := .bool true) (bool_eq (decide_eq_true (by omega))), .v, .v, .n, .n, .n, .n, .n, .n, .n, .v] H0 kr fun gs1 w1 H1 => ?_
      show WP _ _ _ _ _ _
      refine g_cond_t kr kr ?_
      refine g_ret kr ?_
      show ∃ vs, Res _ _ _ _ vs ∧ _
      exact ⟨[], .nil, p, n, c, row, hrow, H1.as kr⟩
    · refine rL [.v, .v, .v, .l 0, .e (v := .bool (((s.1 : Nat) : Int) == 0)) (v' := .bool false) (bool_eq (beq_eq_false_iff_ne.2 (by omega))), .v, .v, .e (v := .bool (decide (at_ < 0))) (v' := .bool false) (bool_eq (decide_eq_false (by omega))), .v, .v, .v, .v, .v, .v, .l 0, .v, .e (v := .bool (decide (((nn : Nat) : Int) ≤ at_))) (v' := .bool true) (bool_eq (decide_eq_true (by omega))), .v] H0 kr fun gs1 w1 H1 => ?_
      show WP _ _ _ _ _ _
      refine g_cond_t kr kr ?_
      refine g_ret kr ?_
      show ∃ vs, Res _ _ _ _ vs ∧ _
      exact ⟨[], .nil, p, n, c, row, hrow, H1.as kr⟩
set_option maxRecDepth 100000 in
set_option maxHeartbeats 4000000 in
theorem walk_step (A : List Nd) (hA : ∀ x ∈ A, x.part.size ≤ 140737488355328) (f : Nat) (ih : WalkC A f) : WalkC A (f + 1) := by
  intro at_ ahead br np nn nc s B w0 w L h hN hf hah hs
  have hnn : nn = A.length := by obtain ⟨p, n, c, row, _, H⟩ := h; exact (hN _ _ H fun e he => List.mem_cons_of_mem _ (List.mem_append_right _ he)).1
  by_cases hout : s.1 = 0 ∨ at_ < 0 ∨ (A.length : Int) ≤ at_
  · unfold walkM
    rw [if_pos hout]
    exact walk_out A at_ ahead br np nn nc s h (by rw [hnn]; exact hout)
  · obtain ⟨k, rfl⟩ : ∃ k : Nat, at_ = (k : Int) := ⟨at_.toNat, by omega⟩
    have hk : k < A.length := by omega
    obtain ⟨x, hx⟩ : ∃ x, A[k]? = some x := ⟨_, List.getElem?_eq_getElem hk⟩
    have hxs := hA x (List.mem_of_getElem? hx)
    have hw : walkM A (f + 1) (k : Int) ahead s = if 64 < ahead.length + x.part.size then (s.1 - 1, s.2) else kidsR (walkM A f) x (ahead ++ tl x.part) 16 (s.1 - 1, foundM (ahead ++ tl x.part) x.value s.2) := by
      rw [walkM, if_neg hout, Int.toNat_natCast, hx]
    rw [hw]
    clear hw
    generalize hat : (k : Int) = at_ at hout
    refine calls_intro (c := codeOf Tryz.f42) (rs := []) (N := 76) Tryz.func42 kr kr kr ?_
    obtain ⟨p, n, c, row, hrow, H0⟩ := h
    refine g_seq kr ?_
    refine g_seq kr ?_
    refine rL [.v, .v, .v, .l 0, .e (v := .bool (((s.1 : Nat) : Int) == 0)) (v' := .bool false) (bool_eq (beq_eq_false_iff_ne.2 (by omega))), .v, .v, .e (v := .bool (decide (at_ < 0))) (v' := .bool false) (bool_eq (decide_eq_false (by omega))), .v, .v, .v, .v, .v, .v, .l 0, .v, .e (v := .bool (decide (((nn : Nat) : Int) ≤ at_))) (v' := .bool false) (bool_eq (decide_eq_false (by omega))), .v] H0 kr fun gs1 w1 H1 => ?_
    show WP _ _ _ _ _ _
    refine g_cond_f kr kr ?_
    refine g_skip kr ?_
    show WP _ _ _ _ _ _
    refine rS [.v, .v, .v, .l 0, .e (v := .int .i64 (IntKind.i64.wrap (((s.1 : Nat) : Int) - 1))) (v' := .int .i64 ((s.1 - 1 : Nat) : Int)) (int_eq (wrapSub_i64 (a := s.1) (b := 1) (by omega))), .v, .v, .s 0] H1 kr fun gs2 w2 H2 => ?_
    refine g_sreg [0, 1, 2, 3, 4, 5, 6, 7, 8] kr kr ?_
    refine rp [.v, .v, .v, .l 0, .v] H2 kr fun gs3 w3 H3 => ?_
    show WPs _ _ _ _ [5, 6, 7, 8] _ _
    have H4 : St B w0 w3 ((br, rdO np nn nc p n c (s.1 - 1)) :: (row ++ L)) := H3.as kr
    obtain ⟨_, hnd⟩ := hN _ _ H4 fun e he => List.mem_cons_of_mem _ (List.mem_append_right _ he)
    rcases hnd with hnil | ⟨b, off, C, T, fz, hp, hh, hR⟩
    · rw [hnil] at hk; simp at hk
    obtain ⟨hr1, hr2⟩ := hR k x hx
    refine rp [.o (ins := [((.tmp 38), .slice np nn nc), ((.tmp 39), .int .i64 at_)]) (v := .pointer (some ⟨b, off + k * 19, none⟩)) (fun ρ o w ho hi2 => idxP_run (kd := .i64) (t := 24) (e := 58) (K := 19) (bytes := 168) kr (x := (.tmp 38)) (y := (.tmp 39)) b off nn nc k hp ho hi2.1 (by rw [hat]; exact hi2.2.1) (by omega) w)] H4 kr fun gs4 w4 H5 => ?_
    show WPs _ _ _ _ [6, 7, 8] _ _
    have H6 : St B w0 w4 ((br, rdO np nn nc p n c (s.1 - 1)) :: (row ++ L)) := H5.as kr
    obtain ⟨_, hnd⟩ := hN _ _ H6 fun e he => List.mem_cons_of_mem _ (List.mem_append_right _ he)
    rcases hnd with hnil | ⟨b', off', C', T', fz', hp', hh', hR'⟩
    · rw [hnil] at hk; simp at hk
    obtain ⟨rfl, rfl⟩ : b' = b ∧ off' = off := by rw [hp] at hp'; injection hp' with hp'; injection hp' with h1 h2; exact ⟨h1.symm, h2.symm⟩
    obtain ⟨hr1', hr2'⟩ := hR' k x hx
    refine s_ldA (some 41) 58 (.tmp 40) b' (off' + k * 19) 19 (W := (nS.cs x).toArray) kr kr kr kr hh' hr1' hr2' ?_
    refine s_alloc H6 (some 6) 58 (.agg ([Value.int .i64 0, Value.string ⟨#[]⟩, Value.string ⟨#[]⟩] ++ arrF 16 fun _ => .int .i64 0).toArray) kr kr kr ?_
    intro bn w5 H7
    refine rp [.s 0] H7 kr fun gs5 w6 H8 => ?_
    show WPs _ _ _ _ [] _ _
    refine s_nil ?_
    have H9 : St B w0 w6 ((bn, ndO x) :: (br, rdO np nn nc p n c (s.1 - 1)) :: (row ++ L)) := H8.as kr
    clear H0 H1 H2 H3 H4 H5 H6 H7 H8
    refine g_keep [0, 1, 2, 6] fun ρ1 => ?_
    refine g_seq kr ?_
    refine g_seq kr ?_
    by_cases h64 : 64 < ahead.length + x.part.size
    · rw [if_pos h64]
      refine rL [.v, .v, .v, .l 0, .v, .e (v := .int .i64 (IntKind.i64.wrap (((ahead.length : Nat) : Int) + ((x.part.size : Nat) : Int)))) (v' := iN (ahead.length + x.part.size)) (int_eq (wrapAdd_i64 (by omega))), .e (v := .bool (decide ((64 : Int) < ((ahead.length + x.part.size : Nat) : Int)))) (v' := .bool true) (bool_eq (decide_eq_true (by omega)))] H9 kr fun gs6 w7 H10 => ?_
      show WP _ _ _ _ _ _
      refine g_cond_t kr kr ?_
      refine g_ret kr ?_
      show ∃ vs, Res _ _ _ _ vs ∧ _
      have H11 : St B w0 w7 ((bn, ndO x) :: (br, rdO np nn nc p n c (s.1 - 1)) :: (row ++ L)) := H10.as kr
      exact ⟨[], .nil, p, n, c, row, hrow, H11.sub (List.sublist_cons_self ..)⟩
    · rw [if_neg h64]
      obtain ⟨part, hpart⟩ : ∃ part, ahead ++ tl x.part = part := ⟨_, rfl⟩
      have hpl : part.length ≤ 64 := by rw [← hpart, List.length_append, tl_len]; omega
      rw [hpart]
      have hfl := found_len part x.value s.2
      obtain ⟨s0, hs0⟩ : ∃ s0, (s.1 - 1, foundM part x.value s.2) = s0 := ⟨_, rfl⟩
      rw [hs0]
      have hs01 : s0.1 = s.1 - 1 := by rw [← hs0]
      have hs02 : s0.2.length + s0.1 ≤ 1000 := by rw [← hs0]; simp only; omega
      refine rL [.v, .v, .v, .l 0, .v, .e (v := .int .i64 (IntKind.i64.wrap (((ahead.length : Nat) : Int) + ((x.part.size : Nat) : Int)))) (v' := iN (ahead.length + x.part.size)) (int_eq (wrapAdd_i64 (by omega))), .e (v := .bool (decide ((64 : Int) < ((ahead.length + x.part.size : Nat) : Int)))) (v' := .bool false) (bool_eq (decide_eq_false (by omega)))] H9 kr fun gs6 w7 H10 => ?_
      show WP _ _ _ _ _ _
      refine g_cond_f kr kr ?_
      refine g_skip kr ?_
      show WP _ _ _ _ _ _
      refine rS [.v, .v, .l 0, .oe (ins := [((.tmp 49), .string (strB ahead)), ((.tmp 51), .string x.part)]) (v := .string (strB ahead ++ x.part)) (v' := .string (strB part)) (fun ρ o w ho hi2 => sadd_run (t := 9) (t' := 9) (x := (.tmp 49)) (y := (.tmp 51)) (strB ahead) x.part w ho hi2.1 hi2.2.1 (by rw [strB_size]; omega)) (by rw [str_cat, hpart]), .v] H10 kr fun gs7 w8 H11 => ?_
      refine g_sreg [0, 1, 2, 3, 4] kr kr ?_
      refine rp [.v, .v, .v, .l 0] H11 kr fun gs8 w9 H12 => ?_
      show WPs _ _ _ _ [4] _ _
      have H13 : St B w0 w9 ((bn, ndO x) :: (br, rdO np nn nc p n c (s.1 - 1)) :: (row ++ L)) := H12.as kr
      have R1 : Rdr B w0 w9 br np nn nc (s.1 - 1, s.2) ((bn, ndO x) :: L) := ⟨p, n, c, row, hrow, H13.perm ((List.Perm.cons _ List.perm_middle).trans (List.Perm.swap _ _ _))⟩
      refine s_callC (some 57) 68 #[.pointer (some ⟨br, 0, none⟩), .string (strB part), .string x.value] (found_c part x.value br np nn nc _ R1 (by omega) (by simp only; omega)) kr kr ?_
      rintro _ w10 ⟨p2, n2, c2, row2, hrow2, H14⟩
      refine s_nil ?_
      have hrow2' : RowF pS 48 p2 n2 c2 row2 s0.2 := by rw [← hs0]; exact hrow2
      have H14' : St B w0 w10 ((br, rdO np nn nc p2 n2 c2 s0.1) :: (row2 ++ ((bn, ndO x) :: L))) := by rw [hs01]; exact H14
      have H15 : St B w0 w10 ((bn, ndO x) :: (br, rdO np nn nc p2 n2 c2 s0.1) :: (row2 ++ L)) := H14'.perm ((List.Perm.swap _ _ _).trans (List.Perm.cons _ List.perm_middle.symm))
      clear H9 H10 H11 H12 H13
      refine rS [.v, .l 0, .v] H15 kr fun gs9 w11 H16 => ?_
      refine g_block 0 kr ?_
      have H17 : St B w0 w11 ((bn, ndO x) :: (br, rdO np nn nc p2 n2 c2 s0.1) :: (row2 ++ L)) := H16.as kr
      clear H14 H14' H15 H16
      refine g_loop kr (fun mz ρ ww => ∃ (i : Nat) (p n c : _) (row : List (Nat × Obj)), 16 - i = mz ∧ i ≤ 16 ∧ RowF pS 48 p n c row (kidsR (walkM A f) x part i s0).2 ∧ St B w0 ww ((bn, ndO x) :: (br, rdO np nn nc p n c (kidsR (walkM A f) x part i s0).1) :: (row ++ L)) ∧ Is [(0, .pointer (some ⟨br, 0, none⟩)), (6, .pointer (some ⟨bn, 0, none⟩)), (7, .string (strB part)), (59, .agg (kidC x.kids).toArray), (60, iN i)] ρ) (16 - 0) ⟨0, p2, n2, c2, row2, rfl, Nat.zero_le _, hrow2', H17, (Is.of ⟨kr, kr, kr, kr, kr, trivial⟩)⟩ ?_
      clear H17 hrow2 hrow2'
      rintro _ _ w12 ⟨i, p3, n3, c3, row3, rfl, hi16, hrow3, H18, _, rfl⟩
      have hless := kidsR_less (walkM_less A f) x part i s0
      by_cases hi : i < 16
      · refine rS [.e (v := .bool (decide (((i : Nat) : Int) < 16))) (v' := .bool true) (bool_eq (decide_eq_true (by omega)))] H18 kr fun gs10 w13 H19 => ?_
        refine g_seq kr ?_
        refine g_cond_t kr kr ?_
        refine g_skip kr ?_
        show WP _ _ _ _ _ _
        refine g_seq kr ?_
        refine g_block 1 kr ?_
        have hval : (kidC x.kids).toArray[0 + i * 1]? = some (.int .i64 (x.kids.getD i (-1))) := by
          rw [List.getElem?_toArray, Nat.zero_add, Nat.mul_one]; exact arrF_get (f := fun j => Value.int .i64 (x.kids.getD j (-1))) hi
        obtain ⟨kd, hkd⟩ : ∃ kd, x.kids.getD i (-1) = kd := ⟨_, rfl⟩
        rw [hkd] at hval
        refine rS [.v, .o (ins := [((.tmp 59), .agg (kidC x.kids).toArray), ((.tmp 60), iN i)]) (v := .int .i64 kd) (fun ρ o w ho hi2 => arr_index (t := 56) (e := 3) (n := 16) (kd := .i64) kr kr kr (x := (.tmp 59)) (y := (.tmp 60)) _ i _ ho hi2.1 hi2.2.1 hi hval w), .v, .v] H19 kr fun gs11 w14 H20 => ?_
        by_cases hk1 : kd = -1
        · refine rS [.v, .e (v := .bool (!(kd == -1))) (v' := .bool false) (bool_eq (by rw [hk1]; rfl))] H20 kr fun gs12 w15 H21 => ?_
          refine g_cond_f kr kr ?_
          refine g_skip kr ?_
          show WP _ _ _ _ _ _
          have e1 : kidsR (walkM A f) x part (i + 1) s0 = kidsR (walkM A f) x part i s0 := by rw [kidsR, hkd, if_pos hk1]
          refine rL [.e (v := .int .i64 (IntKind.i64.wrap (((i : Nat) : Int) + 1))) (v' := .int .i64 ((i + 1 : Nat) : Int)) (int_eq (wrapAdd_i64 (a := i) (b := 1) (by omega))), .v] H21 kr fun gs13 w16 H22 => ?_
          show ∃ m, _ ∧ _
          refine ⟨_, (by omega), i + 1, p3, n3, c3, row3, rfl, hi, by rw [e1]; exact hrow3, by rw [e1]; exact H22.as kr, (Is.of ⟨kr, kr, kr, kr, kr, trivial⟩)⟩
        · refine rS [.v, .e (v := .bool (!(kd == -1))) (v' := .bool true) (bool_eq (by rw [beq_eq_false_iff_ne.2 hk1]; rfl))] H20 kr fun gs12 w15 H21 => ?_
          refine g_cond_t kr kr ?_
          refine g_reg0 [0, 1, 2, 3, 4, 5, 6, 7, 8] kr ?_
          refine rp [.v, .v, .v, .v, .l 0, .v, .c (step_fn x.kind i hi), .oe (ins := [((.tmp 68), .string (strB part)), ((.tmp 72), .string (strB (stepM' x.kind i)))]) (v := .string (strB part ++ strB (stepM' x.kind i))) (v' := .string (strB (part ++ stepM' x.kind i))) (fun ρ o w ho hi2 => sadd_run (t := 9) (t' := 9) (x := (.tmp 68)) (y := (.tmp 72)) (strB part) (strB (stepM' x.kind i)) w ho hi2.1 hi2.2.1 (by rw [strB_size, strB_size]; unfold stepM'; split <;> simp only [List.length_cons, List.length_nil] <;> omega)) (by rw [str_cat, tl_strB])] H21 kr fun gs13 w16 H22 => ?_
          show WPs _ _ _ _ [8] _ _
          have H23 : St B w0 w16 ((bn, ndO x) :: (br, rdO np nn nc p3 n3 c3 (kidsR (walkM A f) x part i s0).1) :: (row3 ++ L)) := H22.as kr
          have R2 : Rdr B w0 w16 br np nn nc (kidsR (walkM A f) x part i s0) ((bn, ndO x) :: L) := ⟨p3, n3, c3, row3, hrow3, H23.perm ((List.Perm.cons _ List.perm_middle).trans (List.Perm.swap _ _ _))⟩
          have hcall := ih kd (part ++ stepM' x.kind i) br np nn nc _ R2 (hN.mono fun e he => List.mem_cons_of_mem _ he) (by have := hless.1; omega) (by rw [List.length_append]; unfold stepM'; split <;> simp only [List.length_cons, List.length_nil] <;> omega) (by have := hless.2; omega)
          have e1 : kidsR (walkM A f) x part (i + 1) s0 = walkM A f kd (part ++ stepM' x.kind i) (kidsR (walkM A f) x part i s0) := by rw [kidsR, hkd, if_neg hk1]
          rw [← e1] at hcall
          refine s_callC (some 74) 42 #[.pointer (some ⟨br, 0, none⟩), .int .i64 kd, .string (strB (part ++ stepM' x.kind i))] hcall kr kr ?_
          rintro _ w17 ⟨p4, n4, c4, row4, hrow4, H24⟩
          refine s_nil ?_
          have H25 : St B w0 w17 ((bn, ndO x) :: (br, rdO np nn nc p4 n4 c4 (kidsR (walkM A f) x part (i + 1) s0).1) :: (row4 ++ L)) := H24.perm ((List.Perm.swap _ _ _).trans (List.Perm.cons _ List.perm_middle.symm))
          show WP _ _ _ _ _ _
          refine rL [.e (v := .int .i64 (IntKind.i64.wrap (((i : Nat) : Int) + 1))) (v' := .int .i64 ((i + 1 : Nat) : Int)) (int_eq (wrapAdd_i64 (a := i) (b := 1) (by omega))), .v] H25 kr fun gs14 w18 H26 => ?_
          show ∃ m, _ ∧ _
          exact ⟨_, (by omega), i + 1, p4, n4, c4, row4, rfl, hi, hrow4, H26.as kr, (Is.of ⟨kr, kr, kr, kr, kr, trivial⟩)⟩
      · obtain rfl : i = 16 := by omega
        refine rS [.v] H18 kr fun gs10 w13 H19 => ?_
        refine g_seq kr ?_
        refine g_cond_f kr kr ?_
        refine g_exit 0 kr ?_
        show ∃ vs, Res _ _ _ _ vs ∧ _
        have H20 : St B w0 w13 ((bn, ndO x) :: (br, rdO np nn nc p3 n3 c3 (kidsR (walkM A f) x part 16 s0).1) :: (row3 ++ L)) := H19.as kr
        exact ⟨[], .nil, p3, n3, c3, row3, hrow3, H20.sub (List.sublist_cons_self ..)⟩
theorem walk_all (A : List Nd) (hA : ∀ x ∈ A, x.part.size ≤ 140737488355328) : ∀ f, WalkC A f
  | 0 => fun at_ ahead br np nn nc s B w0 w L h hN hf hah hs => walk_out A at_ ahead br np nn nc s h (.inl (Nat.le_zero.1 hf))
  | f + 1 => walk_step A hA f (walk_all A hA f)
end Go.Proofs.YtlhfgbjhngkicaaGreatDoor
