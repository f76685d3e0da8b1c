/-
  Slices in drawn regions; new blocks of any kind; rows of digits.
-/
import Derived.Test.YtljhbhhpfkmemaaDrawE
namespace Go.Proofs.Ytljhbhhpfkmemaa
open Go Go.RowKit
set_option linter.unusedVariables false

section
variable {P : Program} {N : Nat} {ops : Array Oper} {i : Nat} {r : List Nat} {K : Env → World → Prop} {ρ : Env} {w : World} {B : Nat} {w0 : World} {l : List (Nat × Obj)}
/-- An operation that lays one new block. -/
theorem s_new (HS : St B w0 w l) (d : Option Nat) (V : Nat → Value) (C : Array Value) (T : TypeId) (h : ∀ w, opv P ops i ρ w = some (d, true, .ok (.value (V w.heap.size)) (w.alloc (.cells C T (0, 0))))) (hd : dOK d N = true)
    (kk : ∀ b w', St B w0 w' ((b, .cells C T (0, 0)) :: l) → WPs P N ops K r (updO ρ d (V b)) w') : WPs P N ops K (i :: r) ρ w := by
  obtain ⟨o, ho, rfl, hw, hr⟩ := opv_some (h w)
  refine WPo.run ho hw fun a ha => ?_
  rw [hr, Oper.upon_value]
  exact ⟨_, ha.put _ (dOK_lt hd) _, kk _ _ (HS.alloc _)⟩
/-- A call that gives a slice of its own: its block stands in the list behind it. -/
def RetS (T size : Nat) (S : Array Value → Nat → Nat → List Nat → Prop) : Nat → Value → World → Prop := fun B v w' =>
  ∃ (b cap n : Nat) (cur : Array Value) (l : List Nat), v = .slice (some ⟨b, 0, none⟩) n cap ∧ B ≤ b ∧ w'.heap[b]? = some (.cells cur T (0, 0)) ∧ S cur cap n l
theorem s_callS (HS : St B w0 w l) (d : Option Nat) (f : Nat) (args : Array Value) (pre : World → Prop) (T size : Nat) (S : Array Value → Nat → Nat → List Nat → Prop) (hc : FnR P f args pre (RetS T size S)) (hp : pre w)
    (h : opv P ops i ρ w = some (d, true, .ok (.enter f args) w)) (hd : dOK d N = true)
    (kk : ∀ b cap n cur ll w', St B w0 w' ((b, .cells cur T (0, 0)) :: l) → S cur cap n ll → WPs P N ops K r (updO ρ d (.slice (some ⟨b, 0, none⟩) n cap)) w') : WPs P N ops K (i :: r) ρ w := by
  obtain ⟨o, ho, rfl, hw, hr⟩ := opv_some h
  refine WPo.run ho hw fun a ha => ?_
  rw [hr, Oper.upon_enter]
  refine (hc w hp).mono ?_
  rintro e w' ⟨v, rfl, hb, b, cap, n, cur, ll, rfl, hle, hh, hS⟩
  exact ⟨_, ha.put _ (dOK_lt hd) _, kk b cap n cur ll w' (HS.add hb hle hh) hS⟩
end

theorem St.front {B : Nat} {w0 w : World} {l l' : List (Nat × Obj)} (h : St B w0 w l) (j : Nat) {e : Nat × Obj} (hj : l[j]? = some e) (he : l.eraseIdx j = l') : St B w0 w (e :: l') := by
  subst he
  have hlt : j < l.length := (List.getElem?_eq_some_iff.1 hj).1
  have hg : l[j] = e := (List.getElem?_eq_some_iff.1 hj).2
  have hp : (e :: l.eraseIdx j).Perm l := by
    have h1 : l = l.take j ++ e :: l.drop (j + 1) := by rw [← hg]; simp
    rw [List.eraseIdx_eq_take_drop_succ]
    conv => rhs; rw [h1]
    exact List.perm_middle.symm
  exact ⟨h.below, h.le, fun x hx => h.own x (hp.mem_iff.1 hx), ((hp.map (·.1)).nodup_iff).2 h.nd⟩
namespace D2
theorem ent_get {E : List Ent} {k : Nat} {p : Bool} {b : Nat} {o o' : Obj} (h : E[k]? = some (p, (b, o'))) (hp : p = true) (ho : o' = o) : E[k]? = some (true, (b, o)) := by rw [h, hp, ho]
theorem ent_set {A A' : List Ent} {k : Nat} {x x' : Ent} (h : A.set k x' = A') (hx : x = x') : A.set k x = A' := by rw [hx]; exact h
section
variable {P : Program} {ops : Array Oper} {R : (Nat → Gh) → Env} {i : Nat} {d : Option Nat} {V : Gh → Value}
variable {E : (Nat → Bool) → (Nat → Gh) → List Ent} {F : (Nat → Bool) → (Nat → Gh) → Prop} {B : Nat} {w0 : World}
theorem gv_new (V : Nat → Value) (C : Array Value) (T : TypeId) (k : Nat) (h : ∀ g w, opv P ops i (R g) w = some (d, true, .ok (.value (V w.heap.size)) (w.alloc (.cells C T (0, 0)))))
    (hl : ∀ L g b, Now ops i L → (E L g).set k (true, (b, .cells C T (0, 0))) = E (put1 L i) (setN g i { b := b })) (hF : ∀ L g b, Now ops i L → F L g → F (put1 L i) (setN g i b)) :
    Gives P ops R (Pre B w0 E F) i d (fun b => V b.b) := gives_of fun L g w hp hN => by
  obtain ⟨o, ho, hd, hw, hr⟩ := opv_some (h g w)
  have H2 := hp.1.add (w' := w.alloc (.cells C T (0, 0))) ((Below.refl _ _).alloc (Nat.le_refl _) _) k (Nat.le_refl _) (heap_alloc_new w _)
  rw [hl L g _ hN] at H2
  exact ⟨o, ho, hd, .inr ⟨hw, by rw [hr]; exact ⟨{ b := w.heap.size }, rfl, H2, hF L g _ hN hp.2⟩⟩⟩
/-- A call that gives a slice of its own: entry k. -/
theorem gv_callS (f : Nat) (args : (Nat → Gh) → Array Value) (pr : (Nat → Gh) → World → Prop) (T size : Nat) (S : (Nat → Gh) → Array Value → Nat → Nat → List Nat → Prop) (k : Nat)
    (hc : ∀ L g, Now ops i L → F L g → FnR P f (args g) (pr g) (RetS T size (S g))) (hpr : ∀ L g w, Now ops i L → StE B w0 w (E L g) → F L g → pr g w) (h : ∀ g w, opv P ops i (R g) w = some (d, true, .ok (.enter f (args g)) w))
    (hl : ∀ L g (x : Gh), Now ops i L → (E L g).set k (true, (x.b, .cells x.cur T (0, 0))) = E (put1 L i) (setN g i x)) (hF : ∀ L g (x : Gh), Now ops i L → F L g → S g x.cur x.cap x.n x.l → F (put1 L i) (setN g i x)) :
    Gives P ops R (Pre B w0 E F) i d (fun x => .slice (some ⟨x.b, 0, none⟩) x.n x.cap) :=
  gv_callR f args pr (fun g => RetS T size (S g)) hc hpr h fun L g w v w' hN hE hFF hb ⟨b, cap, n, cur, ll, hv, hle, hh, hS⟩ => by
    have H2 := hE.add hb k hle hh
    rw [hl L g { b := b, cap := cap, n := n, cur := cur, l := ll } hN] at H2
    exact ⟨{ b := b, cap := cap, n := n, cur := cur, l := ll }, hv, H2, hF L g _ hN hFF hS⟩
/-- 'append(s, x...)': entry j is turned, or laid anew. -/
theorem gv_append (t e : TypeId) (size bytes : Nat) (s x : Operand) (j k : Nat) (b bx n m cap c : (Nat → Gh) → Nat) (cur CX : (Nat → Gh) → Array Value) (TX : TypeId) (fz : Nat × Nat) (xs news : (Nat → Gh) → List Value)
    (h : ∀ g, opk ops i (R g) = some (d, true, appendOp t s x)) (ht : sliceOf P t = some (e, size, bytes))
    (hs : ∀ g, ev (R g) s = .slice (some ⟨b g, 0, none⟩) (n g) (cap g)) (hj : ∀ L g, Now ops i L → (E L g)[j]? = some (true, (b g, .cells (cur g) e (0, 0)))) (hr : ∀ L g, Now ops i L → F L g → Rw size (cur g) (cap g) (n g) (xs g))
    (hx : ∀ g, ev (R g) x = .slice (some ⟨bx g, 0, none⟩) (m g) (c g)) (hk : ∀ L g, Now ops i L → (E L g)[k]? = some (true, (bx g, .cells (CX g) TX fz)))
    (hn : ∀ L g, Now ops i L → F L g → (CX g).toList.take (m g * size) = news g ∧ (news g).length = m g * size ∧ (∀ u ∈ news g, u.oneCell' = true) ∧ (n g + m g) * bytes ≤ 140737488355328 ∧ n g + m g ≤ maxLen)
    (hl : ∀ L g (y : Gh), Now ops i L → (E L g).set j (true, (y.b, .cells y.cur e (0, 0))) = E (put1 L i) (setN g i y))
    (hF : ∀ L g (y : Gh), Now ops i L → F L g → y.n = n g + m g → Rw size y.cur y.cap (n g + m g) (xs g ++ news g) → F (put1 L i) (setN g i y)) :
    Gives P ops R (Pre B w0 E F) i d (fun y => .slice (some ⟨y.b, 0, none⟩) y.n y.cap) := gives_of fun L g w hp hN => by
  obtain ⟨o, ho, hd, hw, hop⟩ := opk_some (h g)
  obtain ⟨it, z, hu, hi, hz, hsz, hby, hzs, h0⟩ := sliceOf_spec ht
  obtain ⟨hn1, hn2, hn3, hn4, hn5⟩ := hn L g hN hp.2
  have hnews : ∀ q u, (news g)[q]? = some u → w.cell? ((⟨bx g, 0, none⟩ : Addr).add q) = some u := fun q u hq => by
    have hql : q < m g * size := by rw [← hn2]; exact (List.getElem?_eq_some_iff.1 hq).1
    rw [← hn1, List.getElem?_take, if_pos hql, Array.getElem?_toList] at hq
    rw [addr_add, Nat.zero_add]
    simp [World.cell?, hp.1.get k (hk L g hN), hq]
  have hjj := hj L g hN
  obtain ⟨v', w', hrun, hown, hgr, hnil, hblk⟩ := run_append_own_at (P := P) w B t o.type e it z size bytes hu hi hz hsz hby hzs h0 _ (n g) (xs g) ((hr L g hN hp.2).owns (hp.1.own j _ hjj).1 (hp.1.get j hjj)) ⟨bx g, 0, none⟩ (m g) (c g) (news g) hn2 hnews hn3 hn5 hn4 hp.1.le
  have hown' := hown
  rcases hown'.2 with ⟨hv, _⟩ | ⟨q, cap', cur', rfl, hbg, hg, hnc, hcm, hcs, htk⟩
  · exact absurd (hnil.1 hv).1 (by simp)
  · have hgb : q = b g ∨ q = w.heap.size := by
      rcases hblk with hq | hq
      · left; injection hq
      · right; injection hq
    have HS' := hp.1.turn j hjj hgr hgb hg
    rw [hl L g { b := q, cap := cap', n := n g + m g, cur := cur' } hN] at HS'
    have hex : (execOp (ev (R g)) o).run P w = .ok (.value (.slice (some ⟨q, 0, none⟩) (n g + m g) cap')) w' := by
      unfold execOp
      simp only [hop, appendOp, resolve, invoke, builtin, Sem.run_bind, Sem.run_pure, Result.andThen_ok, List.map_toArray, List.map_cons, List.map_nil, hs g, hx g, hrun]
    exact ⟨o, ho, hd, .inr ⟨hw, by rw [hex]; exact ⟨{ b := q, cap := cap', n := n g + m g, cur := cur' }, rfl, HS', hF L g _ hN hp.2 rfl ⟨hown.1, hnc, hcm, htk, hcs⟩⟩⟩⟩
end
end D2

/-! ### Rows of digits -/
def cellsD (ds : List Nat) : List Value := ds.map fun d => Value.int .i64 ((d : Nat) : Int)
theorem cellsD_len (ds : List Nat) : (cellsD ds).length = ds.length := by unfold cellsD; simp
theorem cellsD_one (ds : List Nat) : ∀ u ∈ cellsD ds, u.oneCell' = true := by
  intro u hu; unfold cellsD at hu; obtain ⟨d, _, rfl⟩ := List.mem_map.1 hu; rfl
theorem cellsD_append (a b : List Nat) : cellsD (a ++ b) = cellsD a ++ cellsD b := by unfold cellsD; simp
theorem cellsD_get (ds : List Nat) (i : Nat) (hi : i < ds.length) : (cellsD ds)[i]? = some (.int .i64 ((ds.getD i 0 : Nat) : Int)) := by
  unfold cellsD; simp [hi]
/-- A slice of digits lies in memory. -/
def DigW (w : World) (v : Value) (ds : List Nat) : Prop := ∃ b cap cur, v = .slice (some ⟨b, 0, none⟩) ds.length cap ∧ w.heap[b]? = some (.cells cur 3 (0, 0)) ∧ Rw 1 cur cap ds.length (cellsD ds)
end Go.Proofs.Ytljhbhhpfkmemaa
