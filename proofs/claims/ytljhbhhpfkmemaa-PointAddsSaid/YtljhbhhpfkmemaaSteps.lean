/-
  The rules as they are used: by the place in the text.
-/
import Derived.Test.YtljhbhhpfkmemaaOps
namespace Go.Proofs.Ytljhbhhpfkmemaa
open Go Go.RowKit
set_option linter.unusedVariables false

def codeOf (f : Func) : Code := f.body.getD .skip
def seqL : Code → Code | .seq a _ => a | _ => .skip
def seqR : Code → Code | .seq _ b => b | _ => .skip
def isSeq : Code → Bool | .seq _ _ => true | _ => false
def condX : Code → Operand | .cond x _ _ => x | _ => .const undef
def condT : Code → Code | .cond _ a _ => a | _ => .skip
def condE : Code → Code | .cond _ _ b => b | _ => .skip
def isCond : Code → Bool | .cond _ _ _ => true | _ => false
def inner : Code → Code | .block _ b => b | .loop b => b | .scope b => b | _ => .skip
def blockId : Code → Option Nat | .block i _ => some i | _ => none
def isLoop : Code → Bool | .loop _ => true | _ => false
def isRet : Code → Bool | .ret => true | _ => false
def isSkip : Code → Bool | .skip => true | _ => false
def exitId : Code → Option Nat | .exit i => some i | _ => none
def opsOf : Code → Array Oper | .region _ ops _ => ops | _ => #[]
def regOf : Code → Option (List Nat × Bool) | .region _ ops d => some (List.range ops.size, d) | _ => none

section
variable {P : Program} {N : Nat} {Q : Exit → Env → World → Prop} {K : Env → World → Prop} {ρ : Env} {w : World} {c : Code}

theorem isSeq_eq (h : isSeq c = true) : c = .seq (seqL c) (seqR c) := by cases c <;> first | rfl | cases h
theorem isCond_eq (h : isCond c = true) : c = .cond (condX c) (condT c) (condE c) := by cases c <;> first | rfl | cases h
theorem regOf_eq {l : List Nat} {d : Bool} (h : regOf c = some (l, d)) : ∃ id, c = .region id (opsOf c) d ∧ List.range (opsOf c).size = l := by
  cases c <;> first
    | (cases h; done)
    | (simp only [regOf, Option.some.injEq, Prod.mk.injEq] at h; obtain ⟨h1, h2⟩ := h; subst h2; exact ⟨_, rfl, h1⟩)
theorem blockId_eq {i : Nat} (h : blockId c = some i) : c = .block i (inner c) := by
  cases c <;> first | (cases h; done) | (cases h; rfl)
theorem isLoop_eq (h : isLoop c = true) : c = .loop (inner c) := by cases c <;> first | rfl | cases h
theorem isRet_eq (h : isRet c = true) : c = .ret := by cases c <;> first | rfl | cases h
theorem isSkip_eq (h : isSkip c = true) : c = .skip := by cases c <;> first | rfl | cases h
theorem exitId_eq {i : Nat} (h : exitId c = some i) : c = .exit i := by cases c <;> first | (cases h; done) | (cases h; rfl)

theorem g_seq (hc : isSeq c = true) (h : WP P N (seqL c) (nx (WP P N (seqR c) Q) Q) ρ w) : WP P N c Q ρ w := by
  rw [isSeq_eq hc]; exact WP.seq h
theorem g_reg (l : List Nat) (hc : regOf c = some (l, false)) (h : WPs P N (opsOf c) K l ρ w) : WP P N c (nx K Q) ρ w := by
  obtain ⟨id, he, hl⟩ := regOf_eq hc
  rw [he]; exact WP.region l hl h
theorem g_reg0 (l : List Nat) (hc : regOf c = some (l, false)) (h : WPs P N (opsOf c) (Q .normal) l ρ w) : WP P N c Q ρ w := by
  obtain ⟨id, he, hl⟩ := regOf_eq hc
  rw [he]; exact WP.region l hl h
/-- A region, and what stands behind it. -/
theorem g_sreg (l : List Nat) (hc : isSeq c = true) (hr : regOf (seqL c) = some (l, false)) (h : WPs P N (opsOf (seqL c)) (WP P N (seqR c) Q) l ρ w) : WP P N c Q ρ w :=
  g_seq hc (g_reg l hr h)
theorem g_cond (b : Bool) (hc : isCond c = true) (hx : ev ρ (condX c) = .bool b) (ht : b = true → WP P N (condT c) Q ρ w) (hf : b = false → WP P N (condE c) Q ρ w) : WP P N c Q ρ w := by
  rw [isCond_eq hc]; exact WP.cond b hx ht hf
theorem g_cond_t (hc : isCond c = true) (hx : ev ρ (condX c) = .bool true) (ht : WP P N (condT c) Q ρ w) : WP P N c Q ρ w := by
  rw [isCond_eq hc]; exact WP.cond_t hx ht
theorem g_cond_f (hc : isCond c = true) (hx : ev ρ (condX c) = .bool false) (ht : WP P N (condE c) Q ρ w) : WP P N c Q ρ w := by
  rw [isCond_eq hc]; exact WP.cond_f hx ht
theorem g_block (i : Nat) (hc : blockId c = some i) (h : WP P N (inner c) (inb i Q) ρ w) : WP P N c Q ρ w := by
  rw [blockId_eq hc]; exact WP.block h
theorem g_ret (hc : isRet c = true) (h : Q .ret ρ w) : WP P N c Q ρ w := by rw [isRet_eq hc]; exact WP.ret h
theorem g_skip (hc : isSkip c = true) (h : Q .normal ρ w) : WP P N c Q ρ w := by rw [isSkip_eq hc]; exact WP.skip h
theorem g_exit (i : Nat) (hc : exitId c = some i) (h : Q (.exit i) ρ w) : WP P N c Q ρ w := by rw [exitId_eq hc]; exact WP.exit h
theorem g_first (hc : isLoop c = true) (h : WP P N (inner c) (nx (WPL P N (inner c) Q) Q) ρ w) : WP P N c Q ρ w := by
  rw [isLoop_eq hc]; exact WP.first h
theorem g_next (h : WP P N c (nx (WPL P N c Q) Q) ρ w) : WPL P N c Q ρ w := WPL.next h
theorem g_loop (hc : isLoop c = true) (I : Nat → Env → World → Prop) (n : Nat) (h0 : I n ρ w)
    (round : ∀ n ρ w, I n ρ w → WP P N (inner c) (nx (fun ρ' w' => ∃ m, m < n ∧ I m ρ' w') Q) ρ w) : WP P N c Q ρ w := by
  rw [isLoop_eq hc]; exact WP.loop I n h0 round
theorem g_mono {Q' : Exit → Env → World → Prop} (h : WP P N c Q ρ w) (hq : ∀ e ρ w, Q e ρ w → Q' e ρ w) : WP P N c Q' ρ w := WP.mono h hq

/-- The end. -/
theorem g_end {rs : List ResultVar} {R : Value → World → Prop} (hQ : Q .ret = ends P rs R .ret) (vs : List Value) (hr : Res P w ρ rs vs) (hR : R (pack vs) w) : Q .ret ρ w := by
  rw [hQ]; exact ⟨vs, hr, hR⟩
theorem g_endn {rs : List ResultVar} {R : Value → World → Prop} (hQ : Q .normal = ends P rs R .normal) (vs : List Value) (hr : Res P w ρ rs vs) (hR : R (pack vs) w) : Q .normal ρ w := by
  rw [hQ]; exact ⟨vs, hr, hR⟩
end

section
variable {P : Program} {N : Nat} {ops : Array Oper} {i : Nat} {r : List Nat} {K : Env → World → Prop} {ρ : Env} {w : World} {B : Nat} {w0 : World} {l : List (Nat × Obj)}
theorem s_nil (h : K ρ w) : WPs P N ops K [] ρ w := h
theorem s_val (d : Option Nat) (v : Value) (h : ∀ w, opv P ops i ρ w = some (d, true, .ok (.value v) w)) (hd : dOK d N = true) (k : WPs P N ops K r (updO ρ d v) w) : WPs P N ops K (i :: r) ρ w := o_val d v (h w) hd k
/-- The value in another spelling. -/
theorem s_valE (d : Option Nat) (v v' : Value) (h : ∀ w, opv P ops i ρ w = some (d, true, .ok (.value v) w)) (e : v = v') (hd : dOK d N = true) (k : WPs P N ops K r (updO ρ d v') w) : WPs P N ops K (i :: r) ρ w := o_val d v (h w) hd (by rw [e]; exact k)
/-- An operation's run by a lemma: the value of the operation. -/
theorem s_op (d : Option Nat) (op : Op) (v : Value) (h : opk ops i ρ = some (d, true, op)) (hd : dOK d N = true) (hr : ∀ (o : Oper) w, o.op = op → (execOp (ev ρ) o).run P w = .ok (.value v) w) (k : WPs P N ops K r (updO ρ d v) w) : WPs P N ops K (i :: r) ρ w :=
  o_gen d op v w h hd (fun o ho => hr o w ho) k
theorem s_opE (d : Option Nat) (op : Op) (v v' : Value) (h : opk ops i ρ = some (d, true, op)) (hr : ∀ (o : Oper) w, o.op = op → (execOp (ev ρ) o).run P w = .ok (.value v) w) (e : v = v') (hd : dOK d N = true) (k : WPs P N ops K r (updO ρ d v') w) : WPs P N ops K (i :: r) ρ w :=
  o_gen d op v w h hd (fun o ho => hr o w ho) (by rw [e]; exact k)
theorem s_not (d : Option Nat) (h : opn ops i ρ = some (d, false)) (hd : dOK d N = true) (k : WPs P N ops K r (updO ρ d undef) w) : WPs P N ops K (i :: r) ρ w := o_not d h hd k
theorem s_load (HS : St B w0 w l) (d : Option Nat) (t : TypeId) (x : Operand) (j b : Nat) (C : Array Value) (T : TypeId) (fz : Nat × Nat) (h : opk ops i ρ = some (d, true, .load t x)) (hd : dOK d N = true)
    (hx : ev ρ x = .pointer (some ⟨b, 0, none⟩)) (hj : l[j]? = some (b, .cells C T fz)) (ht : aggSize P t = some C.size) (k : WPs P N ops K r (updO ρ d (.agg C)) w) : WPs P N ops K (i :: r) ρ w :=
  o_load d t x b C T fz h hd hx (HS.get j hj) ht k
theorem s_loadp (HS : St B w0 w l) (d : Option Nat) (t : TypeId) (x : Operand) (j b off n : Nat) (C V : Array Value) (T : TypeId) (fz : Nat × Nat) (h : opk ops i ρ = some (d, true, .load t x)) (hd : dOK d N = true)
    (hx : ev ρ x = .pointer (some ⟨b, off, none⟩)) (hj : l[j]? = some (b, .cells C T fz)) (ht : aggSize P t = some n) (hs : off + n ≤ C.size) (hV : C.extract off (off + n) = V) (k : WPs P N ops K r (updO ρ d (.agg V)) w) : WPs P N ops K (i :: r) ρ w :=
  o_loadp d t x b off n C V T fz h hd hx (HS.get j hj) ht hs hV k
theorem s_load1 (HS : St B w0 w l) (d : Option Nat) (t : TypeId) (x : Operand) (j b off : Nat) (C : Array Value) (T : TypeId) (fz : Nat × Nat) (v : Value) (h : opk ops i ρ = some (d, true, .load t x)) (hd : dOK d N = true)
    (hx : ev ρ x = .pointer (some ⟨b, off, none⟩)) (hj : l[j]? = some (b, .cells C T fz)) (ht : oneCell P t = true) (hv : C[off]? = some v) (k : WPs P N ops K r (updO ρ d v) w) : WPs P N ops K (i :: r) ρ w :=
  o_load1 d t x b off C T fz v h hd hx (HS.get j hj) ht hv k
theorem s_store (HS : St B w0 w l) (j : Nat) (l' : List (Nat × Obj)) (t : TypeId) (x y : Operand) (b off : Nat) (C C' : Array Value) (T : TypeId) (v : Value)
    (h : opk ops i ρ = some (none, true, .store t x y))
    (hx : ev ρ x = .pointer (some ⟨b, off, none⟩)) (hy : ev ρ y = v) (hk : l[j]? = some (b, .cells C T (0, 0))) (hi : (P.info? t).map (·.size) = some v.cells.size) (h1 : v.cells.all (·.oneCell') = true)
    (hs : off + v.cells.size ≤ C.size) (hC : (C.toList.take off ++ v.cells.toList ++ C.toList.drop (off + v.cells.size)).toArray = C') (hl : l.set j (b, .cells C' T (0, 0)) = l')
    (kk : ∀ w', St B w0 w' l' → WPs P N ops K r ρ w') : WPs P N ops K (i :: r) ρ w :=
  o_store HS j l' none t x y b off C C' T v h rfl hx hy hk hi h1 hs hC hl kk
theorem s_alloc (HS : St B w0 w l) (d : Option Nat) (t : TypeId) (z : Value) (h : opk ops i ρ = some (d, true, .alloc t)) (hd : dOK d N = true)
    (hz : (P.info? t).bind (·.zero) = some z)
    (kk : ∀ b w', St B w0 w' ((b, .cells z.cells t (0, 0)) :: l) → WPs P N ops K r (updO ρ d (.pointer (some ⟨b, 0, none⟩))) w') : WPs P N ops K (i :: r) ρ w :=
  o_alloc HS d t z h hd hz kk
theorem s_box (HS : St B w0 w l) (d : Option Nat) (t : TypeId) (x : Operand) (v : Value) (h : opk ops i ρ = some (d, true, .box t x)) (hd : dOK d N = true)
    (hx : ev ρ x = v)
    (kk : ∀ b w', St B w0 w' ((b, .cells v.cells t (0, 0)) :: l) → WPs P N ops K r (updO ρ d (.pointer (some ⟨b, 0, none⟩))) w') : WPs P N ops K (i :: r) ρ w :=
  o_box HS d t x v h hd hx kk
theorem s_call (HS : St B w0 w l) (d : Option Nat) (f : Nat) (args : Array Value) (v : Value) (hc : Fn P f args v)
    (h : ∀ w, opv P ops i ρ w = some (d, true, .ok (.enter f args) w)) (hd : dOK d N = true)
    (kk : ∀ w', St B w0 w' l → WPs P N ops K r (updO ρ d v) w') : WPs P N ops K (i :: r) ρ w := o_call HS d f args v hc h hd kk
theorem s_callR (HS : St B w0 w l) (d : Option Nat) (f : Nat) (args : Array Value) (pre : World → Prop) (R : Nat → Value → World → Prop) (hc : FnR P f args pre R) (hp : pre w)
    (h : opv P ops i ρ w = some (d, true, .ok (.enter f args) w)) (hd : dOK d N = true)
    (kk : ∀ v w', Below w.heap.size w w' → St B w0 w' l → R w.heap.size v w' → WPs P N ops K r (updO ρ d v) w') : WPs P N ops K (i :: r) ρ w := o_callR HS d f args pre R hc hp h hd kk
end

def setAll : List (Nat × Value) → Env → Env
  | [], ρ => ρ
  | (t, v) :: r, ρ => upd (setAll r ρ) t v
def Holds (ρ : Env) : List (Nat × Value) → Prop
  | [] => True
  | (t, v) :: r => ρ t = v ∧ Holds ρ r
theorem upd_self {ρ : Env} {t : Nat} {v : Value} (h : ρ t = v) : upd ρ t v = ρ := by
  funext k
  unfold upd
  cases hb : Nat.beq k t with
  | false => rfl
  | true => rw [Nat.eq_of_beq_eq_true hb, h]; rfl
theorem setAll_self {ρ : Env} : ∀ {l : List (Nat × Value)}, Holds ρ l → setAll l ρ = ρ
  | [], _ => rfl
  | (t, v) :: r, ⟨h, hr⟩ => by rw [setAll, setAll_self hr, upd_self h]
/-- What is known of the slots, in one word. -/
def Is (l : List (Nat × Value)) (ρ : Env) : Prop := ∃ ρ', ρ = setAll l ρ'
theorem Is.of {ρ : Env} {l : List (Nat × Value)} (h : Holds ρ l) : Is l ρ := ⟨ρ, (setAll_self h).symm⟩

/-- The call, begun in a world as pre says, gives v, and makes at most new blocks. -/
def FnP (P : Program) (f : Nat) (args : Array Value) (pre : World → Prop) (v : Value) : Prop := ∀ w, pre w → Calls P f args w fun e w' => e = .returned v ∧ Below w.heap.size w w'
theorem FnP.intro {P : Program} {f : Nat} {fn : Func} {c : Code} (rs : List ResultVar) (N : Nat) {args : Array Value} {pre : World → Prop} {v : Value} (hf : P.funcs[f]? = some fn) (hb : fn.body = some c) (hr : fn.results.toList = rs) (hn : args.size + (fn.ntmps - args.size) = N)
    (h : ∀ w, pre w → WP P N c (ends P rs fun v' w' => v' = v ∧ Below w.heap.size w w') (ini args) w) : FnP P f args pre v := fun w hp =>
  (calls_intro hf hb hr hn (h w hp)).mono fun e w' ⟨v', he, hv, hb⟩ => by subst hv; exact ⟨he, hb⟩
section
variable {P : Program} {N : Nat} {ops : Array Oper} {i : Nat} {r : List Nat} {K : Env → World → Prop} {ρ : Env} {w : World} {B : Nat} {w0 : World} {l : List (Nat × Obj)}
theorem s_callP (HS : St B w0 w l) (d : Option Nat) (f : Nat) (args : Array Value) (pre : World → Prop) (v : Value) (hc : FnP P f args pre v) (hp : pre w)
    (h : ∀ w, opv P ops i ρ w = some (d, true, .ok (.enter f args) w)) (hd : dOK d N = true)
    (kk : ∀ w', St B w0 w' l → WPs P N ops K r (updO ρ d v) w') : WPs P N ops K (i :: r) ρ w :=
  o_callR HS d f args pre (fun _ v' _ => v' = v) (fun w hp => (hc w hp).mono fun e w' ⟨he, hb⟩ => ⟨v, he, hb, rfl⟩) hp (h w) hd (fun v' w' _ HS' e => by subst e; exact kk w' HS')
/-- What lay there when the call began still does. -/
theorem St.old (HS : St B w0 w l) {b : Nat} {o : Obj} (h : w0.heap[b]? = some o) (hb : b < B) : w.heap[b]? = some o := by rw [HS.below.block b hb]; exact h
theorem s_loadF (HS : St B w0 w l) (d : Option Nat) (t : TypeId) (x : Operand) (b : Nat) (C : Array Value) (T : TypeId) (fz : Nat × Nat) (h : opk ops i ρ = some (d, true, .load t x)) (hd : dOK d N = true)
    (hx : ev ρ x = .pointer (some ⟨b, 0, none⟩)) (hh : w0.heap[b]? = some (.cells C T fz)) (hb : b < B) (ht : aggSize P t = some C.size) (k : WPs P N ops K r (updO ρ d (.agg C)) w) : WPs P N ops K (i :: r) ρ w :=
  o_load d t x b C T fz h hd hx (HS.old hh hb) ht k
theorem s_loadpF (HS : St B w0 w l) (d : Option Nat) (t : TypeId) (x : Operand) (b off n : Nat) (C V : Array Value) (T : TypeId) (fz : Nat × Nat) (h : opk ops i ρ = some (d, true, .load t x)) (hd : dOK d N = true)
    (hx : ev ρ x = .pointer (some ⟨b, off, none⟩)) (hh : w0.heap[b]? = some (.cells C T fz)) (hb : b < B) (ht : aggSize P t = some n) (hs : off + n ≤ C.size) (hV : C.extract off (off + n) = V) (k : WPs P N ops K r (updO ρ d (.agg V)) w) : WPs P N ops K (i :: r) ρ w :=
  o_loadp d t x b off n C V T fz h hd hx (HS.old hh hb) ht hs hV k
theorem s_load1F (HS : St B w0 w l) (d : Option Nat) (t : TypeId) (x : Operand) (b off : Nat) (C : Array Value) (T : TypeId) (fz : Nat × Nat) (v : Value) (h : opk ops i ρ = some (d, true, .load t x)) (hd : dOK d N = true)
    (hx : ev ρ x = .pointer (some ⟨b, off, none⟩)) (hh : w0.heap[b]? = some (.cells C T fz)) (hb : b < B) (ht : oneCell P t = true) (hv : C[off]? = some v) (k : WPs P N ops K r (updO ρ d v) w) : WPs P N ops K (i :: r) ρ w :=
  o_load1 d t x b off C T fz v h hd hx (HS.old hh hb) ht hv k
end
theorem bool_eq {a b : Bool} (h : a = b) : Value.bool a = .bool b := by rw [h]
theorem int_eq {k : IntKind} {a b : Int} (h : a = b) : Value.int k a = .int k b := by rw [h]
theorem wrap_i64 {a : Int} (h0 : -9223372036854775808 ≤ a) (h1 : a ≤ 9223372036854775807) : IntKind.i64.wrap a = a := by rw [IntKind.wrap_i64]; omega
theorem wrap_u64 {a : Int} (h0 : 0 ≤ a) (h1 : a ≤ 18446744073709551615) : IntKind.u64.wrap a = a := by rw [IntKind.wrap_u64]; omega
/-- A call of a function without a text of its own. -/
theorem run_ext {P : Program} {ρ : Env} {o : Oper} {c : Call} {x : Operand} {f : Nat} {args : Array Value} {w : World} (ho : o.op = .call c) (hc : c.callee = .value x) (hx : ev ρ x = .func (.func f) #[] #[]) (ha : c.args.map (ev ρ) = args) :
    (execOp (ev ρ) o).run P w = (callFunc f args).run P w := by
  simp [execOp, ho, resolve, hc, hx, ha, Deferred.ofValue, invoke]
end Go.Proofs.Ytljhbhhpfkmemaa
