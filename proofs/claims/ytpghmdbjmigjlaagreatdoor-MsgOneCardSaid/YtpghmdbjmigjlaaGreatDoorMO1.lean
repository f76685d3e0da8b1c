/-
  Texts of the proof,part 1.
-/
import Derived.WalkKit
import Derived.ProofKit
import Derived.Orders
import Derived.Maps.AppendAt
import Derived.Laws.BitsAllLaws
import Derived.Laws.MakeOwn
import Derived.Laws.BytesArg
import Derived.Laws.CopyRow
import Derived.Laws.Concat
import Derived.Lib.BufferWrite
import Derived.Laws.IdiomStrings
set_option maxRecDepth 100000
set_option maxHeartbeats 4000000
namespace Go.Proofs.YtpghmdbjmigjlaaGreatDoor
open Go Go.RowKit
set_option linter.unusedVariables false
abbrev wZ:Value:=.int .u64 0
abbrev iN (n:Nat):Value:=.int .i64 (n:Int)
abbrev em:ByteArray:=⟨#[]⟩
theorem kr {α:Sort _}{a b:α}(h:a=b:=by kernel_rfl):a=b:=h
@[reducible] def Env:=Nat→Value
def upd (ρ:Env)(d:Nat)(v:Value):Env:=fun t=>bif Nat.beq t d then v else ρ t
def zm (ρ:Env):Option Nat→Value→Env
 | some d,v=>upd ρ d v
 | none,_=>ρ
def ev (ρ:Env):Operand→Value
 | .tmp t=>ρ t
 | .const v=>v
 | .global g=>.pointer (some ⟨g,0,none⟩)
 | .func f=>.func (.func f) #[] #[]
def ini (args:Array Value):Env:=fun t=>args.getD t undef
structure Rep (a:Act)(ρ:Env)(N:Nat):Prop where
 defers:a.defers=[]
 size:a.tmps.size=N
 at_: ∀t,a.tmps.getD t undef=ρ t
theorem Rep.eval {a:Act}{ρ:Env}{N:Nat}(h:Rep a ρ N):a.eval=ev ρ:=by
 funext x;cases x<;>first | rfl | exact h.at_ _
theorem jH (a:Array Value)(t:Nat):a.getD t undef=(a[t]?).getD undef:=by
 simp [Array.getD_eq_getD_getElem?]
theorem Rep.get? {a:Act}{ρ:Env}{N:Nat}(h:Rep a ρ N){t:Nat}(ht:t<N):a.tmps[t]? =some (ρ t):=by
 have e:=h.at_ t;rw [jH] at e;have:t<a.tmps.size:=by rw [h.size];exact ht
 rw [Array.getElem?_eq_getElem this] at e ⊢
 simpa using e
theorem Rep.put {a:Act}{ρ:Env}{N:Nat}(h:Rep a ρ N)(d:Option Nat)(hd: ∀k,d=some k→k<N)(v:Value):Rep (a.put d v) (zm ρ d v) N:=by
 cases d with
 | none=>exact h
 | some k=>
  have hk:=hd k rfl;refine ⟨h.defers,by simp [Act.put,h.size],fun t=>?_⟩;have e:=h.at_ t;rw [jH] at e ⊢;simp only [Act.put,zm,upd,Array.getElem?_setIfInBounds];by_cases hkt:k=t
  ·subst hkt;simp [h.size,hk]
  ·have:Nat.beq t k=false:=by
    cases hb:Nat.beq t k with
    | false=>rfl
    | true=>exact absurd (Nat.eq_of_beq_eq_true hb).symm hkt
   simp [hkt,this,e]
def zC (ops:Array Oper)(ρ:Env)(j:Nat):Option Bool:=
 match (ops[j]?).bind (·.dst) with
 | some d=>match ρ d with | .bool b=>some b | _=>none
 | none=>none
theorem Rep.yielded {a:Act}{ρ:Env}{N:Nat}(h:Rep a ρ N)(ops:Array Oper)(hu: ∀t,N≤t→ρ t=undef)(j:Nat):Go.yielded ops a.tmps j=zC ops ρ j:=by
 unfold Go.yielded zC;cases hd:(ops[j]?).bind (·.dst) with
 | none=>rfl
 | some d=>
  simp only [Option.bind_some];by_cases hlt:d<N
  ·rw [h.get? hlt];cases ρ d<;>rfl
  ·rw [hu d (Nat.le_of_not_lt hlt),Array.getElem?_eq_none (by rw [h.size];exact Nat.le_of_not_lt hlt)];rfl
theorem Rep.hu {a:Act}{ρ:Env}{N:Nat}(h:Rep a ρ N): ∀t,N≤t→ρ t=undef:=fun t ht=>by
 rw [←h.at_ t,jH,Array.getElem?_eq_none (by rw [h.size];exact ht)];rfl
def lift (N:Nat)(Q:Exit→Env→World→Prop):Exit→Act→World→Prop:=fun e a w=> ∃ρ,Rep a ρ N∧Q e ρ w
def WP (P:Program)(N:Nat)(c:Code)(Q:Exit→Env→World→Prop)(ρ:Env)(w:World):Prop:=
 ∀a,Rep a ρ N→c.wp P (lift N Q) a w
section
variable {P:Program}{N:Nat}{Q:Exit→Env→World→Prop}{ρ:Env}{w:World}
theorem WP.mono {c:Code}{Q':Exit→Env→World→Prop}(h:WP P N c Q ρ w)(hq: ∀e ρ w,Q e ρ w→Q' e ρ w):WP P N c Q' ρ w:=
 fun a ha=>Go.wp_mono (h a ha) fun _ _ _ ⟨r,hr,q⟩=>⟨r,hr,hq _ _ _ q⟩
def nx (K:Env→World→Prop)(Q:Exit→Env→World→Prop):Exit→Env→World→Prop
 | .normal,ρ,w=>K ρ w
 | e,ρ,w=>Q e ρ w
theorem WP.seq {x y:Code}(h:WP P N x (nx (WP P N y Q) Q) ρ w):WP P N (.seq x y) Q ρ w:=fun a ha=>
 wp_seq (Go.wp_mono (h a ha) fun e a' w' ⟨r,hr,q⟩=>by
  cases e<;>first | exact q a' hr | exact ⟨r,hr,q⟩)
theorem WP.skip (h:Q .normal ρ w):WP P N .skip Q ρ w:=fun a ha=>wp_skip ⟨ρ,ha,h⟩
theorem WP.ret (h:Q .ret ρ w):WP P N .ret Q ρ w:=fun a ha=>wp_ret ⟨ρ,ha,h⟩
theorem WP.exit {id:Nat}(h:Q (.exit id) ρ w):WP P N (.exit id) Q ρ w:=fun a ha=>wp_exit ⟨ρ,ha,h⟩
theorem WP.label {id:Nat}(h:Q .normal ρ w):WP P N (.label id) Q ρ w:=fun a ha=>wp_label ⟨ρ,ha,h⟩
theorem WP.cond {c:Operand}{x y:Code}(b:Bool)(hc:ev ρ c=.bool b)(ht:b=true→WP P N x Q ρ w)(hf:b=false→WP P N y Q ρ w):WP P N (.cond c x y) Q ρ w:=fun a ha=>by
 cases b
 ·exact wp_cond_false (by rw [ha.eval];exact hc) (hf rfl a ha)
 ·exact wp_cond_true (by rw [ha.eval];exact hc) (ht rfl a ha)
theorem WP.cond_t {c:Operand}{x y:Code}(hc:ev ρ c=.bool true)(h:WP P N x Q ρ w):WP P N (.cond c x y) Q ρ w:=
 WP.cond true hc (fun _=>h) (fun h=>by cases h)
theorem WP.cond_f {c:Operand}{x y:Code}(hc:ev ρ c=.bool false)(h:WP P N y Q ρ w):WP P N (.cond c x y) Q ρ w:=
 WP.cond false hc (fun h=>by cases h) (fun _=>h)
def inb (id:Nat)(Q:Exit→Env→World→Prop):Exit→Env→World→Prop
 | .exit i,ρ,w=>bif Nat.beq i id then Q .normal ρ w else Q (.exit i) ρ w
 | e,ρ,w=>Q e ρ w
theorem WP.block {id:Nat}{c:Code}(h:WP P N c (inb id Q) ρ w):WP P N (.block id c) Q ρ w:=fun a ha=>
 wp_block (Go.wp_mono (h a ha) fun e a' w' ⟨r,hr,q⟩=>by
  cases e with
  | exit i=>
   simp only [inb] at q;simp only [Exit.inBlock];split
   ·rename_i hi;subst hi
    rw [Nat.beq_refl] at q;exact ⟨r,hr,q⟩
   ·rename_i hi
    have:Nat.beq i id=false:=by
     cases hb:Nat.beq i id with
     | false=>rfl
     | true=>exact absurd (Nat.eq_of_beq_eq_true hb) hi
    rw [this] at q;exact ⟨r,hr,q⟩
  | _=>exact ⟨r,hr,q⟩)
theorem WP.loop {c:Code}(I:Nat→Env→World→Prop)(n:Nat)(h0:I n ρ w)
 (round: ∀n ρ w,I n ρ w→WP P N c (nx (fun ρ' w'=> ∃m,m<n∧I m ρ' w') Q) ρ w):WP P N (.loop c) Q ρ w:=fun a ha=>by
 have:∃m,∃ρ,Rep a ρ N∧I m ρ w:=⟨n,ρ,ha,h0⟩
 intro b k cs;have key: ∀n a ρ w,Rep a ρ N→I n ρ w→
  ∃e a' w',lift N Q e a' w'∧Arrives P (lone (b.at a (.code c ::.inLoop c::k)) cs w) b k cs e a' w':=by
  intro n
  induction n using Nat.strongRecOn with
  | _ n ih=>
   intro a ρ w ha hI;obtain ⟨e,a₁,w₁,⟨ρ₁,hr,hq⟩,harr⟩:=round n ρ w hI a ha b (.inLoop c::k) cs;cases e with
   | normal=>
    obtain ⟨m,hlt,hI₁⟩:=hq;obtain ⟨e₂,a₂,w₂,hq₂,harr₂⟩:=ih m hlt a₁ ρ₁ w₁ hr hI₁;exact ⟨e₂,a₂,w₂,hq₂,.of_steps (Steps.trans harr (.one step_inLoop)) harr₂⟩
   | exit id=>exact ⟨_,a₁,w₁,⟨ρ₁,hr,hq⟩,.pass (x:=.inLoop c) rfl (fun _ _=>.inl (by simp)) harr⟩
   | goto l=>exact ⟨_,a₁,w₁,⟨ρ₁,hr,hq⟩,.pass (x:=.inLoop c) rfl (fun _ _=>.inl (by simp)) harr⟩
   | ret=>exact ⟨_,a₁,w₁,⟨ρ₁,hr,hq⟩,.pass (x:=.inLoop c) rfl (fun _ _=>.inl (by simp)) harr⟩
   | panic ch=>exact ⟨_,a₁,w₁,⟨ρ₁,hr,hq⟩,.pass (x:=.inLoop c) rfl (fun _ _=>.inl (by simp)) harr⟩
   | outgrown=>exact ⟨_,a₁,w₁,⟨ρ₁,hr,hq⟩,.pass (x:=.inLoop c) rfl (fun _ _=>.inl (by simp)) harr⟩
 obtain ⟨e,a',w',hq,harr⟩:=key n a ρ w ha h0;exact ⟨e,a',w',hq,.of_steps (.one step_loop) harr⟩
def WPL (P:Program)(N:Nat)(c:Code)(Q:Exit→Env→World→Prop)(ρ:Env)(w:World):Prop:=
 ∀a,Rep a ρ N→ ∀b k cs,∃e a' w',lift N Q e a' w'∧Arrives P (lone (b.at a (.inLoop c::k)) cs w) b k cs e a' w'
theorem WPL.go {c:Code}{m:Machine}{a:Act}{b:Frame}{k:List Item}{cs:List Frame}(ha:Rep a ρ N)(hm:Steps P m (lone (b.at a (.code c ::.inLoop c::k)) cs w))
 (h:WP P N c (nx (WPL P N c Q) Q) ρ w):∃e a' w',lift N Q e a' w'∧Arrives P m b k cs e a' w':=by
 obtain ⟨e,a₁,w₁,⟨ρ₁,hr,hq⟩,harr⟩:=h a ha b (.inLoop c::k) cs;cases e with
 | normal=>
  obtain ⟨e₂,a₂,w₂,hq₂,harr₂⟩:=hq a₁ hr b k cs;exact ⟨e₂,a₂,w₂,hq₂,.of_steps (Steps.trans hm harr) harr₂⟩
 | exit id=>exact ⟨_,a₁,w₁,⟨ρ₁,hr,hq⟩,.of_steps hm (.pass (x:=.inLoop c) rfl (fun _ _=>.inl (by simp)) harr)⟩
 | goto l=>exact ⟨_,a₁,w₁,⟨ρ₁,hr,hq⟩,.of_steps hm (.pass (x:=.inLoop c) rfl (fun _ _=>.inl (by simp)) harr)⟩
 | ret=>exact ⟨_,a₁,w₁,⟨ρ₁,hr,hq⟩,.of_steps hm (.pass (x:=.inLoop c) rfl (fun _ _=>.inl (by simp)) harr)⟩
 | panic ch=>exact ⟨_,a₁,w₁,⟨ρ₁,hr,hq⟩,.of_steps hm (.pass (x:=.inLoop c) rfl (fun _ _=>.inl (by simp)) harr)⟩
 | outgrown=>exact ⟨_,a₁,w₁,⟨ρ₁,hr,hq⟩,.of_steps hm (.pass (x:=.inLoop c) rfl (fun _ _=>.inl (by simp)) harr)⟩
theorem WPL.next {c:Code}(h:WP P N c (nx (WPL P N c Q) Q) ρ w):WPL P N c Q ρ w:=
 fun _ ha _ _ _=>WPL.go ha (.one step_inLoop) h
theorem WP.first {c:Code}(h:WP P N c (nx (WPL P N c Q) Q) ρ w):WP P N (.loop c) Q ρ w:=
 fun _ ha _ _ _=>WPL.go ha (.one step_loop) h
end
structure St (B:Nat)(w0 w:World)(l:List (Nat×Obj)):Prop where
 below:Below B w0 w
 le:B≤w.heap.size
 own: ∀e∈l,B≤e.1∧w.heap[e.1]? =some e.2
 nd:(l.map (·.1)).Nodup
theorem St.start (w:World):St w.heap.size w w []:=⟨Below.refl _ _,Nat.le_refl _,(fun _ h=>nomatch h),List.nodup_nil⟩
theorem St.get {B:Nat}{w0 w:World}{l:List (Nat×Obj)}(h:St B w0 w l)(k:Nat){b:Nat}{o:Obj}(hk:l[k]? =some (b,o)):w.heap[b]? =some o:=
 (h.own (b,o) (List.mem_of_getElem? hk)).2
theorem St.ge {B:Nat}{w0 w:World}{l:List (Nat×Obj)}(h:St B w0 w l)(k:Nat){b:Nat}{o:Obj}(hk:l[k]? =some (b,o)):B≤b:=
 (h.own (b,o) (List.mem_of_getElem? hk)).1
theorem zr {w:World}{b:Nat}{o:Obj}(h:w.heap[b]? =some o):b<w.heap.size:=(Array.getElem?_eq_some_iff.1 h).1
theorem St.alloc {B:Nat}{w0 w:World}{l:List (Nat×Obj)}(h:St B w0 w l)(o:Obj):St B w0 (w.alloc o) ((w.heap.size,o)::l):=by
 refine ⟨h.below.alloc h.le o,by have:=h.le;have e:(w.alloc o).heap.size=w.heap.size+1:=Array.size_push _;omega,?_,?_⟩
 ·intro e he;rcases List.mem_cons.1 he with rfl | he
  ·exact ⟨h.le,heap_alloc_new w o⟩
  ·have:=h.own e he;exact ⟨this.1,by rw [Below.heap_alloc _ _ _ (zr this.2)];exact this.2⟩
 ·simp only [List.map_cons,List.nodup_cons];refine ⟨fun hm=>?_,h.nd⟩;obtain ⟨e,he,heq⟩:=List.mem_map.1 hm;have:=zr (h.own e he).2;omega
theorem St.drew {B:Nat}{w0 w:World}{l:List (Nat×Obj)}(h:St B w0 w l):St B w0 w.drew l:=
 ⟨h.below.drew,h.le,h.own,h.nd⟩
theorem St.call {B:Nat}{w0 w w':World}{l:List (Nat×Obj)}(h:St B w0 w l)(hb:Below w.heap.size w w'):St B w0 w' l:=
 ⟨h.below.trans (hb.mono h.le),Nat.le_trans h.le hb.size,fun e he=>⟨(h.own e he).1,by rw [hb.block _ (zr (h.own e he).2)];exact (h.own e he).2⟩,h.nd⟩
theorem St.add {B:Nat}{w0 w w':World}{l:List (Nat×Obj)}(h:St B w0 w l)(hb:Below w.heap.size w w'){b:Nat}{o:Obj}(hle:w.heap.size≤b)(ho:w'.heap[b]? =some o):St B w0 w' ((b,o)::l):=by
 have h':=h.call hb;refine ⟨h'.below,h'.le,?_,?_⟩
 ·intro e he;rcases List.mem_cons.1 he with rfl | he
  ·exact ⟨Nat.le_trans h.le hle,ho⟩
  ·exact h'.own e he
 ·simp only [List.map_cons,List.nodup_cons];refine ⟨fun hm=>?_,h.nd⟩;obtain ⟨e,he,heq⟩:=List.mem_map.1 hm;have:=zr (h.own e he).2;omega
theorem St.sub {B:Nat}{w0 w:World}{l l':List (Nat×Obj)}(h:St B w0 w l)(hs:l'.Sublist l):St B w0 w l':=
 ⟨h.below,h.le,fun e he=>h.own e (hs.subset he),(hs.map (·.1)).nodup h.nd⟩
theorem zcL (w:World)(g:Nat)(cs:Array Value)(k:Nat)(h:k≠g):(w.setRow g cs).heap[k]? =w.heap[k]? :=by
 simp only [World.setRow,Array.getElem?_modify];rw [if_neg (by omega)]
theorem St.store {B:Nat}{w0 w:World}{l:List (Nat×Obj)}(h:St B w0 w l)(k:Nat){b:Nat}{C C':Array Value}{T:TypeId}{fz:Nat×Nat}(hk:l[k]? =some (b,.cells C T fz)):
 St B w0 (w.setRow b C') (l.set k (b,.cells C' T fz)):=by
 have hB:=h.ge k hk;have hh:=h.get k hk;have hkl:k<l.length:=(List.getElem?_eq_some_iff.1 hk).1;have hnew:(w.setRow b C').heap[b]? =some (.cells C' T fz):=setRow_heap w b C C' T fz hh;have hmap:(l.set k (b,Obj.cells C' T fz)).map (·.1)=l.map (·.1):=by
  apply List.ext_getElem?;intro j;simp only [List.getElem?_map,List.getElem?_set];by_cases hj:k=j
  ·subst hj;rw [if_pos rfl,if_pos hkl,hk];rfl
  ·simp [hj]
 refine ⟨?_,by simpa [World.setRow] using h.le,?_,by rw [hmap];exact h.nd⟩
 ·exact h.below.trans ⟨rfl,rfl,rfl,by simp [World.setRow],fun j hj=>zcL _ _ _ _ (by omega)⟩
 ·intro e he;obtain ⟨j,hj,he⟩:=List.getElem_of_mem he;rw [List.getElem_set] at he;split at he
  ·subst he;exact ⟨hB,hnew⟩
  ·rename_i hjk
   have hj':j<l.length:=by simpa using hj
   have hmem:e∈l:=by rw [←he];exact List.getElem_mem _
   have hne:e.1≠b:=by
    intro heq;have h1:(l.map (·.1))[j]? =some b:=by simp [List.getElem?_map,List.getElem?_eq_getElem hj',he,heq]
    have h2:(l.map (·.1))[k]? =some b:=by simp [List.getElem?_map,hk]
    have:=(List.getElem?_inj (by simpa using hj') h.nd).1 (h1.trans h2.symm);omega
   exact ⟨(h.own e hmem).1,by rw [zcL _ _ _ _ hne];exact (h.own e hmem).2⟩
def NoQ:Exit→Act→World→Prop:=fun _ _ _=>False
theorem Oper.wp_noQ {P:Program}{o:Oper}{a:Act}{w:World}{K:Act→World→Prop}{Q:Exit→Act→World→Prop}(h:o.wp P a w K NoQ):o.wp P a w K Q:=by
 unfold Oper.wp at*;generalize (execOp a.eval o).run P w=r at*;cases r with
 | ok n w'=>
  cases n<;>simp only [Oper.upon] at h ⊢<;>first
   | exact h
   | exact Calls.mono h (fun e w'' he=>by
    cases e with
    | returned v=>exact he
    | panicked c=>exact (he:False).elim
    | outgrown=>obtain ⟨_,_,hf⟩:=he;exact (hf:False).elim)
 | halt x w'=>cases x<;>simp only [Oper.upon] at h ⊢<;>exact (h:False).elim
theorem zeX {P:Program}{ops:Array Oper}{i:Nat}{a:Act}{w:World}{K:Act→World→Prop}{Q:Exit→Act→World→Prop}(h:wpOp P ops NoQ i K a w):wpOp P ops Q i K a w:=by
 unfold wpOp at*;split
 ·simp_all
 ·rename_i o ho
  simp only [ho] at h;split
  ·rename_i hw
   simp only [hw,if_true] at h;rcases h with h | ⟨_,_,_,hf⟩
   ·exact .inl (Oper.wp_noQ h)
   ·exact (hf:False).elim
  ·rename_i hw;simp only [hw] at h;exact h
def WPo (P:Program)(N:Nat)(ops:Array Oper)(i:Nat)(K:Env→World→Prop)(ρ:Env)(w:World):Prop:=
 ∀a,Rep a ρ N→wpOp P ops NoQ i (fun a' w'=> ∃ρ',Rep a' ρ' N∧K ρ' w') a w
def WPs (P:Program)(N:Nat)(ops:Array Oper)(K:Env→World→Prop):List Nat→Env→World→Prop
 | [],ρ,w=>K ρ w
 | i::r,ρ,w=>WPo P N ops i (WPs P N ops K r) ρ w
theorem wW {a b c d e f}(h:WP a b c d e f):WP a b c d e f:=h
theorem wX {a b c d}(l){f g}(h:WPs a b c d l f g):WPs a b c d l f g:=h
theorem WPs.sound {P:Program}{N:Nat}{ops:Array Oper}{Q:Exit→Env→World→Prop} : ∀(l:List Nat) (ρ:Env) (w:World),WPs P N ops (Q .normal) l ρ w→ ∀a,Rep a ρ N→wpOps P ops (lift N Q) l a w
 | [],ρ,w,h,a,ha=>⟨ρ,ha,h⟩
 | i::r,ρ,w,h,a,ha=>by
  rw [wpOps_cons];exact wpOp_mono (fun a' w' ⟨ρ',hr,h'⟩=>WPs.sound r ρ' w' h' a' hr) (zeX (h a ha))
theorem WP.region {P:Program}{N id:Nat}{ops:Array Oper}{Q:Exit→Env→World→Prop}{ρ:Env}{w:World}(l:List Nat)(hl:List.range ops.size=l)
 (h:WPs P N ops (Q .normal) l ρ w):WP P N (.region id ops false) Q ρ w:=fun a ha=>
 wp_region (by rw [hl];exact WPs.sound l ρ w h a ha)
def opv (P:Program)(ops:Array Oper)(i:Nat)(ρ:Env)(w:World):Option (Option Nat×Bool×Result Next):=
 (ops[i]?).map fun o=>(o.dst,Region.wanted o (zC ops ρ),(execOp (ev ρ) o).run P w)
def opk (ops:Array Oper)(i:Nat)(ρ:Env):Option (Option Nat×Bool×Op):=
 (ops[i]?).map fun o=>(o.dst,Region.wanted o (zC ops ρ),o.op)
def opn (ops:Array Oper)(i:Nat)(ρ:Env):Option (Option Nat×Bool):=
 (ops[i]?).map fun o=>(o.dst,Region.wanted o (zC ops ρ))
def dOK (d:Option Nat)(N:Nat):Bool:=match d with | none=>true | some k=>Nat.blt k N
theorem zM {d:Option Nat}{N:Nat}(h:dOK d N=true): ∀k,d=some k→k<N:=fun k hk=>by
 subst hk;exact Nat.le_of_ble_eq_true h
section
variable {P:Program}{N:Nat}{ops:Array Oper}{i:Nat}{K:Env→World→Prop}{ρ:Env}{w:World}
theorem jg {o:Oper}{a:Act}(ha:Rep a ρ N):Region.wanted o (yielded ops a.tmps)=Region.wanted o (zC ops ρ):=by
 unfold Region.wanted;cases o.guard with
 | none=>rfl
 | some g=>simp only [ha.yielded ops ha.hu]
theorem WPo.run {o:Oper}(ho:ops[i]? =some o)(hw:Region.wanted o (zC ops ρ)=true)
 (h: ∀a,Rep a ρ N→Oper.upon P o a (fun a' w'=> ∃ρ',Rep a' ρ' N∧K ρ' w') NoQ ((execOp (ev ρ) o).run P w)):WPo P N ops i K ρ w:=fun a ha=>by
 unfold wpOp;simp only [ho,jg ha,hw,if_true];refine .inl ?_;unfold Oper.wp;rw [ha.eval];exact h a ha
theorem zQ {d:Option Nat}{b:Bool}{r:Result Next}(h:opv P ops i ρ w=some (d,b,r)):∃o,ops[i]? =some o∧o.dst=d∧Region.wanted o (zC ops ρ)=b∧(execOp (ev ρ) o).run P w=r:=by
 unfold opv at h;cases ho:ops[i]? with
 | none=>rw [ho] at h;cases h
 | some o=>rw [ho] at h;simp at h;exact ⟨o,rfl,h⟩
theorem zeY {d:Option Nat}{b:Bool}(h:opn ops i ρ=some (d,b)):∃o,ops[i]? =some o∧o.dst=d∧Region.wanted o (zC ops ρ)=b:=by
 unfold opn at h;cases ho:ops[i]? with
 | none=>rw [ho] at h;cases h
 | some o=>rw [ho] at h;simp at h;exact ⟨o,rfl,h⟩
theorem zH {d:Option Nat}{b:Bool}{r:Op}(h:opk ops i ρ=some (d,b,r)):∃o,ops[i]? =some o∧o.dst=d∧Region.wanted o (zC ops ρ)=b∧o.op=r:=by
 unfold opk at h;cases ho:ops[i]? with
 | none=>rw [ho] at h;cases h
 | some o=>rw [ho] at h;simp at h;exact ⟨o,rfl,h⟩
theorem zeZ (d:Option Nat)(v:Value)(h:opv P ops i ρ w=some (d,true,.ok (.value v) w))(hd:dOK d N=true)(k:K (zm ρ d v) w):WPo P N ops i K ρ w:=by
 obtain ⟨o,ho,rfl,hw,hr⟩:=zQ h;refine WPo.run ho hw fun a ha=>?_;rw [hr,Oper.upon_value];exact ⟨_,ha.put _ (zM hd) v,k⟩
theorem ze0 (d:Option Nat)(h:opn ops i ρ=some (d,false))(hd:dOK d N=true)(k:K (zm ρ d undef) w):WPo P N ops i K ρ w:=by
 obtain ⟨o,ho,rfl,hw⟩:=zeY h;intro a ha;unfold wpOp;simp only [ho,jg ha,hw];exact ⟨_,ha.put _ (zM hd) undef,k⟩
theorem kH (d:Option Nat)(op:Op)(v:Value)(w':World)(h:opk ops i ρ=some (d,true,op))(hd:dOK d N=true)
 (hr: ∀o:Oper,o.op=op→(execOp (ev ρ) o).run P w=.ok (.value v) w') (k:K (zm ρ d v) w'):WPo P N ops i K ρ w:=by
 obtain ⟨o,ho,rfl,hw,hop⟩:=zH h;refine WPo.run ho hw fun a ha=>?_;rw [hr o hop,Oper.upon_value];exact ⟨_,ha.put _ (zM hd) v,k⟩
theorem zjB (d:Option Nat)(op:Op)(w':World)(h:opk ops i ρ=some (d,true,op))(hd:dOK d N=true)
 (hr: ∀o:Oper,o.op=op→(execOp (ev ρ) o).run P w=.ok .skip w') (k:K (zm ρ d undef) w'):WPo P N ops i K ρ w:=by
 obtain ⟨o,ho,rfl,hw,hop⟩:=zH h;refine WPo.run ho hw fun a ha=>?_;rw [hr o hop,Oper.upon_skip];exact ⟨_,ha.put _ (zM hd) undef,k⟩
def aggSize (P:Program)(t:TypeId):Option Nat:=
 match P.underlying t with
 | some (.struct _) | some (.array _ _)=>(P.info? t).map (·.size)
 | _=>none
def oneCell (P:Program)(t:TypeId):Bool:=
 match P.underlying t with
 | some (.struct _) | some (.array _ _) | none=>false
 | _=>(P.info? t).map (·.size)==some 1
theorem zjC {t:TypeId}{n:Nat}(h:aggSize P t=some n):∃d,P.underlying t=some d∧(match d with | .struct _ | .array _ _=>true | _=>false)=true∧(P.info? t).map (·.size)=some n:=by
 unfold aggSize at h;cases hu:P.underlying t with
 | none=>rw [hu] at h;cases h
 | some d=>rw [hu] at h;cases d<;>first | (cases h;done) | exact ⟨_,rfl,rfl,h⟩
theorem zjD {t:TypeId}(h:oneCell P t=true):∃d,P.underlying t=some d∧(match d with | .struct _ | .array _ _=>true | _=>false)=false∧(P.info? t).map (·.size)=some 1:=by
 unfold oneCell at h;cases hu:P.underlying t with
 | none=>rw [hu] at h;cases h
 | some d=>rw [hu] at h;cases d<;>first | (cases h;done) | exact ⟨_,rfl,rfl,eq_of_beq h⟩
theorem kI {t:TypeId}{n b off:Nat}{C:Array Value}{T:TypeId}{fz:Nat×Nat}(ht:aggSize P t=some n)(hh:w.heap[b]? =some (.cells C T fz))(hs:off+n≤C.size):
 (loadVar t ⟨b,off,none⟩).run P w=.ok (.agg (C.extract off (off+n))) w:=by
 obtain ⟨d,hu,hd,hi⟩:=zjC ht;have hA:(isAgg t).run P w=.ok true w:=by cases d<;>simp_all [isAgg,run_underlying hu]
 have hS:(sizeOf t).run P w=.ok n w:=by
  cases hq:P.info? t with
  | none=>simp [hq] at hi
  | some i=>simp [hq] at hi;simp [sizeOf,typeInfo,hq,hi]
 have hC:(loadCells ⟨b,off,none⟩ n).run P w=.ok (C.extract off (off+n)) w:=by
  rw [run_loadCells w ⟨b,off,none⟩ n (fun j=>C.getD (off+j) undef) (fun j hj=>by
   have ha:(⟨b,off,none⟩:Addr).add j=⟨b,off+j,none⟩:=by unfold Addr.add;split<;>simp_all
   rw [ha];have:off+j<C.size:=by omega
   simp [World.cell?,hh,this])]
  congr 1;apply Array.ext
  ·simp;omega
  ·intro j h1 h2;simp at h1 h2;have:off+j<C.size:=by omega
   simp [this]
 simp [loadVar,hA,hS,hC]
theorem kJ {t:TypeId}{b off:Nat}{C:Array Value}{T:TypeId}{fz:Nat×Nat}{v:Value}(ht:oneCell P t=true)(hh:w.heap[b]? =some (.cells C T fz))(hv:C[off]? =some v):
 (loadVar t ⟨b,off,none⟩).run P w=.ok v w:=by
 obtain ⟨d,hu,hd,hi⟩:=zjD ht;have hA:(isAgg t).run P w=.ok false w:=by cases d<;>simp_all [isAgg,run_underlying hu]
 have hL:(load ⟨b,off,none⟩).run P w=.ok v w:=by
  rw [run_load];simp [World.cell?,hh,hv]
 simp only [loadVar,Sem.run_bind,hA,Result.andThen_ok,Bool.false_eq_true,if_false,hL]
theorem zjE (d:Option Nat)(t:TypeId)(x:Operand)(b:Nat)(C:Array Value)(T:TypeId)(fz:Nat×Nat)(h:opk ops i ρ=some (d,true,.load t x))(hd:dOK d N=true)
 (hx:ev ρ x=.pointer (some ⟨b,0,none⟩)) (hh:w.heap[b]? =some (.cells C T fz)) (ht:aggSize P t=some C.size) (k:K (zm ρ d (.agg C)) w):WPo P N ops i K ρ w:=
 kH d _ _ w h hd (fun o ho=>by
  have:=kI (w:=w) (off:=0) ht hh (by omega);have e:C.extract 0 (0+C.size)=C:=by simp
  rw [e] at this
  simp [execOp,ho,Instr.loadAt,Instr.sureAddr,hx,this]) k
theorem zjF (d:Option Nat)(t:TypeId)(x:Operand)(b off n:Nat)(C V:Array Value)(T:TypeId)(fz:Nat×Nat)(h:opk ops i ρ=some (d,true,.load t x))(hd:dOK d N=true)
 (hx:ev ρ x=.pointer (some ⟨b,off,none⟩)) (hh:w.heap[b]? =some (.cells C T fz)) (ht:aggSize P t=some n) (hs:off+n≤C.size) (hV:C.extract off (off+n)=V) (k:K (zm ρ d (.agg V)) w):WPo P N ops i K ρ w:=
 kH d _ _ w h hd (fun o ho=>by
  have:=kI (w:=w) ht hh hs;rw [hV] at this
  simp [execOp,ho,Instr.loadAt,Instr.sureAddr,hx,this]) k
theorem zjG (d:Option Nat)(t:TypeId)(x:Operand)(b off:Nat)(C:Array Value)(T:TypeId)(fz:Nat×Nat)(v:Value)(h:opk ops i ρ=some (d,true,.load t x))(hd:dOK d N=true)
 (hx:ev ρ x=.pointer (some ⟨b,off,none⟩)) (hh:w.heap[b]? =some (.cells C T fz)) (ht:oneCell P t=true) (hv:C[off]? =some v) (k:K (zm ρ d v) w):WPo P N ops i K ρ w:=
 kH d _ _ w h hd (fun o ho=>by
  have:=kJ (w:=w) ht hh hv
  simp [execOp,ho,Instr.loadAt,Instr.sureAddr,hx,this]) k
theorem us {t:TypeId}{b off:Nat}{C:Array Value}{T:TypeId}{v:Value}(hi:(P.info? t).map (·.size)=some v.cells.size)(h1:v.cells.all (·.oneCell')=true)
 (hh:w.heap[b]? =some (.cells C T (0,0))) (hs:off+v.cells.size≤C.size):
 (storeVar t ⟨b,off,none⟩ v).run P w=.ok () (w.setRow b (C.toList.take off++v.cells.toList++C.toList.drop (off+v.cells.size)).toArray):=by
 have hc:=run_storeCells_at (P:=P) b off T v.cells.toList 0 C w hh (by simpa using hs) (fun x hx=>(Array.all_eq_true_iff_forall_mem.1 h1) x (by simpa using hx));cases hq:P.info? t with
 | none=>simp [hq] at hi
 | some i=>
  have hsz:v.cells.size=i.size:=by simp [hq] at hi;omega
  simp [storeVar,sizeOf,typeInfo,hq,hsz] at hc ⊢;exact hc
theorem zjH {B:Nat}{w0:World}{l:List (Nat×Obj)}(HS:St B w0 w l)(k:Nat)(l':List (Nat×Obj))(d:Option Nat)(t:TypeId)(x y:Operand)(b off:Nat)(C C':Array Value)(T:TypeId)(v:Value)
 (h:opk ops i ρ=some (d,true,.store t x y)) (hd:dOK d N=true)
 (hx:ev ρ x=.pointer (some ⟨b,off,none⟩)) (hy:ev ρ y=v) (hk:l[k]? =some (b,.cells C T (0,0))) (hi:(P.info? t).map (·.size)=some v.cells.size) (h1:v.cells.all (·.oneCell')=true)
 (hs:off+v.cells.size≤C.size) (hC:(C.toList.take off++v.cells.toList++C.toList.drop (off+v.cells.size)).toArray=C') (hl:l.set k (b,.cells C' T (0,0))=l')
 (kk: ∀w',St B w0 w' l'→K (zm ρ d undef) w'):WPo P N ops i K ρ w:=by
 subst hl;refine zjB d _ (w.setRow b C') h hd (fun o ho=>?_) (kk _ (HS.store k hk));have:=us (P:=P) (w:=w) hi h1 (HS.get k hk) hs;rw [hC] at this;simp [execOp,ho,Instr.storeAt,Instr.sureAddr,hx,hy,this]
theorem zjI {B:Nat}{w0:World}{l:List (Nat×Obj)}(HS:St B w0 w l)(d:Option Nat)(t:TypeId)(z:Value)(h:opk ops i ρ=some (d,true,.alloc t))(hd:dOK d N=true)
 (hz:(P.info? t).bind (·.zero)=some z)
 (kk: ∀b w',St B w0 w' ((b,.cells z.cells t (0,0))::l)→K (zm ρ d (.pointer (some ⟨b,0,none⟩))) w'):WPo P N ops i K ρ w:=by
 refine kH d _ _ (w.alloc (.cells z.cells t (0,0))) h hd (fun o ho=>?_) (kk w.heap.size _ (HS.alloc _));cases hq:P.info? t with
 | none=>simp [hq] at hz
 | some i=>
  simp [hq] at hz;simp [execOp,ho,Instr.alloc,zeroValue,typeInfo,hq,hz,newVar,newRow,newObj];rfl
theorem zjJ {B:Nat}{w0:World}{l:List (Nat×Obj)}(HS:St B w0 w l)(d:Option Nat)(t:TypeId)(x:Operand)(v:Value)(h:opk ops i ρ=some (d,true,.box t x))(hd:dOK d N=true)
 (hx:ev ρ x=v)
 (kk: ∀b w',St B w0 w' ((b,.cells v.cells t (0,0))::l)→K (zm ρ d (.pointer (some ⟨b,0,none⟩))) w'):WPo P N ops i K ρ w:=by
 refine kH d _ _ (w.alloc (.cells v.cells t (0,0))) h hd (fun o ho=>?_) (kk w.heap.size _ (HS.alloc _));simp [execOp,ho,Instr.box,newVar,newRow,newObj,hx];rfl
def Fn (P:Program)(f:Nat)(args:Array Value)(v:Value):Prop:= ∀w,Calls P f args w fun e w'=>e=.returned v∧Below w.heap.size w w'
def FnR (P:Program)(f:Nat)(args:Array Value)(pre:World→Prop)(R:Nat→Value→World→Prop):Prop:=
 ∀w,pre w→Calls P f args w fun e w'=> ∃v,e=.returned v∧Below w.heap.size w w'∧R w.heap.size v w'
theorem ze1 {B:Nat}{w0:World}{l:List (Nat×Obj)}(HS:St B w0 w l)(d:Option Nat)(f:Nat)(args:Array Value)(pre:World→Prop)(R:Nat→Value→World→Prop)(hc:FnR P f args pre R)(hp:pre w)
 (h:opv P ops i ρ w=some (d,true,.ok (.enter f args) w)) (hd:dOK d N=true)
 (kk: ∀v w',Below w.heap.size w w'→St B w0 w' l→R w.heap.size v w'→K (zm ρ d v) w'):WPo P N ops i K ρ w:=by
 obtain ⟨o,ho,rfl,hw,hr⟩:=zQ h;refine WPo.run ho hw fun a ha=>?_;rw [hr,Oper.upon_enter];refine (hc w hp).mono ?_;rintro e w' ⟨v,rfl,hb,hR⟩;exact ⟨_,ha.put _ (zM hd) v,kk v w' hb (HS.call hb) hR⟩
theorem zjK {B:Nat}{w0:World}{l:List (Nat×Obj)}(HS:St B w0 w l)(d:Option Nat)(f:Nat)(args:Array Value)(v:Value)(hc:Fn P f args v)
 (h: ∀w,opv P ops i ρ w=some (d,true,.ok (.enter f args) w)) (hd:dOK d N=true)
 (kk: ∀w',St B w0 w' l→K (zm ρ d v) w'):WPo P N ops i K ρ w:=by
 obtain ⟨o,ho,rfl,hw,hr⟩:=zQ (h w);refine WPo.run ho hw fun a ha=>?_;rw [hr,Oper.upon_enter];refine (hc w).mono ?_;rintro e w' ⟨rfl,hb⟩;exact ⟨_,ha.put _ (zM hd) v,kk w' (HS.call hb)⟩
end
inductive Res (P:Program)(w:World)(ρ:Env):List ResultVar→List Value→Prop
 | nil:Res P w ρ [] []
 | tmp {t:Nat} {rs:List ResultVar} {vs:List Value} (v:Value) (hv:ρ t=v) (h:Res P w ρ rs vs):Res P w ρ (.tmp t::rs) (v::vs)
 | agg {t b ty:Nat} {rs:List ResultVar} {vs:List Value} (C:Array Value) (T:TypeId) (fz:Nat×Nat) (hv:ρ t=.pointer (some ⟨b,0,none⟩)) (hh:w.heap[b]? =some (.cells C T fz)) (ht:aggSize P ty=some C.size)
  (h:Res P w ρ rs vs):Res P w ρ (.cell t ty::rs) (.agg C::vs)
 | one {t b ty:Nat} {rs:List ResultVar} {vs:List Value} (v:Value) (C:Array Value) (T:TypeId) (fz:Nat×Nat) (hv:ρ t=.pointer (some ⟨b,0,none⟩)) (hh:w.heap[b]? =some (.cells C T fz)) (ht:oneCell P ty=true)
  (hc:C[0]? =some v) (h:Res P w ρ rs vs):Res P w ρ (.cell t ty::rs) (v::vs)
theorem wV {a b c d}{p:List Value→Prop}(h:∃vs,Res a b c d vs∧p vs):∃vs,Res a b c d vs∧p vs:=h
def jI:List Value→Value
 | [v]=>v
 | vs=>.tuple vs.toArray
def ut (tmps:Array Value):ResultVar→Sem Value
 | .tmp t=>pure (tmps.getD t undef)
 | .cell a t=>do loadVar t (←asAddr (tmps.getD a undef))
theorem Res.mapM {P:Program}{w:World}{ρ:Env}{a:Act}{N:Nat}(ha:Rep a ρ N): ∀ {rs:List ResultVar} {vs:List Value},Res P w ρ rs vs→(rs.mapM (ut a.tmps)).run P w=.ok vs w
 | _,_,.nil=>rfl
 | _,_,.tmp v hv h=>by
  have e:=ha.at_ _ |>.trans hv;simp [List.mapM_cons,ut,e,Res.mapM ha h]
 | _,_,.agg C T fz hv hh ht h=>by
  have e:=ha.at_ _ |>.trans hv;have hl:=kI (w:=w) (off:=0) ht hh (by omega);have e2:C.extract 0 (0+C.size)=C:=by simp
  rw [e2] at hl;simp [List.mapM_cons,ut,e,asAddr,hl,Res.mapM ha h]
 | _,_,.one v C T fz hv hh ht hc h=>by
  have e:=ha.at_ _ |>.trans hv;have hl:=kJ (w:=w) ht hh hc;simp [List.mapM_cons,ut,e,asAddr,hl,Res.mapM ha h]
theorem Res.run {P:Program}{w:World}{ρ:Env}{a:Act}{N:Nat}{fn:Func}{vs:List Value}(ha:Rep a ρ N)(h:Res P w ρ fn.results.toList vs):(results fn a.tmps).run P w=.ok (jI vs) w:=by
 have e:results fn a.tmps=(do let vs ←fn.results.mapM (ut a.tmps);pure (if h:vs.size=1 then vs[0] else .tuple vs)):=by
  unfold results;congr 1
 rw [e,Array.mapM_eq_mapM_toList];have:=Res.mapM ha h;simp only [map_eq_pure_bind,bind_assoc,pure_bind];rw [Sem.run_bind,this]
 match vs with
 | []=>rfl
 | [v]=>rfl
 | _::_::_=>rfl
def yJ (P:Program)(rs:List ResultVar)(R:Value→World→Prop):Exit→Env→World→Prop
 | .normal,ρ,w | .ret,ρ,w=> ∃vs,Res P w ρ rs vs∧R (jI vs) w
 | _,_,_=>False
theorem jS {P:Program}{f:Nat}{fn:Func}{c:Code}{rs:List ResultVar}{N:Nat}{args:Array Value}{w:World}{R:Value→World→Prop}(hf:P.funcs[f]? =some fn)(hb:fn.body=some c)(hr:fn.results.toList=rs)(hn:args.size+(fn.ntmps-args.size)=N)
 (h:WP P N c (yJ P rs R) (ini args) w):Calls P f args w fun e w'=> ∃v,e=.returned v∧R v w':=by
 subst hr;refine calls_of_wp hf hb (Go.wp_mono (h { tmps:=args++Array.replicate (fn.ntmps-args.size) undef,defers:=[] } ⟨rfl,by simp [hn],fun t=>?_⟩) ?_)
 ·unfold ini;rw [jH,jH,Array.getElem?_append];split
  ·rfl
  ·rename_i hge
   rw [Array.getElem?_eq_none (Nat.le_of_not_lt hge)];cases he:(Array.replicate (fn.ntmps-args.size) undef)[t-args.size]? with
   | none=>rfl
   | some v=>
    have:=Array.mem_of_getElem? he;simp at this;simp [this]
 ·rintro e a w' ⟨ρ,ha,hq⟩;cases e with
  | normal=>obtain ⟨vs,hR,hv⟩:=hq;exact ⟨ha.defers,_,hR.run ha,_,rfl,hv⟩
  | ret=>obtain ⟨vs,hR,hv⟩:=hq;exact ⟨ha.defers,_,hR.run ha,_,rfl,hv⟩
  | _=>exact (hq:False).elim
theorem Fn.intro {P:Program}{f:Nat}{fn:Func}{c:Code}(rs:List ResultVar)(N:Nat){args:Array Value}{v:Value}(hf:P.funcs[f]? =some fn)(hb:fn.body=some c)(hr:fn.results.toList=rs)(hn:args.size+(fn.ntmps-args.size)=N)
 (h: ∀w,WP P N c (yJ P rs fun v' w'=>v'=v∧Below w.heap.size w w') (ini args) w):Fn P f args v:=fun w=>
 (jS hf hb hr hn (h w)).mono fun e w' ⟨v',he,hv,hb⟩=>by subst hv;exact ⟨he,hb⟩
theorem FnR.intro {P:Program}{f:Nat}{fn:Func}{c:Code}(rs:List ResultVar)(N:Nat){args:Array Value}{pre:World→Prop}{R:Nat→Value→World→Prop}(hf:P.funcs[f]? =some fn)(hb:fn.body=some c)(hr:fn.results.toList=rs)(hn:args.size+(fn.ntmps-args.size)=N)
 (h: ∀w,pre w→WP P N c (yJ P rs fun v' w'=>Below w.heap.size w w'∧R w.heap.size v' w') (ini args) w):FnR P f args pre R:=fun w hp=>
 (jS hf hb hr hn (h w hp)).mono fun e w' ⟨v',he,hv⟩=>⟨v',he,hv⟩
def zd (f:Func):Code:=f.body.getD .skip
def zq:Code→Code | .seq a _=>a | _=>.skip
def zw:Code→Code | .seq _ b=>b | _=>.skip
def yx:Code→Bool | .seq _ _=>true | _=>false
def qU:Code→Operand | .cond x _ _=>x | _=>.const undef
def xq:Code→Code | .cond _ a _=>a | _=>.skip
def xr:Code→Code | .cond _ _ b=>b | _=>.skip
def jT:Code→Bool | .cond _ _ _=>true | _=>false
def qf:Code→Code | .block _ b=>b | .loop b=>b | .scope b=>b | _=>.skip
def vt:Code→Option Nat | .block i _=>some i | _=>none
def zaM:Code→Bool | .loop _=>true | _=>false
def jU:Code→Bool | .ret=>true | _=>false
def vu:Code→Bool | .skip=>true | _=>false
def zaN:Code→Option Nat | .exit i=>some i | _=>none
def zg:Code→Array Oper | .region _ ops _=>ops | _=>#[]
def qM:Code→Option (List Nat×Bool) | .region _ ops d=>some (List.range ops.size,d) | _=>none
section
variable {P:Program}{N:Nat}{Q:Exit→Env→World→Prop}{K:Env→World→Prop}{ρ:Env}{w:World}{c:Code}
theorem uu (h:yx c=true):c=.seq (zq c) (zw c):=by cases c<;>first | rfl | cases h
theorem vw (h:jT c=true):c=.cond (qU c) (xq c) (xr c):=by cases c<;>first | rfl | cases h
theorem xR {l:List Nat}{d:Bool}(h:qM c=some (l,d)):∃id,c=.region id (zg c) d∧List.range (zg c).size=l:=by
 cases c<;>first
  | (cases h;done)
  | (simp only [qM,Option.some.injEq,Prod.mk.injEq] at h;obtain ⟨h1,h2⟩:=h;subst h2;exact ⟨_,rfl,h1⟩)
theorem zcM {i:Nat}(h:vt c=some i):c=.block i (qf c):=by
 cases c<;>first | (cases h;done) | (cases h;rfl)
theorem ze2 (h:zaM c=true):c=.loop (qf c):=by cases c<;>first | rfl | cases h
theorem zcN (h:jU c=true):c=.ret:=by cases c<;>first | rfl | cases h
theorem zcO (h:vu c=true):c=.skip:=by cases c<;>first | rfl | cases h
theorem ze3 {i:Nat}(h:zaN c=some i):c=.exit i:=by cases c<;>first | (cases h;done) | (cases h;rfl)
theorem zb (hc:yx c=true)(h:WP P N (zq c) (nx (WP P N (zw c) Q) Q) ρ w):WP P N c Q ρ w:=by
 rw [uu hc];exact WP.seq h
theorem zjL (l:List Nat)(hc:qM c=some (l,false))(h:WPs P N (zg c) K l ρ w):WP P N c (nx K Q) ρ w:=by
 obtain ⟨id,he,hl⟩:=xR hc;rw [he];exact WP.region l hl h
theorem yP (l:List Nat)(hc:qM c=some (l,false))(h:WPs P N (zg c) (Q .normal) l ρ w):WP P N c Q ρ w:=by
 obtain ⟨id,he,hl⟩:=xR hc;rw [he];exact WP.region l hl h
theorem zh (l:List Nat)(hc:yx c=true)(hr:qM (zq c)=some (l,false))(h:WPs P N (zg (zq c)) (WP P N (zw c) Q) l ρ w):WP P N c Q ρ w:=
 zb hc (zjL l hr h)
theorem zi (hc:jT c=true)(hx:ev ρ (qU c)=.bool true)(ht:WP P N (xq c) Q ρ w):WP P N c Q ρ w:=by
 rw [vw hc];exact WP.cond_t hx ht
theorem zl (hc:jT c=true)(hx:ev ρ (qU c)=.bool false)(ht:WP P N (xr c) Q ρ w):WP P N c Q ρ w:=by
 rw [vw hc];exact WP.cond_f hx ht
theorem zu (i:Nat)(hc:vt c=some i)(h:WP P N (qf c) (inb i Q) ρ w):WP P N c Q ρ w:=by
 rw [zcM hc];exact WP.block h
theorem zn (hc:jU c=true)(h:Q .ret ρ w):WP P N c Q ρ w:=by rw [zcN hc];exact WP.ret h
theorem zp (hc:vu c=true)(h:Q .normal ρ w):WP P N c Q ρ w:=by rw [zcO hc];exact WP.skip h
theorem ym (i:Nat)(hc:zaN c=some i)(h:Q (.exit i) ρ w):WP P N c Q ρ w:=by rw [ze3 hc];exact WP.exit h
theorem zaO (hc:zaM c=true)(h:WP P N (qf c) (nx (WPL P N (qf c) Q) Q) ρ w):WP P N c Q ρ w:=by
 rw [ze2 hc];exact WP.first h
theorem jV (h:WP P N c (nx (WPL P N c Q) Q) ρ w):WPL P N c Q ρ w:=WPL.next h
theorem yD (hc:zaM c=true)(I:Nat→Env→World→Prop)(n:Nat)(h0:I n ρ w)
 (round: ∀n ρ w,I n ρ w→WP P N (qf c) (nx (fun ρ' w'=> ∃m,m<n∧I m ρ' w') Q) ρ w):WP P N c Q ρ w:=by
 rw [ze2 hc];exact WP.loop I n h0 round
theorem vx {Q':Exit→Env→World→Prop}(h:WP P N c Q ρ w)(hq: ∀e ρ w,Q e ρ w→Q' e ρ w):WP P N c Q' ρ w:=WP.mono h hq
end
section
variable {P:Program}{N:Nat}{ops:Array Oper}{i:Nat}{r:List Nat}{K:Env→World→Prop}{ρ:Env}{w:World}{B:Nat}{w0:World}{l:List (Nat×Obj)}
theorem zc (h:K ρ w):WPs P N ops K [] ρ w:=h
theorem zj (d:Option Nat)(v:Value)(h: ∀w,opv P ops i ρ w=some (d,true,.ok (.value v) w))(hd:dOK d N=true)(k:WPs P N ops K r (zm ρ d v) w):WPs P N ops K (i::r) ρ w:=zeZ d v (h w) hd k
theorem qN (d:Option Nat)(v v':Value)(h: ∀w,opv P ops i ρ w=some (d,true,.ok (.value v) w))(e:v=v')(hd:dOK d N=true)(k:WPs P N ops K r (zm ρ d v') w):WPs P N ops K (i::r) ρ w:=zeZ d v (h w) hd (by rw [e];exact k)
theorem uw (d:Option Nat)(op:Op)(v:Value)(h:opk ops i ρ=some (d,true,op))(hd:dOK d N=true)(hr: ∀(o:Oper) w,o.op=op→(execOp (ev ρ) o).run P w=.ok (.value v) w)(k:WPs P N ops K r (zm ρ d v) w):WPs P N ops K (i::r) ρ w:=
 kH d op v w h hd (fun o ho=>hr o w ho) k
theorem vy (d:Option Nat)(h:opn ops i ρ=some (d,false))(hd:dOK d N=true)(k:WPs P N ops K r (zm ρ d undef) w):WPs P N ops K (i::r) ρ w:=ze0 d h hd k
theorem vA (HS:St B w0 w l)(d:Option Nat)(t:TypeId)(x:Operand)(j b:Nat)(C:Array Value)(T:TypeId)(fz:Nat×Nat)(h:opk ops i ρ=some (d,true,.load t x))(hd:dOK d N=true)
 (hx:ev ρ x=.pointer (some ⟨b,0,none⟩)) (hj:l[j]? =some (b,.cells C T fz)) (ht:aggSize P t=some C.size) (k:WPs P N ops K r (zm ρ d (.agg C)) w):WPs P N ops K (i::r) ρ w:=
 zjE d t x b C T fz h hd hx (HS.get j hj) ht k
theorem jh (HS:St B w0 w l)(d:Option Nat)(t:TypeId)(x:Operand)(j b off:Nat)(C:Array Value)(T:TypeId)(fz:Nat×Nat)(v:Value)(h:opk ops i ρ=some (d,true,.load t x))(hd:dOK d N=true)
 (hx:ev ρ x=.pointer (some ⟨b,off,none⟩)) (hj:l[j]? =some (b,.cells C T fz)) (ht:oneCell P t=true) (hv:C[off]? =some v) (k:WPs P N ops K r (zm ρ d v) w):WPs P N ops K (i::r) ρ w:=
 zjG d t x b off C T fz v h hd hx (HS.get j hj) ht hv k
theorem vB (HS:St B w0 w l)(j:Nat)(l':List (Nat×Obj))(t:TypeId)(x y:Operand)(b off:Nat)(C C':Array Value)(T:TypeId)(v:Value)
 (h:opk ops i ρ=some (none,true,.store t x y))
 (hx:ev ρ x=.pointer (some ⟨b,off,none⟩)) (hy:ev ρ y=v) (hk:l[j]? =some (b,.cells C T (0,0))) (hi:(P.info? t).map (·.size)=some v.cells.size) (h1:v.cells.all (·.oneCell')=true)
 (hs:off+v.cells.size≤C.size) (hC:(C.toList.take off++v.cells.toList++C.toList.drop (off+v.cells.size)).toArray=C') (hl:l.set j (b,.cells C' T (0,0))=l')
 (kk: ∀w',St B w0 w' l'→WPs P N ops K r ρ w'):WPs P N ops K (i::r) ρ w:=
 zjH HS j l' none t x y b off C C' T v h rfl hx hy hk hi h1 hs hC hl kk
theorem zP (HS:St B w0 w l)(d:Option Nat)(t:TypeId)(z:Value)(h:opk ops i ρ=some (d,true,.alloc t))(hd:dOK d N=true)
 (hz:(P.info? t).bind (·.zero)=some z)
 (kk: ∀b w',St B w0 w' ((b,.cells z.cells t (0,0))::l)→WPs P N ops K r (zm ρ d (.pointer (some ⟨b,0,none⟩))) w'):WPs P N ops K (i::r) ρ w:=
 zjI HS d t z h hd hz kk
theorem ux (HS:St B w0 w l)(d:Option Nat)(t:TypeId)(x:Operand)(v:Value)(h:opk ops i ρ=some (d,true,.box t x))(hd:dOK d N=true)
 (hx:ev ρ x=v)
 (kk: ∀b w',St B w0 w' ((b,.cells v.cells t (0,0))::l)→WPs P N ops K r (zm ρ d (.pointer (some ⟨b,0,none⟩))) w'):WPs P N ops K (i::r) ρ w:=
 zjJ HS d t x v h hd hx kk
theorem ze4 (HS:St B w0 w l)(d:Option Nat)(f:Nat)(args:Array Value)(v:Value)(hc:Fn P f args v)
 (h: ∀w,opv P ops i ρ w=some (d,true,.ok (.enter f args) w)) (hd:dOK d N=true)
 (kk: ∀w',St B w0 w' l→WPs P N ops K r (zm ρ d v) w'):WPs P N ops K (i::r) ρ w:=zjK HS d f args v hc h hd kk
theorem zjM (HS:St B w0 w l)(d:Option Nat)(f:Nat)(args:Array Value)(pre:World→Prop)(R:Nat→Value→World→Prop)(hc:FnR P f args pre R)(hp:pre w)
 (h:opv P ops i ρ w=some (d,true,.ok (.enter f args) w)) (hd:dOK d N=true)
 (kk: ∀v w',Below w.heap.size w w'→St B w0 w' l→R w.heap.size v w'→WPs P N ops K r (zm ρ d v) w'):WPs P N ops K (i::r) ρ w:=ze1 HS d f args pre R hc hp h hd kk
end
def yV:List (Nat×Value)→Env→Env
 | [],ρ=>ρ
 | (t,v)::r,ρ=>upd (yV r ρ) t v
def vC (ρ:Env):List (Nat×Value)→Prop
 | []=>True
 | (t,v)::r=>ρ t=v∧vC ρ r
theorem xS {ρ:Env}{t:Nat}{v:Value}(h:ρ t=v):upd ρ t v=ρ:=by
 funext k;unfold upd;cases hb:Nat.beq k t with
 | false=>rfl
 | true=>rw [Nat.eq_of_beq_eq_true hb,h];rfl
theorem uy {ρ:Env} : ∀ {l:List (Nat×Value)},vC ρ l→yV l ρ=ρ
 | [],_=>rfl
 | (t,v)::r,⟨h,hr⟩=>by rw [yV,uy hr,xS h]
def Is (l:List (Nat×Value))(ρ:Env):Prop:=∃ρ',ρ=yV l ρ'
theorem Is.of {ρ:Env}{l:List (Nat×Value)}(h:vC ρ l):Is l ρ:=⟨ρ,(uy h).symm⟩
def FnP (P:Program)(f:Nat)(args:Array Value)(pre:World→Prop)(v:Value):Prop:= ∀w,pre w→Calls P f args w fun e w'=>e=.returned v∧Below w.heap.size w w'
theorem FnP.intro {P:Program}{f:Nat}{fn:Func}{c:Code}(rs:List ResultVar)(N:Nat){args:Array Value}{pre:World→Prop}{v:Value}(hf:P.funcs[f]? =some fn)(hb:fn.body=some c)(hr:fn.results.toList=rs)(hn:args.size+(fn.ntmps-args.size)=N)
 (h: ∀w,pre w→WP P N c (yJ P rs fun v' w'=>v'=v∧Below w.heap.size w w') (ini args) w):FnP P f args pre v:=fun w hp=>
 (jS hf hb hr hn (h w hp)).mono fun e w' ⟨v',he,hv,hb⟩=>by subst hv;exact ⟨he,hb⟩
section
variable {P:Program}{N:Nat}{ops:Array Oper}{i:Nat}{r:List Nat}{K:Env→World→Prop}{ρ:Env}{w:World}{B:Nat}{w0:World}{l:List (Nat×Obj)}
theorem qm (HS:St B w0 w l)(d:Option Nat)(f:Nat)(args:Array Value)(pre:World→Prop)(v:Value)(hc:FnP P f args pre v)(hp:pre w)
 (h: ∀w,opv P ops i ρ w=some (d,true,.ok (.enter f args) w)) (hd:dOK d N=true)
 (kk: ∀w',St B w0 w' l→WPs P N ops K r (zm ρ d v) w'):WPs P N ops K (i::r) ρ w:=
 ze1 HS d f args pre (fun _ v' _=>v'=v) (fun w hp=>(hc w hp).mono fun e w' ⟨he,hb⟩=>⟨v,he,hb,rfl⟩) hp (h w) hd (fun v' w' _ HS' e=>by subst e;exact kk w' HS')
theorem St.old (HS:St B w0 w l){b:Nat}{o:Obj}(h:w0.heap[b]? =some o)(hb:b<B):w.heap[b]? =some o:=by rw [HS.below.block b hb];exact h
theorem ze5 (HS:St B w0 w l)(d:Option Nat)(t:TypeId)(x:Operand)(b off n:Nat)(C V:Array Value)(T:TypeId)(fz:Nat×Nat)(h:opk ops i ρ=some (d,true,.load t x))(hd:dOK d N=true)
 (hx:ev ρ x=.pointer (some ⟨b,off,none⟩)) (hh:w0.heap[b]? =some (.cells C T fz)) (hb:b<B) (ht:aggSize P t=some n) (hs:off+n≤C.size) (hV:C.extract off (off+n)=V) (k:WPs P N ops K r (zm ρ d (.agg V)) w):WPs P N ops K (i::r) ρ w:=
 zjF d t x b off n C V T fz h hd hx (HS.old hh hb) ht hs hV k
end
theorem za {a b:Bool}(h:a=b):Value.bool a=.bool b:=by rw [h]
theorem zk {k:IntKind}{a b:Int}(h:a=b):Value.int k a=.int k b:=by rw [h]
theorem wrap_i64 {a:Int}(h0: -0x8000000000000000≤a)(h1:a≤0x7fffffffffffffff):IntKind.i64.wrap a=a:=by rw [IntKind.wrap_i64];omega
theorem wrap_u64 {a:Int}(h0:0≤a)(h1:a≤0xffffffffffffffff):IntKind.u64.wrap a=a:=by rw [IntKind.wrap_u64];omega
def Runs (P:Program)(S:Value→World→Prop):Result Next→Prop
 | .ok (.value v) w'=>S v w'
 | .ok .skip w'=>S undef w'
 | .ok (.enter f args) w'=>Calls P f args w' fun e w''=> ∃v,e=.returned v∧S v w''
 | _=>False
def put1 (L:Nat→Bool)(i:Nat):Nat→Bool:=fun j=>Nat.beq j i||L j
def setN (g:Nat→Nat)(i b:Nat):Nat→Nat:=fun j=>bif Nat.beq j i then b else g j
theorem setN_self (g:Nat→Nat)(i:Nat):setN g i (g i)=g:=by
 funext j;unfold setN;cases hb:Nat.beq j i with
 | false=>rfl
 | true=>rw [Nat.eq_of_beq_eq_true hb];rfl
def at_:List (Option Nat×(Nat→Value))→(Nat→Nat)→Nat→List (Option Nat×Value)
 | [],_,_=>[]
 | (d,f)::r,g,k=>(d,f (g k))::at_ r g (k+1)
theorem at_get: ∀ {l:List (Option Nat×(Nat→Value))} {g:Nat→Nat} {k i:Nat},(at_ l g k)[i]? =(l[i]?).map fun (d,f)=>(d,f (g (k+i)))
 | [],g,k,i=>by simp [at_]
 | (d,f)::r,g,k,0=>by simp [at_]
 | (d,f)::r,g,k,i+1=>by
  have:=at_get (l:=r) (g:=g) (k:=k+1) (i:=i);simp only [at_,List.getElem?_cons_succ,this,show k+1+i=k+(i+1) by omega]
theorem at_map: ∀ {l:List (Option Nat×(Nat→Value))} {g:Nat→Nat} {k:Nat},(at_ l g k).map (·.1)=l.map (·.1)
 | [],g,k=>rfl
 | (d,f)::r,g,k=>by simp only [at_,List.map_cons,at_map (l:=r)]
theorem at_map0 (vs:List (Option Nat×(Nat→Value)))(g:Nat→Nat):(at_ vs g 0).map (·.1)=vs.map (·.1):=at_map
def Closed (ops:Array Oper)(L:Nat→Bool):Prop:= ∀j o,L j=true→ops[j]? =some o→ ∀e∈o.after,Region.binds .any e=true→L e.on=true
def Gives (P:Program)(ops:Array Oper)(R:(Nat→Nat)→Env)(pre:(Nat→Bool)→(Nat→Nat)→World→Prop)(i:Nat)(d:Option Nat)(f:Nat→Value):Prop:=
 ∀L g w,pre L g w→L i=false→(∀o,ops[i]? =some o→ ∀e∈o.after,Region.binds .any e=true→L e.on=true)→Closed ops L→∃o,ops[i]? =some o∧o.dst=d∧
  ((Region.wanted o (zC ops (R g))=false∧f (g i)=undef∧pre (put1 L i) g w)∨(Region.wanted o (zC ops (R g))=true∧Runs P (fun v w'=> ∃b,v=f b∧pre (put1 L i) (setN g i b) w') ((execOp (ev (R g)) o).run P w)))
def GivesAll (P:Program)(ops:Array Oper)(R:(Nat→Nat)→Env)(pre:(Nat→Bool)→(Nat→Nat)→World→Prop):List (Option Nat×(Nat→Value))→Nat→Prop
 | [],_=>True
 | (d,f)::r,i=>Gives P ops R pre i d f∧GivesAll P ops R pre r (i+1)
def slots:List (Option Nat×Value)→List (Nat×Value)
 | []=>[]
 | (some d,V)::r=>(d,V)::slots r
 | (none,_)::r=>slots r
theorem GivesAll.get {P:Program}{ops:Array Oper}{R:(Nat→Nat)→Env}{pre:(Nat→Bool)→(Nat→Nat)→World→Prop} : ∀ {l:List (Option Nat×(Nat→Value))} {k:Nat},GivesAll P ops R pre l k→ ∀ {i:Nat} {d:Option Nat} {f:Nat→Value},l[i]? =some (d,f)→Gives P ops R pre (k+i) d f
 | [],_,_,_,_,_,h=>by simp at h
 | (d,V)::r,k,⟨h,hr⟩,0,_,_,hi=>by simp at hi;obtain ⟨rfl,rfl⟩:=hi;exact h
 | (d,V)::r,k,⟨h,hr⟩,i+1,_,_,hi=>by
  have:=hr.get (i:=i) (by simpa using hi)
  rwa [show k+1+i=k+(i+1) by omega] at this
def opTmps (o:Oper):List Nat:=o.op.operands.toList.filterMap fun | .tmp t=>some t | _=>none
def notSelect (o:Oper):Bool:=match o.op with | .select .. =>false | _=>true
def opOK (ds:List (Option Nat))(i:Nat)(o:Oper):Bool:=
 (some o.dst==ds[i]?)&&notSelect o&&
 (o.after.toList.all fun e=> !Region.binds .any e||Nat.blt e.on i)&&
 ((opTmps o).all fun t=> !ds.contains (some t)||o.after.toList.any fun e=>Region.binds .any e&&ds[e.on]? ==some (some t))&&
 (match o.guard with | none=>true | some (j,_)=>o.after.toList.any fun e=>Region.binds .any e&&e.on==j)
def nodupO:List (Option Nat)→Bool
 | []=>true
 | none::r=>nodupO r
 | some x::r=> !r.contains (some x)&&nodupO r
def nodupB:List Nat→Bool
 | []=>true
 | x::r=> !r.contains x&&nodupB r
def drawOK (ops:Array Oper)(ds:List (Option Nat))(N:Nat):Bool:=
 (ops.size==ds.length)&&nodupO ds&&(ds.all fun d=>dOK d N)&&(ops.toList.zipIdx.all fun (o,i)=>opOK ds i o)
theorem slots_mem: ∀ {l:List (Option Nat×Value)} {t:Nat},t∈(slots l).map (·.1)↔some t∈l.map (·.1)
 | [],t=>by simp [slots]
 | (some d,V)::r,t=>by simp only [slots,List.map_cons,List.mem_cons,slots_mem (l:=r)];simp
 | (none,V)::r,t=>by simp only [slots,List.map_cons,List.mem_cons,slots_mem (l:=r)];simp
theorem slots_nodup: ∀ {l:List (Option Nat×Value)},nodupO (l.map (·.1))=true→nodupB ((slots l).map (·.1))=true
 | [],_=>rfl
 | (some d,V)::r,h=>by
  simp only [List.map_cons,nodupO,Bool.and_eq_true,Bool.not_eq_true'] at h;simp only [slots,List.map_cons,nodupB,Bool.and_eq_true,Bool.not_eq_true'];refine ⟨?_,slots_nodup h.2⟩;have h1:=h.1;rw [←Bool.not_eq_true] at h1 ⊢
  simpa only [List.contains_iff_mem,slots_mem] using h1
 | (none,V)::r,h=>slots_nodup (l:=r) h
theorem slots_get: ∀ {l:List (Option Nat×Value)} {i d:Nat} {V:Value},l[i]? =some (some d,V)→∃j:Nat,(slots l)[j]? =some (d,V)
 | [],_,_,_,h=>by simp at h
 | (some d,V)::r,0,_,_,h=>by simp at h;obtain ⟨rfl,rfl⟩:=h;exact ⟨0,rfl⟩
 | (none,V)::r,0,_,_,h=>by simp at h
 | (some d,V)::r,i+1,_,_,h=>by obtain ⟨j,hj⟩:=slots_get (l:=r) (by simpa using h);exact ⟨j+1,by simpa [slots] using hj⟩
 | (none,V)::r,i+1,_,_,h=>by obtain ⟨j,hj⟩:=slots_get (l:=r) (by simpa using h);exact ⟨j,by simpa [slots] using hj⟩
theorem setAll_in: ∀ {l:List (Nat×Value)} {ρ:Env},nodupB (l.map (·.1))=true→ ∀ {i d:Nat} {V:Value},l[i]? =some (d,V)→yV l ρ d=V
 | [],_,_,_,_,_,h=>by simp at h
 | (d,V)::r,ρ,hn,0,_,_,h=>by
  simp at h;obtain ⟨rfl,rfl⟩:=h;show (bif Nat.beq d d then V else _)=V;rw [Nat.beq_refl];rfl
 | (d,V)::r,ρ,hn,i+1,d',V',h=>by
  have hr:r[i]? =some (d',V'):=by simpa using h
  simp [nodupB] at hn;have hne:Nat.beq d' d=false:=by
   cases hb:Nat.beq d' d with
   | false=>rfl
   | true=>
    have:=Nat.eq_of_beq_eq_true hb;subst this;exact absurd (List.mem_of_getElem? hr) (hn.1 _)
  show (bif Nat.beq d' d then V else yV r ρ d')=V';rw [hne];exact setAll_in hn.2 hr
theorem setAll_out: ∀ {l:List (Nat×Value)} {ρ:Env} {t:Nat},t∉l.map (·.1)→yV l ρ t=ρ t
 | [],_,_,_=>rfl
 | (d,V)::r,ρ,t,h=>by
  simp at h;have hne:Nat.beq t d=false:=by
   cases hb:Nat.beq t d with
   | false=>rfl
   | true=>exact absurd (Nat.eq_of_beq_eq_true hb) h.1
  show (bif Nat.beq t d then V else yV r ρ t)=_;rw [hne];exact setAll_out (by simpa using h.2)
section
variable {P:Program}{N:Nat}{ops:Array Oper}{Q:Exit→Env→World→Prop}{K:Env→World→Prop}{ρ:Env}{w:World}{vs:List (Option Nat×(Nat→Value))}{pre:(Nat→Bool)→(Nat→Nat)→World→Prop}
def fin_ (vs:List (Option Nat×(Nat→Value)))(ρ:Env)(g:Nat→Nat):Env:=yV (slots (at_ vs g 0)) ρ
def ran (L:Array Bool):Nat→Bool:=fun j=>L.getD j false
def Mid (ρ:Env)(vs:List (Option Nat×(Nat→Value)))(g:Nat→Nat)(L:Nat→Bool)(ρ':Env):Prop:=
 ∀t,(∀i f,L i=true→vs[i]? =some (some t,f)→ρ' t=f (g i))∧((∀i,L i=true→(vs.map (·.1))[i]? ≠some (some t))→ρ' t=ρ t)
theorem ran_set {L:Array Bool}{i:Nat}(hi:i<L.size):ran (L.setIfInBounds i true)=put1 (ran L) i:=by
 funext j;unfold ran put1;by_cases hij:i=j
 ·subst hij;rw [Nat.beq_refl];simp [hi]
 ·have:Nat.beq j i=false:=by
   cases hb:Nat.beq j i with
   | false=>rfl
   | true=>exact absurd (Nat.eq_of_beq_eq_true hb).symm hij
  rw [getD_set_ne false hij,this];rfl
theorem put1_or {L:Nat→Bool}{i j:Nat}(h:put1 L i j=true):j=i∨L j=true:=by
 unfold put1 at h;cases hb:Nat.beq j i with
 | false=>rw [hb] at h;exact .inr h
 | true=>exact .inl (Nat.eq_of_beq_eq_true hb)
theorem put1_self (L:Nat→Bool)(i:Nat):put1 L i i=true:=by unfold put1;rw [Nat.beq_refl];rfl
theorem put1_of {L:Nat→Bool}{i j:Nat}(h:L j=true):put1 L i j=true:=by unfold put1;rw [h,Bool.or_true]
theorem nodupO_inj: ∀ {l:List (Option Nat)},nodupO l=true→ ∀ {i j x:Nat},l[i]? =some (some x)→l[j]? =some (some x)→i=j
 | [],_,_,_,_,h,_=>by simp at h
 | none::r,h,0,_,_,hi,_=>by simp at hi
 | none::r,h,_+1,0,_,_,hj=>by simp at hj
 | none::r,h,i+1,j+1,x,hi,hj=>congrArg (·+1) (nodupO_inj (l:=r) h (x:=x) (by simpa using hi) (by simpa using hj))
 | some y::r,h,0,0,_,_,_=>rfl
 | some y::r,h,0,j+1,x,hi,hj=>by
  simp [nodupO] at h hi hj;subst hi;exact absurd (List.mem_of_getElem? hj) h.1
 | some y::r,h,i+1,0,x,hi,hj=>by
  simp [nodupO] at h hi hj;subst hj;exact absurd (List.mem_of_getElem? hi) h.1
 | some y::r,h,i+1,j+1,x,hi,hj=>by
  simp [nodupO] at h hi hj;exact congrArg (·+1) (nodupO_inj (l:=r) h.2 (x:=x) (by simpa using hi) (by simpa using hj))
theorem fin_in (hnd:nodupO (vs.map (·.1))=true){g:Nat→Nat}{i t:Nat}{f:Nat→Value}(h:vs[i]? =some (some t,f)):fin_ vs ρ g t=f (g i):=by
 have h1:(at_ vs g 0)[i]? =some (some t,f (g i)):=by rw [at_get,h];simp
 obtain ⟨j,hj⟩:=slots_get h1;exact setAll_in (slots_nodup (Eq.mpr (congrArg (fun l=>nodupO l=true) (at_map0 vs g)) hnd)) hj
theorem fin_out {g:Nat→Nat}{t:Nat}(h:some t∉vs.map (·.1)):fin_ vs ρ g t=ρ t:=
 setAll_out (fun h'=>h (Eq.mp (congrArg (fun l=>some t∈l) (at_map0 vs g)) (slots_mem.1 h')))
theorem draw_step (hok:drawOK ops (vs.map (·.1)) N=true)(hg:GivesAll P ops (fin_ vs ρ) pre vs 0){i:Nat}{L:Array Bool}(hi:i∈Region.ready .any ops L)
 {a:Act} {ρ':Env} {g:Nat→Nat} (ha:Rep a ρ' N) (hm:Mid ρ vs g (ran L) ρ') (hL:L.size=ops.size) (hcl:Closed ops (ran L)) (hp:pre (ran L) g w)
 {QQ:Exit→Act→World→Prop} {KK:Act→World→Prop} (hK: ∀a' ρ'' g' w',Rep a' ρ'' N→Mid ρ vs g' (put1 (ran L) i) ρ''→Closed ops (put1 (ran L) i)→pre (put1 (ran L) i) g' w'→KK a' w'):
 wpOp P ops QQ i KK a w:=by
 simp only [drawOK,Bool.and_eq_true,List.all_eq_true,beq_iff_eq] at hok;obtain ⟨⟨⟨hsz,hnd⟩,hN⟩,hops⟩:=hok;obtain ⟨hun,o,ho,hready⟩:=mem_ready.1 hi;have hilt:i<ops.size:=(Array.getElem?_eq_some_iff.1 ho).1
 have hoi:opOK (vs.map (·.1)) i o=true:=hops (o,i) (by
  rw [List.mem_iff_getElem?];refine ⟨i,?_⟩;rw [List.getElem?_zipIdx]
  simp [ho])
 simp only [opOK,Bool.and_eq_true] at hoi;obtain ⟨⟨⟨⟨hdst,hsel⟩,hback⟩,hreads⟩,hguard⟩:=hoi;have hivs:i<vs.length:=by rw [List.length_map] at hsz;omega
 obtain ⟨⟨d,f⟩,hv⟩:∃p,vs[i]? =some p:=⟨_,List.getElem?_eq_getElem hivs⟩
 have hd:o.dst=d:=by
  have:=eq_of_beq hdst
  simpa [hv] using this
 have hdN: ∀k,d=some k→k<N:=zM (hN d (List.mem_map.2 ⟨(d,f),List.mem_of_getElem? hv,rfl⟩));have hunL:ran L i=false:=by
  have hlt:i<L.size:=by omega
  unfold ran;simpa [hlt] using hun
 have hcl':Closed ops (put1 (ran L) i):=by
  intro j oj hj hoj e he hb;rcases put1_or hj with rfl | hj
  ·rw [ho] at hoj;obtain rfl:=Option.some.inj hoj;exact put1_of (hready e he hb)
  ·exact put1_of (hcl j oj hj hoj e he hb)
 have look: ∀t,((vs.map (·.1)).contains (some t)=true→∃e∈o.after.toList,Region.binds .any e=true∧(vs.map (·.1))[e.on]? =some (some t))→ρ' t=fin_ vs ρ g t:=by
  intro t ht;by_cases hc:(vs.map (·.1)).contains (some t)=true
  ·obtain ⟨e,he,hb,hdt⟩:=ht hc;rw [List.getElem?_map] at hdt;cases hve:vs[e.on]? with
   | none=>rw [hve] at hdt;cases hdt
   | some p=>
    obtain ⟨d1,f1⟩:=p;rw [hve] at hdt;simp at hdt;subst hdt;rw [fin_in hnd hve];exact (hm t).1 e.on f1 (hready e (by simpa using he) hb) hve
  ·have hnot:some t∉vs.map (·.1):=by simpa using hc
   rw [fin_out hnot];exact (hm t).2 fun j hj heq=>hnot (List.mem_of_getElem? heq)
 have hops': ∀x∈o.op.operands,ev ρ' x=ev (fin_ vs ρ g) x:=by
  intro x hx;cases x with
  | tmp t=>
   have hmem:t∈opTmps o:=List.mem_filterMap.2 ⟨.tmp t,by simpa using hx,rfl⟩;have:=List.all_eq_true.1 hreads t hmem;refine look t fun hc=>?_;rw [hc] at this;simp only [Bool.not_true,Bool.false_or,List.any_eq_true] at this;obtain ⟨e,he,hb⟩:=this;simp only [Bool.and_eq_true,beq_iff_eq] at hb;exact ⟨e,he,hb⟩
  | _=>rfl
 have hexec:execOp (ev ρ') o=execOp (ev (fin_ vs ρ g)) o:=execOp_congr o (fun cs b he=>by simp [notSelect,he] at hsel) hops';have hwant:Region.wanted o (zC ops ρ')=Region.wanted o (zC ops (fin_ vs ρ g)):=by
  unfold Region.wanted;cases hgd:o.guard with
  | none=>rfl
  | some gd=>
   obtain ⟨j,b⟩:=gd;have:zC ops ρ' j=zC ops (fin_ vs ρ g) j:=by
    unfold zC;cases hj:(ops[j]?).bind (·.dst) with
    | none=>rfl
    | some t=>
     simp only [hgd,List.any_eq_true,Bool.and_eq_true,beq_iff_eq] at hguard;obtain ⟨e,he,hb,hon⟩:=hguard;have hjds:(vs.map (·.1))[j]? =some (some t):=by
      cases hoj:ops[j]? with
      | none=>simp [hoj] at hj
      | some oj=>
       have hjj:opOK (vs.map (·.1)) j oj=true:=hops (oj,j) (by
        rw [List.mem_iff_getElem?];refine ⟨j,?_⟩;rw [List.getElem?_zipIdx]
        simp [hoj])
       simp only [opOK,Bool.and_eq_true,beq_iff_eq] at hjj;have:=hjj.1.1.1.1;simp [hoj] at hj;rw [←this,hj]
     simp only [look t fun _=>⟨e,he,hb,by rw [hon];exact hjds⟩]
   simp only [this]
 have hmid: ∀b,Mid ρ vs (setN g i b) (put1 (ran L) i) (zm ρ' d (f b)):=by
  intro b t;have hds:(vs.map (·.1))[i]? =some d:=by simp [hv]
  by_cases htd:d=some t
  ·subst htd;have e:zm ρ' (some t) (f b) t=f b:=by
    show (bif Nat.beq t t then f b else _)=f b;rw [Nat.beq_refl];rfl
   refine ⟨fun j f1 hj hvj=>?_,fun hn=>absurd hds (hn i (put1_self _ _))⟩;have hji:j=i:=nodupO_inj hnd (by rw [List.getElem?_map,hvj];rfl) hds;subst hji;rw [hv] at hvj;obtain rfl:f1=f:=by simpa using hvj.symm
   rw [e];unfold setN;rw [Nat.beq_refl];rfl
  ·have e:zm ρ' d (f b) t=ρ' t:=by
    cases d with
    | none=>rfl
    | some k=>
     have hne:Nat.beq t k=false:=by
      cases hb:Nat.beq t k with
      | false=>rfl
      | true=>exact absurd (by rw [Nat.eq_of_beq_eq_true hb]) htd
     show (bif Nat.beq t k then f b else ρ' t)=ρ' t;rw [hne];rfl
   rw [e];refine ⟨fun j f1 hj hvj=>?_,fun hn=>(hm t).2 fun j hj=>hn j (put1_of hj)⟩;have hji:j≠i:=by
    rintro rfl;rw [hv] at hvj;have:d=some t:=by simpa using congrArg (Option.map (·.1)) hvj
    exact htd this
   have hLj:ran L j=true:=(put1_or hj).resolve_left hji;have hN':setN g i b j=g j:=by
    unfold setN;cases hb:Nat.beq j i with
    | false=>rfl
    | true=>exact absurd (Nat.eq_of_beq_eq_true hb) hji
   rw [hN'];exact (hm t).1 j f1 hLj hvj
 have hgi:=hg.get hv;rw [Nat.zero_add] at hgi
 obtain ⟨o',ho',hd',hrun⟩:=hgi (ran L) g w hp hunL (fun o1 ho1 e he hb=>by
  rw [ho] at ho1;obtain rfl:=Option.some.inj ho1;exact hready e he hb) hcl
 have:o'=o:=by rw [ho] at ho';exact (Option.some.inj ho').symm
 subst this;have hput: ∀v,Rep (a.put o'.dst v) (zm ρ' d v) N:=fun v=>by
  have:=ha.put o'.dst (fun k hk=>hdN k (by rw [←hd,hk])) v
  rwa [hd] at this ⊢
 unfold wpOp;simp only [ho,jg ha,hwant];rcases hrun with ⟨hwf,hV,hp'⟩ | ⟨hwt,hR⟩
 ·simp only [hwf,Bool.false_eq_true,if_false];refine hK _ _ g _ (hput undef) ?_ hcl' hp';have:=hmid (g i)
  rwa [setN_self,hV] at this
 ·simp only [hwt,if_true];refine .inl ?_;unfold Oper.wp;rw [ha.eval,hexec];generalize (execOp (ev (fin_ vs ρ g)) o').run P w=r at hR;cases r with
  | halt h w'=>exact hR.elim
  | ok n w'=>
   cases n with
   | value v=>obtain ⟨b,rfl,hb⟩:=hR;exact hK _ _ _ _ (hput _) (hmid b) hcl' hb
   | skip=>obtain ⟨b,hu,hb⟩:=hR;exact hK _ _ _ _ (by have:=hput undef;rwa [hu] at this ⊢) (hmid b) hcl' hb
   | enter f' args=>
    refine Calls.mono hR fun e w'' he=>?_;obtain ⟨v,rfl,b,rfl,hb⟩:=he;exact hK _ _ _ _ (hput _) (hmid b) hcl' hb
   | _=>exact hR.elim
theorem draw_any (hok:drawOK ops (vs.map (·.1)) N=true)(hg:GivesAll P ops (fin_ vs ρ) pre vs 0)
 (hfin: ∀L g w',(∀i,i<ops.size→L i=true)→pre L g w'→Q .normal (fin_ vs ρ g) w'):
 ∀(fuel:Nat) (L:Array Bool),L.size=ops.size→(L.toList.countP (! ·))≤fuel→ ∀(a:Act) (ρ':Env) (g:Nat→Nat) (w:World),Rep a ρ' N→Mid ρ vs g (ran L) ρ'→Closed ops (ran L)→pre (ran L) g w→
  wpAny P .any ops (lift N Q) fuel L a w:=by
 have hdone: ∀(L:Array Bool),L.size=ops.size→Region.ready .any ops L=[]→ ∀(a:Act) (ρ':Env) (g:Nat→Nat) (w:World),Rep a ρ' N→Mid ρ vs g (ran L) ρ'→pre (ran L) g w→lift N Q .normal a w:=by
  intro L hL hr a ρ' g w ha hm hp;have hok':=hok;simp only [drawOK,Bool.and_eq_true,List.all_eq_true,beq_iff_eq] at hok';obtain ⟨⟨⟨hsz,hnd⟩,hN⟩,hops⟩:=hok';have hall: ∀i,i<ops.size→ran L i=true:=by
   intro i
   induction i using Nat.strongRecOn with
   | _ i ih=>
    intro hi;cases hb:ran L i with
    | true=>rfl
    | false=>
     have hmem:i∈Region.ready .any ops L:=by
      refine mem_ready.2 ⟨?_,ops[i],Array.getElem?_eq_getElem hi,fun e he hbd=>?_⟩
      ·have hlt:i<L.size:=by omega
       unfold ran at hb;simp [hlt] at hb ⊢;exact hb
      ·have hoi:opOK (vs.map (·.1)) i ops[i]=true:=hops (ops[i],i) (by
        rw [List.mem_iff_getElem?];refine ⟨i,?_⟩;rw [List.getElem?_zipIdx]
        simp [hi])
       simp only [opOK,Bool.and_eq_true] at hoi;have:=List.all_eq_true.1 hoi.1.1.2 e (by simpa using he);rw [hbd] at this;have hlt:e.on<i:=Nat.le_of_ble_eq_true this;exact ih e.on hlt (by omega)
     rw [hr] at hmem;cases hmem
  have heq:ρ'=fin_ vs ρ g:=by
   funext t;by_cases ht:some t∈vs.map (·.1)
   ·obtain ⟨i,hi,hit⟩:=List.getElem_of_mem ht;have hi':i<vs.length:=by simpa using hi
    obtain ⟨⟨d,f⟩,hv⟩:∃p,vs[i]? =some p:=⟨_,List.getElem?_eq_getElem hi'⟩
    have hd:d=some t:=by
     rw [List.getElem_map] at hit;rw [List.getElem?_eq_getElem hi'] at hv;rw [Option.some.inj hv] at hit;exact hit
    subst hd;rw [fin_in hnd hv];exact (hm t).1 i f (hall i (by rw [hsz];exact hi)) hv
   ·rw [fin_out ht];exact (hm t).2 fun j hj heq=>ht (List.mem_of_getElem? heq)
  exact ⟨_,ha,heq▸hfin (ran L) g w hall hp⟩
 intro fuel
 induction fuel with
 | zero=>
  intro L hL hc a ρ' g w ha hm hcl hp;have hr:Region.ready .any ops L=[]:=by
   cases hr:Region.ready .any ops L with
   | nil=>rfl
   | cons i r=>
    have hi:i∈Region.ready .any ops L:=by rw [hr];exact List.mem_cons_self
    obtain ⟨hun,o,ho,_⟩:=mem_ready.1 hi;have hlt:i<L.size:=by rw [hL];exact (Array.getElem?_eq_some_iff.1 ho).1
    have:L.toList.countP (! ·)=0:=by omega
    rw [List.countP_eq_zero] at this;have h1:=this L[i] (by simp);simp [hlt] at hun h1;rw [hun] at h1;cases h1
  exact ⟨hr,hdone L hL hr a ρ' g w ha hm hp⟩
 | succ fuel ih=>
  intro L hL hc a ρ' g w ha hm hcl hp;refine ⟨fun hr=>hdone L hL hr a ρ' g w ha hm hp,fun i hi=>?_⟩;obtain ⟨hun,o,ho,_⟩:=mem_ready.1 hi;have hlt:i<L.size:=by rw [hL];exact (Array.getElem?_eq_some_iff.1 ho).1
  refine draw_step hok hg hi ha hm hL hcl hp fun a' ρ'' g' w' ha' hm' hcl' hp'=>ih (L.setIfInBounds i true) (by simpa using hL) ?_ a' ρ'' g' w' ha' (by rw [ran_set hlt];exact hm') (by rw [ran_set hlt];exact hcl') (by rw [ran_set hlt];exact hp');have hf:L[i]=false:=by simpa [hlt] using hun
  have hc2:(L.setIfInBounds i true).toList.countP (! ·)+1=L.toList.countP (! ·):=by
   rw [Array.toList_setIfInBounds];have hl:i<L.toList.length:=by simpa using hlt
   have hfl:L.toList[i]=false:=by simpa using hf
   have hpos:0<L.toList.countP (! ·):=List.countP_pos_iff.2 ⟨_,List.getElem_mem hl,by rw [hfl];rfl⟩;have hset:=List.countP_set (p:=fun b:Bool=> !b) (l:=L.toList) (i:=i) (a:=true) hl;rw [hfl] at hset;simp only [Bool.not_true,Bool.false_eq_true,if_false,Bool.not_false,if_true] at hset;omega
  omega
theorem WP.draw {id:Nat}(hm:P.follows .mixedOrders=true)(hok:drawOK ops (vs.map (·.1)) N=true)(hp:pre (fun _=>false) (fun _=>0) w.drew)(hg:GivesAll P ops (fin_ vs ρ) pre vs 0)
 (hfin: ∀L g w',(∀i,i<ops.size→L i=true)→pre L g w'→Q .normal (fin_ vs ρ g) w'):WP P N (.region id ops true) Q ρ w:=fun a ha=>
 have hno:ran (Array.replicate ops.size false)=fun _=>false:=funext fun i=>by
  show (Array.replicate ops.size false).getD i false=false;simp only [Array.getD_eq_getD_getElem?,Array.getElem?_replicate];split<;>rfl
 wp_region_any hm (draw_any hok hg hfin ops.size _ (by simp) (by have:= @List.countP_le_length Bool (! ·) (List.replicate ops.size false);simpa using this) a ρ (fun _=>0) _ ha
  (fun t=>⟨fun i f hi _=>(by rw [hno] at hi;cases hi),fun _=>rfl⟩) (fun j o hj=>(by rw [hno] at hj;cases hj)) (by rw [hno];exact hp))
theorem g_draw0 {c:Code}(l:List Nat)(vs:List (Option Nat×(Nat→Value)))(pre:(Nat→Bool)→(Nat→Nat)→World→Prop)(hc:qM c=some (l,true))(hm:P.follows .mixedOrders=true)(hok:drawOK (zg c) (vs.map (·.1)) N=true)(hp:pre (fun _=>false) (fun _=>0) w.drew)
 (hg:GivesAll P (zg c) (fin_ vs ρ) pre vs 0) (hfin: ∀L g w',(∀i,i<(zg c).size→L i=true)→pre L g w'→Q .normal (fin_ vs ρ g) w'):WP P N c Q ρ w:=by
 obtain ⟨id,he,hl⟩:=xR hc;rw [he];exact WP.draw hm hok hp hg hfin
theorem g_sdraw {c:Code}(l:List Nat)(vs:List (Option Nat×(Nat→Value)))(pre:(Nat→Bool)→(Nat→Nat)→World→Prop)(hs:yx c=true)(hc:qM (zq c)=some (l,true))(hm:P.follows .mixedOrders=true)(hok:drawOK (zg (zq c)) (vs.map (·.1)) N=true)(hp:pre (fun _=>false) (fun _=>0) w.drew)
 (hg:GivesAll P (zg (zq c)) (fin_ vs ρ) pre vs 0) (hfin: ∀L g w',(∀i,i<(zg (zq c)).size→L i=true)→pre L g w'→WP P N (zw c) Q (fin_ vs ρ g) w'):WP P N c Q ρ w:=
 zb hs (g_draw0 l vs pre hc hm hok hp hg hfin)
end
section
variable {P:Program}{ops:Array Oper}{R:(Nat→Nat)→Env}{pre:(Nat→Bool)→(Nat→Nat)→World→Prop}{i:Nat}{d:Option Nat}{V:Value}
def edge (ops:Array Oper)(i j:Nat):Bool:=match ops[j]? with | some o=>o.after.toList.any fun e=>Region.binds .any e&&Nat.beq e.on i | none=>false
theorem Closed.no {L:Nat→Bool}(h:Closed ops L)(i j:Nat)(he:edge ops i j=true)(hn:L i=false):L j=false:=by
 cases hj:L j with
 | false=>rfl
 | true=>
  unfold edge at he;cases ho:ops[j]? with
  | none=>rw [ho] at he;cases he
  | some o=>
   rw [ho] at he;simp only [List.any_eq_true,Bool.and_eq_true] at he;obtain ⟨e,hm,hb,hon⟩:=he;have:=h j o hj ho e (by simpa using hm) hb;rw [Nat.eq_of_beq_eq_true hon,hn] at this;cases this
theorem Closed.yes {L:Nat→Bool}(h:Closed ops L)(i j:Nat)(he:edge ops i j=true)(hn:L j=true):L i=true:=by
 cases hi:L i with
 | true=>rfl
 | false=>rw [h.no i j he hi] at hn;cases hn
theorem before_yes {L:Nat→Bool}{j:Nat}(h: ∀o,ops[j]? =some o→ ∀e∈o.after,Region.binds .any e=true→L e.on=true)(i:Nat)(he:edge ops i j=true):L i=true:=by
 unfold edge at he;cases ho:ops[j]? with
 | none=>rw [ho] at he;cases he
 | some o=>
  rw [ho] at he;simp only [List.any_eq_true,Bool.and_eq_true] at he;obtain ⟨e,hm,hb,hon⟩:=he;have:=h o ho e (by simpa using hm) hb
  rwa [Nat.eq_of_beq_eq_true hon] at this
theorem gv_val (hs: ∀L g w,pre L g w→pre (put1 L i) g w)(h: ∀g w,opv P ops i (R g) w=some (d,true,.ok (.value V) w)):Gives P ops R pre i d (fun _=>V):=fun L g w hp _ _ _=>by
 obtain ⟨o,ho,hd,hw,hr⟩:=zQ (h g w);exact ⟨o,ho,hd,.inr ⟨hw,by rw [hr];exact ⟨g i,rfl,by rw [setN_self];exact hs _ _ _ hp⟩⟩⟩
theorem gv_valE {V':Value}(hs: ∀L g w,pre L g w→pre (put1 L i) g w)(h: ∀g w,opv P ops i (R g) w=some (d,true,.ok (.value V') w))(e:V'=V):Gives P ops R pre i d (fun _=>V):=e▸gv_val hs h
theorem gv_op (hs: ∀L g w,pre L g w→pre (put1 L i) g w)(op:Op)(h: ∀g,opk ops i (R g)=some (d,true,op))(hr: ∀g (o:Oper) w,o.op=op→(execOp (ev (R g)) o).run P w=.ok (.value V) w):Gives P ops R pre i d (fun _=>V):=fun L g w hp _ _ _=>by
 obtain ⟨o,ho,hd,hw,hop⟩:=zH (h g);exact ⟨o,ho,hd,.inr ⟨hw,by rw [hr g o w hop];exact ⟨g i,rfl,by rw [setN_self];exact hs _ _ _ hp⟩⟩⟩
def Now (ops:Array Oper)(i:Nat)(L:Nat→Bool):Prop:=L i=false∧(∀o,ops[i]? =some o→ ∀e∈o.after,Region.binds .any e=true→L e.on=true)∧Closed ops L
variable {l:(Nat→Bool)→(Nat→Nat)→List (Nat×Obj)}{B:Nat}{w0:World}
end
structure Rw (size:Nat)(cur:Array Value)(cap n:Nat)(xs:List Value):Prop where
 len:xs.length=n*size
 le:n≤cap
 max:cap≤maxLen
 take:cur.toList.take (n*size)=xs
 sz:cur.size=cap*size
theorem Rw.get {size:Nat}{cur:Array Value}{cap n:Nat}{xs:List Value}(h:Rw size cur cap n xs)(i:Nat)(hi:i<n*size):cur[i]? =xs[i]? :=by
 rw [←h.take,List.getElem?_take,if_pos hi,Array.getElem?_toList]
theorem qn (b o q:Nat):(⟨b,o,none⟩:Addr).add q=⟨b,o+q,none⟩:=by unfold Addr.add;split<;>simp_all
theorem Rw.lit {size:Nat}(cur:Array Value)(n:Nat)(h:cur.size=n*size)(hm:n≤maxLen):Rw size cur n n cur.toList:=
 ⟨by simpa using h,Nat.le_refl _,hm,by rw [←h,List.take_of_length_le (by simp)],h⟩
def yd (P:Program)(t:TypeId):Option (TypeId×Nat×Nat):=
 match P.underlying t with
 | some (.slice e)=>match P.info? e with
  | some i=>match i.zero with
   | some z=>if z.cells.size==i.size&&Nat.blt 0 i.size then some (e,i.size,i.bytes) else none
   | none=>none
  | none=>none
 | _=>none
theorem yW {P:Program}{t e:TypeId}{size bytes:Nat}(h:yd P t=some (e,size,bytes)):
 ∃i z,P.underlying t=some (.slice e)∧P.info? e=some i∧i.zero=some z∧i.size=size∧i.bytes=bytes∧z.cells.size=size∧0<size:=by
 unfold yd at h;split at h
 ·rename_i e' hu
  split at h
  ·rename_i i hi
   split at h
   ·rename_i z hz
    split at h
    ·rename_i hc
     simp only [Bool.and_eq_true,beq_iff_eq] at hc;simp only [Option.some.injEq,Prod.mk.injEq] at h;obtain ⟨rfl,rfl,rfl⟩:=h;exact ⟨i,z,hu,hi,hz,rfl,rfl,hc.1,Nat.le_of_ble_eq_true hc.2⟩
    ·cases h
   ·cases h
  ·cases h
 ·cases h
theorem Rw.owns {size:Nat}{cur:Array Value}{cap n:Nat}{xs:List Value}(h:Rw size cur cap n xs){w:World}{B b:Nat}{e:TypeId}(hb:B≤b)(hh:w.heap[b]? =some (.cells cur e (0,0))):
 w.ownsRow B e size (.slice (some ⟨b,0,none⟩) n cap) n xs:=
 ⟨h.len,.inr ⟨b,cap,cur,rfl,hb,hh,h.le,h.max,h.sz,h.take⟩⟩
theorem St.grown {B:Nat}{w0 w w':World}{l:List (Nat×Obj)}(h:St B w0 w l)(j:Nat){b b':Nat}{o o':Obj}(hj:l[j]? =some (b,o))(hg:w.grownBy w' (some b))
 (hb:b'=b∨b'=w.heap.size) (ho:w'.heap[b']? =some o'):St B w0 w' (l.set j (b',o')):=by
 have hB:=h.ge j hj;have hlt:=zr (h.get j hj);have hkl:j<l.length:=(List.getElem?_eq_some_iff.1 hj).1;have hle:=h.le;have hB':B≤b':=by rcases hb with rfl | rfl<;>omega
 refine ⟨h.below.grown hg hle (fun k hk=>by injection hk with hk;omega),Nat.le_trans hle hg.size,?_,?_⟩
 ·intro e he;obtain ⟨i,hi,he⟩:=List.getElem_of_mem he;rw [List.getElem_set] at he;split at he
  ·subst he;exact ⟨hB',ho⟩
  ·rename_i hij
   have hi':i<l.length:=by simpa using hi
   have hmem:e∈l:=by rw [←he];exact List.getElem_mem _
   have hne:e.1≠b:=by
    intro heq;have h1:(l.map (·.1))[i]? =some b:=by simp [List.getElem?_map,List.getElem?_eq_getElem hi',he,heq]
    have h2:(l.map (·.1))[j]? =some b:=by simp [List.getElem?_map,hj]
    have:=(List.getElem?_inj (by simpa using hi') h.nd).1 (h1.trans h2.symm);omega
   exact ⟨(h.own e hmem).1,by rw [hg.block e.1 (zr (h.own e hmem).2) (fun q=>hne (by injection q))];exact (h.own e hmem).2⟩
 ·rcases hb with rfl|rfl
  ·have hmap:(l.set j (b',o')).map (·.1)=l.map (·.1):=by
    apply List.ext_getElem?;intro i;simp only [List.getElem?_map,List.getElem?_set];by_cases hi:j=i
    ·subst hi;rw [if_pos rfl,if_pos hkl,hj];rfl
    ·simp [hi]
   rw [hmap];exact h.nd
  ·rw [List.map_set];have hnew:w.heap.size∉l.map (·.1):=fun hm=>by
    obtain ⟨e,he,heq⟩:=List.mem_map.1 hm;have:=zr (h.own e he).2;omega
   rw [List.nodup_iff_pairwise_ne];have hp:=List.nodup_iff_pairwise_ne.1 h.nd;rw [List.pairwise_iff_getElem] at hp ⊢;intro x y hx hy hxy;simp only [List.length_set] at hx hy;rw [List.getElem_set,List.getElem_set];split
   ·split
    ·omega
    ·intro q;exact hnew (by rw [show w.heap.size=_ from q];exact List.getElem_mem _)
   ·split
    ·intro q;exact hnew (by rw [show w.heap.size=_ from q.symm];exact List.getElem_mem _)
    ·exact hp x y hx hy hxy
section
variable {P:Program}{N:Nat}{ops:Array Oper}{i:Nat}{r:List Nat}{K:Env→World→Prop}{ρ:Env}{w:World}{B:Nat}{w0:World}{l:List (Nat×Obj)}
theorem zaP (d:Option Nat)(op:Op)(v:Value)(w':World)(h:opk ops i ρ=some (d,true,op))(hd:dOK d N=true)
 (hr: ∀o:Oper,o.op=op→(execOp (ev ρ) o).run P w=.ok (.value v) w') (k:WPs P N ops K r (zm ρ d v) w'):WPs P N ops K (i::r) ρ w:=kH d op v w' h hd hr k
def yq (t:TypeId)(s x:Operand):Op:=.call { callee:=.builtin .append,args:=#[s,x],argTypes:=#[t,t] }
theorem zjN (HS:St B w0 w l)(d:Option Nat)(t e:TypeId)(size bytes:Nat)(s x:Operand)(j k b bx n m cap c:Nat)(cur CX:Array Value)(TX:TypeId)(fz:Nat×Nat)(xs news:List Value)(l':Nat→Array Value→List (Nat×Obj))
 (h:opk ops i ρ=some (d,true,yq t s x)) (hd:dOK d N=true) (ht:yd P t=some (e,size,bytes))
 (hs:ev ρ s=.slice (some ⟨b,0,none⟩) n cap) (hj:l[j]? =some (b,.cells cur e (0,0))) (hr:Rw size cur cap n xs)
 (hx:ev ρ x=.slice (some ⟨bx,0,none⟩) m c) (hk:l[k]? =some (bx,.cells CX TX fz)) (hn:CX.toList.take (m*size)=news) (hl:news.length=m*size) (h1: ∀u∈news,u.oneCell'=true)
 (hb:(n+m)*bytes≤0x800000000000) (hm:n+m≤maxLen)
 (hl': ∀b' cur',l.set j (b',.cells cur' e (0,0))=l' b' cur')
 (kk: ∀b' cap' cur' w',St B w0 w' (l' b' cur')→Rw size cur' cap' (n+m) (xs++news)→WPs P N ops K r (zm ρ d (.slice (some ⟨b',0,none⟩) (n+m) cap')) w'):WPs P N ops K (i::r) ρ w:=by
 obtain ⟨o,ho,rfl,hw,hop⟩:=zH h;obtain ⟨it,z,hu,hi,hz,hsz,hby,hzs,h0⟩:=yW ht;have hnews: ∀q u,news[q]? =some u→w.cell? ((⟨bx,0,none⟩:Addr).add q)=some u:=fun q u hq=>by
  have hql:q<m*size:=by rw [←hl];exact (List.getElem?_eq_some_iff.1 hq).1
  rw [←hn,List.getElem?_take,if_pos hql,Array.getElem?_toList] at hq;rw [qn,Nat.zero_add];simp [World.cell?,HS.get k hk,hq]
 obtain ⟨v',w',hrun,hown,hgr,hnil,hblk⟩:=run_append_own_at (P:=P) w B t o.type e it z size bytes hu hi hz hsz hby hzs h0 _ n xs (hr.owns (HS.ge j hj) (HS.get j hj)) ⟨bx,0,none⟩ m c news hl hnews h1 hm hb HS.le;have hown':=hown;rcases hown'.2 with ⟨hv,_⟩|⟨g,cap',cur',rfl,hbg,hg,hnc,hcm,hcs,htk⟩
 ·exact absurd (hnil.1 hv).1 (by simp)
 ·have hgb:g=b∨g=w.heap.size:=by
   rcases hblk with hq|hq
   ·left;injection hq
   ·right;injection hq
  have HS':=HS.grown j hj hgr hgb hg;rw [hl'] at HS';refine WPo.run ho hw fun a ha=>?_;have hex:(execOp (ev ρ) o).run P w=.ok (.value (.slice (some ⟨g,0,none⟩) (n+m) cap')) w':=by
   unfold execOp;simp only [hop,yq,resolve,invoke,builtin,Sem.run_bind,Sem.run_pure,Result.andThen_ok,List.map_toArray,List.map_cons,List.map_nil,hs,hx,hrun]
  rw [hex,Oper.upon_value];exact ⟨_,ha.put _ (zM hd) _,kk g cap' cur' w' HS' ⟨hown.1,hnc,hcm,htk,hcs⟩⟩
def ze6 (P:Program)(t:TypeId):Option (Nat×Nat):=
 match P.underlying t with
 | some (.array n e)=>(P.info? e).map fun i=>(n,i.size)
 | _=>none
theorem yy {t:TypeId}{n size:Nat}(ht:ze6 P t=some (n,size)){x y:Operand}{o:Oper}{kd:IntKind}(b q:Nat)(k:Nat)(ho:o.op=.indexAddr t x y)(hx:ev ρ x=.pointer (some ⟨b,q,none⟩))(hy:ev ρ y=.int kd (k:Int))(hk:k<n):
 ∀w,(execOp (ev ρ) o).run P w=.ok (.value (.pointer (some ⟨b,q+k*size,none⟩))) w:=fun w=>by
 unfold ze6 at ht;split at ht
 ·rename_i n' e hu
  cases hi:P.info? e with
  | none=>rw [hi] at ht;cases ht
  | some it=>
   rw [hi] at ht;simp only [Option.map_some,Option.some.injEq,Prod.mk.injEq] at ht;obtain ⟨rfl,rfl⟩:=ht;have hS:(sizeOf e).run P w=.ok it.size w:=by simp [sizeOf,typeInfo,hi]
   have h1:(0:Int)≤(k:Int)∧(k:Int)<(n':Int):=by omega
   simp [execOp,ho,hx,hy,Instr.indexAt,asIntOf,run_underlying hu,Instr.sureAddr,hS,h1,qn,hk]
 ·cases ht
theorem xT {t e:TypeId}{size bytes:Nat}(ht:yd P t=some (e,size,bytes)){x y:Operand}{o:Oper}{kd:IntKind}(b q n c:Nat)(k:Nat)(ho:o.op=.indexAddr t x y)(hx:ev ρ x=.slice (some ⟨b,q,none⟩) n c)(hy:ev ρ y=.int kd (k:Int))(hk:k<n):
 ∀w,(execOp (ev ρ) o).run P w=.ok (.value (.pointer (some ⟨b,q+k*size,none⟩))) w:=fun w=>by
 obtain ⟨it,z,hu,hi,hz,hsz,hby,hzs,h0⟩:=yW ht;have hS:(sizeOf e).run P w=.ok size w:=by simp [sizeOf,typeInfo,hi,hsz]
 have h1:(0:Int)≤(k:Int)∧(k:Int)<(n:Int):=by omega
 simp [execOp,ho,hx,hy,Instr.indexAt,asIntOf,run_underlying hu,hS,h1,qn,hk]
end
end Go.Proofs.YtpghmdbjmigjlaaGreatDoor
namespace Go.Proofs.YtpghmdbjmigjlaaGreatDoor.D2
open Go Go.RowKit
set_option linter.unusedVariables false
structure Gh where
 b:Nat:=0
 cap:Nat:=0
 n:Nat:=0
 cur:Array Value:=#[]
 l:List Nat:=[]
 deriving Inhabited
def Runs (P:Program)(S:Value→World→Prop):Result Next→Prop
 | .ok (.value v) w'=>S v w'
 | .ok .skip w'=>S undef w'
 | .ok (.enter f args) w'=>Calls P f args w' fun e w''=> ∃v,e=.returned v∧S v w''
 | _=>False
def put1 (L:Nat→Bool)(i:Nat):Nat→Bool:=fun j=>Nat.beq j i||L j
def setN (g:Nat→Gh)(i:Nat)(b:Gh):Nat→Gh:=fun j=>bif Nat.beq j i then b else g j
theorem setN_self (g:Nat→Gh)(i:Nat):setN g i (g i)=g:=by
 funext j;unfold setN;cases hb:Nat.beq j i with
 | false=>rfl
 | true=>rw [Nat.eq_of_beq_eq_true hb];rfl
def at_:List (Option Nat×(Gh→Value))→(Nat→Gh)→Nat→List (Option Nat×Value)
 | [],_,_=>[]
 | (d,f)::r,g,k=>(d,f (g k))::at_ r g (k+1)
theorem at_get: ∀ {l:List (Option Nat×(Gh→Value))} {g:Nat→Gh} {k i:Nat},(at_ l g k)[i]? =(l[i]?).map fun (d,f)=>(d,f (g (k+i)))
 | [],g,k,i=>by simp [at_]
 | (d,f)::r,g,k,0=>by simp [at_]
 | (d,f)::r,g,k,i+1=>by
  have:=at_get (l:=r) (g:=g) (k:=k+1) (i:=i);simp only [at_,List.getElem?_cons_succ,this,show k+1+i=k+(i+1) by omega]
theorem at_map: ∀ {l:List (Option Nat×(Gh→Value))} {g:Nat→Gh} {k:Nat},(at_ l g k).map (·.1)=l.map (·.1)
 | [],g,k=>rfl
 | (d,f)::r,g,k=>by simp only [at_,List.map_cons,at_map (l:=r)]
theorem at_map0 (vs:List (Option Nat×(Gh→Value)))(g:Nat→Gh):(at_ vs g 0).map (·.1)=vs.map (·.1):=at_map
def Closed (ops:Array Oper)(L:Nat→Bool):Prop:= ∀j o,L j=true→ops[j]? =some o→ ∀e∈o.after,Region.binds .any e=true→L e.on=true
def Gives (P:Program)(ops:Array Oper)(R:(Nat→Gh)→Env)(pre:(Nat→Bool)→(Nat→Gh)→World→Prop)(i:Nat)(d:Option Nat)(f:Gh→Value):Prop:=
 ∀L g w,pre L g w→L i=false→(∀o,ops[i]? =some o→ ∀e∈o.after,Region.binds .any e=true→L e.on=true)→Closed ops L→∃o,ops[i]? =some o∧o.dst=d∧
  ((Region.wanted o (zC ops (R g))=false∧f (g i)=undef∧pre (put1 L i) g w)∨(Region.wanted o (zC ops (R g))=true∧Runs P (fun v w'=> ∃b,v=f b∧pre (put1 L i) (setN g i b) w') ((execOp (ev (R g)) o).run P w)))
def GivesAll (P:Program)(ops:Array Oper)(R:Nat→(Nat→Gh)→Env)(pre:(Nat→Bool)→(Nat→Gh)→World→Prop):List (Option Nat×(Gh→Value))→Nat→Prop
 | [],_=>True
 | (d,f)::r,i=>Gives P ops (R i) pre i d f∧GivesAll P ops R pre r (i+1)
def slots:List (Option Nat×Value)→List (Nat×Value)
 | []=>[]
 | (some d,V)::r=>(d,V)::slots r
 | (none,_)::r=>slots r
theorem GivesAll.get {P:Program}{ops:Array Oper}{R:Nat→(Nat→Gh)→Env}{pre:(Nat→Bool)→(Nat→Gh)→World→Prop} : ∀ {l:List (Option Nat×(Gh→Value))} {k:Nat},GivesAll P ops R pre l k→ ∀ {i:Nat} {d:Option Nat} {f:Gh→Value},l[i]? =some (d,f)→Gives P ops (R (k+i)) pre (k+i) d f
 | [],_,_,_,_,_,h=>by simp at h
 | (d,V)::r,k,⟨h,hr⟩,0,_,_,hi=>by simp at hi;obtain ⟨rfl,rfl⟩:=hi;exact h
 | (d,V)::r,k,⟨h,hr⟩,i+1,_,_,hi=>by
  have:=hr.get (i:=i) (by simpa using hi)
  rwa [show k+1+i=k+(i+1) by omega] at this
def opTmps (o:Oper):List Nat:=o.op.operands.toList.filterMap fun | .tmp t=>some t | _=>none
def notSelect (o:Oper):Bool:=match o.op with | .select .. =>false | _=>true
def opOK (ops:Array Oper)(ds:List (Option Nat))(i:Nat)(o:Oper):Bool:=
 (some o.dst==ds[i]?)&&notSelect o&&
 (o.after.toList.all fun e=> !Region.binds .any e||Nat.blt e.on i)&&
 ((opTmps o).all fun t=> !ds.contains (some t)||(o.after.toList.any fun e=>Region.binds .any e&&ds[e.on]? ==some (some t))||(ops.toList.zipIdx.all fun (oj,j)=> !(ds[j]? ==some (some t))||(!Nat.blt j i&&oj.after.toList.any fun e=>Region.binds .any e&&Nat.beq e.on i)))&&
 (match o.guard with | none=>true | some (j,_)=>o.after.toList.any fun e=>Region.binds .any e&&e.on==j)
def nodupO:List (Option Nat)→Bool
 | []=>true
 | none::r=>nodupO r
 | some x::r=> !r.contains (some x)&&nodupO r
def nodupB:List Nat→Bool
 | []=>true
 | x::r=> !r.contains x&&nodupB r
def drawOK (ops:Array Oper)(ds:List (Option Nat))(N:Nat):Bool:=
 (ops.size==ds.length)&&nodupO ds&&(ds.all fun d=>dOK d N)&&(ops.toList.zipIdx.all fun (o,i)=>opOK ops ds i o)
theorem slots_mem: ∀ {l:List (Option Nat×Value)} {t:Nat},t∈(slots l).map (·.1)↔some t∈l.map (·.1)
 | [],t=>by simp [slots]
 | (some d,V)::r,t=>by simp only [slots,List.map_cons,List.mem_cons,slots_mem (l:=r)];simp
 | (none,V)::r,t=>by simp only [slots,List.map_cons,List.mem_cons,slots_mem (l:=r)];simp
theorem slots_nodup: ∀ {l:List (Option Nat×Value)},nodupO (l.map (·.1))=true→nodupB ((slots l).map (·.1))=true
 | [],_=>rfl
 | (some d,V)::r,h=>by
  simp only [List.map_cons,nodupO,Bool.and_eq_true,Bool.not_eq_true'] at h;simp only [slots,List.map_cons,nodupB,Bool.and_eq_true,Bool.not_eq_true'];refine ⟨?_,slots_nodup h.2⟩;have h1:=h.1;rw [←Bool.not_eq_true] at h1 ⊢
  simpa only [List.contains_iff_mem,slots_mem] using h1
 | (none,V)::r,h=>slots_nodup (l:=r) h
theorem slots_get: ∀ {l:List (Option Nat×Value)} {i d:Nat} {V:Value},l[i]? =some (some d,V)→∃j:Nat,(slots l)[j]? =some (d,V)
 | [],_,_,_,h=>by simp at h
 | (some d,V)::r,0,_,_,h=>by simp at h;obtain ⟨rfl,rfl⟩:=h;exact ⟨0,rfl⟩
 | (none,V)::r,0,_,_,h=>by simp at h
 | (some d,V)::r,i+1,_,_,h=>by obtain ⟨j,hj⟩:=slots_get (l:=r) (by simpa using h);exact ⟨j+1,by simpa [slots] using hj⟩
 | (none,V)::r,i+1,_,_,h=>by obtain ⟨j,hj⟩:=slots_get (l:=r) (by simpa using h);exact ⟨j,by simpa [slots] using hj⟩
theorem setAll_in: ∀ {l:List (Nat×Value)} {ρ:Env},nodupB (l.map (·.1))=true→ ∀ {i d:Nat} {V:Value},l[i]? =some (d,V)→yV l ρ d=V
 | [],_,_,_,_,_,h=>by simp at h
 | (d,V)::r,ρ,hn,0,_,_,h=>by
  simp at h;obtain ⟨rfl,rfl⟩:=h;show (bif Nat.beq d d then V else _)=V;rw [Nat.beq_refl];rfl
 | (d,V)::r,ρ,hn,i+1,d',V',h=>by
  have hr:r[i]? =some (d',V'):=by simpa using h
  simp [nodupB] at hn;have hne:Nat.beq d' d=false:=by
   cases hb:Nat.beq d' d with
   | false=>rfl
   | true=>
    have:=Nat.eq_of_beq_eq_true hb;subst this;exact absurd (List.mem_of_getElem? hr) (hn.1 _)
  show (bif Nat.beq d' d then V else yV r ρ d')=V';rw [hne];exact setAll_in hn.2 hr
theorem setAll_out: ∀ {l:List (Nat×Value)} {ρ:Env} {t:Nat},t∉l.map (·.1)→yV l ρ t=ρ t
 | [],_,_,_=>rfl
 | (d,V)::r,ρ,t,h=>by
  simp at h;have hne:Nat.beq t d=false:=by
   cases hb:Nat.beq t d with
   | false=>rfl
   | true=>exact absurd (Nat.eq_of_beq_eq_true hb) h.1
  show (bif Nat.beq t d then V else yV r ρ t)=_;rw [hne];exact setAll_out (by simpa using h.2)
section
variable {P:Program}{N:Nat}{ops:Array Oper}{Q:Exit→Env→World→Prop}{K:Env→World→Prop}{ρ:Env}{w:World}{vs:List (Option Nat×(Gh→Value))}{pre:(Nat→Bool)→(Nat→Gh)→World→Prop}
def fin_ (vs:List (Option Nat×(Gh→Value)))(ρ:Env)(g:Nat→Gh):Env:=yV (slots (at_ vs g 0)) ρ
def ran (L:Array Bool):Nat→Bool:=fun j=>L.getD j false
def Mid (ρ:Env)(vs:List (Option Nat×(Gh→Value)))(g:Nat→Gh)(L:Nat→Bool)(ρ':Env):Prop:=
 ∀t,(∀i f,L i=true→vs[i]? =some (some t,f)→ρ' t=f (g i))∧((∀i,L i=true→(vs.map (·.1))[i]? ≠some (some t))→ρ' t=ρ t)
theorem ran_set {L:Array Bool}{i:Nat}(hi:i<L.size):ran (L.setIfInBounds i true)=put1 (ran L) i:=by
 funext j;unfold ran put1;by_cases hij:i=j
 ·subst hij;rw [Nat.beq_refl];simp [hi]
 ·have:Nat.beq j i=false:=by
   cases hb:Nat.beq j i with
   | false=>rfl
   | true=>exact absurd (Nat.eq_of_beq_eq_true hb).symm hij
  rw [getD_set_ne false hij,this];rfl
theorem put1_or {L:Nat→Bool}{i j:Nat}(h:put1 L i j=true):j=i∨L j=true:=by
 unfold put1 at h;cases hb:Nat.beq j i with
 | false=>rw [hb] at h;exact .inr h
 | true=>exact .inl (Nat.eq_of_beq_eq_true hb)
theorem put1_self (L:Nat→Bool)(i:Nat):put1 L i i=true:=by unfold put1;rw [Nat.beq_refl];rfl
theorem put1_of {L:Nat→Bool}{i j:Nat}(h:L j=true):put1 L i j=true:=by unfold put1;rw [h,Bool.or_true]
theorem nodupO_inj: ∀ {l:List (Option Nat)},nodupO l=true→ ∀ {i j x:Nat},l[i]? =some (some x)→l[j]? =some (some x)→i=j
 | [],_,_,_,_,h,_=>by simp at h
 | none::r,h,0,_,_,hi,_=>by simp at hi
 | none::r,h,_+1,0,_,_,hj=>by simp at hj
 | none::r,h,i+1,j+1,x,hi,hj=>congrArg (·+1) (nodupO_inj (l:=r) h (x:=x) (by simpa using hi) (by simpa using hj))
 | some y::r,h,0,0,_,_,_=>rfl
 | some y::r,h,0,j+1,x,hi,hj=>by
  simp [nodupO] at h hi hj;subst hi;exact absurd (List.mem_of_getElem? hj) h.1
 | some y::r,h,i+1,0,x,hi,hj=>by
  simp [nodupO] at h hi hj;subst hj;exact absurd (List.mem_of_getElem? hi) h.1
 | some y::r,h,i+1,j+1,x,hi,hj=>by
  simp [nodupO] at h hi hj;exact congrArg (·+1) (nodupO_inj (l:=r) h.2 (x:=x) (by simpa using hi) (by simpa using hj))
theorem zaQ: ∀ {l:List (Option Nat)},nodupO l=true→ ∀k,nodupO (l.take k)=true
 | _,_,0=>rfl
 | [],_,_+1=>rfl
 | none::r,h,k+1=>zaQ (l:=r) h k
 | some x::r,h,k+1=>by
  simp only [nodupO,Bool.and_eq_true,Bool.not_eq_true',List.take_succ_cons] at h ⊢;refine ⟨?_,zaQ h.2 k⟩;have h1:=h.1;rw [←Bool.not_eq_true,List.contains_iff_mem] at h1 ⊢;exact fun hm=>h1 (List.mem_of_mem_take hm)
theorem fin_in (hnd:nodupO (vs.map (·.1))=true){g:Nat→Gh}{i t:Nat}{f:Gh→Value}(h:vs[i]? =some (some t,f)):fin_ vs ρ g t=f (g i):=by
 have h1:(at_ vs g 0)[i]? =some (some t,f (g i)):=by rw [at_get,h];simp
 obtain ⟨j,hj⟩:=slots_get h1;exact setAll_in (slots_nodup (Eq.mpr (congrArg (fun l=>nodupO l=true) (at_map0 vs g)) hnd)) hj
theorem fin_out {g:Nat→Gh}{t:Nat}(h:some t∉vs.map (·.1)):fin_ vs ρ g t=ρ t:=
 setAll_out (fun h'=>h (Eq.mp (congrArg (fun l=>some t∈l) (at_map0 vs g)) (slots_mem.1 h')))
theorem draw_step (hok:drawOK ops (vs.map (·.1)) N=true)(hg:GivesAll P ops (fun i=>fin_ (vs.take i) ρ) pre vs 0){i:Nat}{L:Array Bool}(hi:i∈Region.ready .any ops L)
 {a:Act} {ρ':Env} {g:Nat→Gh} (ha:Rep a ρ' N) (hm:Mid ρ vs g (ran L) ρ') (hL:L.size=ops.size) (hcl:Closed ops (ran L)) (hp:pre (ran L) g w)
 {QQ:Exit→Act→World→Prop} {KK:Act→World→Prop} (hK: ∀a' ρ'' g' w',Rep a' ρ'' N→Mid ρ vs g' (put1 (ran L) i) ρ''→Closed ops (put1 (ran L) i)→pre (put1 (ran L) i) g' w'→KK a' w'):
 wpOp P ops QQ i KK a w:=by
 simp only [drawOK,Bool.and_eq_true,List.all_eq_true,beq_iff_eq] at hok;obtain ⟨⟨⟨hsz,hnd⟩,hN⟩,hops⟩:=hok;obtain ⟨hun,o,ho,hready⟩:=mem_ready.1 hi;have hilt:i<ops.size:=(Array.getElem?_eq_some_iff.1 ho).1
 have hoi:opOK ops (vs.map (·.1)) i o=true:=hops (o,i) (by
  rw [List.mem_iff_getElem?];refine ⟨i,?_⟩;rw [List.getElem?_zipIdx]
  simp [ho])
 simp only [opOK,Bool.and_eq_true] at hoi;obtain ⟨⟨⟨⟨hdst,hsel⟩,hback⟩,hreads⟩,hguard⟩:=hoi;have hivs:i<vs.length:=by rw [List.length_map] at hsz;omega
 obtain ⟨⟨d,f⟩,hv⟩:∃p,vs[i]? =some p:=⟨_,List.getElem?_eq_getElem hivs⟩
 have hd:o.dst=d:=by
  have:=eq_of_beq hdst
  simpa [hv] using this
 have hdN: ∀k,d=some k→k<N:=zM (hN d (List.mem_map.2 ⟨(d,f),List.mem_of_getElem? hv,rfl⟩));have hunL:ran L i=false:=by
  have hlt:i<L.size:=by omega
  unfold ran;simpa [hlt] using hun
 have hcl':Closed ops (put1 (ran L) i):=by
  intro j oj hj hoj e he hb;rcases put1_or hj with rfl | hj
  ·rw [ho] at hoj;obtain rfl:=Option.some.inj hoj;exact put1_of (hready e he hb)
  ·exact put1_of (hcl j oj hj hoj e he hb)
 have hnd':nodupO ((vs.take i).map (·.1))=true:=by rw [List.map_take];exact zaQ hnd i
 have lookB: ∀t j,j<i→ran L j=true→(vs.map (·.1))[j]? =some (some t)→ρ' t=fin_ (vs.take i) ρ g t:=by
  intro t j hji hLj hdt;rw [List.getElem?_map] at hdt;cases hve:vs[j]? with
  | none=>rw [hve] at hdt;cases hdt
  | some p=>
   obtain ⟨d1,f1⟩:=p;rw [hve] at hdt;simp at hdt;subst hdt;have hvt:(vs.take i)[j]? =some (some t,f1):=by rw [List.getElem?_take,if_pos hji,hve]
   rw [fin_in hnd' hvt];exact (hm t).1 j f1 hLj hve
 have lookA: ∀t,(∀j:Nat,(vs.map (·.1))[j]? =some (some t)→ran L j=false)→(∀j:Nat,j<i→(vs.map (·.1))[j]? ≠some (some t))→ρ' t=fin_ (vs.take i) ρ g t:=by
  intro t hno hnb;have hnot:some t∉(vs.take i).map (·.1):=fun hmem=>by
   obtain ⟨j,hj⟩:=List.mem_iff_getElem?.1 hmem;rw [List.map_take,List.getElem?_take] at hj;split at hj
   ·rename_i hji;exact hnb j hji hj
   ·cases hj
  rw [fin_out hnot];exact (hm t).2 fun j hj heq=>by rw [hno j heq] at hj;cases hj
 have hbk: ∀e∈o.after.toList,Region.binds .any e=true→e.on<i:=fun e he hb=>by
  have:=List.all_eq_true.1 hback e he;rw [hb] at this;simp only [Bool.not_true,Bool.false_or] at this;exact Nat.le_of_ble_eq_true this
 have hops': ∀x∈o.op.operands,ev ρ' x=ev (fin_ (vs.take i) ρ g) x:=by
  intro x hx;cases x with
  | tmp t=>
   have hmem:t∈opTmps o:=List.mem_filterMap.2 ⟨.tmp t,by simpa using hx,rfl⟩;have:=List.all_eq_true.1 hreads t hmem;simp only [Bool.or_eq_true,Bool.not_eq_true'] at this;rcases this with (hc | hb) | hlater
   ·have hnot: ∀j:Nat,(vs.map (·.1))[j]? ≠some (some t):=fun j hj=>by
     have h1:some t∈vs.map (·.1):=List.mem_of_getElem? hj;rw [←Bool.not_eq_true,List.contains_iff_mem] at hc;exact hc h1
    exact lookA t (fun j hj=>absurd hj (hnot j)) (fun j _=>hnot j)
   ·simp only [List.any_eq_true,Bool.and_eq_true,beq_iff_eq] at hb;obtain ⟨e,he,hbi,hdt⟩:=hb;exact lookB t e.on (hbk e he hbi) (hready e (by simpa using he) hbi) hdt
   ·have hl: ∀(j:Nat) oj,ops[j]? =some oj→(vs.map (·.1))[j]? =some (some t)→ ¬j<i∧∃e∈oj.after.toList,Region.binds .any e=true∧e.on=i:=fun j oj hoj hdj=>by
     have h1:=List.all_eq_true.1 hlater (oj,j) (by
      rw [List.mem_iff_getElem?];refine ⟨j,?_⟩;rw [List.getElem?_zipIdx]
      simp [hoj])
     simp only [hdj,beq_self_eq_true,Bool.not_true,Bool.false_or,Bool.and_eq_true,List.any_eq_true,Bool.not_eq_true'] at h1;obtain ⟨h2,e,he,hb,hon⟩:=h1;refine ⟨fun hlt=>?_,e,he,hb,Nat.eq_of_beq_eq_true hon⟩;have h3:Nat.blt j i=true:=Nat.ble_eq_true_of_le hlt;rw [h3] at h2;cases h2
    have hsome: ∀j:Nat,(vs.map (·.1))[j]? =some (some t)→∃oj,ops[j]? =some oj:=fun j hj=>by
     have h1:j<(vs.map (·.1)).length:=(List.getElem?_eq_some_iff.1 hj).1;exact ⟨_,Array.getElem?_eq_getElem (by omega)⟩
    refine lookA t (fun j hj=>?_) (fun j hji hj=>?_)
    ·obtain ⟨oj,hoj⟩:=hsome j hj;obtain ⟨_,e,he,hb,hon⟩:=hl j oj hoj hj;cases hLj:ran L j with
     | false=>rfl
     | true=>
      have:=hcl j oj hLj hoj e (by simpa using he) hb;rw [hon,hunL] at this;cases this
    ·obtain ⟨oj,hoj⟩:=hsome j hj;exact (hl j oj hoj hj).1 hji
  | _=>rfl
 have hexec:execOp (ev ρ') o=execOp (ev (fin_ (vs.take i) ρ g)) o:=execOp_congr o (fun cs b he=>by simp [notSelect,he] at hsel) hops';have hwant:Region.wanted o (zC ops ρ')=Region.wanted o (zC ops (fin_ (vs.take i) ρ g)):=by
  unfold Region.wanted;cases hgd:o.guard with
  | none=>rfl
  | some gd=>
   obtain ⟨j,b⟩:=gd;have:zC ops ρ' j=zC ops (fin_ (vs.take i) ρ g) j:=by
    unfold zC;cases hj:(ops[j]?).bind (·.dst) with
    | none=>rfl
    | some t=>
     simp only [hgd,List.any_eq_true,Bool.and_eq_true,beq_iff_eq] at hguard;obtain ⟨e,he,hb,hon⟩:=hguard;have hjds:(vs.map (·.1))[j]? =some (some t):=by
      cases hoj:ops[j]? with
      | none=>simp [hoj] at hj
      | some oj=>
       have hjj:opOK ops (vs.map (·.1)) j oj=true:=hops (oj,j) (by
        rw [List.mem_iff_getElem?];refine ⟨j,?_⟩;rw [List.getElem?_zipIdx]
        simp [hoj])
       simp only [opOK,Bool.and_eq_true,beq_iff_eq] at hjj;have:=hjj.1.1.1.1;simp [hoj] at hj;rw [←this,hj]
     have hlk:=lookB t j (hon▸hbk e he hb) (hon▸hready e (by simpa using he) hb) hjds;simp only [hlk]
   simp only [this]
 have hmid: ∀b,Mid ρ vs (setN g i b) (put1 (ran L) i) (zm ρ' d (f b)):=by
  intro b t;have hds:(vs.map (·.1))[i]? =some d:=by simp [hv]
  by_cases htd:d=some t
  ·subst htd;have e:zm ρ' (some t) (f b) t=f b:=by
    show (bif Nat.beq t t then f b else _)=f b;rw [Nat.beq_refl];rfl
   refine ⟨fun j f1 hj hvj=>?_,fun hn=>absurd hds (hn i (put1_self _ _))⟩;have hji:j=i:=nodupO_inj hnd (by rw [List.getElem?_map,hvj];rfl) hds;subst hji;rw [hv] at hvj;obtain rfl:f1=f:=by simpa using hvj.symm
   rw [e];unfold setN;rw [Nat.beq_refl];rfl
  ·have e:zm ρ' d (f b) t=ρ' t:=by
    cases d with
    | none=>rfl
    | some k=>
     have hne:Nat.beq t k=false:=by
      cases hb:Nat.beq t k with
      | false=>rfl
      | true=>exact absurd (by rw [Nat.eq_of_beq_eq_true hb]) htd
     show (bif Nat.beq t k then f b else ρ' t)=ρ' t;rw [hne];rfl
   rw [e];refine ⟨fun j f1 hj hvj=>?_,fun hn=>(hm t).2 fun j hj=>hn j (put1_of hj)⟩;have hji:j≠i:=by
    rintro rfl;rw [hv] at hvj;have:d=some t:=by simpa using congrArg (Option.map (·.1)) hvj
    exact htd this
   have hLj:ran L j=true:=(put1_or hj).resolve_left hji;have hN':setN g i b j=g j:=by
    unfold setN;cases hb:Nat.beq j i with
    | false=>rfl
    | true=>exact absurd (Nat.eq_of_beq_eq_true hb) hji
   rw [hN'];exact (hm t).1 j f1 hLj hvj
 have hgi:=hg.get hv;rw [Nat.zero_add] at hgi
 obtain ⟨o',ho',hd',hrun⟩:=hgi (ran L) g w hp hunL (fun o1 ho1 e he hb=>by
  rw [ho] at ho1;obtain rfl:=Option.some.inj ho1;exact hready e he hb) hcl
 have:o'=o:=by rw [ho] at ho';exact (Option.some.inj ho').symm
 subst this;have hput: ∀v,Rep (a.put o'.dst v) (zm ρ' d v) N:=fun v=>by
  have:=ha.put o'.dst (fun k hk=>hdN k (by rw [←hd,hk])) v
  rwa [hd] at this ⊢
 unfold wpOp;simp only [ho,jg ha,hwant];rcases hrun with ⟨hwf,hV,hp'⟩ | ⟨hwt,hR⟩
 ·simp only [hwf,Bool.false_eq_true,if_false];refine hK _ _ g _ (hput undef) ?_ hcl' hp';have:=hmid (g i)
  rwa [setN_self,hV] at this
 ·simp only [hwt,if_true];refine .inl ?_;unfold Oper.wp;rw [ha.eval,hexec];generalize (execOp (ev (fin_ (vs.take i) ρ g)) o').run P w=r at hR;cases r with
  | halt h w'=>exact hR.elim
  | ok n w'=>
   cases n with
   | value v=>obtain ⟨b,rfl,hb⟩:=hR;exact hK _ _ _ _ (hput _) (hmid b) hcl' hb
   | skip=>obtain ⟨b,hu,hb⟩:=hR;exact hK _ _ _ _ (by have:=hput undef;rwa [hu] at this ⊢) (hmid b) hcl' hb
   | enter f' args=>
    refine Calls.mono hR fun e w'' he=>?_;obtain ⟨v,rfl,b,rfl,hb⟩:=he;exact hK _ _ _ _ (hput _) (hmid b) hcl' hb
   | _=>exact hR.elim
theorem draw_any (hok:drawOK ops (vs.map (·.1)) N=true)(hg:GivesAll P ops (fun i=>fin_ (vs.take i) ρ) pre vs 0)
 (hfin: ∀L g w',(∀i,i<ops.size→L i=true)→pre L g w'→Q .normal (fin_ vs ρ g) w'):
 ∀(fuel:Nat) (L:Array Bool),L.size=ops.size→(L.toList.countP (! ·))≤fuel→ ∀(a:Act) (ρ':Env) (g:Nat→Gh) (w:World),Rep a ρ' N→Mid ρ vs g (ran L) ρ'→Closed ops (ran L)→pre (ran L) g w→
  wpAny P .any ops (lift N Q) fuel L a w:=by
 have hdone: ∀(L:Array Bool),L.size=ops.size→Region.ready .any ops L=[]→ ∀(a:Act) (ρ':Env) (g:Nat→Gh) (w:World),Rep a ρ' N→Mid ρ vs g (ran L) ρ'→pre (ran L) g w→lift N Q .normal a w:=by
  intro L hL hr a ρ' g w ha hm hp;have hok':=hok;simp only [drawOK,Bool.and_eq_true,List.all_eq_true,beq_iff_eq] at hok';obtain ⟨⟨⟨hsz,hnd⟩,hN⟩,hops⟩:=hok';have hall: ∀i,i<ops.size→ran L i=true:=by
   intro i
   induction i using Nat.strongRecOn with
   | _ i ih=>
    intro hi;cases hb:ran L i with
    | true=>rfl
    | false=>
     have hmem:i∈Region.ready .any ops L:=by
      refine mem_ready.2 ⟨?_,ops[i],Array.getElem?_eq_getElem hi,fun e he hbd=>?_⟩
      ·have hlt:i<L.size:=by omega
       unfold ran at hb;simp [hlt] at hb ⊢;exact hb
      ·have hoi:opOK ops (vs.map (·.1)) i ops[i]=true:=hops (ops[i],i) (by
        rw [List.mem_iff_getElem?];refine ⟨i,?_⟩;rw [List.getElem?_zipIdx]
        simp [hi])
       simp only [opOK,Bool.and_eq_true] at hoi;have:=List.all_eq_true.1 hoi.1.1.2 e (by simpa using he);rw [hbd] at this;have hlt:e.on<i:=Nat.le_of_ble_eq_true this;exact ih e.on hlt (by omega)
     rw [hr] at hmem;cases hmem
  have heq:ρ'=fin_ vs ρ g:=by
   funext t;by_cases ht:some t∈vs.map (·.1)
   ·obtain ⟨i,hi,hit⟩:=List.getElem_of_mem ht;have hi':i<vs.length:=by simpa using hi
    obtain ⟨⟨d,f⟩,hv⟩:∃p,vs[i]? =some p:=⟨_,List.getElem?_eq_getElem hi'⟩
    have hd:d=some t:=by
     rw [List.getElem_map] at hit;rw [List.getElem?_eq_getElem hi'] at hv;rw [Option.some.inj hv] at hit;exact hit
    subst hd;rw [fin_in hnd hv];exact (hm t).1 i f (hall i (by rw [hsz];exact hi)) hv
   ·rw [fin_out ht];exact (hm t).2 fun j hj heq=>ht (List.mem_of_getElem? heq)
  exact ⟨_,ha,heq▸hfin (ran L) g w hall hp⟩
 intro fuel
 induction fuel with
 | zero=>
  intro L hL hc a ρ' g w ha hm hcl hp;have hr:Region.ready .any ops L=[]:=by
   cases hr:Region.ready .any ops L with
   | nil=>rfl
   | cons i r=>
    have hi:i∈Region.ready .any ops L:=by rw [hr];exact List.mem_cons_self
    obtain ⟨hun,o,ho,_⟩:=mem_ready.1 hi;have hlt:i<L.size:=by rw [hL];exact (Array.getElem?_eq_some_iff.1 ho).1
    have:L.toList.countP (! ·)=0:=by omega
    rw [List.countP_eq_zero] at this;have h1:=this L[i] (by simp);simp [hlt] at hun h1;rw [hun] at h1;cases h1
  exact ⟨hr,hdone L hL hr a ρ' g w ha hm hp⟩
 | succ fuel ih=>
  intro L hL hc a ρ' g w ha hm hcl hp;refine ⟨fun hr=>hdone L hL hr a ρ' g w ha hm hp,fun i hi=>?_⟩;obtain ⟨hun,o,ho,_⟩:=mem_ready.1 hi;have hlt:i<L.size:=by rw [hL];exact (Array.getElem?_eq_some_iff.1 ho).1
  refine draw_step hok hg hi ha hm hL hcl hp fun a' ρ'' g' w' ha' hm' hcl' hp'=>ih (L.setIfInBounds i true) (by simpa using hL) ?_ a' ρ'' g' w' ha' (by rw [ran_set hlt];exact hm') (by rw [ran_set hlt];exact hcl') (by rw [ran_set hlt];exact hp');have hf:L[i]=false:=by simpa [hlt] using hun
  have hc2:(L.setIfInBounds i true).toList.countP (! ·)+1=L.toList.countP (! ·):=by
   rw [Array.toList_setIfInBounds];have hl:i<L.toList.length:=by simpa using hlt
   have hfl:L.toList[i]=false:=by simpa using hf
   have hpos:0<L.toList.countP (! ·):=List.countP_pos_iff.2 ⟨_,List.getElem_mem hl,by rw [hfl];rfl⟩;have hset:=List.countP_set (p:=fun b:Bool=> !b) (l:=L.toList) (i:=i) (a:=true) hl;rw [hfl] at hset;simp only [Bool.not_true,Bool.false_eq_true,if_false,Bool.not_false,if_true] at hset;omega
  omega
theorem WP.draw {id:Nat}(hm:P.follows .mixedOrders=true)(hok:drawOK ops (vs.map (·.1)) N=true)(hp:pre (fun _=>false) (fun _=>default) w.drew)(hg:GivesAll P ops (fun i=>fin_ (vs.take i) ρ) pre vs 0)
 (hfin: ∀L g w',(∀i,i<ops.size→L i=true)→pre L g w'→Q .normal (fin_ vs ρ g) w'):WP P N (.region id ops true) Q ρ w:=fun a ha=>
 have hno:ran (Array.replicate ops.size false)=fun _=>false:=funext fun i=>by
  show (Array.replicate ops.size false).getD i false=false;simp only [Array.getD_eq_getD_getElem?,Array.getElem?_replicate];split<;>rfl
 wp_region_any hm (draw_any hok hg hfin ops.size _ (by simp) (by have:= @List.countP_le_length Bool (! ·) (List.replicate ops.size false);simpa using this) a ρ (fun _=>default) _ ha
  (fun t=>⟨fun i f hi _=>(by rw [hno] at hi;cases hi),fun _=>rfl⟩) (fun j o hj=>(by rw [hno] at hj;cases hj)) (by rw [hno];exact hp))
theorem g_draw0 {c:Code}(l:List Nat)(vs:List (Option Nat×(Gh→Value)))(pre:(Nat→Bool)→(Nat→Gh)→World→Prop)(hc:qM c=some (l,true))(hm:P.follows .mixedOrders=true)(hok:drawOK (zg c) (vs.map (·.1)) N=true)(hp:pre (fun _=>false) (fun _=>default) w.drew)
 (hg:GivesAll P (zg c) (fun i=>fin_ (vs.take i) ρ) pre vs 0) (hfin: ∀L g w',(∀i,i<(zg c).size→L i=true)→pre L g w'→Q .normal (fin_ vs ρ g) w'):WP P N c Q ρ w:=by
 obtain ⟨id,he,hl⟩:=xR hc;rw [he];exact WP.draw hm hok hp hg hfin
theorem g_sdraw {c:Code}(l:List Nat)(vs:List (Option Nat×(Gh→Value)))(pre:(Nat→Bool)→(Nat→Gh)→World→Prop)(hs:yx c=true)(hc:qM (zq c)=some (l,true))(hm:P.follows .mixedOrders=true)(hok:drawOK (zg (zq c)) (vs.map (·.1)) N=true)(hp:pre (fun _=>false) (fun _=>default) w.drew)
 (hg:GivesAll P (zg (zq c)) (fun i=>fin_ (vs.take i) ρ) pre vs 0) (hfin: ∀L g w',(∀i,i<(zg (zq c)).size→L i=true)→pre L g w'→WP P N (zw c) Q (fin_ vs ρ g) w'):WP P N c Q ρ w:=
 zb hs (g_draw0 l vs pre hc hm hok hp hg hfin)
end
abbrev Ent:=Bool×(Nat×Obj)
structure StE (B:Nat)(w0 w:World)(E:List Ent):Prop where
 below:Below B w0 w
 le:B≤w.heap.size
 own: ∀(k:Nat) (e:Nat×Obj),E[k]? =some (true,e)→B≤e.1∧w.heap[e.1]? =some e.2
 inj: ∀(j k:Nat) (e e':Nat×Obj),E[j]? =some (true,e)→E[k]? =some (true,e')→e.1=e'.1→j=k
def pres:List Ent→List (Nat×Obj)
 | []=>[]
 | (true,e)::r=>e::pres r
 | (false,_)::r=>pres r
theorem uz: ∀ {E:List Ent} {k:Nat} {e:Nat×Obj},E[k]? =some (true,e)→e∈pres E
 | [],_,_,h=>by simp at h
 | (true,x)::r,0,e,h=>by simp at h;subst h;simp [pres]
 | (false,x)::r,0,e,h=>by simp at h
 | (true,x)::r,k+1,e,h=>List.mem_cons_of_mem _ (uz (E:=r) (by simpa using h))
 | (false,x)::r,k+1,e,h=>uz (E:=r) (by simpa using h)
theorem zaR: ∀ {E:List Ent} {e:Nat×Obj},e∈pres E→∃k:Nat,E[k]? =some (true,e)
 | [],_,h=>by simp [pres] at h
 | (true,x)::r,e,h=>by
  rcases List.mem_cons.1 h with rfl|h
  ·exact ⟨0,rfl⟩
  ·obtain ⟨k,hk⟩:=zaR (E:=r) h;exact ⟨k+1,by simpa using hk⟩
 | (false,x)::r,e,h=>by obtain ⟨k,hk⟩:=zaR (E:=r) h;exact ⟨k+1,by simpa using hk⟩
theorem zcP: ∀ {E:List Ent},((pres E).map (·.1)).Nodup→ ∀ {j k:Nat} {e e':Nat×Obj},E[j]? =some (true,e)→E[k]? =some (true,e')→e.1=e'.1→j=k
 | [],_,_,_,_,_,h,_,_=>by simp at h
 | (true,x)::r,hn,0,0,_,_,_,_,_=>rfl
 | (true,x)::r,hn,0,k+1,e,e',h,h',q=>by
  simp only [pres,List.map_cons,List.nodup_cons] at hn;simp at h;subst h;exact absurd (List.mem_map.2 ⟨e',uz (by simpa using h'),q.symm⟩) hn.1
 | (true,x)::r,hn,j+1,0,e,e',h,h',q=>by
  simp only [pres,List.map_cons,List.nodup_cons] at hn;simp at h';subst h';exact absurd (List.mem_map.2 ⟨e,uz (by simpa using h),q⟩) hn.1
 | (true,x)::r,hn,j+1,k+1,e,e',h,h',q=>by
  simp only [pres,List.map_cons,List.nodup_cons] at hn;exact congrArg (·+1) (zcP (E:=r) hn.2 (j:=j) (k:=k) (by simpa using h) (by simpa using h') q)
 | (false,x)::r,hn,0,_,_,_,h,_,_=>by simp at h
 | (false,x)::r,hn,_+1,0,_,_,_,h',_=>by simp at h'
 | (false,x)::r,hn,j+1,k+1,e,e',h,h',q=>by
  exact congrArg (·+1) (zcP (E:=r) hn (j:=j) (k:=k) (by simpa using h) (by simpa using h') q)
theorem zcQ: ∀ {E:List Ent},(∀(j k:Nat) (e e':Nat×Obj),E[j]? =some (true,e)→E[k]? =some (true,e')→e.1=e'.1→j=k)→((pres E).map (·.1)).Nodup
 | [],_=>by simp [pres]
 | (true,x)::r,h=>by
  simp only [pres,List.map_cons,List.nodup_cons];refine ⟨fun hm=>?_,zcQ fun j k e e' hj hk q=>by have:=h (j+1) (k+1) e e' (by simpa using hj) (by simpa using hk) q;omega⟩;obtain ⟨e,he,q⟩:=List.mem_map.1 hm;obtain ⟨k,hk⟩:=zaR he;have:=h 0 (k+1) x e rfl (by simpa using hk) q.symm;omega
 | (false,x)::r,h=>zcQ (E:=r) fun j k e e' hj hk q=>by have:=h (j+1) (k+1) e e' (by simpa using hj) (by simpa using hk) q;omega
theorem StE.of {B:Nat}{w0 w:World}{l:List (Nat×Obj)}(h:St B w0 w l)(E:List Ent)(he:pres E=l):StE B w0 w E:=by
 subst he;exact ⟨h.below,h.le,fun k e hk=>h.own e (uz hk),fun j k e e' hj hk q=>zcP h.nd hj hk q⟩
theorem StE.st {B:Nat}{w0 w:World}{E:List Ent}(h:StE B w0 w E):St B w0 w (pres E):=
 ⟨h.below,h.le,fun e he=>by obtain ⟨k,hk⟩:=zaR he;exact h.own k e hk,zcQ h.inj⟩
theorem StE.get {B:Nat}{w0 w:World}{E:List Ent}(h:StE B w0 w E)(k:Nat){b:Nat}{o:Obj}(hk:E[k]? =some (true,(b,o))):w.heap[b]? =some o:=(h.own k _ hk).2
theorem StE.call {B:Nat}{w0 w w':World}{E:List Ent}(h:StE B w0 w E)(hb:Below w.heap.size w w'):StE B w0 w' E:=
 ⟨h.below.trans (hb.mono h.le),Nat.le_trans h.le hb.size,fun k e hk=>⟨(h.own k e hk).1,by rw [hb.block _ (zr (h.own k e hk).2)];exact (h.own k e hk).2⟩,h.inj⟩
theorem StE.add {B:Nat}{w0 w w':World}{E:List Ent}(h:StE B w0 w E)(hb:Below w.heap.size w w')(k:Nat){b:Nat}{o:Obj}(hle:w.heap.size≤b)(ho:w'.heap[b]? =some o):StE B w0 w' (E.set k (true,(b,o))):=by
 have h':=h.call hb;refine ⟨h'.below,h'.le,fun j e hj=>?_,fun i j e e' hi hj q=>?_⟩
 ·rw [List.getElem?_set] at hj;split at hj
  ·split at hj
   ·simp at hj;subst hj;exact ⟨Nat.le_trans h.le hle,ho⟩
   ·cases hj
  ·exact h'.own j e hj
 ·rw [List.getElem?_set] at hi hj;split at hi<;>split at hj
  ·omega
  ·split at hi
   ·simp at hi;subst hi;have:=zr (h.own j e' hj).2;simp at q;omega
   ·cases hi
  ·split at hj
   ·simp at hj;subst hj;have:=zr (h.own i e hi).2;simp at q;omega
   ·cases hj
  ·exact h.inj i j e e' hi hj q
theorem StE.turn {B:Nat}{w0 w w':World}{E:List Ent}(h:StE B w0 w E)(k:Nat){b b':Nat}{o o':Obj}(hk:E[k]? =some (true,(b,o)))(hg:w.grownBy w' (some b))(hb:b'=b∨b'=w.heap.size)(ho:w'.heap[b']? =some o'):StE B w0 w' (E.set k (true,(b',o'))):=by
 have hB:=(h.own k _ hk).1;have hlt:=zr (h.own k _ hk).2;have hle:=h.le;have hB':B≤b':=by
  rcases hb with q|q
  ·rw [q];exact hB
  ·rw [q];exact hle
 refine ⟨h.below.grown hg hle (fun q hq=>by injection hq with hq;subst hq;exact hB),Nat.le_trans hle hg.size,fun j e hj=>?_,fun i j e e' hi hj q=>?_⟩
 ·rw [List.getElem?_set] at hj;split at hj
  ·split at hj
   ·simp at hj;subst hj;exact ⟨hB',ho⟩
   ·cases hj
  ·rename_i hkj
   have hne:e.1≠b:=fun q=>hkj (h.inj k j _ e hk hj q.symm);exact ⟨(h.own j e hj).1,by rw [hg.block e.1 (zr (h.own j e hj).2) (fun q=>hne (by injection q))];exact (h.own j e hj).2⟩
 ·have other: ∀(j:Nat) (e:Nat×Obj),k≠j→E[j]? =some (true,e)→b'≠e.1:=fun j1 e1 hne1 hj1 q1=>by
   rcases hb with hq|hq
   ·exact hne1 (h.inj k j1 _ e1 hk hj1 (hq▸q1))
   ·have h9:=zr (h.own j1 e1 hj1).2;omega
  rw [List.getElem?_set] at hi hj;split at hi<;>split at hj
  ·omega
  ·rename_i _ hne
   split at hi
   ·simp at hi;subst hi;exact absurd q (other j e' hne hj)
   ·cases hi
  ·rename_i hne _
   split at hj
   ·simp at hj;subst hj;exact absurd q.symm (other i e hne hi)
   ·cases hj
  ·exact h.inj i j e e' hi hj q
theorem grownBy_setRow (w:World)(b:Nat)(C:Array Value):w.grownBy (w.setRow b C) (some b):=
 ⟨rfl,rfl,rfl,by simp [World.setRow],fun k hk hne=>zcL _ _ _ _ (fun q=>hne (by rw [q]))⟩
section
variable {P:Program}{ops:Array Oper}{R:(Nat→Gh)→Env}{pre:(Nat→Bool)→(Nat→Gh)→World→Prop}{i:Nat}{d:Option Nat}{V:Gh→Value}
def edge (ops:Array Oper)(i j:Nat):Bool:=match ops[j]? with | some o=>o.after.toList.any fun e=>Region.binds .any e&&Nat.beq e.on i | none=>false
theorem Closed.no {L:Nat→Bool}(h:Closed ops L)(i j:Nat)(he:edge ops i j=true)(hn:L i=false):L j=false:=by
 cases hj:L j with
 | false=>rfl
 | true=>
  unfold edge at he;cases ho:ops[j]? with
  | none=>rw [ho] at he;cases he
  | some o=>
   rw [ho] at he;simp only [List.any_eq_true,Bool.and_eq_true] at he;obtain ⟨e,hm,hb,hon⟩:=he;have:=h j o hj ho e (by simpa using hm) hb;rw [Nat.eq_of_beq_eq_true hon,hn] at this;cases this
theorem Closed.yes {L:Nat→Bool}(h:Closed ops L)(i j:Nat)(he:edge ops i j=true)(hn:L j=true):L i=true:=by
 cases hi:L i with
 | true=>rfl
 | false=>rw [h.no i j he hi] at hn;cases hn
theorem before_yes {L:Nat→Bool}{j:Nat}(h: ∀o,ops[j]? =some o→ ∀e∈o.after,Region.binds .any e=true→L e.on=true)(i:Nat)(he:edge ops i j=true):L i=true:=by
 unfold edge at he;cases ho:ops[j]? with
 | none=>rw [ho] at he;cases he
 | some o=>
  rw [ho] at he;simp only [List.any_eq_true,Bool.and_eq_true] at he;obtain ⟨e,hm,hb,hon⟩:=he;have:=h o ho e (by simpa using hm) hb
  rwa [Nat.eq_of_beq_eq_true hon] at this
def Now (ops:Array Oper)(i:Nat)(L:Nat→Bool):Prop:=L i=false∧(∀o,ops[i]? =some o→ ∀e∈o.after,Region.binds .any e=true→L e.on=true)∧Closed ops L
theorem Now.bef {L:Nat→Bool}(h:Now ops i L)(j:Nat)(he:edge ops j i=true):L j=true:=before_yes h.2.1 j he
theorem Now.post {L:Nat→Bool}(h:Now ops i L)(j:Nat)(he:edge ops i j=true):L j=false:=h.2.2.no i j he h.1
theorem gives_of (h: ∀L g w,pre L g w→Now ops i L→∃o,ops[i]? =some o∧o.dst=d∧
 ((Region.wanted o (zC ops (R g))=false∧V (g i)=undef∧pre (put1 L i) g w)∨(Region.wanted o (zC ops (R g))=true∧Runs P (fun v w'=> ∃b,v=V b∧pre (put1 L i) (setN g i b) w') ((execOp (ev (R g)) o).run P w)))):Gives P ops R pre i d V:=
 fun L g w hp hn hr hc=>h L g w hp ⟨hn,hr,hc⟩
theorem gv_val {V:Value}(hs: ∀L g w,pre L g w→pre (put1 L i) g w)(h: ∀g w,opv P ops i (R g) w=some (d,true,.ok (.value V) w)):Gives P ops R pre i d (fun _=>V):=fun L g w hp _ _ _=>by
 obtain ⟨o,ho,hd,hw,hr⟩:=zQ (h g w);exact ⟨o,ho,hd,.inr ⟨hw,by rw [hr];exact ⟨g i,rfl,by rw [setN_self];exact hs _ _ _ hp⟩⟩⟩
theorem gv_valE {V V':Value}(hs: ∀L g w,pre L g w→pre (put1 L i) g w)(h: ∀g w,opv P ops i (R g) w=some (d,true,.ok (.value V') w))(e:V'=V):Gives P ops R pre i d (fun _=>V):=e▸gv_val hs h
theorem gv_op {V:Value}(hs: ∀L g w,pre L g w→pre (put1 L i) g w)(op:Op)(h: ∀g,opk ops i (R g)=some (d,true,op))(hr: ∀g (o:Oper) w,o.op=op→(execOp (ev (R g)) o).run P w=.ok (.value V) w):Gives P ops R pre i d (fun _=>V):=fun L g w hp _ _ _=>by
 obtain ⟨o,ho,hd,hw,hop⟩:=zH (h g);exact ⟨o,ho,hd,.inr ⟨hw,by rw [hr g o w hop];exact ⟨g i,rfl,by rw [setN_self];exact hs _ _ _ hp⟩⟩⟩
variable {E:(Nat→Bool)→(Nat→Gh)→List Ent}{F:(Nat→Bool)→(Nat→Gh)→Prop}{B:Nat}{w0:World}
end
end Go.Proofs.YtpghmdbjmigjlaaGreatDoor.D2
namespace Go.Proofs.YtpghmdbjmigjlaaGreatDoor
open Go Go.RowKit
set_option linter.unusedVariables false
section
variable {P:Program}{N:Nat}{ops:Array Oper}{i:Nat}{r:List Nat}{K:Env→World→Prop}{ρ:Env}{w:World}{B:Nat}{w0:World}{l:List (Nat×Obj)}
theorem ze7 (HS:St B w0 w l)(d:Option Nat)(V:Nat→Value)(C:Array Value)(T:TypeId)(h: ∀w,opv P ops i ρ w=some (d,true,.ok (.value (V w.heap.size)) (w.alloc (.cells C T (0,0)))))(hd:dOK d N=true)
 (kk: ∀b w',St B w0 w' ((b,.cells C T (0,0))::l)→WPs P N ops K r (zm ρ d (V b)) w'):WPs P N ops K (i::r) ρ w:=by
 obtain ⟨o,ho,rfl,hw,hr⟩:=zQ (h w);refine WPo.run ho hw fun a ha=>?_;rw [hr,Oper.upon_value];exact ⟨_,ha.put _ (zM hd) _,kk _ _ (HS.alloc _)⟩
end
namespace D2
section
variable {P:Program}{ops:Array Oper}{R:(Nat→Gh)→Env}{i:Nat}{d:Option Nat}{V:Gh→Value}
variable {E:(Nat→Bool)→(Nat→Gh)→List Ent}{F:(Nat→Bool)→(Nat→Gh)→Prop}{B:Nat}{w0:World}
end
end D2
end Go.Proofs.YtpghmdbjmigjlaaGreatDoor
namespace Go.Proofs.YtpghmdbjmigjlaaGreatDoor
open Go Go.RowKit
open D2 (Gh StE Closed Now edge Runs put1 setN)
set_option linter.unusedVariables false
structure Eqn:Type 1 where
 {α:Type}
 a:α
 b:α
def Eqn.lf (e:Eqn):Sigma (fun α:Type=>α):=⟨e.α,e.a⟩
def Eqn.rt (e:Eqn):Sigma (fun α:Type=>α):=⟨e.α,e.b⟩
abbrev Eqs (l:List Eqn):Prop:=l.map Eqn.lf=l.map Eqn.rt
theorem Eqs.head {α:Type}{a b:α}{l:List Eqn}(h:Eqs (⟨a,b⟩::l)):a=b:=by
 have h1:(⟨α,a⟩:Sigma (fun α:Type=>α))=⟨α,b⟩:=(List.cons.inj h).1;exact eq_of_heq (Sigma.mk.inj h1).2
theorem Eqs.tail {e:Eqn}{l:List Eqn}(h:Eqs (e::l)):Eqs l:=(List.cons.inj h).2
theorem Eqs.both: ∀ {l m:List Eqn},Eqs (l++m)→Eqs l∧Eqs m
 | [],m,h=>⟨rfl,h⟩
 | e::l,m,h=>by
  obtain ⟨h1,h2⟩:=Eqs.both (l:=l) (List.cons.inj h).2;refine ⟨?_,h2⟩;have:=(List.cons.inj h).1;show e.lf::l.map Eqn.lf=e.rt::l.map Eqn.rt;rw [this,h1]
theorem Eqs.mem: ∀ {l:List Eqn},Eqs l→ ∀ {e:Eqn},e∈l→e.lf=e.rt
 | x::l,h,e,he=>by
  rcases List.mem_cons.1 he with rfl|he
  ·exact (List.cons.inj h).1
  ·exact Eqs.mem (Eqs.tail h) he
def Hd:List (Nat×(Nat×Obj))→World→Prop
 | [],_=>True
 | e::r,w=>w.heap[e.2.1]? =some e.2.2∧Hd r w
def Ins (r:Operand→Value):List (Operand×Value)→Prop
 | []=>True
 | p::l=>r p.1=p.2∧Ins r l
inductive Eff
 | no
 | new (o:Obj)
 | turn (j:Nat) (o:Obj)
def uA (bl:List (Nat×Obj))(w w':World)(g:Gh):Eff→Prop
 | .no=>Below w.heap.size w w'
 | .new o=>Below w.heap.size w w'∧w.heap.size≤g.b∧w'.heap[g.b]? =some o
 | .turn j o=> ∃e,bl[j]? =some e∧w.grownBy w' (some e.1)∧w'.heap[e.1]? =some o
inductive It (P:Program)(B:Nat)(w0:World):Type
 | v
 | n
 | a
 | b
 | l (j:Nat)
 | s (j:Nat)
 | e {v v':Value} (h:v=v')
 | f {b:Nat} {o:Obj} (h:w0.heap[b]? =some o) (hb:b<B)
 | ls (j:Nat) {C:Array Value} {off:Nat} {v:Value} (h:C[off]? =some v)
 | lp (j:Nat) {C W:Array Value} {off n:Nat} (hs:off+n≤C.size) (h:C.extract off (off+n)=W)
 | fs {b off:Nat} {C:Array Value} {T:TypeId} {fz:Nat×Nat} {v:Value} (h:w0.heap[b]? =some (.cells C T fz)) (hb:b<B) (hv:C[off]? =some v)
 | fp {b off n:Nat} {C W:Array Value} {T:TypeId} {fz:Nat×Nat} (h:w0.heap[b]? =some (.cells C T fz)) (hb:b<B) (hs:off+n≤C.size) (hW:C.extract off (off+n)=W)
 | se (j:Nat) {C C':Array Value} {off:Nat} {v:Value} (hs:off+v.cells.size≤C.size) (h:(C.toList.take off++v.cells.toList++C.toList.drop (off+v.cells.size)).toArray=C')
 | c {f:Nat} {args:Array Value} {v:Value} (h:Fn P f args v)
 | cp {f:Nat} {args:Array Value} {pre:World→Prop} {v:Value} (h:FnP P f args pre v) (rd:List (Nat×(Nat×Obj))) (hp: ∀w,Below B w0 w→Hd rd w→pre w)
 | o {ins:List (Operand×Value)} {op:Op} {v:Value} (h: ∀(ρ:Env) (o:Oper) (w:World),o.op=op→Ins (ev ρ) ins→(execOp (ev ρ) o).run P w=.ok (.value v) w)
 | oe {ins:List (Operand×Value)} {op:Op} {v v':Value} (h: ∀(ρ:Env) (o:Oper) (w:World),o.op=op→Ins (ev ρ) ins→(execOp (ev ρ) o).run P w=.ok (.value v) w) (e:v=v')
 | g (ins:List (Operand×Value)) (op:Op) (rd:List (Nat×(Nat×Obj))) (val:Gh→Value) (eff:Eff)
  (h: ∀(ρ:Env) (o:Oper) (w:World),o.op=op→Ins (ev ρ) ins→Hd rd w→Below B w0 w→Runs P (fun v w'=> ∃g:Gh,v=val g∧(match eff with
   | .no=>Below w.heap.size w w'
   | .new o=>Below w.heap.size w w'∧w.heap.size≤g.b∧w'.heap[g.b]? =some o
   | .turn j o=> ∃q,(rd.lookup j)=some q∧w.grownBy w' (some q.1)∧w'.heap[q.1]? =some o)) ((execOp (ev ρ) o).run P w))
 | nw (V:Nat→Value) (C:Array Value) (T:TypeId)
 | x {ins:List (Operand×Value)} {op:Op} {v:Value} (rd:List (Nat×(Nat×Obj))) (h: ∀(ρ:Env) (o:Oper) (w:World),o.op=op→Ins (ev ρ) ins→Hd rd w→(execOp (ev ρ) o).run P w=.ok (.value v) w)
 | w (f:(Nat→Nat)→It P B w0)
abbrev It.E {P B w0}(v v':Value)(h:v=v'):It P B w0:=.e h
def qA:Value→Nat
 | .pointer (some a)=>a.off
 | _=>0
def cellsOf:Obj→Array Value
 | .cells C _ _=>C
 | _=>#[]
def xt:Obj→TypeId
 | .cells _ T _=>T
 | _=>0
def zaS:Obj→Nat×Nat
 | .cells _ _ fz=>fz
 | _=>(0,0)
def zt (ops:Array Oper)(i:Nat):Option Nat:=(ops[i]?).bind (·.dst)
def opo (ops:Array Oper)(i:Nat):Op:=match ops[i]? with | some o=>o.op | none=>.ready 0
def ldT:Op→TypeId
 | .load t _=>t
 | .alloc t=>t
 | .box t _=>t
 | .store t _ _=>t
 | _=>0
def ldX:Op→Operand
 | .load _ x=>x
 | .box _ x=>x
 | .store _ x _=>x
 | _=>.tmp 0
def ldY:Op→Operand
 | .store _ _ y=>y
 | _=>.tmp 0
def nm (bl:List (Nat×Obj))(j:Nat):Nat:=match bl[j]? with | some e=>e.1 | none=>0
def ob (bl:List (Nat×Obj))(j:Nat):Obj:=match bl[j]? with | some e=>e.2 | none=>.cells #[] 0 (0,0)
def uB (P:Program)(t:TypeId)(a:Nat)(C:Array Value):Bool:=match aggSize P t with
 | some n=>Nat.ble (a+n) C.size
 | none=>oneCell P t&&Nat.blt a C.size
def ldv (P:Program)(t:TypeId)(a:Nat)(C:Array Value):Value:=match aggSize P t with
 | some n=>bif Nat.beq a 0&&Nat.beq n C.size then .agg C else .agg (C.extract a (a+n))
 | none=>C.getD a undef
def vD (a:Nat)(v C:Array Value):Array Value:=
 bif Nat.beq a 0&&Nat.beq v.size C.size then v else (C.toList.take a++v.toList++C.toList.drop (a+v.size)).toArray
def zof (P:Program)(t:TypeId):Value:=match (P.info? t).bind (·.zero) with | some z=>z | none=>undef
def vof (P:Program)(ops:Array Oper)(i:Nat)(ρ:Env)(w:World):Value:=match opv P ops i ρ w with
 | some (_,_,.ok (.value v) _)=>v
 | _=>undef
def isC (bl:List (Nat×Obj))(j:Nat):Bool:=match bl[j]? with
 | some (_,.cells _ _ _)=>true
 | _=>false
def uC (bl:List (Nat×Obj))(j:Nat):Bool:=match bl[j]? with
 | some (_,.cells _ _ fz)=>Nat.beq fz.1 0&&Nat.beq fz.2 0
 | _=>false
theorem zcR {bl:List (Nat×Obj)}{j:Nat}(h:isC bl j=true):bl[j]? =some (nm bl j,.cells (cellsOf (ob bl j)) (xt (ob bl j)) (zaS (ob bl j))):=by
 unfold isC at h;unfold nm ob;cases hb:bl[j]? with
 | none=>rw [hb] at h;cases h
 | some e=>
  obtain ⟨b,o⟩:=e;rw [hb] at h;cases o<;>first | rfl | cases h
theorem ze8 {bl:List (Nat×Obj)}{j:Nat}(h:uC bl j=true):bl[j]? =some (nm bl j,.cells (cellsOf (ob bl j)) (xt (ob bl j)) (0,0)):=by
 unfold uC at h;unfold nm ob;cases hb:bl[j]? with
 | none=>rw [hb] at h;cases h
 | some e=>
  obtain ⟨b,o⟩:=e;rw [hb] at h;cases o with
  | cells C T fz=>
   obtain ⟨x,y⟩:=fz;simp only [Bool.and_eq_true] at h;obtain rfl:=Nat.eq_of_beq_eq_true h.1;obtain rfl:=Nat.eq_of_beq_eq_true h.2;rfl
  | _=>cases h
theorem ze9 {bl:List (Nat×Obj)}{j:Nat}{C:Array Value}(h:isC bl j=true)(hC:cellsOf (ob bl j)=C):bl[j]? =some (nm bl j,.cells C (xt (ob bl j)) (zaS (ob bl j))):=hC▸zcR h
theorem zjO {bl:List (Nat×Obj)}{j:Nat}{C:Array Value}(h:uC bl j=true)(hC:cellsOf (ob bl j)=C):bl[j]? =some (nm bl j,.cells C (xt (ob bl j)) (0,0)):=hC▸ze8 h
structure Rc where
 val:Gh→Value
 eff:Eff
 rd:List Nat
 eqs:List Eqn
def itR {P:Program}{B:Nat}{w0:World}(ops:Array Oper)(i:Nat)(ρ:Env)(bl:List (Nat×Obj)):It P B w0→Rc
 | .v=>⟨fun _=>vof P ops i ρ w0,.no,[],[⟨fun w=>opv P ops i ρ w,fun w=>some (zt ops i,true,.ok (.value (vof P ops i ρ w0)) w)⟩]⟩
 | .n=>⟨fun _=>undef,.no,[],[⟨opn ops i ρ,some (zt ops i,false)⟩]⟩
 | .a=>⟨fun g=>.pointer (some ⟨g.b,0,none⟩),.new (.cells (zof P (ldT (opo ops i))).cells (ldT (opo ops i)) (0,0)),[],
  [⟨opk ops i ρ,some (zt ops i,true,.alloc (ldT (opo ops i)))⟩,⟨(P.info? (ldT (opo ops i))).bind (·.zero),some (zof P (ldT (opo ops i)))⟩]⟩
 | .b=>⟨fun g=>.pointer (some ⟨g.b,0,none⟩),.new (.cells (ev ρ (ldX (opo ops i))).cells (ldT (opo ops i)) (0,0)),[],
  [⟨opk ops i ρ,some (zt ops i,true,.box (ldT (opo ops i)) (ldX (opo ops i)))⟩]⟩
 | .l j=>⟨fun _=>ldv P (ldT (opo ops i)) (qA (ev ρ (ldX (opo ops i)))) (cellsOf (ob bl j)),.no,[j],
  [⟨opk ops i ρ,some (zt ops i,true,.load (ldT (opo ops i)) (ldX (opo ops i)))⟩,⟨isC bl j,true⟩,
   ⟨ev ρ (ldX (opo ops i)),.pointer (some ⟨nm bl j,qA (ev ρ (ldX (opo ops i))),none⟩)⟩,⟨uB P (ldT (opo ops i)) (qA (ev ρ (ldX (opo ops i)))) (cellsOf (ob bl j)),true⟩]⟩
 | .s j=>⟨fun _=>undef,.turn j (.cells (vD (qA (ev ρ (ldX (opo ops i)))) (ev ρ (ldY (opo ops i))).cells (cellsOf (ob bl j))) (xt (ob bl j)) (0,0)),[j],
  [⟨opk ops i ρ,some (none,true,.store (ldT (opo ops i)) (ldX (opo ops i)) (ldY (opo ops i)))⟩,⟨uC bl j,true⟩,
   ⟨ev ρ (ldX (opo ops i)),.pointer (some ⟨nm bl j,qA (ev ρ (ldX (opo ops i))),none⟩)⟩,⟨(P.info? (ldT (opo ops i))).map (·.size),some (ev ρ (ldY (opo ops i))).cells.size⟩,
   ⟨(ev ρ (ldY (opo ops i))).cells.all (·.oneCell'),true⟩,⟨Nat.ble (qA (ev ρ (ldX (opo ops i)))+(ev ρ (ldY (opo ops i))).cells.size) (cellsOf (ob bl j)).size,true⟩]⟩
 | .E v v' _=>⟨fun _=>v',.no,[],[⟨fun w=>opv P ops i ρ w,fun w=>some (zt ops i,true,.ok (.value v) w)⟩]⟩
 | .f (b:=b) (o:=o) _ _=>⟨fun _=>ldv P (ldT (opo ops i)) (qA (ev ρ (ldX (opo ops i)))) (cellsOf o),.no,[],
  [⟨opk ops i ρ,some (zt ops i,true,.load (ldT (opo ops i)) (ldX (opo ops i)))⟩,⟨o,.cells (cellsOf o) (xt o) (zaS o)⟩,
   ⟨ev ρ (ldX (opo ops i)),.pointer (some ⟨b,qA (ev ρ (ldX (opo ops i))),none⟩)⟩,⟨uB P (ldT (opo ops i)) (qA (ev ρ (ldX (opo ops i)))) (cellsOf o),true⟩]⟩
 | .ls j (C:=C) (off:=off) (v:=v) _=>⟨fun _=>v,.no,[j],
  [⟨opk ops i ρ,some (zt ops i,true,.load (ldT (opo ops i)) (ldX (opo ops i)))⟩,⟨isC bl j,true⟩,⟨cellsOf (ob bl j),C⟩,
   ⟨ev ρ (ldX (opo ops i)),.pointer (some ⟨nm bl j,off,none⟩)⟩,⟨oneCell P (ldT (opo ops i)),true⟩]⟩
 | .lp j (C:=C) (W:=W) (off:=off) (n:=n) _ _=>⟨fun _=>.agg W,.no,[j],
  [⟨opk ops i ρ,some (zt ops i,true,.load (ldT (opo ops i)) (ldX (opo ops i)))⟩,⟨isC bl j,true⟩,⟨cellsOf (ob bl j),C⟩,
   ⟨ev ρ (ldX (opo ops i)),.pointer (some ⟨nm bl j,off,none⟩)⟩,⟨aggSize P (ldT (opo ops i)),some n⟩]⟩
 | .fs (b:=b) (off:=off) (v:=v) _ _ _=>⟨fun _=>v,.no,[],
  [⟨opk ops i ρ,some (zt ops i,true,.load (ldT (opo ops i)) (ldX (opo ops i)))⟩,
   ⟨ev ρ (ldX (opo ops i)),.pointer (some ⟨b,off,none⟩)⟩,⟨oneCell P (ldT (opo ops i)),true⟩]⟩
 | .fp (b:=b) (off:=off) (n:=n) (W:=W) _ _ _ _=>⟨fun _=>.agg W,.no,[],
  [⟨opk ops i ρ,some (zt ops i,true,.load (ldT (opo ops i)) (ldX (opo ops i)))⟩,
   ⟨ev ρ (ldX (opo ops i)),.pointer (some ⟨b,off,none⟩)⟩,⟨aggSize P (ldT (opo ops i)),some n⟩]⟩
 | .se j (C:=C) (C':=C') (off:=off) (v:=v) _ _=>⟨fun _=>undef,.turn j (.cells C' (xt (ob bl j)) (0,0)),[j],
  [⟨opk ops i ρ,some (none,true,.store (ldT (opo ops i)) (ldX (opo ops i)) (ldY (opo ops i)))⟩,⟨uC bl j,true⟩,⟨cellsOf (ob bl j),C⟩,
   ⟨ev ρ (ldX (opo ops i)),.pointer (some ⟨nm bl j,off,none⟩)⟩,⟨ev ρ (ldY (opo ops i)),v⟩,⟨(P.info? (ldT (opo ops i))).map (·.size),some v.cells.size⟩,
   ⟨v.cells.all (·.oneCell'),true⟩]⟩
 | .c (f:=f) (args:=args) (v:=v) _=>⟨fun _=>v,.no,[],[⟨fun w=>opv P ops i ρ w,fun w=>some (zt ops i,true,.ok (.enter f args) w)⟩]⟩
 | .cp (f:=f) (args:=args) (v:=v) _ rd _=>⟨fun _=>v,.no,rd.map (·.1),⟨fun w=>opv P ops i ρ w,fun w=>some (zt ops i,true,.ok (.enter f args) w)⟩::rd.map fun r=>⟨bl[r.1]?,some r.2⟩⟩
 | .o (ins:=ins) (op:=op) (v:=v) _=>⟨fun _=>v,.no,[],⟨opk ops i ρ,some (zt ops i,true,op)⟩::ins.map fun p=>⟨ev ρ p.1,p.2⟩⟩
 | .oe (ins:=ins) (op:=op) (v':=v') _ _=>⟨fun _=>v',.no,[],⟨opk ops i ρ,some (zt ops i,true,op)⟩::ins.map fun p=>⟨ev ρ p.1,p.2⟩⟩
 | .g ins op rd val eff _=>⟨val,eff,rd.map (·.1),⟨opk ops i ρ,some (zt ops i,true,op)⟩::((ins.map fun p=>⟨ev ρ p.1,p.2⟩)++rd.map fun r=>⟨bl[r.1]?,some r.2⟩)⟩
 | .nw V C T=>⟨fun g=>V g.b,.new (.cells C T (0,0)),[],[⟨fun w=>opv P ops i ρ w,fun w=>some (zt ops i,true,.ok (.value (V w.heap.size)) (w.alloc (.cells C T (0,0))))⟩]⟩
 | .x (ins:=ins) (op:=op) (v:=v) rd _=>⟨fun _=>v,.no,rd.map (·.1),⟨opk ops i ρ,some (zt ops i,true,op)⟩::((ins.map fun p=>⟨ev ρ p.1,p.2⟩)++rd.map fun r=>⟨bl[r.1]?,some r.2⟩)⟩
 | .w f=>itR ops i ρ bl (f (nm bl))
section
variable {P:Program}{N:Nat}{ops:Array Oper}{i:Nat}{ρ:Env}{w w0:World}{B:Nat}{bl:List (Nat×Obj)}
theorem zcS {t:TypeId}{b off:Nat}{C:Array Value}{T:TypeId}{fz:Nat×Nat}(h:uB P t off C=true)(hh:w.heap[b]? =some (.cells C T fz)):
 (loadVar t ⟨b,off,none⟩).run P w=.ok (ldv P t off C) w:=by
 unfold uB at h;unfold ldv;cases ht:aggSize P t with
 | none=>
  rw [ht] at h;simp only [Bool.and_eq_true] at h;have hlt:off<C.size:=Nat.le_of_ble_eq_true h.2;refine kJ h.1 hh ?_;simp [Array.getD_eq_getD_getElem?,hlt]
 | some n=>
  rw [ht] at h;have hle:off+n≤C.size:=Nat.le_of_ble_eq_true h;have:=kI (w:=w) ht hh hle;rw [this];cases hb:Nat.beq off 0&&Nat.beq n C.size with
  | false=>simp only [hb,cond_false]
  | true=>
   simp only [hb,cond_true];simp only [Bool.and_eq_true] at hb;have h1:=Nat.eq_of_beq_eq_true hb.1;have h2:=Nat.eq_of_beq_eq_true hb.2;subst h1 h2;simp
theorem zjP {a:Nat}{v C:Array Value} :vD a v C=(C.toList.take a++v.toList++C.toList.drop (a+v.size)).toArray:=by
 unfold vD;cases hb:Nat.beq a 0&&Nat.beq v.size C.size with
 | false=>rfl
 | true=>
  simp only [Bool.and_eq_true] at hb;have h1:=Nat.eq_of_beq_eq_true hb.1;have h2:=Nat.eq_of_beq_eq_true hb.2;subst h1;have h3:C.toList.length=v.size:=by rw [h2];simp
  simp [h2];show v=(v.toList++List.drop C.size C.toList).toArray;rw [List.drop_eq_nil_of_le (by simp)];simp
theorem Ins.of {r:Operand→Value} : ∀ {ins:List (Operand×Value)},Eqs (ins.map fun p=>⟨r p.1,p.2⟩)→Ins r ins
 | [],_=>trivial
 | p::l,h=>⟨Eqs.head h,Ins.of (Eqs.tail h)⟩
theorem Hd.of: ∀ {rd:List (Nat×(Nat×Obj))},Eqs (rd.map fun r=>⟨bl[r.1]?,some r.2⟩)→(∀j,j∈rd.map (·.1)→ ∀e,bl[j]? =some e→w.heap[e.1]? =some e.2)→Hd rd w
 | [],_,_=>trivial
 | p::l,h,hd=>⟨hd p.1 (by simp) p.2 (Eqs.head h),Hd.of (Eqs.tail h) fun j hj=>hd j (by simp at hj ⊢;exact .inr hj)⟩
theorem zfa: ∀ {rd:List (Nat×(Nat×Obj))} {j:Nat} {q:Nat×Obj},Eqs (rd.map fun r=>⟨bl[r.1]?,some r.2⟩)→rd.lookup j=some q→bl[j]? =some q
 | [],j,q,_,h=>by simp at h
 | p::l,j,q,hE,h=>by
  simp only [List.lookup] at h;split at h
  ·rename_i hb
   cases h;rw [eq_of_beq hb];exact Eqs.head hE
  ·exact zfa (Eqs.tail hE) h
theorem zcT: ∀(it:It P B w0),Eqs (itR ops i ρ bl it).eqs→Below B w0 w→(∀j,j∈(itR ops i ρ bl it).rd→ ∀e,bl[j]? =some e→w.heap[e.1]? =some e.2)→
 ∃o,ops[i]? =some o∧o.dst=zt ops i∧((Region.wanted o (zC ops ρ)=false∧(itR ops i ρ bl it).val=(fun _=>undef)∧(itR ops i ρ bl it).eff=.no)∨
  (Region.wanted o (zC ops ρ)=true∧Runs P (fun v w'=> ∃g,v=(itR ops i ρ bl it).val g∧uA bl w w' g (itR ops i ρ bl it).eff) ((execOp (ev ρ) o).run P w)))
 | .v,hE,hb,hd=>by
  obtain ⟨o,ho,h1,hw,hr⟩:=zQ (congrFun (Eqs.head hE) w);exact ⟨o,ho,h1,.inr ⟨hw,by rw [hr];exact ⟨default,rfl,Below.refl _ _⟩⟩⟩
 | .n,hE,hb,hd=>by
  obtain ⟨o,ho,h1,hw⟩:=zeY (Eqs.head hE);exact ⟨o,ho,h1,.inl ⟨hw,rfl,rfl⟩⟩
 | .a,hE,hb,hd=>by
  obtain ⟨o,ho,h1,hw,hop⟩:=zH (Eqs.head hE);refine ⟨o,ho,h1,.inr ⟨hw,?_⟩⟩;have hz:=Eqs.head (Eqs.tail hE);generalize zof P (ldT (opo ops i))=z at hz;have hz0:=hz;have e:(execOp (ev ρ) o).run P w=.ok (.value (.pointer (some ⟨w.heap.size,0,none⟩))) (w.alloc (.cells z.cells (ldT (opo ops i)) (0,0))):=by
   cases hq:P.info? (ldT (opo ops i)) with
   | none=>rw [hq] at hz;cases hz
   | some it=>
    rw [hq] at hz;simp only [Option.bind_some] at hz;simp [execOp,hop,Instr.alloc,zeroValue,typeInfo,hq,hz,newVar,newRow,newObj];rfl
  rw [e];refine ⟨{ b:=w.heap.size },rfl,(Below.refl _ _).alloc (Nat.le_refl _) _,Nat.le_refl _,?_⟩;have ez:zof P (ldT (opo ops i))=z:=by unfold zof;rw [hz0]
  rw [ez];exact heap_alloc_new w _
 | .b,hE,hb,hd=>by
  obtain ⟨o,ho,h1,hw,hop⟩:=zH (Eqs.head hE);refine ⟨o,ho,h1,.inr ⟨hw,?_⟩⟩;have e:(execOp (ev ρ) o).run P w=.ok (.value (.pointer (some ⟨w.heap.size,0,none⟩))) (w.alloc (.cells (ev ρ (ldX (opo ops i))).cells (ldT (opo ops i)) (0,0))):=by
   simp [execOp,hop,Instr.box,newVar,newRow,newObj];rfl
  rw [e];exact ⟨{ b:=w.heap.size },rfl,(Below.refl _ _).alloc (Nat.le_refl _) _,Nat.le_refl _,heap_alloc_new w _⟩
 | .l j,hE,hb,hd=>by
  obtain ⟨o,ho,h1,hw,hop⟩:=zH (Eqs.head hE);refine ⟨o,ho,h1,.inr ⟨hw,?_⟩⟩;have hj:=zcR (Eqs.head (Eqs.tail hE));have hx:=Eqs.head (Eqs.tail (Eqs.tail hE));have hk:=Eqs.head (Eqs.tail (Eqs.tail (Eqs.tail hE)));have hh:=hd j (by simp [itR]) _ hj;have e3:=zcS hk hh;have e2:(execOp (ev ρ) o).run P w=.ok (.value (ldv P (ldT (opo ops i)) (qA (ev ρ (ldX (opo ops i)))) (cellsOf (ob bl j)))) w:=by
   have e4:(Instr.loadAt (ldT (opo ops i)) (ev ρ (ldX (opo ops i)))).run P w=.ok (ldv P (ldT (opo ops i)) (qA (ev ρ (ldX (opo ops i)))) (cellsOf (ob bl j))) w:=by
    rw [hx];rw [hx] at e3;exact e3
   simp only [execOp,hop,Sem.run_bind,e4,Result.andThen_ok];rfl
  rw [e2];exact ⟨default,rfl,Below.refl _ _⟩
 | .s j,hE,hb,hd=>by
  obtain ⟨o,ho,h1,hw,hop⟩:=zH (Eqs.head hE);refine ⟨o,ho,by unfold zt;rw [ho];rfl,.inr ⟨hw,?_⟩⟩;have hj:=ze8 (Eqs.head (Eqs.tail hE));have hx:=Eqs.head (Eqs.tail (Eqs.tail hE));have hi:=Eqs.head (Eqs.tail (Eqs.tail (Eqs.tail hE)));have hc:=Eqs.head (Eqs.tail (Eqs.tail (Eqs.tail (Eqs.tail hE))));have hs:_+_≤_:=Nat.le_of_ble_eq_true (Eqs.head (Eqs.tail (Eqs.tail (Eqs.tail (Eqs.tail (Eqs.tail hE))))));have hh:=hd j (by simp [itR]) _ hj;have h9:=us (P:=P) (w:=w) hi hc hh hs;rw [←zjP] at h9;refine cast (congrArg (Runs P _) ?_) (show Runs P (fun v w'=> ∃g,v=undef∧uA bl w w' g (.turn j (.cells (vD (qA (ev ρ (ldX (opo ops i)))) (ev ρ (ldY (opo ops i))).cells (cellsOf (ob bl j))) (xt (ob bl j)) (0,0)))) (.ok .skip (w.setRow (nm bl j) (vD (qA (ev ρ (ldX (opo ops i)))) (ev ρ (ldY (opo ops i))).cells (cellsOf (ob bl j))))) from ?_)
  ·have e4:(Instr.storeAt (ldT (opo ops i)) (ev ρ (ldX (opo ops i))) (ev ρ (ldY (opo ops i)))).run P w=.ok () (w.setRow (nm bl j) (vD (qA (ev ρ (ldX (opo ops i)))) (ev ρ (ldY (opo ops i))).cells (cellsOf (ob bl j)))):=by
    rw [hx];rw [hx] at h9;exact h9
   symm
   simp only [execOp,hop,Sem.run_bind,e4,Result.andThen_ok];rfl
  ·exact ⟨default,rfl,_,hj,D2.grownBy_setRow _ _ _,setRow_heap w _ _ _ _ _ hh⟩
 | .e h,hE,hb,hd=>by
  obtain ⟨o,ho,h1,hw,hr⟩:=zQ (congrFun (Eqs.head hE) w);subst h;exact ⟨o,ho,h1,.inr ⟨hw,by rw [hr];exact ⟨default,rfl,Below.refl _ _⟩⟩⟩
 | .f (b:=b) (o:=q) h hlt,hE,hb,hd=>by
  obtain ⟨o,ho,h1,hw,hop⟩:=zH (Eqs.head hE);refine ⟨o,ho,h1,.inr ⟨hw,?_⟩⟩;have hj:=Eqs.head (Eqs.tail hE);have hx:=Eqs.head (Eqs.tail (Eqs.tail hE));have hk:=Eqs.head (Eqs.tail (Eqs.tail (Eqs.tail hE)));have hh:w.heap[b]? =some (.cells (cellsOf q) (xt q) (zaS q)):=by rw [hb.block b hlt,h];exact congrArg some hj
  have e3:=zcS hk hh;have e2:(execOp (ev ρ) o).run P w=.ok (.value (ldv P (ldT (opo ops i)) (qA (ev ρ (ldX (opo ops i)))) (cellsOf q))) w:=by
   have e4:(Instr.loadAt (ldT (opo ops i)) (ev ρ (ldX (opo ops i)))).run P w=.ok (ldv P (ldT (opo ops i)) (qA (ev ρ (ldX (opo ops i)))) (cellsOf q)) w:=by
    rw [hx];rw [hx] at e3;exact e3
   simp only [execOp,hop,Sem.run_bind,e4,Result.andThen_ok];rfl
  rw [e2];exact ⟨default,rfl,Below.refl _ _⟩
 | .ls j (C:=C) (off:=off) (v:=v) h,hE,hb,hd=>by
  obtain ⟨o,ho,h1,hw,hop⟩:=zH (Eqs.head hE);refine ⟨o,ho,h1,.inr ⟨hw,?_⟩⟩;have hj:=ze9 (Eqs.head (Eqs.tail hE)) (Eqs.head (Eqs.tail (Eqs.tail hE)));have hE':=Eqs.tail (Eqs.tail hE);have hx:=Eqs.head (Eqs.tail hE');have hk:=Eqs.head (Eqs.tail (Eqs.tail hE'));have hh:=hd j (by simp [itR]) _ hj;have e3:=kJ (w:=w) hk hh h;have e4:(Instr.loadAt (ldT (opo ops i)) (ev ρ (ldX (opo ops i)))).run P w=.ok v w:=by rw [hx];exact e3
  have e2:(execOp (ev ρ) o).run P w=.ok (.value v) w:=by simp only [execOp,hop,Sem.run_bind,e4,Result.andThen_ok];rfl
  rw [e2];exact ⟨default,rfl,Below.refl _ _⟩
 | .lp j (C:=C) (W:=W) (off:=off) (n:=n) hs h,hE,hb,hd=>by
  obtain ⟨o,ho,h1,hw,hop⟩:=zH (Eqs.head hE);refine ⟨o,ho,h1,.inr ⟨hw,?_⟩⟩;have hj:=ze9 (Eqs.head (Eqs.tail hE)) (Eqs.head (Eqs.tail (Eqs.tail hE)));have hE':=Eqs.tail (Eqs.tail hE);have hx:=Eqs.head (Eqs.tail hE');have hk:=Eqs.head (Eqs.tail (Eqs.tail hE'));have hh:=hd j (by simp [itR]) _ hj;have e3:=kI (w:=w) hk hh hs;rw [h] at e3;have e4:(Instr.loadAt (ldT (opo ops i)) (ev ρ (ldX (opo ops i)))).run P w=.ok (.agg W) w:=by rw [hx];exact e3
  have e2:(execOp (ev ρ) o).run P w=.ok (.value (.agg W)) w:=by simp only [execOp,hop,Sem.run_bind,e4,Result.andThen_ok];rfl
  rw [e2];exact ⟨default,rfl,Below.refl _ _⟩
 | .fs (b:=b) (off:=off) (v:=v) h hlt hv,hE,hb,hd=>by
  obtain ⟨o,ho,h1,hw,hop⟩:=zH (Eqs.head hE);refine ⟨o,ho,h1,.inr ⟨hw,?_⟩⟩;have hx:=Eqs.head (Eqs.tail hE);have hk:=Eqs.head (Eqs.tail (Eqs.tail hE));have e3:=kJ (w:=w) hk ((hb.block b hlt).trans h) hv;have e4:(Instr.loadAt (ldT (opo ops i)) (ev ρ (ldX (opo ops i)))).run P w=.ok v w:=by rw [hx];exact e3
  have e2:(execOp (ev ρ) o).run P w=.ok (.value v) w:=by simp only [execOp,hop,Sem.run_bind,e4,Result.andThen_ok];rfl
  rw [e2];exact ⟨default,rfl,Below.refl _ _⟩
 | .fp (b:=b) (off:=off) (n:=n) (W:=W) h hlt hs hW,hE,hb,hd=>by
  obtain ⟨o,ho,h1,hw,hop⟩:=zH (Eqs.head hE);refine ⟨o,ho,h1,.inr ⟨hw,?_⟩⟩;have hx:=Eqs.head (Eqs.tail hE);have hk:=Eqs.head (Eqs.tail (Eqs.tail hE));have e3:=kI (w:=w) hk ((hb.block b hlt).trans h) hs;rw [hW] at e3;have e4:(Instr.loadAt (ldT (opo ops i)) (ev ρ (ldX (opo ops i)))).run P w=.ok (.agg W) w:=by rw [hx];exact e3
  have e2:(execOp (ev ρ) o).run P w=.ok (.value (.agg W)) w:=by simp only [execOp,hop,Sem.run_bind,e4,Result.andThen_ok];rfl
  rw [e2];exact ⟨default,rfl,Below.refl _ _⟩
 | .se j (C:=C) (C':=C') (off:=off) (v:=v) hs h,hE,hb,hd=>by
  obtain ⟨o,ho,h1,hw,hop⟩:=zH (Eqs.head hE);refine ⟨o,ho,by unfold zt;rw [ho];rfl,.inr ⟨hw,?_⟩⟩;have hj:=zjO (Eqs.head (Eqs.tail hE)) (Eqs.head (Eqs.tail (Eqs.tail hE)));have hE':=Eqs.tail (Eqs.tail hE);have hx:=Eqs.head (Eqs.tail hE');have hy:=Eqs.head (Eqs.tail (Eqs.tail hE'));have hi:=Eqs.head (Eqs.tail (Eqs.tail (Eqs.tail hE')));have hc:=Eqs.head (Eqs.tail (Eqs.tail (Eqs.tail (Eqs.tail hE'))));have hh:=hd j (by simp [itR]) _ hj;have h9:=us (P:=P) (w:=w) hi hc hh hs;rw [h] at h9;have e4:(Instr.storeAt (ldT (opo ops i)) (ev ρ (ldX (opo ops i))) (ev ρ (ldY (opo ops i)))).run P w=.ok () (w.setRow (nm bl j) C'):=by rw [hx,hy];exact h9
  have e2:(execOp (ev ρ) o).run P w=.ok .skip (w.setRow (nm bl j) C'):=by simp only [execOp,hop,Sem.run_bind,e4,Result.andThen_ok];rfl
  rw [e2];exact ⟨default,rfl,_,hj,D2.grownBy_setRow _ _ _,setRow_heap w _ _ _ _ _ hh⟩
 | .c (f:=f) (args:=args) (v:=v) h,hE,hb,hd=>by
  obtain ⟨o,ho,h1,hw,hr⟩:=zQ (congrFun (Eqs.head hE) w);refine ⟨o,ho,h1,.inr ⟨hw,?_⟩⟩;rw [hr];exact (h w).mono fun e w' ⟨he,hB⟩=>⟨v,he,default,rfl,hB⟩
 | .cp (f:=f) (args:=args) (v:=v) h rd hp,hE,hb,hd=>by
  obtain ⟨o,ho,h1,hw,hr⟩:=zQ (congrFun (Eqs.head hE) w);refine ⟨o,ho,h1,.inr ⟨hw,?_⟩⟩;rw [hr];exact (h w (hp w hb (Hd.of (Eqs.tail hE) hd))).mono fun e w' ⟨he,hB⟩=>⟨v,he,default,rfl,hB⟩
 | .o h,hE,hb,hd=>by
  obtain ⟨o,ho,h1,hw,hop⟩:=zH (Eqs.head hE);refine ⟨o,ho,h1,.inr ⟨hw,?_⟩⟩;rw [h ρ o w hop (Ins.of (Eqs.tail hE))];exact ⟨default,rfl,Below.refl _ _⟩
 | .oe h e,hE,hb,hd=>by
  obtain ⟨o,ho,h1,hw,hop⟩:=zH (Eqs.head hE);refine ⟨o,ho,h1,.inr ⟨hw,?_⟩⟩;rw [h ρ o w hop (Ins.of (Eqs.tail hE))];subst e;exact ⟨default,rfl,Below.refl _ _⟩
 | .g ins op rd val eff h,hE,hb,hd=>by
  obtain ⟨o,ho,h1,hw,hop⟩:=zH (Eqs.head hE);refine ⟨o,ho,h1,.inr ⟨hw,?_⟩⟩;obtain ⟨hi,hr⟩:=Eqs.both (Eqs.tail hE);have h9:=h ρ o w hop (Ins.of hi) (Hd.of hr hd) hb
  have conv: ∀ {v w'},(∃g:Gh,v=val g∧(match eff with
   | .no=>Below w.heap.size w w'
   | .new o=>Below w.heap.size w w'∧w.heap.size≤g.b∧w'.heap[g.b]? =some o
   | .turn j o=> ∃q,(rd.lookup j)=some q∧w.grownBy w' (some q.1)∧w'.heap[q.1]? =some o))→∃g,v=val g∧uA bl w w' g eff:=by
   rintro v w' ⟨g,hv,ha⟩;refine ⟨g,hv,?_⟩;cases eff with
   | no=>exact ha
   | new o=>exact ha
   | turn j o=>obtain ⟨q,hq,ha⟩:=ha;exact ⟨q,zfa hr hq,ha⟩
  generalize (execOp (ev ρ) o).run P w=r at h9;cases r with
  | halt h w'=>exact h9.elim
  | ok n w'=>
   cases n with
   | value v=>exact conv h9
   | skip=>exact conv h9
   | enter f' args=>exact Calls.mono h9 fun e w'' ⟨v,he,hh⟩=>⟨v,he,conv hh⟩
   | _=>exact h9.elim
 | .nw V C T,hE,hb,hd=>by
  obtain ⟨o,ho,h1,hw,hr⟩:=zQ (congrFun (Eqs.head hE) w);refine ⟨o,ho,h1,.inr ⟨hw,?_⟩⟩;rw [hr];exact ⟨{ b:=w.heap.size },rfl,(Below.refl _ _).alloc (Nat.le_refl _) _,Nat.le_refl _,heap_alloc_new w _⟩
 | .x rd h,hE,hb,hd=>by
  obtain ⟨o,ho,h1,hw,hop⟩:=zH (Eqs.head hE);refine ⟨o,ho,h1,.inr ⟨hw,?_⟩⟩;obtain ⟨hi,hr⟩:=Eqs.both (Eqs.tail hE);rw [h ρ o w hop (Ins.of hi) (Hd.of hr hd)];exact ⟨default,rfl,Below.refl _ _⟩
 | .w f,hE,hb,hd=>zcT (f (nm bl)) hE hb hd
end
end Go.Proofs.YtpghmdbjmigjlaaGreatDoor
namespace Go.Proofs.YtpghmdbjmigjlaaGreatDoor
open Go Go.RowKit
open D2 (Gh StE Closed Now edge Runs put1 setN)
set_option linter.unusedVariables false
def ap (bl:List (Nat×Obj))(g:Gh):Eff→List (Nat×Obj)
 | .no=>bl
 | .new o=>bl++ [(g.b,o)]
 | .turn j o=>bl.set j (nm bl j,o)
def shf (g:Nat→Gh):Nat→Gh:=fun j=>g (j+1)
def qr {P:Program}{B:Nat}{w0:World}(ops:Array Oper):List (It P B w0)→List Nat→Env→List (Nat×Obj)→(Nat→Gh)→Env×List (Nat×Obj)
 | it::r,i::is,ρ,bl,g=>qr ops r is (zm ρ (zt ops i) ((itR ops i ρ bl it).val (g 0))) (ap bl (g 0) (itR ops i ρ bl it).eff) (shf g)
 | _,_,ρ,bl,_=>(ρ,bl)
def qB {P:Program}{B:Nat}{w0:World}(N:Nat)(ops:Array Oper):List (It P B w0)→List Nat→Env→List (Nat×Obj)→(Nat→Gh)→List Eqn
 | [],_,_,_,_=>[]
 | _::_,[],_,_,_=>[⟨true,false⟩]
 | it::r,i::is,ρ,bl,g=>⟨dOK (zt ops i) N,true⟩::((itR ops i ρ bl it).eqs++qB N ops r is (zm ρ (zt ops i) ((itR ops i ρ bl it).val (g 0))) (ap bl (g 0) (itR ops i ρ bl it).eff) (shf g))
theorem zaT: ∀(l:List (Nat×Obj)),D2.pres (l.map fun e=>(true,e))=l
 | []=>rfl
 | e::l=>congrArg (e :: ·) (zaT l)
theorem zfb: ∀(l:List (Nat×Obj)) (x:Nat×Obj),D2.pres (l.map (fun e=>(true,e))++ [(false,x)])=l
 | [],x=>rfl
 | e::l,x=>congrArg (e :: ·) (zfb l x)
theorem zfc {bl:List (Nat×Obj)}{j:Nat}{e:Nat×Obj}(h:bl[j]? =some e):nm bl j=e.1:=by unfold nm;rw [h]
section
variable {P:Program}{N:Nat}{ops:Array Oper}{i:Nat}{ρ:Env}{w w' w0:World}{B:Nat}{bl:List (Nat×Obj)}{K:Env→World→Prop}
theorem St.after {g:Gh}{eff:Eff}(H:St B w0 w bl)(h:uA bl w w' g eff):St B w0 w' (ap bl g eff):=by
 cases eff with
 | no=>exact H.call h
 | new o=>
  obtain ⟨hb,hle,ho⟩:=h;have h1:=(StE.of H (bl.map (fun e=>(true,e))++ [(false,(0,o))]) (zfb _ _)).add hb bl.length hle ho;have h2:=h1.st;have e:(bl.map (fun e=>(true,e))++ [(false,(0,o))]).set bl.length (true,(g.b,o))=(bl++ [(g.b,o)]).map fun e=>(true,e):=by
   rw [List.set_append_right _ _ (by simp)];simp
  rw [e,zaT] at h2;exact h2
 | turn j o=>
  obtain ⟨e,he,hg,ho⟩:=h;have h1:=(StE.of H (bl.map (fun e=>(true,e))) (zaT _)).turn (w':=w') j (b:=e.1) (o:=e.2) (b':=e.1) (o':=o) (by simp [he]) hg (.inl rfl) ho;have h2:=h1.st;have e2:(bl.map (fun e=>(true,e))).set j (true,(e.1,o))=(bl.set j (e.1,o)).map fun e=>(true,e):=by
   rw [List.map_set]
  rw [e2,zaT] at h2;show St B w0 w' (bl.set j (nm bl j,o));rw [zfc he];exact h2
theorem WPo.runs {o:Oper}{S:Value→World→Prop}(ho:ops[i]? =some o)(hw:Region.wanted o (zC ops ρ)=true)(hd:dOK o.dst N=true)(h:Runs P S ((execOp (ev ρ) o).run P w))(hS: ∀v w',S v w'→K (zm ρ o.dst v) w'):WPo P N ops i K ρ w:=by
 refine WPo.run ho hw fun a ha=>?_;generalize (execOp (ev ρ) o).run P w=r at h;cases r with
 | halt h1 w'=>exact h.elim
 | ok n w'=>
  cases n with
  | value v=>rw [Oper.upon_value];exact ⟨_,ha.put _ (zM hd) v,hS _ _ h⟩
  | skip=>rw [Oper.upon_skip];exact ⟨_,ha.put _ (zM hd) undef,hS _ _ h⟩
  | enter f' args=>
   rw [Oper.upon_enter];refine Calls.mono h ?_;rintro e w'' ⟨v,rfl,hh⟩;exact ⟨_,ha.put _ (zM hd) v,hS _ _ hh⟩
  | _=>exact h.elim
theorem zjQ (it:It P B w0)(H:St B w0 w bl)(hd:dOK (zt ops i) N=true)(hE:Eqs (itR ops i ρ bl it).eqs)
 (k: ∀g w',St B w0 w' (ap bl g (itR ops i ρ bl it).eff)→K (zm ρ (zt ops i) ((itR ops i ρ bl it).val g)) w'):WPo P N ops i K ρ w:=by
 obtain ⟨o,ho,hdst,h⟩:=zcT it hE H.below (fun j _ e he=>H.get j he);rcases h with ⟨hw,hv,he⟩|⟨hw,hr⟩
 ·refine ze0 (zt ops i) (by unfold opn;rw [ho];simp [hdst,hw]) hd ?_;have:=k default w (by rw [he];exact H);rw [hv] at this;exact this
 ·refine WPo.runs ho hw (by rw [hdst];exact hd) hr ?_;rintro v w' ⟨g,rfl,ha⟩;rw [hdst];exact k g w' (H.after ha)
theorem vE: ∀(its:List (It P B w0)) (l:List Nat) (ρ:Env) (bl:List (Nat×Obj)) (w:World),St B w0 w bl→(∀g,Eqs (qB N ops its l ρ bl g))→
 (∀g w',St B w0 w' (qr ops its l ρ bl g).2→WPs P N ops K (l.drop its.length) (qr ops its l ρ bl g).1 w')→WPs P N ops K l ρ w
 | [],l,ρ,bl,w,H,_,k=>by
  have:=k (fun _=>default) w;cases l<;>exact this H
 | it::r,[],ρ,bl,w,H,hE,k=>by
  have:=Eqs.head (hE fun _=>default);cases this
 | it::r,i::is,ρ,bl,w,H,hE,k=>by
  have h0:=hE fun _=>default;refine zjQ it H (Eqs.head h0) (Eqs.both (Eqs.tail h0)).1 fun g w' H'=>?_;exact vE r is _ _ w' H' (fun g'=>(Eqs.both (Eqs.tail (hE fun j=>match j with | 0=>g | j+1=>g' j))).2)
   fun g' w'' H''=>k (fun j=>match j with | 0=>g | j+1=>g' j) w'' H''
variable {Q:Exit→Env→World→Prop}{c:Code}
theorem rp {l:List Nat}(its:List (It P B w0))(H:St B w0 w bl)(h:(fun g=>(qB N ops its l ρ bl g).map Eqn.lf)=fun g=>(qB N ops its l ρ bl g).map Eqn.rt)
 (k: ∀g w',St B w0 w' (qr ops its l ρ bl g).2→WPs P N ops K (l.drop its.length) (qr ops its l ρ bl g).1 w'):WPs P N ops K l ρ w:=
 vE its l ρ bl w H (fun g=>congrFun h g) k
def srK (c:Code)(n:Nat):Bool:=match c with
 | .region _ ops false=>Nat.beq ops.size n
 | _=>false
theorem zaU {n:Nat}(h:srK c n=true):∃id,c=.region id (zg c) false∧List.range (zg c).size=List.range n:=by
 cases c with
 | region id ops d=>
  cases d with
  | true=>cases h
  | false=>exact ⟨id,rfl,congrArg List.range (Nat.eq_of_beq_eq_true h)⟩
 | _=>cases h
theorem rS (its:List (It P B w0))(H:St B w0 w bl)
 (h:(fun g=>(⟨yx c&&srK (zq c) its.length,true⟩::qB N (zg (zq c)) its (List.range its.length) ρ bl g).map Eqn.lf)=fun g=>(⟨yx c&&srK (zq c) its.length,true⟩::qB N (zg (zq c)) its (List.range its.length) ρ bl g).map Eqn.rt)
 (k: ∀g w',St B w0 w' (qr (zg (zq c)) its (List.range its.length) ρ bl g).2→WP P N (zw c) Q (qr (zg (zq c)) its (List.range its.length) ρ bl g).1 w'):WP P N c Q ρ w:=by
 have h0:(yx c&&srK (zq c) its.length)=true:=Eqs.head (congrFun h fun _=>default);rw [Bool.and_eq_true] at h0;obtain ⟨id,he,hl⟩:=zaU h0.2;refine zb h0.1 ?_;rw [he];refine WP.region (List.range its.length) hl ?_;have hd:(List.range its.length).drop its.length=[]:=by simp
 exact vE its _ ρ bl w H (fun g=>Eqs.tail (congrFun h g)) fun g w' H'=>by rw [hd];exact k g w' H'
theorem rL (its:List (It P B w0))(H:St B w0 w bl)
 (h:(fun g=>(⟨srK c its.length,true⟩::qB N (zg c) its (List.range its.length) ρ bl g).map Eqn.lf)=fun g=>(⟨srK c its.length,true⟩::qB N (zg c) its (List.range its.length) ρ bl g).map Eqn.rt)
 (k: ∀g w',St B w0 w' (qr (zg c) its (List.range its.length) ρ bl g).2→Q .normal (qr (zg c) its (List.range its.length) ρ bl g).1 w'):WP P N c Q ρ w:=by
 obtain ⟨id,he,hl⟩:=zaU (Eqs.head (congrFun h fun _=>default));rw [he];refine WP.region (List.range its.length) hl ?_;have hd:(List.range its.length).drop its.length=[]:=by simp
 exact vE its _ ρ bl w H (fun g=>Eqs.tail (congrFun h g)) fun g w' H'=>by rw [hd];exact k g w' H'
def zfd (P:Program)(t:TypeId)(C:Array Value):Bool:=match aggSize P t with
 | some n=>Nat.beq n C.size
 | none=>oneCell P t&&Nat.blt 0 C.size
def rs1 (P:Program)(t:TypeId)(C:Array Value):Value:=match aggSize P t with
 | some _=>.agg C
 | none=>C.getD 0 undef
def rsv (P:Program)(ρ:Env)(bl:List (Nat×Obj)):List ResultVar→List Nat→List Value
 | .tmp t::r,js=>ρ t::rsv P ρ bl r js
 | .cell t ty::r,j::js=>rs1 P ty (cellsOf (ob bl j))::rsv P ρ bl r js
 | _,_=>[]
def rse (P:Program)(ρ:Env)(bl:List (Nat×Obj)):List ResultVar→List Nat→List Eqn
 | .tmp t::r,js=>rse P ρ bl r js
 | .cell t ty::r,j::js=>⟨ρ t,.pointer (some ⟨nm bl j,0,none⟩)⟩::⟨isC bl j,true⟩::⟨zfd P ty (cellsOf (ob bl j)),true⟩::rse P ρ bl r js
 | [],_=>[]
 | .cell _ _::_,[]=>[⟨true,false⟩]
theorem Res.of (H:St B w0 w bl): ∀ {rs:List ResultVar} {js:List Nat},Eqs (rse P ρ bl rs js)→Res P w ρ rs (rsv P ρ bl rs js)
 | [],js,_=>by cases js<;>exact .nil
 | .tmp t::r,js,h=>.tmp _ rfl (Res.of H (rs:=r) (js:=js) h)
 | .cell t ty::r,[],h=>by have:=Eqs.head h;cases this
 | .cell t ty::r,j::js,h=>by
  have h1:=Eqs.head h;have h2:=zcR (Eqs.head (Eqs.tail h));have h3:=Eqs.head (Eqs.tail (Eqs.tail h));have h4:=Res.of H (rs:=r) (js:=js) (Eqs.tail (Eqs.tail (Eqs.tail h)));have hh:=H.get j h2;show Res P w ρ (.cell t ty::r) (rs1 P ty (cellsOf (ob bl j))::rsv P ρ bl r js);unfold zfd at h3;unfold rs1;cases ht:aggSize P ty with
  | some n=>
   simp only [ht] at h3 ⊢;exact .agg _ _ _ h1 hh (by rw [ht,Nat.eq_of_beq_eq_true h3]) h4
  | none=>
   simp only [ht,Bool.and_eq_true] at h3 ⊢;have hlt:0<(cellsOf (ob bl j)).size:=Nat.le_of_ble_eq_true h3.2;exact .one _ _ _ _ h1 hh h3.1 (by simp [Array.getD_eq_getD_getElem?,hlt]) h4
theorem qg (t:Nat){v v':Value}(e:v=v')(h:ρ t=v)(k:WP P N c Q (upd ρ t v') w):WP P N c Q ρ w:=by
 rwa [xS (h.trans e)] at k
theorem yi (t:Nat){l:List Nat}{v v':Value}(e:v=v')(h:ρ t=v)(k:WPs P N ops K l (upd ρ t v') w):WPs P N ops K l ρ w:=by
 rwa [xS (h.trans e)] at k
theorem ye (l:List Nat)(k: ∀ρ0,WP P N c Q (yV (l.map fun t=>(t,ρ t)) ρ0) w):WP P N c Q ρ w:=by
 have hh: ∀l:List Nat,vC ρ (l.map fun t=>(t,ρ t)):=fun l=>by
  induction l with
  | nil=>trivial
  | cons t l ih=>exact ⟨rfl,ih⟩
 have:=k ρ
 rwa [uy (hh l)] at this
theorem St.keep (H:St B w0 w bl):St B w0 w ((List.range bl.length).map fun j=>(nm bl j,ob bl j)):=by
 have e:(List.range bl.length).map (fun j=>(nm bl j,ob bl j))=bl:=by
  apply List.ext_getElem?;intro j;rw [List.getElem?_map];by_cases h:j<bl.length
  ·rw [List.getElem?_range h];simp [nm,ob,h]
  ·rw [List.getElem?_eq_none (by simpa using h),List.getElem?_eq_none (Nat.le_of_not_lt h)];rfl
 rw [e];exact H
theorem St.as {l:List (Nat×Obj)}(H:St B w0 w bl)(h:bl=l):St B w0 w l:=h▸H
theorem rR (rs:List ResultVar)(js:List Nat)(v:Value)(H:St B w0 w bl)
 (h:(⟨jU c,true⟩::⟨Q .ret,yJ P rs (fun v' w'=>v'=v∧Below B w0 w') .ret⟩::⟨jI (rsv P ρ bl rs js),v⟩::rse P ρ bl rs js).map Eqn.lf=(⟨jU c,true⟩::⟨Q .ret,yJ P rs (fun v' w'=>v'=v∧Below B w0 w') .ret⟩::⟨jI (rsv P ρ bl rs js),v⟩::rse P ρ bl rs js).map Eqn.rt):WP P N c Q ρ w:=by
 have h1:Q .ret=yJ P rs (fun v' w'=>v'=v∧Below B w0 w') .ret:=Eqs.head (Eqs.tail h);refine zn (Eqs.head h) ?_;rw [h1];exact ⟨_,Res.of H (Eqs.tail (Eqs.tail (Eqs.tail h))),Eqs.head (Eqs.tail (Eqs.tail h)),H.below⟩
theorem rRe (rs:List ResultVar)(js:List Nat){v v':Value}(H:St B w0 w bl)(e:v=v')
 (h:(⟨jU c,true⟩::⟨Q .ret,yJ P rs (fun x w'=>x=v'∧Below B w0 w') .ret⟩::⟨jI (rsv P ρ bl rs js),v⟩::rse P ρ bl rs js).map Eqn.lf=(⟨jU c,true⟩::⟨Q .ret,yJ P rs (fun x w'=>x=v'∧Below B w0 w') .ret⟩::⟨jI (rsv P ρ bl rs js),v⟩::rse P ρ bl rs js).map Eqn.rt):WP P N c Q ρ w:=by
 subst e;exact rR rs js v H h
theorem rRr (rs:List ResultVar)(js:List Nat)(v:Value)(R:Value→World→Prop)(H:St B w0 w bl)
 (h:(⟨jU c,true⟩::⟨Q .ret,yJ P rs R .ret⟩::⟨jI (rsv P ρ bl rs js),v⟩::rse P ρ bl rs js).map Eqn.lf=(⟨jU c,true⟩::⟨Q .ret,yJ P rs R .ret⟩::⟨jI (rsv P ρ bl rs js),v⟩::rse P ρ bl rs js).map Eqn.rt)
 (hR:R v w):WP P N c Q ρ w:=by
 have h1:Q .ret=yJ P rs R .ret:=Eqs.head (Eqs.tail h);refine zn (Eqs.head h) ?_;rw [h1];refine ⟨_,Res.of H (Eqs.tail (Eqs.tail (Eqs.tail h))),?_⟩;have e:jI (rsv P ρ bl rs js)=v:=Eqs.head (Eqs.tail (Eqs.tail h));rw [e];exact hR
end
end Go.Proofs.YtpghmdbjmigjlaaGreatDoor
namespace Go.Proofs.YtpghmdbjmigjlaaGreatDoor.D3
open Go Go.RowKit
open D2 (Gh StE Closed Now edge Runs put1 setN ran opOK opTmps notSelect nodupO nodupO_inj drawOK put1_or put1_self put1_of ran_set)
set_option linter.unusedVariables false
def envs (ρ:Env)(D:Nat→Option Nat)(V:Nat→Value):Nat→Env
 | 0=>ρ
 | i+1=>zm (envs ρ D V i) (D i) (V i)
theorem zfe {ρ:Env}{t:Nat}{v:Value} :zm ρ (some t) v t=v:=by
 show (bif Nat.beq t t then v else _)=v;rw [Nat.beq_refl];rfl
theorem zcU {ρ:Env}{d:Option Nat}{t:Nat}{v:Value}(h:d≠some t):zm ρ d v t=ρ t:=by
 cases d with
 | none=>rfl
 | some k=>
  have hne:Nat.beq t k=false:=by
   cases hb:Nat.beq t k with
   | false=>rfl
   | true=>exact absurd (by rw [Nat.eq_of_beq_eq_true hb]) h
  show (bif Nat.beq t k then v else ρ t)=ρ t;rw [hne];rfl
theorem zcV {ρ:Env}{D:Nat→Option Nat}{V:Nat→Value}{t:Nat} : ∀ {i:Nat},(∀j,j<i→D j≠some t)→envs ρ D V i t=ρ t
 | 0,_=>rfl
 | i+1,h=>by
  show zm (envs ρ D V i) (D i) (V i) t=ρ t;rw [zcU (h i (Nat.lt_succ_self i))];exact zcV fun j hj=>h j (Nat.lt_succ_of_lt hj)
theorem zcW {ρ:Env}{D:Nat→Option Nat}{V:Nat→Value}{t n:Nat}(hinj: ∀i j x,i<n→j<n→D i=some x→D j=some x→i=j): ∀ {i j:Nat},i≤n→j<i→D j=some t→envs ρ D V i t=V j
 | i+1,j,hi,hj,hd=>by
  show zm (envs ρ D V i) (D i) (V i) t=V j;by_cases h:D i=some t
  ·have:i=j:=hinj i j t (by omega) (by omega) h hd;subst this;rw [h];exact zfe
  ·rw [zcU h];refine zcW hinj (Nat.le_of_succ_le hi) ?_ hd;rcases Nat.lt_or_ge j i with h1 | h1
   ·exact h1
   ·have:j=i:=by omega
    subst this;exact absurd hd h
section
variable {P:Program}{N:Nat}{ops:Array Oper}{Q:Exit→Env→World→Prop}{K:Env→World→Prop}{ρ:Env}{w:World}{V:(Nat→Gh)→Nat→Value}{pre:(Nat→Bool)→(Nat→Gh)→World→Prop}
def Gives (P:Program)(ops:Array Oper)(ρ:Env)(V:(Nat→Gh)→Nat→Value)(pre:(Nat→Bool)→(Nat→Gh)→World→Prop)(i:Nat):Prop:=
 ∀L g w,pre L g w→D2.Now ops i L→∃o,ops[i]? =some o∧
  ((Region.wanted o (zC ops (envs ρ (zt ops) (V g) i))=false∧V g i=undef∧pre (D2.put1 L i) g w)∨
   (Region.wanted o (zC ops (envs ρ (zt ops) (V g) i))=true∧Runs P (fun v w'=> ∃b,v=V (D2.setN g i b) i∧pre (D2.put1 L i) (D2.setN g i b) w') ((execOp (ev (envs ρ (zt ops) (V g) i)) o).run P w)))
def Dep (ops:Array Oper)(V:(Nat→Gh)→Nat→Value):Prop:=
 ∀(L:Nat→Bool) (i k:Nat) (g:Nat→Gh) (b:Gh),D2.Closed ops L→L i=false→L k=true→k<ops.size→V (D2.setN g i b) k=V g k
def Mid (ops:Array Oper)(ρ:Env)(V:(Nat→Gh)→Nat→Value)(g:Nat→Gh)(L:Nat→Bool)(ρ':Env):Prop:=
 ∀t,(∀i,i<ops.size→L i=true→zt ops i=some t→ρ' t=V g i)∧((∀i,i<ops.size→L i=true→zt ops i≠some t)→ρ' t=ρ t)
abbrev dsts (ops:Array Oper):List (Option Nat):=ops.toList.map (·.dst)
theorem vF {i:Nat}(h:i<ops.size):(dsts ops)[i]? =some (zt ops i):=by
 unfold dsts zt;simp [h]
theorem zjR {i:Nat}{d:Option Nat}(h:(dsts ops)[i]? =some d):i<ops.size∧zt ops i=d:=by
 have h1:i<ops.size:=by
  have:=(List.getElem?_eq_some_iff.1 h).1
  simpa [dsts] using this
 rw [vF h1] at h;exact ⟨h1,Option.some.inj h⟩
theorem zff (hnd:D2.nodupO (dsts ops)=true): ∀i j x,i<ops.size→j<ops.size→zt ops i=some x→zt ops j=some x→i=j:=fun i j x hi hj h1 h2=>
 D2.nodupO_inj hnd (by rw [vF hi,h1]) (by rw [vF hj,h2])
theorem draw_step (hok:D2.drawOK ops (dsts ops) N=true)(hg: ∀i,i<ops.size→Gives P ops ρ V pre i)(hdep:Dep ops V){i:Nat}{L:Array Bool}(hi:i∈Region.ready .any ops L)
 {a:Act} {ρ':Env} {g:Nat→Gh} (ha:Rep a ρ' N) (hm:Mid ops ρ V g (D2.ran L) ρ') (hL:L.size=ops.size) (hcl:D2.Closed ops (D2.ran L)) (hp:pre (D2.ran L) g w)
 {QQ:Exit→Act→World→Prop} {KK:Act→World→Prop} (hK: ∀a' ρ'' g' w',Rep a' ρ'' N→Mid ops ρ V g' (D2.put1 (D2.ran L) i) ρ''→D2.Closed ops (D2.put1 (D2.ran L) i)→pre (D2.put1 (D2.ran L) i) g' w'→KK a' w'):
 wpOp P ops QQ i KK a w:=by
 simp only [D2.drawOK,Bool.and_eq_true,List.all_eq_true,beq_iff_eq] at hok;obtain ⟨⟨⟨hsz,hnd⟩,hN⟩,hops⟩:=hok;obtain ⟨hun,o,ho,hready⟩:=mem_ready.1 hi;have hilt:i<ops.size:=(Array.getElem?_eq_some_iff.1 ho).1;have hinj:=zff hnd
 have hoi:D2.opOK ops (dsts ops) i o=true:=hops (o,i) (by
  rw [List.mem_iff_getElem?];refine ⟨i,?_⟩;rw [List.getElem?_zipIdx]
  simp [ho])
 simp only [D2.opOK,Bool.and_eq_true] at hoi;obtain ⟨⟨⟨⟨hdst,hsel⟩,hback⟩,hreads⟩,hguard⟩:=hoi;have hd:o.dst=zt ops i:=by unfold zt;rw [ho];rfl
 have hdN: ∀k,zt ops i=some k→k<N:=zM (hN (zt ops i) (List.mem_of_getElem? (vF hilt)));have hunL:D2.ran L i=false:=by
  have hlt:i<L.size:=by omega
  unfold D2.ran;simpa [hlt] using hun
 have hcl':D2.Closed ops (D2.put1 (D2.ran L) i):=by
  intro j oj hj hoj e he hb;rcases D2.put1_or hj with rfl | hj
  ·rw [ho] at hoj;obtain rfl:=Option.some.inj hoj;exact D2.put1_of (hready e he hb)
  ·exact D2.put1_of (hcl j oj hj hoj e he hb)
 have lookB: ∀t j,j<i→D2.ran L j=true→zt ops j=some t→ρ' t=envs ρ (zt ops) (V g) i t:=by
  intro t j hji hLj hdt;rw [zcW hinj (Nat.le_of_lt hilt) hji hdt];exact (hm t).1 j (by omega) hLj hdt
 have lookA: ∀t,(∀j:Nat,j<ops.size→zt ops j=some t→D2.ran L j=false)→(∀j:Nat,j<i→zt ops j≠some t)→ρ' t=envs ρ (zt ops) (V g) i t:=by
  intro t hno hnb;rw [zcV hnb];exact (hm t).2 fun j hj hLj heq=>by rw [hno j hj heq] at hLj;cases hLj
 have hbk: ∀e∈o.after.toList,Region.binds .any e=true→e.on<i:=fun e he hb=>by
  have:=List.all_eq_true.1 hback e he;rw [hb] at this;simp only [Bool.not_true,Bool.false_or] at this;exact Nat.le_of_ble_eq_true this
 have hops': ∀x∈o.op.operands,ev ρ' x=ev (envs ρ (zt ops) (V g) i) x:=by
  intro x hx;cases x with
  | tmp t=>
   have hmem:t∈D2.opTmps o:=List.mem_filterMap.2 ⟨.tmp t,by simpa using hx,rfl⟩;have:=List.all_eq_true.1 hreads t hmem;simp only [Bool.or_eq_true,Bool.not_eq_true'] at this;rcases this with (hc | hb) | hlater
   ·have hnot: ∀j:Nat,j<ops.size→zt ops j≠some t:=fun j hj hq=>by
     have h1:some t∈dsts ops:=List.mem_of_getElem? (by rw [vF hj,hq]);rw [←Bool.not_eq_true,List.contains_iff_mem] at hc;exact hc h1
    exact lookA t (fun j hj hq=>absurd hq (hnot j hj)) (fun j hj=>hnot j (by omega))
   ·simp only [List.any_eq_true,Bool.and_eq_true,beq_iff_eq] at hb;obtain ⟨e,he,hbi,hdt⟩:=hb;exact lookB t e.on (hbk e he hbi) (hready e (by simpa using he) hbi) (zjR hdt).2
   ·have hl: ∀(j:Nat) oj,ops[j]? =some oj→zt ops j=some t→ ¬j<i∧∃e∈oj.after.toList,Region.binds .any e=true∧e.on=i:=fun j oj hoj hdj=>by
     have hjlt:j<ops.size:=(Array.getElem?_eq_some_iff.1 hoj).1
     have h1:=List.all_eq_true.1 hlater (oj,j) (by
      rw [List.mem_iff_getElem?];refine ⟨j,?_⟩;rw [List.getElem?_zipIdx]
      simp [hoj])
     simp only [vF hjlt,hdj,beq_self_eq_true,Bool.not_true,Bool.false_or,Bool.and_eq_true,List.any_eq_true,Bool.not_eq_true'] at h1;obtain ⟨h2,e,he,hb,hon⟩:=h1;refine ⟨fun hlt=>?_,e,he,hb,Nat.eq_of_beq_eq_true hon⟩;have h3:Nat.blt j i=true:=Nat.ble_eq_true_of_le hlt;rw [h3] at h2;cases h2
    refine lookA t (fun j hj hq=>?_) (fun j hji hq=>?_)
    ·obtain ⟨_,e,he,hb,hon⟩:=hl j _ (Array.getElem?_eq_getElem hj) hq;cases hLj:D2.ran L j with
     | false=>rfl
     | true=>
      have:=hcl j _ hLj (Array.getElem?_eq_getElem hj) e (by simpa using he) hb;rw [hon,hunL] at this;cases this
    ·have hj:j<ops.size:=by omega
     exact (hl j _ (Array.getElem?_eq_getElem hj) hq).1 hji
  | _=>rfl
 have hexec:execOp (ev ρ') o=execOp (ev (envs ρ (zt ops) (V g) i)) o:=execOp_congr o (fun cs b he=>by simp [D2.notSelect,he] at hsel) hops';have hwant:Region.wanted o (zC ops ρ')=Region.wanted o (zC ops (envs ρ (zt ops) (V g) i)):=by
  unfold Region.wanted;cases hgd:o.guard with
  | none=>rfl
  | some gd=>
   obtain ⟨j,b⟩:=gd;have:zC ops ρ' j=zC ops (envs ρ (zt ops) (V g) i) j:=by
    unfold zC;cases hj:(ops[j]?).bind (·.dst) with
    | none=>rfl
    | some t=>
     simp only [hgd,List.any_eq_true,Bool.and_eq_true,beq_iff_eq] at hguard;obtain ⟨e,he,hb,hon⟩:=hguard;have hlk:=lookB t j (hon▸hbk e he hb) (hon▸hready e (by simpa using he) hb) hj;simp only [hlk]
   simp only [this]
 have hmid: ∀b,Mid ops ρ V (D2.setN g i b) (D2.put1 (D2.ran L) i) (zm ρ' (zt ops i) (V (D2.setN g i b) i)):=by
  intro b t;by_cases htd:zt ops i=some t
  ·rw [htd];refine ⟨fun j hj hLj hdj=>?_,fun hn=>absurd htd (hn i hilt (D2.put1_self _ _))⟩;have hji:j=i:=hinj j i t hj hilt hdj htd;subst hji;exact zfe
  ·rw [zcU htd];refine ⟨fun j hj hLj hdj=>?_,fun hn=>(hm t).2 fun j hj hLj=>hn j hj (D2.put1_of hLj)⟩;have hji:j≠i:=by rintro rfl;exact htd hdj
   have hLj':D2.ran L j=true:=(D2.put1_or hLj).resolve_left hji;rw [hdep (D2.ran L) i j g b hcl hunL hLj' hj];exact (hm t).1 j hj hLj' hdj
 have hmid0:V g i=undef→Mid ops ρ V g (D2.put1 (D2.ran L) i) (zm ρ' (zt ops i) undef):=fun hu=>by
  have:=hmid (g i);rw [D2.setN_self,hu] at this;exact this
 obtain ⟨o',ho',hrun⟩:=hg i hilt (D2.ran L) g w hp ⟨hunL,(fun o1 ho1 e he hb=>by
  rw [ho] at ho1;obtain rfl:=Option.some.inj ho1;exact hready e he hb),hcl⟩
 have:o'=o:=by rw [ho] at ho';exact (Option.some.inj ho').symm
 subst this;have hput: ∀v,Rep (a.put o'.dst v) (zm ρ' (zt ops i) v) N:=fun v=>by
  have:=ha.put o'.dst (fun k hk=>hdN k (by rw [←hd,hk])) v
  rwa [hd] at this ⊢
 unfold wpOp;simp only [ho,jg ha,hwant];rcases hrun with ⟨hwf,hV,hp'⟩ | ⟨hwt,hR⟩
 ·simp only [hwf,Bool.false_eq_true,if_false];exact hK _ _ g _ (hput undef) (hmid0 hV) hcl' hp'
 ·simp only [hwt,if_true];refine .inl ?_;unfold Oper.wp;rw [ha.eval,hexec];generalize (execOp (ev (envs ρ (zt ops) (V g) i)) o').run P w=r at hR;cases r with
  | halt h w'=>exact hR.elim
  | ok n w'=>
   cases n with
   | value v=>obtain ⟨b,rfl,hb⟩:=hR;exact hK _ _ _ _ (hput _) (hmid b) hcl' hb
   | skip=>obtain ⟨b,hu,hb⟩:=hR;exact hK _ _ _ _ (by have:=hput undef;rwa [hu] at this ⊢) (hmid b) hcl' hb
   | enter f' args=>
    refine Calls.mono hR fun e w'' he=>?_;obtain ⟨v,rfl,b,rfl,hb⟩:=he;exact hK _ _ _ _ (hput _) (hmid b) hcl' hb
   | _=>exact hR.elim
theorem draw_any (hok:D2.drawOK ops (dsts ops) N=true)(hg: ∀i,i<ops.size→Gives P ops ρ V pre i)(hdep:Dep ops V)
 (hfin: ∀L g w',(∀i,i<ops.size→L i=true)→pre L g w'→Q .normal (envs ρ (zt ops) (V g) ops.size) w'):
 ∀(fuel:Nat) (L:Array Bool),L.size=ops.size→(L.toList.countP (! ·))≤fuel→ ∀(a:Act) (ρ':Env) (g:Nat→Gh) (w:World),Rep a ρ' N→Mid ops ρ V g (D2.ran L) ρ'→D2.Closed ops (D2.ran L)→pre (D2.ran L) g w→
  wpAny P .any ops (lift N Q) fuel L a w:=by
 have hdone: ∀(L:Array Bool),L.size=ops.size→Region.ready .any ops L=[]→ ∀(a:Act) (ρ':Env) (g:Nat→Gh) (w:World),Rep a ρ' N→Mid ops ρ V g (D2.ran L) ρ'→pre (D2.ran L) g w→lift N Q .normal a w:=by
  intro L hL hr a ρ' g w ha hm hp;have hok':=hok;simp only [D2.drawOK,Bool.and_eq_true,List.all_eq_true,beq_iff_eq] at hok';obtain ⟨⟨⟨hsz,hnd⟩,hN⟩,hops⟩:=hok';have hall: ∀i,i<ops.size→D2.ran L i=true:=by
   intro i
   induction i using Nat.strongRecOn with
   | _ i ih=>
    intro hi;cases hb:D2.ran L i with
    | true=>rfl
    | false=>
     have hmem:i∈Region.ready .any ops L:=by
      refine mem_ready.2 ⟨?_,ops[i],Array.getElem?_eq_getElem hi,fun e he hbd=>?_⟩
      ·have hlt:i<L.size:=by omega
       unfold D2.ran at hb;simp [hlt] at hb ⊢;exact hb
      ·have hoi:D2.opOK ops (dsts ops) i ops[i]=true:=hops (ops[i],i) (by
        rw [List.mem_iff_getElem?];refine ⟨i,?_⟩;rw [List.getElem?_zipIdx]
        simp [hi])
       simp only [D2.opOK,Bool.and_eq_true] at hoi;have:=List.all_eq_true.1 hoi.1.1.2 e (by simpa using he);rw [hbd] at this;have hlt:e.on<i:=Nat.le_of_ble_eq_true this;exact ih e.on hlt (by omega)
     rw [hr] at hmem;cases hmem
  have heq:ρ'=envs ρ (zt ops) (V g) ops.size:=by
   funext t;by_cases ht:∃i,i<ops.size∧zt ops i=some t
   ·obtain ⟨i,hi,hit⟩:=ht;rw [zcW (zff hnd) (Nat.le_refl _) hi hit];exact (hm t).1 i hi (hall i hi) hit
   ·rw [zcV fun j hj hq=>ht ⟨j,hj,hq⟩];exact (hm t).2 fun j hj _ hq=>ht ⟨j,hj,hq⟩
  exact ⟨_,ha,heq▸hfin (D2.ran L) g w hall hp⟩
 intro fuel
 induction fuel with
 | zero=>
  intro L hL hc a ρ' g w ha hm hcl hp;have hr:Region.ready .any ops L=[]:=by
   cases hr:Region.ready .any ops L with
   | nil=>rfl
   | cons i r=>
    have hi:i∈Region.ready .any ops L:=by rw [hr];exact List.mem_cons_self
    obtain ⟨hun,o,ho,_⟩:=mem_ready.1 hi;have hlt:i<L.size:=by rw [hL];exact (Array.getElem?_eq_some_iff.1 ho).1
    have:L.toList.countP (! ·)=0:=by omega
    rw [List.countP_eq_zero] at this;have h1:=this L[i] (by simp);simp [hlt] at hun h1;rw [hun] at h1;cases h1
  exact ⟨hr,hdone L hL hr a ρ' g w ha hm hp⟩
 | succ fuel ih=>
  intro L hL hc a ρ' g w ha hm hcl hp;refine ⟨fun hr=>hdone L hL hr a ρ' g w ha hm hp,fun i hi=>?_⟩;obtain ⟨hun,o,ho,_⟩:=mem_ready.1 hi;have hlt:i<L.size:=by rw [hL];exact (Array.getElem?_eq_some_iff.1 ho).1
  refine draw_step hok hg hdep hi ha hm hL hcl hp fun a' ρ'' g' w' ha' hm' hcl' hp'=>ih (L.setIfInBounds i true) (by simpa using hL) ?_ a' ρ'' g' w' ha' (by rw [D2.ran_set hlt];exact hm') (by rw [D2.ran_set hlt];exact hcl') (by rw [D2.ran_set hlt];exact hp');have hf:L[i]=false:=by simpa [hlt] using hun
  have hc2:(L.setIfInBounds i true).toList.countP (! ·)+1=L.toList.countP (! ·):=by
   rw [Array.toList_setIfInBounds];have hl:i<L.toList.length:=by simpa using hlt
   have hfl:L.toList[i]=false:=by simpa using hf
   have hpos:0<L.toList.countP (! ·):=List.countP_pos_iff.2 ⟨_,List.getElem_mem hl,by rw [hfl];rfl⟩;have hset:=List.countP_set (p:=fun b:Bool=> !b) (l:=L.toList) (i:=i) (a:=true) hl;rw [hfl] at hset;simp only [Bool.not_true,Bool.false_eq_true,if_false,Bool.not_false,if_true] at hset;omega
  omega
def AnyR (P:Program)(N:Nat)(ops:Array Oper)(Q:Exit→Env→World→Prop)(ρ:Env)(w:World):Prop:=
 ∀a,Rep a ρ N→wpAny P .any ops (lift N Q) ops.size (Array.replicate ops.size false) a { w with drawn:=w.drawn+1 }
theorem AnyR.wp {id:Nat}(hm:P.follows .mixedOrders=true)(h:AnyR P N ops Q ρ w):WP P N (.region id ops true) Q ρ w:=fun a ha=>wp_region_any hm (h a ha)
theorem any_draw (hok:D2.drawOK ops (dsts ops) N=true)(hp:pre (fun _=>false) (fun _=>default) w.drew)(hg: ∀i,i<ops.size→Gives P ops ρ V pre i)(hdep:Dep ops V)
 (hfin: ∀L g w',(∀i,i<ops.size→L i=true)→pre L g w'→Q .normal (envs ρ (zt ops) (V g) ops.size) w'):AnyR P N ops Q ρ w:=fun a ha=>
 have hno:D2.ran (Array.replicate ops.size false)=fun _=>false:=funext fun i=>by
  show (Array.replicate ops.size false).getD i false=false;simp only [Array.getD_eq_getD_getElem?,Array.getElem?_replicate];split<;>rfl
 draw_any hok hg hdep hfin ops.size _ (by simp) (by have:= @List.countP_le_length Bool (! ·) (List.replicate ops.size false);simpa using this) a ρ (fun _=>default) _ ha
  (fun t=>⟨fun i hi h _=>(by rw [hno] at h;cases h),fun _=>rfl⟩) (fun j o hj=>(by rw [hno] at hj;cases hj)) (by rw [hno];exact hp)
end
end Go.Proofs.YtpghmdbjmigjlaaGreatDoor.D3
namespace Go.Proofs.YtpghmdbjmigjlaaGreatDoor
open Go Go.RowKit
open D2 (Gh StE edge)
set_option linter.unusedVariables false
inductive Reach (ops:Array Oper):Nat→Nat→Prop
 | one {i j:Nat} (h:edge ops i j=true):Reach ops i j
 | step {i k j:Nat} (h:Reach ops i k) (e:edge ops k j=true):Reach ops i j
theorem Reach.yes {ops:Array Oper}{L:Nat→Bool}(hc:D2.Closed ops L){i j:Nat}(h:Reach ops i j):L j=true→L i=true:=by
 induction h with
 | one h=>exact fun hj=>hc.yes _ _ h hj
 | step h e ih=>exact fun hj=>ih (hc.yes _ _ e hj)
theorem Reach.bef {ops:Array Oper}{L:Nat→Bool}{i j:Nat}(hN:D2.Now ops j L)(h:Reach ops i j):L i=true:=by
 cases h with
 | one h=>exact hN.bef _ h
 | step h e=>exact h.yes hN.2.2 (hN.bef _ e)
theorem Reach.post {ops:Array Oper}{L:Nat→Bool}{i j:Nat}(hN:D2.Now ops i L)(h:Reach ops i j):L j=false:=by
 cases hj:L j with
 | false=>rfl
 | true=>
  have:=h.yes hN.2.2 hj;rw [hN.1] at this;cases this
def zfg (o:Oper):List Nat:=(o.after.toList.filter fun e=>Region.binds .any e).map (·.on)
def zaV (l:List Nat)(acc:List Nat):Nat:=l.foldr (fun e m=>Nat.lor (Nat.lor m (Nat.shiftLeft 1 e)) (acc.getD e 0)) 0
def zcX:List Oper→List Nat→List Nat
 | [],acc=>acc
 | o::r,acc=>zcX r (acc++ [zaV (zfg o) acc])
def bfr (A:List Nat)(i j:Nat):Bool:=Nat.testBit (A.getD j 0) i
theorem zfh {i:Nat}{acc:List Nat} : ∀ {l:List Nat},Nat.testBit (zaV l acc) i=true→∃e,e∈l∧(e=i∨Nat.testBit (acc.getD e 0) i=true)
 | [],h=>by simp [zaV] at h
 | e::l,h=>by
  have h':Nat.testBit ((zaV l acc ||| 1 <<< e) ||| acc.getD e 0) i=true:=h;rw [Nat.testBit_or,Nat.testBit_or,Bool.or_eq_true,Bool.or_eq_true] at h';rcases h' with (h1 | h1) | h1
  ·obtain ⟨q,hq,hh⟩:=zfh h1;exact ⟨q,List.mem_cons_of_mem _ hq,hh⟩
  ·refine ⟨e,List.mem_cons_self,.inl ?_⟩;rw [Nat.shiftLeft_eq,Nat.one_mul,Nat.testBit_two_pow] at h1;exact of_decide_eq_true h1
  ·exact ⟨e,List.mem_cons_self,.inr h1⟩
theorem zfi {ops:Array Oper}{o:Oper}{j e:Nat}(ho:ops[j]? =some o)(he:e∈zfg o):edge ops e j=true:=by
 unfold edge;rw [ho];obtain ⟨x,hx,rfl⟩:=List.mem_map.1 he;rw [List.mem_filter] at hx;simp only [List.any_eq_true,Bool.and_eq_true];exact ⟨x,hx.1,hx.2,Nat.beq_refl _⟩
theorem zfj (ops:Array Oper): ∀(r:List Oper) (acc:List Nat) (pre:List Oper),ops.toList=pre++r→pre.length=acc.length→(∀i j,bfr acc i j=true→Reach ops i j)→ ∀i j,bfr (zcX r acc) i j=true→Reach ops i j
 | [],acc,pre,_,_,h=>h
 | o::r,acc,pre,he,hl,h=>by
  refine zfj ops r _ (pre++ [o]) (by simp [he]) (by simp [hl]) fun i j hb=>?_;unfold bfr at hb;rcases Nat.lt_trichotomy j acc.length with hj | hj | hj
  ·refine h i j ?_;unfold bfr
   rwa [List.getD_eq_getElem?_getD,List.getElem?_append_left hj,←List.getD_eq_getElem?_getD] at hb
  ·subst hj;rw [List.getD_eq_getElem?_getD,List.getElem?_append_right (Nat.le_refl _)] at hb;simp only [Nat.sub_self,List.getElem?_cons_zero,Option.getD_some] at hb;have ho:ops[acc.length]? =some o:=by
    rw [←Array.getElem?_toList,he,←hl];simp
   obtain ⟨e,hm,rfl|hh⟩:=zfh hb
   ·exact .one (zfi ho hm)
   ·exact .step (h i e hh) (zfi ho hm)
  ·rw [List.getD_eq_getElem?_getD,List.getElem?_eq_none (by simp;omega)] at hb;simp at hb
def jy (ops:Array Oper):List Nat:=zcX ops.toList []
theorem uD {ops:Array Oper}{i j:Nat}(h:bfr (jy ops) i j=true):Reach ops i j:=
 zfj ops ops.toList [] [] rfl rfl (fun i j h=>by simp [bfr] at h) i j h
structure Sn (P:Program)(B:Nat)(w0:World) where
 ρ:Env
 bl:List (Nat×Obj)
 it:It P B w0
def Sn.rc {P:Program}{B:Nat}{w0:World}(ops:Array Oper)(i:Nat)(s:Sn P B w0):Rc:=itR ops i s.ρ s.bl s.it
def zD {P:Program}{B:Nat}{w0:World}(ops:Array Oper):List (It P B w0)→Nat→Env→List (Nat×Obj)→(Nat→Gh)→List (Sn P B w0)
 | [],_,_,_,_=>[]
 | it::r,i,ρ,bl,g=>⟨ρ,bl,it⟩::zD ops r (i+1) (zm ρ (zt ops i) ((itR ops i ρ bl it).val (g i))) (ap bl (g i) (itR ops i ρ bl it).eff) g
def yg {P:Program}{B:Nat}{w0:World}(ops:Array Oper):List (It P B w0)→Nat→Env→List (Nat×Obj)→(Nat→Gh)→Env×List (Nat×Obj)
 | [],_,ρ,bl,_=>(ρ,bl)
 | it::r,i,ρ,bl,g=>yg ops r (i+1) (zm ρ (zt ops i) ((itR ops i ρ bl it).val (g i))) (ap bl (g i) (itR ops i ρ bl it).eff) g
def wx (bl:List (Nat×Obj))(x:Gh):Eff→Option (Nat×(Nat×Obj))
 | .no=>none
 | .new o=>some (bl.length,(x.b,o))
 | .turn j o=>some (j,(nm bl j,o))
def wOK (bl:List (Nat×Obj)):Eff→Bool
 | .turn j _=>Nat.blt j bl.length
 | _=>true
def rk {P:Program}{B:Nat}{w0:World}(ops:Array Oper)(S:List (Sn P B w0))(k:Nat):(Gh→Value)×(Gh→Option (Nat×(Nat×Obj))):=match S[k]? with
 | some s=>((s.rc ops k).val,fun x=>wx s.bl x (s.rc ops k).eff)
 | none=>(fun _=>undef,fun _=>none)
def rdk {P:Program}{B:Nat}{w0:World}(ops:Array Oper)(S:List (Sn P B w0))(k:Nat):List Nat:=match S[k]? with
 | some s=>(s.rc ops k).rd
 | none=>[]
def dEq {P:Program}{B:Nat}{w0:World}(N:Nat)(ops:Array Oper):List (Sn P B w0)→Nat→List Eqn
 | [],_=>[]
 | s::r,i=>⟨wOK s.bl (s.rc ops i).eff,true⟩::((s.rc ops i).eqs++dEq N ops r (i+1))
def msk (A:List Nat)(k:Nat)(g:Nat→Gh):Nat→Gh:=fun j=>bif bfr A j k then g j else default
def no0:Nat→Gh:=fun _=>default
def wkE {P:Program}{B:Nat}{w0:World}(ops:Array Oper)(S:List (Sn P B w0))(g:Nat→Gh)(k:Nat):Option Nat:=((rk ops S k).2 (g k)).map (·.1)
def isO (a:Option Nat)(j:Nat):Bool:=match a with
 | some x=>Nat.beq x j
 | none=>false
def uE (A:List Nat)(n:Nat)(W:Nat→Option Nat)(R:Nat→List Nat):Bool:=
 (List.range n).all fun k=>((W k).toList++R k).all fun j=>(List.range n).all fun k'=>Nat.beq k' k|| !isO (W k') j||(bif Nat.blt k' k then bfr A k' k else bfr A k k')
section
variable {P:Program}{N:Nat}{ops:Array Oper}{Q:Exit→Env→World→Prop}{ρ:Env}{w w0:World}{B:Nat}{bl:List (Nat×Obj)}
theorem zfk: ∀ {S:List (Sn P B w0)} {i:Nat},Eqs (dEq N ops S i)→ ∀ {k:Nat} {s:Sn P B w0},S[k]? =some s→wOK s.bl (s.rc ops (i+k)).eff=true∧Eqs (s.rc ops (i+k)).eqs
 | [],_,_,_,_,h=>by simp at h
 | s::r,i,h,0,x,hx=>by
  simp at hx;subst hx;exact ⟨Eqs.head h,(Eqs.both (Eqs.tail h)).1⟩
 | s::r,i,h,k+1,x,hx=>by
  have:=zfk (S:=r) (i:=i+1) (Eqs.both (Eqs.tail h)).2 (k:=k) (s:=x) (by simpa using hx)
  rwa [show i+1+k=i+(k+1) by omega] at this
def zR (ops:Array Oper):List (It P B w0)→Nat→Env→List (Nat×Obj)→(Nat→Gh)→Nat→List (Nat×Obj)
 | _,_,_,bl,_,0=>bl
 | [],_,_,bl,_,_+1=>bl
 | it::r,i,ρ,bl,g,k+1=>zR ops r (i+1) (zm ρ (zt ops i) ((itR ops i ρ bl it).val (g i))) (ap bl (g i) (itR ops i ρ bl it).eff) g k
def yE (ops:Array Oper):List (It P B w0)→Nat→Env→List (Nat×Obj)→(Nat→Gh)→Nat→Env
 | _,_,ρ,_,_,0=>ρ
 | [],_,ρ,_,_,_+1=>ρ
 | it::r,i,ρ,bl,g,k+1=>yE ops r (i+1) (zm ρ (zt ops i) ((itR ops i ρ bl it).val (g i))) (ap bl (g i) (itR ops i ρ bl it).eff) g k
theorem uF: ∀(its:List (It P B w0)) (i:Nat) (ρ:Env) (bl:List (Nat×Obj)) (g:Nat→Gh) (k:Nat) (it:It P B w0),its[k]? =some it→(zD ops its i ρ bl g)[k]? =some ⟨yE ops its i ρ bl g k,zR ops its i ρ bl g k,it⟩
 | [],_,_,_,_,_,_,h=>by simp at h
 | x::r,i,ρ,bl,g,0,it,h=>by simp at h;subst h;rfl
 | x::r,i,ρ,bl,g,k+1,it,h=>uF r (i+1) _ _ g k it (by simpa using h)
theorem zfl: ∀(its:List (It P B w0)) (i:Nat) (ρ:Env) (bl:List (Nat×Obj)) (g:Nat→Gh) (k:Nat) (it:It P B w0),its[k]? =some it→
 yE ops its i ρ bl g (k+1)=zm (yE ops its i ρ bl g k) (zt ops (i+k)) ((itR ops (i+k) (yE ops its i ρ bl g k) (zR ops its i ρ bl g k) it).val (g (i+k)))∧
 zR ops its i ρ bl g (k+1)=ap (zR ops its i ρ bl g k) (g (i+k)) (itR ops (i+k) (yE ops its i ρ bl g k) (zR ops its i ρ bl g k) it).eff
 | [],_,_,_,_,_,_,h=>by simp at h
 | x::r,i,ρ,bl,g,0,it,h=>by simp at h;subst h;cases r<;>exact ⟨rfl,rfl⟩
 | x::r,i,ρ,bl,g,k+1,it,h=>by
  have:=zfl r (i+1) (zm ρ (zt ops i) ((itR ops i ρ bl x).val (g i))) (ap bl (g i) (itR ops i ρ bl x).eff) g k it (by simpa using h);rw [show i+1+k=i+(k+1) by omega] at this;exact this
theorem zfm: ∀(its:List (It P B w0)) (i:Nat) (ρ:Env) (bl:List (Nat×Obj)) (g:Nat→Gh),yg ops its i ρ bl g=(yE ops its i ρ bl g its.length,zR ops its i ρ bl g its.length)
 | [],_,_,_,_=>rfl
 | x::r,i,ρ,bl,g=>zfm r (i+1) _ _ g
def atE (l:List (Nat×Obj))(j:Nat):Bool×(Nat×Obj):=match l[j]? with
 | some e=>(true,e)
 | none=>(false,(0,.cells #[] 0 (0,0)))
def ent (bl:List (Nat×Obj))(X:Nat→Option (Nat×(Nat×Obj)))(L:Nat→Bool)(j:Nat):Nat→Bool×(Nat×Obj)
 | 0=>atE bl j
 | k+1=>match X k with
  | some (j',e)=>bif Nat.beq j' j&&L k then (true,e) else ent bl X L j k
  | none=>ent bl X L j k
theorem zjS {X:Option (Nat×(Nat×Obj))}{j:Nat}(h:isO (X.map (·.1)) j=true):∃e,X=some (j,e):=by
 cases X with
 | none=>cases h
 | some p=>
  obtain ⟨j',e⟩:=p;exact ⟨e,by rw [Nat.eq_of_beq_eq_true (show Nat.beq j' j=true from h)]⟩
theorem uG {bl:List (Nat×Obj)}{X:Nat→Option (Nat×(Nat×Obj))}{L:Nat→Bool}{j k:Nat}(h:isO ((X k).map (·.1)) j=true→L k=false):ent bl X L j (k+1)=ent bl X L j k:=by
 show (match X k with | some (j',e)=>bif Nat.beq j' j&&L k then (true,e) else ent bl X L j k | none=>ent bl X L j k)=_;cases hX:X k with
 | none=>rfl
 | some p=>
  obtain ⟨j',e⟩:=p;cases hb:Nat.beq j' j with
  | false=>simp only [hb,Bool.false_and,cond_false]
  | true=>
   have:=h (by rw [hX];exact hb);simp only [this,Bool.and_false,cond_false]
theorem zcY {bl:List (Nat×Obj)}{X:Nat→Option (Nat×(Nat×Obj))}{L:Nat→Bool}{j k:Nat}{e:Nat×Obj}(h:X k=some (j,e))(hL:L k=true):ent bl X L j (k+1)=(true,e):=by
 show (match X k with | some (j',e)=>bif Nat.beq j' j&&L k then (true,e) else ent bl X L j k | none=>ent bl X L j k)=_;rw [h];simp [hL]
theorem zaW {bl:List (Nat×Obj)}{X:Nat→Option (Nat×(Nat×Obj))}{L:Nat→Bool}{j k:Nat} : ∀ {n:Nat},k≤n→(∀i,k≤i→i<n→isO ((X i).map (·.1)) j=true→L i=false)→ent bl X L j n=ent bl X L j k
 | 0,hk,_=>by obtain rfl:k=0:=by omega
              rfl
 | n+1,hk,h=>by
  rcases Nat.lt_or_ge n k with h1|h1
  ·obtain rfl:k=n+1:=by omega
   rfl
  ·rw [uG (h n h1 (Nat.lt_succ_self n)),zaW h1 fun i hi hn=>h i hi (by omega)]
theorem zaX {bl:List (Nat×Obj)}{X X':Nat→Option (Nat×(Nat×Obj))}{L L':Nat→Bool}{j:Nat} : ∀ {n:Nat},(∀i,i<n→isO ((X i).map (·.1)) j=isO ((X' i).map (·.1)) j)→(∀i,i<n→isO ((X i).map (·.1)) j=true→L i=L' i∧(L i=true→X i=X' i))→ent bl X L j n=ent bl X' L' j n
 | 0,_,_=>rfl
 | n+1,h,hh=>by
  have ih:=zaX (bl:=bl) (n:=n) (fun i hi=>h i (by omega)) (fun i hi=>hh i (by omega));cases hb:isO ((X n).map (·.1)) j with
  | false=>
   rw [uG (fun q=>by rw [hb] at q;cases q),uG (fun q=>by rw [←h n (Nat.lt_succ_self n),hb] at q;cases q),ih]
  | true=>
   obtain ⟨hL,hX⟩:=hh n (Nat.lt_succ_self n) hb;cases hLn:L n with
   | false=>rw [uG (fun _=>hLn),uG (fun _=>by rw [←hL,hLn]),ih]
   | true=>
    obtain ⟨e,he⟩:=zjS hb;rw [zcY he hLn,zcY (by rw [←hX hLn,he]) (by rw [←hL,hLn])]
theorem zjT {bl:List (Nat×Obj)}{x:Gh}{eff:Eff}(hok:wOK bl eff=true)(j:Nat):atE (ap bl x eff) j=(match wx bl x eff with | some (j',e)=>bif Nat.beq j' j then (true,e) else atE bl j | none=>atE bl j):=by
 cases eff with
 | no=>rfl
 | new o=>
  show atE (bl++ [(x.b,o)]) j=bif Nat.beq bl.length j then _ else _;unfold atE;rcases Nat.lt_trichotomy j bl.length with h | h | h
  ·have:Nat.beq bl.length j=false:=by
    cases hb:Nat.beq bl.length j with
    | false=>rfl
    | true=>have:=Nat.eq_of_beq_eq_true hb;omega
   rw [this,List.getElem?_append_left h];rfl
  ·subst h;rw [Nat.beq_refl];simp
  ·have:Nat.beq bl.length j=false:=by
    cases hb:Nat.beq bl.length j with
    | false=>rfl
    | true=>have:=Nat.eq_of_beq_eq_true hb;omega
   rw [this,List.getElem?_eq_none (by simp;omega),List.getElem?_eq_none (by omega)];rfl
 | turn i o=>
  have hlt:i<bl.length:=Nat.le_of_ble_eq_true hok;show atE (bl.set i (nm bl i,o)) j=bif Nat.beq i j then _ else _;unfold atE;rw [List.getElem?_set];by_cases h:i=j
  ·subst h;rw [Nat.beq_refl];simp [hlt]
  ·have:Nat.beq i j=false:=by
    cases hb:Nat.beq i j with
    | false=>rfl
    | true=>exact absurd (Nat.eq_of_beq_eq_true hb) h
   rw [this,if_neg h];rfl
theorem zjU (bl:List (Nat×Obj))(x:Gh)(eff:Eff):bl.length≤(ap bl x eff).length:=by
 cases eff<;>simp [ap]
end
end Go.Proofs.YtpghmdbjmigjlaaGreatDoor
namespace Go.Proofs.YtpghmdbjmigjlaaGreatDoor
open Go Go.RowKit
open D2 (Gh StE edge)
set_option linter.unusedVariables false
section
variable {P:Program}{N:Nat}{ops:Array Oper}{Q:Exit→Env→World→Prop}{ρ:Env}{w w0:World}{B:Nat}{bl:List (Nat×Obj)}
theorem zjV (l:List (Nat×Obj))(m:Nat)(h:l.length≤m):(List.range m).map (atE l)=l.map (fun e=>(true,e))++List.replicate (m-l.length) (false,(0,.cells #[] 0 (0,0))):=by
 apply List.ext_getElem?;intro j;simp only [List.getElem?_map,List.getElem?_append,List.length_map,List.getElem?_replicate];by_cases h1:j<l.length
 ·rw [if_pos h1,List.getElem?_range (by omega)];simp [atE,h1]
 ·rw [if_neg h1];by_cases h2:j<m
  ·rw [List.getElem?_range h2,if_pos (by omega)];simp [atE,List.getElem?_eq_none (Nat.le_of_not_lt h1)]
  ·rw [List.getElem?_eq_none (by simp;omega),if_neg (by omega)];rfl
theorem zcZ: ∀(l:List (Nat×Obj)) (k:Nat) (x:Nat×Obj),D2.pres (l.map (fun e=>(true,e))++List.replicate k (false,x))=l
 | [],0,x=>rfl
 | [],k+1,x=>by
  have:=zcZ [] k x
  simpa [List.replicate_succ,D2.pres] using this
 | e::l,k,x=>congrArg (e :: ·) (zcZ l k x)
theorem zfn (l:List (Nat×Obj))(m:Nat)(h:l.length≤m):D2.pres ((List.range m).map (atE l))=l:=by rw [zjV l m h,zcZ]
theorem zjW (l:List (Nat×Obj))(x y:Gh)(eff:Eff):(wx l x eff).map (·.1)=(wx l y eff).map (·.1):=by cases eff<;>rfl
theorem zfo (g:Nat→Gh)(i:Nat)(b:Gh):D2.setN g i b i=b:=by unfold D2.setN;rw [Nat.beq_refl];rfl
theorem zaY (g:Nat→Gh){i j:Nat}(b:Gh)(h:j≠i):D2.setN g i b j=g j:=by
 unfold D2.setN;cases hb:Nat.beq j i with
 | false=>rfl
 | true=>exact absurd (Nat.eq_of_beq_eq_true hb) h
theorem zfp (L:Nat→Bool){i j:Nat}(h:j≠i):D2.put1 L i j=L j:=by
 unfold D2.put1;cases hb:Nat.beq j i with
 | false=>rfl
 | true=>exact absurd (Nat.eq_of_beq_eq_true hb) h
theorem zaZ {a:Option Nat}{j:Nat}(h:isO a j=true):a=some j:=by
 cases a with
 | none=>cases h
 | some x=>rw [Nat.eq_of_beq_eq_true (show Nat.beq x j=true from h)]
theorem zc0 {A:List Nat}{n:Nat}{W:Nat→Option Nat}{R:Nat→List Nat}(h:uE A n W R=true){k k' j:Nat}(hk:k<n)(hk':k'<n)(hj:W k=some j∨j∈R k)(hne:k'≠k)(hW:W k'=some j):
 (k'<k∧bfr A k' k=true)∨(k<k'∧bfr A k k'=true):=by
 unfold uE at h;rw [List.all_eq_true] at h;have h1:=h k (List.mem_range.2 hk);rw [List.all_eq_true] at h1
 have h2:=h1 j (by
  rw [List.mem_append];rcases hj with q | q
  ·left;rw [q];simp
  ·exact .inr q)
 rw [List.all_eq_true] at h2;have h3:=h2 k' (List.mem_range.2 hk');rw [Bool.or_eq_true,Bool.or_eq_true] at h3;rcases h3 with (q | q) | q
 ·exact absurd (Nat.eq_of_beq_eq_true q) hne
 ·rw [hW] at q;have:isO (some j) j=true:=Nat.beq_refl j;rw [this] at q;cases q
 ·cases hb:Nat.blt k' k with
  | true=>rw [hb] at q;exact .inl ⟨Nat.le_of_ble_eq_true hb,q⟩
  | false=>
   rw [hb] at q;refine .inr ⟨?_,q⟩;rcases Nat.lt_or_ge k k' with q1 | q1
   ·exact q1
   ·have:k'<k:=by omega
    have hb2:Nat.blt k' k=true:=Nat.ble_eq_true_of_le this;rw [hb2] at hb;cases hb
theorem zfq (its:(Nat→Gh)→List (It P B w0))(H:St B w0 w bl)(hok:D2.drawOK ops (D3.dsts ops) N=true)
 (hlen: ∀g,(its g).length=ops.size)
 (hE: ∀g,Eqs (dEq N ops (zD ops (its g) 0 ρ bl g) 0))
 (hW: ∀g k,k<ops.size→wkE ops (zD ops (its g) 0 ρ bl g) no0 k=wkE ops (zD ops (its no0) 0 ρ bl no0) no0 k)
 (hR: ∀g k,k<ops.size→rdk ops (zD ops (its g) 0 ρ bl g) k=rdk ops (zD ops (its no0) 0 ρ bl no0) k)
 (hord:uE (jy ops) ops.size (wkE ops (zD ops (its no0) 0 ρ bl no0) no0) (rdk ops (zD ops (its no0) 0 ρ bl no0))=true)
 (hL: ∀g,(yg ops (its g) 0 ρ bl g).2.length=(yg ops (its no0) 0 ρ bl no0).2.length)
 (hdep: ∀k,k<ops.size→ ∀g g',(∀j,bfr (jy ops) j k=true→g j=g' j)→rk ops (zD ops (its g) 0 ρ bl g) k=rk ops (zD ops (its g') 0 ρ bl g') k)
 (k: ∀g w',St B w0 w' (yg ops (its g) 0 ρ bl g).2→Q .normal (yg ops (its g) 0 ρ bl g).1 w'):D3.AnyR P N ops Q ρ w:=by
 have hS: ∀g i,i<ops.size→∃it,(its g)[i]? =some it∧(zD ops (its g) 0 ρ bl g)[i]? =some ⟨yE ops (its g) 0 ρ bl g i,zR ops (its g) 0 ρ bl g i,it⟩:=fun g i hi=>by
  have hlt:i<(its g).length:=by rw [hlen g];exact hi
  exact ⟨_,List.getElem?_eq_getElem hlt,uF (its g) 0 ρ bl g i _ (List.getElem?_eq_getElem hlt)⟩
 have hrk: ∀g i it,(its g)[i]? =some it→rk ops (zD ops (its g) 0 ρ bl g) i=((itR ops i (yE ops (its g) 0 ρ bl g i) (zR ops (its g) 0 ρ bl g i) it).val,fun x=>wx (zR ops (its g) 0 ρ bl g i) x (itR ops i (yE ops (its g) 0 ρ bl g i) (zR ops (its g) 0 ρ bl g i) it).eff):=fun g i it h=>by
  unfold rk;rw [uF (its g) 0 ρ bl g i it h];rfl
 have hrd: ∀g i it,(its g)[i]? =some it→rdk ops (zD ops (its g) 0 ρ bl g) i=(itR ops i (yE ops (its g) 0 ρ bl g i) (zR ops (its g) 0 ρ bl g i) it).rd:=fun g i it h=>by
  unfold rdk;rw [uF (its g) 0 ρ bl g i it h];rfl
 have hEq: ∀g i it,(its g)[i]? =some it→wOK (zR ops (its g) 0 ρ bl g i) (itR ops i (yE ops (its g) 0 ρ bl g i) (zR ops (its g) 0 ρ bl g i) it).eff=true∧Eqs (itR ops i (yE ops (its g) 0 ρ bl g i) (zR ops (its g) 0 ρ bl g i) it).eqs:=fun g i it h=>by
  have:=zfk (hE g) (uF (its g) 0 ρ bl g i it h);rw [Nat.zero_add] at this;exact this
 have hnx: ∀g i it,(its g)[i]? =some it→yE ops (its g) 0 ρ bl g (i+1)=zm (yE ops (its g) 0 ρ bl g i) (zt ops i) ((itR ops i (yE ops (its g) 0 ρ bl g i) (zR ops (its g) 0 ρ bl g i) it).val (g i))∧
  zR ops (its g) 0 ρ bl g (i+1)=ap (zR ops (its g) 0 ρ bl g i) (g i) (itR ops i (yE ops (its g) 0 ρ bl g i) (zR ops (its g) 0 ρ bl g i) it).eff:=fun g i it h=>by
  have:=zfl (ops:=ops) (its g) 0 ρ bl g i it h;rw [Nat.zero_add] at this;exact this
 have hfin0: ∀g,yg ops (its g) 0 ρ bl g=(yE ops (its g) 0 ρ bl g ops.size,zR ops (its g) 0 ρ bl g ops.size):=fun g=>by rw [zfm,hlen g]
 have hmono: ∀g i,i≤ops.size→ ∀d,i+d≤ops.size→(zR ops (its g) 0 ρ bl g i).length≤(zR ops (its g) 0 ρ bl g (i+d)).length:=by
  intro g i hi d
  induction d with
  | zero=>intro _;exact Nat.le_refl _
  | succ d ih=>
   intro hd;obtain ⟨it,h1,_⟩:=hS g (i+d) (by omega);have:=(hnx g (i+d) it h1).2;show _≤(zR ops (its g) 0 ρ bl g (i+d+1)).length;rw [this];exact Nat.le_trans (ih (by omega)) (zjU _ _ _)
 have hm': ∀g i,i≤ops.size→(zR ops (its g) 0 ρ bl g i).length≤(yg ops (its no0) 0 ρ bl no0).2.length:=fun g i hi=>by
  rw [←hL g,hfin0 g];have:=hmono g i hi (ops.size-i) (by omega)
  rwa [show i+(ops.size-i)=ops.size by omega] at this
 let V:(Nat→Gh)→Nat→Value:=fun g i=>(rk ops (zD ops (its g) 0 ρ bl g) i).1 (g i)
 let X:(Nat→Gh)→Nat→Option (Nat×(Nat×Obj)):=fun g i=>(rk ops (zD ops (its g) 0 ρ bl g) i).2 (g i)
 let W:Nat→Option Nat:=wkE ops (zD ops (its no0) 0 ρ bl no0) no0
 let M:=(yg ops (its no0) 0 ρ bl no0).2.length
 let E:(Nat→Bool)→(Nat→Gh)→List D2.Ent:=fun L g=>(List.range M).map fun j=>ent bl (X g) L j ops.size
 have hXW: ∀g i,i<ops.size→(X g i).map (·.1)=W i:=fun g i hi=>by
  obtain ⟨it,h1,_⟩:=hS g i hi;have h2:=hW g i hi;show ((rk ops (zD ops (its g) 0 ρ bl g) i).2 (g i)).map (·.1)=wkE ops (zD ops (its no0) 0 ρ bl no0) no0 i;rw [←h2];unfold wkE;rw [hrk g i it h1];exact zjW _ _ _ _
 have hEat: ∀L g j,j<M→(E L g)[j]? =some (ent bl (X g) L j ops.size):=fun L g j hj=>by
  show ((List.range M).map _)[j]? =_;rw [List.getElem?_map,List.getElem?_range hj];rfl
 have hseq: ∀g j i,i≤ops.size→ent bl (X g) (fun _=>true) j i=atE (zR ops (its g) 0 ρ bl g i) j:=by
  intro g j i
  induction i with
  | zero=>intro _;cases its g<;>rfl
  | succ i ih=>
   intro hi;obtain ⟨it,h1,_⟩:=hS g i (by omega);have h2:=(hnx g i it h1).2;have h3:=hEq g i it h1;rw [h2,zjT h3.1 j];have hXi:X g i=wx (zR ops (its g) 0 ρ bl g i) (g i) (itR ops i (yE ops (its g) 0 ρ bl g i) (zR ops (its g) 0 ρ bl g i) it).eff:=by
    show (rk ops (zD ops (its g) 0 ρ bl g) i).2 (g i)=_;rw [hrk g i it h1]
   show (match X g i with | some (j',e)=>bif Nat.beq j' j&&true then (true,e) else ent bl (X g) (fun _=>true) j i | none=>ent bl (X g) (fun _=>true) j i)=_;rw [hXi,ih (by omega)]
   ((simp only [Bool.and_true])<;>rfl)
 have hrho: ∀g i,i≤ops.size→D3.envs ρ (zt ops) (V g) i=yE ops (its g) 0 ρ bl g i:=by
  intro g i
  induction i with
  | zero=>intro _;cases its g<;>rfl
  | succ i ih=>
   intro hi;obtain ⟨it,h1,_⟩:=hS g i (by omega);rw [(hnx g i it h1).1,←ih (by omega)];show zm (D3.envs ρ (zt ops) (V g) i) (zt ops i) (V g i)=_;have:V g i=(itR ops i (yE ops (its g) 0 ρ bl g i) (zR ops (its g) 0 ρ bl g i) it).val (g i):=by
    show (rk ops (zD ops (its g) 0 ρ bl g) i).1 (g i)=_;rw [hrk g i it h1]
   rw [this,ih (by omega)]
 have hnow: ∀L g i,D2.Now ops i L→i<ops.size→ ∀j,(W i=some j∨j∈rdk ops (zD ops (its no0) 0 ρ bl no0) i)→ent bl (X g) L j ops.size=atE (zR ops (its g) 0 ρ bl g i) j:=by
  intro L g i hN hi j hj;rw [←hseq g j i (by omega)];rw [zaW (k:=i) (by omega) fun q h1 h2 h3=>?_]
  ·refine zaX (fun q hq=>rfl) fun q hq h3=>⟨?_,fun _=>rfl⟩
   rw [hXW g q (by omega)] at h3;rcases zc0 hord hi (by omega) hj (show q≠i by omega) (zaZ h3) with ⟨_,h⟩ | ⟨h,_⟩
   ·exact (uD h).bef hN
   ·omega
  ·rw [hXW g q h2] at h3;rcases Nat.eq_or_lt_of_le h1 with rfl | h1
   ·exact hN.1
   ·rcases zc0 hord hi h2 hj (show q≠i by omega) (zaZ h3) with ⟨h,_⟩|⟨_,h⟩
    ·omega
    ·exact (uD h).post hN
 have hself: ∀L i,D2.Now ops i L→bfr (jy ops) i i=false:=fun L i hN=>by
  cases hb:bfr (jy ops) i i with
  | false=>rfl
  | true=>have:=(uD hb).bef hN;rw [hN.1] at this;cases this
 have hdep1: ∀L g i b q,D2.Closed ops L→L i=false→L q=true→q<ops.size→rk ops (zD ops (its (D2.setN g i b)) 0 ρ bl (D2.setN g i b)) q=rk ops (zD ops (its g) 0 ρ bl g) q:=fun L g i b q hc hi hq hlt=>
  hdep q hlt _ _ fun j hj=>by
   refine zaY g b ?_;rintro rfl;have:=(uD hj).yes hc hq;rw [hi] at this;cases this
 have hdep2: ∀L g i b,D2.Now ops i L→i<ops.size→rk ops (zD ops (its (D2.setN g i b)) 0 ρ bl (D2.setN g i b)) i=rk ops (zD ops (its g) 0 ρ bl g) i:=fun L g i b hN hi=>
  hdep i hi _ _ fun j hj=>by
   refine zaY g b ?_;rintro rfl;rw [hself L _ hN] at hj;cases hj
 have hput1: ∀L g i b j e,D2.Now ops i L→i<ops.size→X (D2.setN g i b) i=some (j,e)→ent bl (X (D2.setN g i b)) (D2.put1 L i) j ops.size=(true,e):=by
  intro L g i b j e hN hi hX;have hWi:W i=some j:=by rw [←hXW (D2.setN g i b) i hi,hX];rfl
  rw [zaW (k:=i+1) (by omega) fun q h1 h2 h3=>?_]
  ·exact zcY hX (D2.put1_self _ _)
  ·rw [hXW _ q h2] at h3;rw [zfp L (show q≠i by omega)];rcases zc0 hord hi h2 (.inl hWi) (show q≠i by omega) (zaZ h3) with ⟨h,_⟩ | ⟨_,h⟩
   ·omega
   ·exact (uD h).post hN
 have hput2: ∀L g i b j,D2.Now ops i L→i<ops.size→W i≠some j→ent bl (X (D2.setN g i b)) (D2.put1 L i) j ops.size=ent bl (X g) L j ops.size:=by
  intro L g i b j hN hi hne;refine (zaX (fun q hq=>?_) fun q hq h3=>?_).symm
  ·rw [hXW _ q hq,hXW _ q hq]
  ·rw [hXW _ q hq] at h3;have hqi:q≠i:=by rintro rfl;exact hne (zaZ h3)
   refine ⟨(zfp L hqi).symm,fun hLq=>?_⟩;show (rk ops (zD ops (its g) 0 ρ bl g) q).2 (g q)=(rk ops (zD ops (its (D2.setN g i b)) 0 ρ bl (D2.setN g i b)) q).2 (D2.setN g i b q);rw [hdep1 L g i b q hN.2.2 hN.1 hLq hq,zaY g b hqi]
 have hEset: ∀L g i b j e,D2.Now ops i L→i<ops.size→X (D2.setN g i b) i=some (j,e)→E (D2.put1 L i) (D2.setN g i b)=(E L g).set j (true,e):=by
  intro L g i b j e hN hi hX;have hWi:W i=some j:=by rw [←hXW (D2.setN g i b) i hi,hX];rfl
  apply List.ext_getElem?;intro q;rw [List.getElem?_set];by_cases hq:q<M
  ·rw [hEat _ _ q hq];by_cases hjq:j=q
   ·subst hjq;rw [hput1 L g i b j e hN hi hX,if_pos rfl,if_pos (by show j<((List.range M).map _).length;simpa using hq)]
   ·rw [if_neg hjq,hEat _ _ q hq,hput2 L g i b q hN hi (by rw [hWi];intro h;exact hjq (Option.some.inj h))]
  ·have hl1:(E L g)[q]? =none:=List.getElem?_eq_none (by show ((List.range M).map _).length≤q;simp;omega);have hl2:(E (D2.put1 L i) (D2.setN g i b))[q]? =none:=List.getElem?_eq_none (by show ((List.range M).map _).length≤q;simp;omega);rw [hl2];split
   ·rename_i hjq;subst hjq
    rw [if_neg (by show ¬j<((List.range M).map _).length;simp;omega)]
   ·exact hl1.symm
 have hEno: ∀L g i b,D2.Now ops i L→i<ops.size→X (D2.setN g i b) i=none→E (D2.put1 L i) (D2.setN g i b)=E L g:=by
  intro L g i b hN hi hX;have hWi:W i=none:=by rw [←hXW (D2.setN g i b) i hi,hX];rfl
  show (List.range M).map _=(List.range M).map _;exact List.map_congr_left fun j _=>hput2 L g i b j hN hi (by rw [hWi];intro h;cases h)
 refine D3.any_draw (V:=V) (pre:=fun L g w=>StE B w0 w (E L g)) hok ?_ ?_ ?_ ?_
 ·
  refine StE.of H.drew _ ?_;have e:E (fun _=>false) (fun _=>default)=(List.range M).map (atE bl):=List.map_congr_left fun j _=>by
   rw [zaW (k:=0) (Nat.zero_le _) fun _ _ _ _=>rfl];rfl
  rw [e];refine zfn bl M ?_;have:=hm' no0 0 (Nat.zero_le _);have e0:zR ops (its no0) 0 ρ bl no0 0=bl:=by cases its no0<;>rfl
  rwa [e0] at this
 ·
  intro i hi L g w1 hp hN;obtain ⟨it,h1,_⟩:=hS g i hi;have hq:=hEq g i it h1;obtain ⟨o,ho,hdst,hrun⟩:=zcT (w:=w1) it hq.2 hp.below fun j hj e he=>by
   have hjm:j<M:=Nat.lt_of_lt_of_le (List.getElem?_eq_some_iff.1 he).1 (hm' g i (by omega));have h2:=hnow L g i hN hi j (.inr (by rw [←hR g i hi,hrd g i it h1];exact hj));have h3:atE (zR ops (its g) 0 ρ bl g i) j=(true,e):=by unfold atE;rw [he]
   exact hp.get j (by rw [hEat L g j hjm,h2,h3])
  rw [←hrho g i (by omega)] at hrun;have hXb: ∀b,X (D2.setN g i b) i=wx (zR ops (its g) 0 ρ bl g i) b (itR ops i (yE ops (its g) 0 ρ bl g i) (zR ops (its g) 0 ρ bl g i) it).eff:=fun b=>by
   show (rk ops (zD ops (its (D2.setN g i b)) 0 ρ bl (D2.setN g i b)) i).2 (D2.setN g i b i)=_;rw [hdep2 L g i b hN hi,zfo,hrk g i it h1]
  have hVb: ∀b,V (D2.setN g i b) i=(itR ops i (yE ops (its g) 0 ρ bl g i) (zR ops (its g) 0 ρ bl g i) it).val b:=fun b=>by
   show (rk ops (zD ops (its (D2.setN g i b)) 0 ρ bl (D2.setN g i b)) i).1 (D2.setN g i b i)=_;rw [hdep2 L g i b hN hi,zfo,hrk g i it h1]
  rw [←hrho g i (by omega)] at hXb hVb;refine ⟨o,ho,?_⟩;rcases hrun with ⟨hw,hv,he⟩ | ⟨hw,hr⟩
  ·refine .inl ⟨hw,?_,?_⟩
   ·have:=hVb (g i);rw [D2.setN_self,hv] at this;exact this
   ·have hX:=hXb (g i);rw [he] at hX;have:=hEno L g i (g i) hN hi hX;rw [D2.setN_self] at this;show StE B w0 w1 (E (D2.put1 L i) g);rw [this];exact hp
  ·refine .inr ⟨hw,?_⟩;have conv: ∀v w',(∃b,v=(itR ops i (D3.envs ρ (zt ops) (V g) i) (zR ops (its g) 0 ρ bl g i) it).val b∧uA (zR ops (its g) 0 ρ bl g i) w1 w' b (itR ops i (D3.envs ρ (zt ops) (V g) i) (zR ops (its g) 0 ρ bl g i) it).eff)→
    ∃b,v=V (D2.setN g i b) i∧StE B w0 w' (E (D2.put1 L i) (D2.setN g i b)):=by
    rintro v w' ⟨b,rfl,ha⟩;refine ⟨b,(hVb b).symm,?_⟩;have hX:=hXb b;cases heff:(itR ops i (D3.envs ρ (zt ops) (V g) i) (zR ops (its g) 0 ρ bl g i) it).eff with
    | no=>
     rw [heff] at hX ha;rw [hEno L g i b hN hi hX];exact hp.call ha
    | new q=>
     rw [heff] at hX ha;rw [hEset L g i b _ _ hN hi hX];exact hp.add ha.1 _ ha.2.1 ha.2.2
    | turn j q=>
     rw [heff] at hX ha;obtain ⟨e,hje,hg,hh⟩:=ha;rw [hEset L g i b _ _ hN hi hX,zfc hje];have hjm:j<M:=Nat.lt_of_lt_of_le (List.getElem?_eq_some_iff.1 hje).1 (hm' g i (by omega));have hWi:W i=some j:=by rw [←hXW (D2.setN g i b) i hi,hX];rfl
     have h2:=hnow L g i hN hi j (.inl hWi);have h3:atE (zR ops (its g) 0 ρ bl g i) j=(true,e):=by unfold atE;rw [hje]
     exact hp.turn j (b:=e.1) (o:=e.2) (by rw [hEat L g j hjm,h2,h3]) hg (.inl rfl) hh
   generalize (execOp (ev (D3.envs ρ (zt ops) (V g) i)) o).run P w1=r at hr;cases r with
   | halt h w'=>exact hr.elim
   | ok n w'=>
    cases n with
    | value v=>exact conv _ _ hr
    | skip=>exact conv _ _ hr
    | enter f' args=>exact Calls.mono hr fun e w'' ⟨v,he,hh⟩=>⟨v,he,conv _ _ hh⟩
    | _=>exact hr.elim
 ·
  intro L i q g b hc hi hq hlt;have hqi:q≠i:=by rintro rfl;rw [hi] at hq;cases hq
  show (rk ops (zD ops (its (D2.setN g i b)) 0 ρ bl (D2.setN g i b)) q).1 (D2.setN g i b q)=(rk ops (zD ops (its g) 0 ρ bl g) q).1 (g q);rw [hdep1 L g i b q hc hi hq hlt,zaY g b hqi]
 ·
  intro L g w' hall hp;have h1:=hp.st;have e:E L g=(List.range M).map (atE (yg ops (its g) 0 ρ bl g).2):=List.map_congr_left fun j _=>by
   rw [hfin0 g,←hseq g j ops.size (Nat.le_refl _)];exact zaX (fun q hq=>rfl) fun q hq _=>⟨hall q hq,fun _=>rfl⟩
  rw [e,zfn _ M (by rw [hL g];exact Nat.le_refl _)] at h1;have h2:=k g w' h1;rw [hrho g ops.size (Nat.le_refl _)];rw [hfin0 g] at h2;exact h2
end
end Go.Proofs.YtpghmdbjmigjlaaGreatDoor
namespace Go.Proofs.YtpghmdbjmigjlaaGreatDoor
open Go Go.RowKit
open D2 (Gh StE edge)
set_option linter.unusedVariables false
def drK (c:Code)(n:Nat):Bool:=match c with
 | .region _ ops true=>Nat.beq ops.size n
 | _=>false
theorem zfr {c:Code}{n:Nat}(h:drK c n=true):∃id,c=.region id (zg c) true∧(zg c).size=n:=by
 cases c with
 | region id ops d=>
  cases d with
  | false=>cases h
  | true=>exact ⟨id,rfl,Nat.eq_of_beq_eq_true h⟩
 | _=>cases h
section
variable {P:Program}{N:Nat}{ops:Array Oper}{Q:Exit→Env→World→Prop}{ρ:Env}{w w0:World}{B:Nat}{bl:List (Nat×Obj)}{c:Code}
def eqA (P:Program){B:Nat}{w0:World}(N:Nat)(c:Code)(its:List (It P B w0))(ρ:Env)(bl:List (Nat×Obj)):List Eqn:=
 ⟨drK c its.length,true⟩::⟨P.follows .mixedOrders,true⟩::⟨D2.drawOK (zg c) (D3.dsts (zg c)) N,true⟩ ::
 ⟨uE (jy (zg c)) its.length (wkE (zg c) (zD (zg c) its 0 ρ bl no0) no0) (rdk (zg c) (zD (zg c) its 0 ρ bl no0)),true⟩ ::
 ⟨fun g=>zD (zg c) its 0 ρ bl g,fun _=>zD (zg c) its 0 ρ bl no0⟩::⟨fun g=>yg (zg c) its 0 ρ bl g,fun _=>yg (zg c) its 0 ρ bl no0⟩::dEq N (zg c) (zD (zg c) its 0 ρ bl no0) 0
theorem dL (its:List (It P B w0))(H:St B w0 w bl)(h:(eqA P N c its ρ bl).map Eqn.lf=(eqA P N c its ρ bl).map Eqn.rt)
 (k: ∀w',St B w0 w' (yg (zg c) its 0 ρ bl no0).2→Q .normal (yg (zg c) its 0 ρ bl no0).1 w'):WP P N c Q ρ w:=by
 obtain ⟨id,he,hn⟩:=zfr (Eqs.head h);have h2:=Eqs.head (Eqs.tail h);have h3:=Eqs.head (Eqs.tail (Eqs.tail h));have h4:=Eqs.head (Eqs.tail (Eqs.tail (Eqs.tail h)));have h5: ∀g,zD (zg c) its 0 ρ bl g=zD (zg c) its 0 ρ bl no0:=congrFun (Eqs.head (Eqs.tail (Eqs.tail (Eqs.tail (Eqs.tail h)))));have h6: ∀g,yg (zg c) its 0 ρ bl g=yg (zg c) its 0 ρ bl no0:=congrFun (Eqs.head (Eqs.tail (Eqs.tail (Eqs.tail (Eqs.tail (Eqs.tail h))))));have h7:=Eqs.tail (Eqs.tail (Eqs.tail (Eqs.tail (Eqs.tail (Eqs.tail h)))));rw [he];refine D3.AnyR.wp h2<|zfq (fun _=>its) H h3 (fun _=>hn.symm) (fun g=>?_) (fun g k _=>?_) (fun g k _=>?_) ?_ (fun g=>?_) (fun k _ g g' _=>?_) fun g w' hH=>?_
 ·rw [h5 g];exact h7
 ·show wkE (zg c) (zD (zg c) its 0 ρ bl g) no0 k=_;rw [h5 g]
 ·show rdk (zg c) (zD (zg c) its 0 ρ bl g) k=_;rw [h5 g]
 ·rw [hn];exact h4
 ·show (yg (zg c) its 0 ρ bl g).2.length=_;rw [h6 g]
 ·show rk (zg c) (zD (zg c) its 0 ρ bl g) k=rk (zg c) (zD (zg c) its 0 ρ bl g') k;rw [h5 g,h5 g']
 ·have e:=h6 g;rw [e] at hH ⊢;exact k w' hH
theorem dS (its:List (It P B w0))(H:St B w0 w bl)(h:(⟨yx c,true⟩::eqA P N (zq c) its ρ bl).map Eqn.lf=(⟨yx c,true⟩::eqA P N (zq c) its ρ bl).map Eqn.rt)
 (k: ∀w',St B w0 w' (yg (zg (zq c)) its 0 ρ bl no0).2→WP P N (zw c) Q (yg (zg (zq c)) its 0 ρ bl no0).1 w'):WP P N c Q ρ w:=
 zb (Eqs.head h) (dL its H (Eqs.tail h) k)
def eqB (P:Program){B:Nat}{w0:World}(N:Nat)(c:Code)(its:(Nat→Gh)→List (It P B w0))(ρ:Env)(bl:List (Nat×Obj))(g:Nat→Gh):List Eqn:=
 ⟨drK c (its no0).length,true⟩::⟨P.follows .mixedOrders,true⟩::⟨D2.drawOK (zg c) (D3.dsts (zg c)) N,true⟩ ::
 ⟨uE (jy (zg c)) (its no0).length (wkE (zg c) (zD (zg c) (its no0) 0 ρ bl no0) no0) (rdk (zg c) (zD (zg c) (its no0) 0 ρ bl no0)),true⟩ ::
 ⟨(its g).length,(its no0).length⟩::⟨(yg (zg c) (its g) 0 ρ bl g).2.length,(yg (zg c) (its no0) 0 ρ bl no0).2.length⟩ ::
 (dEq N (zg c) (zD (zg c) (its g) 0 ρ bl g) 0++(((List.range (its no0).length).map fun k=>⟨wkE (zg c) (zD (zg c) (its g) 0 ρ bl g) no0 k,wkE (zg c) (zD (zg c) (its no0) 0 ρ bl no0) no0 k⟩)++
  (((List.range (its no0).length).map fun k=>⟨rdk (zg c) (zD (zg c) (its g) 0 ρ bl g) k,rdk (zg c) (zD (zg c) (its no0) 0 ρ bl no0) k⟩)++
   ((List.range (its no0).length).map fun k=>⟨rk (zg c) (zD (zg c) (its (msk (jy (zg c)) k g)) 0 ρ bl (msk (jy (zg c)) k g)) k,rk (zg c) (zD (zg c) (its g) 0 ρ bl g) k⟩))))
theorem Eqs.at {α:Type}{f f':Nat→α}{n:Nat}(h:Eqs ((List.range n).map fun k=>⟨f k,f' k⟩)){k:Nat}(hk:k<n):f k=f' k:=by
 have h1:=Eqs.mem h (List.mem_map.2 ⟨k,List.mem_range.2 hk,rfl⟩);exact eq_of_heq (Sigma.mk.inj h1).2
theorem zfs (its:(Nat→Gh)→List (It P B w0))(H:St B w0 w bl)(h:(fun g=>(eqB P N c its ρ bl g).map Eqn.lf)=fun g=>(eqB P N c its ρ bl g).map Eqn.rt)
 (k: ∀g w',St B w0 w' (yg (zg c) (its g) 0 ρ bl g).2→Q .normal (yg (zg c) (its g) 0 ρ bl g).1 w'):∃id,c=.region id (zg c) true∧P.follows .mixedOrders=true∧D3.AnyR P N (zg c) Q ρ w:=by
 have hh: ∀g,Eqs (eqB P N c its ρ bl g):=fun g=>congrFun h g;obtain ⟨id,he,hn⟩:=zfr (Eqs.head (hh no0));have h2:=Eqs.head (Eqs.tail (hh no0));have h3:=Eqs.head (Eqs.tail (Eqs.tail (hh no0)));have h4:=Eqs.head (Eqs.tail (Eqs.tail (Eqs.tail (hh no0))));have h5: ∀g,(its g).length=(its no0).length:=fun g=>Eqs.head (Eqs.tail (Eqs.tail (Eqs.tail (Eqs.tail (hh g)))));have h6: ∀g,(yg (zg c) (its g) 0 ρ bl g).2.length=(yg (zg c) (its no0) 0 ρ bl no0).2.length:=fun g=>Eqs.head (Eqs.tail (Eqs.tail (Eqs.tail (Eqs.tail (Eqs.tail (hh g))))));have h7:=fun g=>Eqs.both (Eqs.tail (Eqs.tail (Eqs.tail (Eqs.tail (Eqs.tail (Eqs.tail (hh g)))))));have h8:=fun g=>Eqs.both (h7 g).2;have h9:=fun g=>Eqs.both (h8 g).2;refine ⟨id,he,h2,?_⟩;refine zfq its H h3 (fun g=>(h5 g).trans hn.symm) (fun g=>(h7 g).1) (fun g k hk=>Eqs.at (h8 g).1 (by rw [←hn];exact hk)) (fun g k hk=>Eqs.at (h9 g).1 (by rw [←hn];exact hk)) (by rw [hn];exact h4) h6 (fun k hk g g' hg=>?_) k;have e1:=Eqs.at (h9 g).2 (show k<(its no0).length by rw [←hn];exact hk);have e2:=Eqs.at (h9 g').2 (show k<(its no0).length by rw [←hn];exact hk);have e3:msk (jy (zg c)) k g=msk (jy (zg c)) k g':=funext fun j=>by
  unfold msk;cases hb:bfr (jy (zg c)) j k with
  | false=>rfl
  | true=>exact hg j hb
 rw [←e1,e3,e2]
theorem dLg (its:(Nat→Gh)→List (It P B w0))(H:St B w0 w bl)(h:(fun g=>(eqB P N c its ρ bl g).map Eqn.lf)=fun g=>(eqB P N c its ρ bl g).map Eqn.rt)
 (k: ∀g w',St B w0 w' (yg (zg c) (its g) 0 ρ bl g).2→Q .normal (yg (zg c) (its g) 0 ρ bl g).1 w'):WP P N c Q ρ w:=by
 obtain ⟨id,he,hm,ha⟩:=zfs its H h k;rw [he];exact ha.wp hm
theorem dSg (its:(Nat→Gh)→List (It P B w0))(H:St B w0 w bl)(h:(fun g=>(⟨yx c,true⟩::eqB P N (zq c) its ρ bl g).map Eqn.lf)=fun g=>(⟨yx c,true⟩::eqB P N (zq c) its ρ bl g).map Eqn.rt)
 (k: ∀g w',St B w0 w' (yg (zg (zq c)) (its g) 0 ρ bl g).2→WP P N (zw c) Q (yg (zg (zq c)) (its g) 0 ρ bl g).1 w'):WP P N c Q ρ w:=
 zb (Eqs.head (congrFun h no0)) (dLg its H (funext fun g=>Eqs.tail (congrFun h g)) k)
theorem za0 (l:List (Nat×Value))(h:(l.map fun p=>Eqn.mk (ρ p.1) p.2).map Eqn.lf=(l.map fun p=>Eqn.mk (ρ p.1) p.2).map Eqn.rt)(k: ∀ρ',WP P N c Q (yV l ρ') w):WP P N c Q ρ w:=by
 have hh: ∀ {l:List (Nat×Value)},Eqs (l.map fun p=>Eqn.mk (ρ p.1) p.2)→vC ρ l:=by
  intro l
  induction l with
  | nil=>intro _;trivial
  | cons p l ih=>intro h;exact ⟨Eqs.head h,ih (Eqs.tail h)⟩
 have:=k ρ
 rwa [uy (hh h)] at this
end
end Go.Proofs.YtpghmdbjmigjlaaGreatDoor
namespace Go.Proofs.YtpghmdbjmigjlaaGreatDoor
open Go Go.RowKit
set_option linter.unusedVariables false
theorem zft (a b:Nat):(a:Int).tdiv (b:Int)=((a / b:Nat):Int):=rfl
theorem zjX (a b:Nat):(a:Int).tmod (b:Int)=((a%b:Nat):Int):=rfl
theorem yF {a b:Nat}(h:a+b≤0x7fffffffffffffff):IntKind.i64.wrap ((a:Int)+(b:Int))=((a+b:Nat):Int):=by rw [wrap_i64 (by omega) (by omega)];omega
theorem uH {a b:Nat}(h:a*b≤0x7fffffffffffffff):IntKind.i64.wrap ((a:Int)*(b:Int))=((a*b:Nat):Int):=by
 rw [←Int.natCast_mul];exact wrap_i64 (by omega) (by omega)
theorem xu {a b:Nat}(h:b≤a∧a≤0x7fffffffffffffff):IntKind.i64.wrap ((a:Int)-(b:Int))=((a-b:Nat):Int):=by rw [wrap_i64 (by omega) (by omega)];omega
theorem kK {a b:Nat}(h:a+b≤0xffffffffffffffff):IntKind.u64.wrap ((a:Int)+(b:Int))=((a+b:Nat):Int):=by rw [wrap_u64 (by omega) (by omega)];omega
theorem za1 {a b:Nat}(h:b≤a∧a≤0xffffffffffffffff):IntKind.u64.wrap ((a:Int)-(b:Int))=((a-b:Nat):Int):=by rw [wrap_u64 (by omega) (by omega)];omega
theorem zfu {a b:Nat}(h:a*b≤0xffffffffffffffff):IntKind.u64.wrap ((a:Int)*(b:Int))=((a*b:Nat):Int):=by
 rw [←Int.natCast_mul];exact wrap_u64 (by omega) (by omega)
theorem uI {a b:Nat}(h:a≤0x7fffffffffffffff):IntKind.i64.wrap ((a:Int).tdiv (b:Int))=((a / b:Nat):Int):=by
 rw [zft];have:=Nat.div_le_self a b;generalize a / b=q at*;exact wrap_i64 (by omega) (by omega)
theorem zjY {a b:Nat}(h:a≤0xffffffffffffffff):IntKind.u64.wrap ((a:Int).tdiv (b:Int))=((a / b:Nat):Int):=by
 rw [zft];have:=Nat.div_le_self a b;generalize a / b=q at*;exact wrap_u64 (by omega) (by omega)
theorem jW (a b:Nat):(a:Int).tmod (b:Int)=((a%b:Nat):Int):=zjX a b
theorem kL {k:Nat}(a p:Nat)(h:2^k=p):Int.fdiv (a:Int) (2^k)=((a / p:Nat):Int):=by
 subst h;rw [Int.fdiv_eq_ediv_of_nonneg _ (by exact_mod_cast Nat.zero_le _)]
 push_cast;rfl
theorem za2 {a:Nat}(h:a≤0x7fffffffffffffff):IntKind.i64.wrap (a:Int)=(a:Int):=wrap_i64 (by omega) (by omega)
theorem xU {a:Nat}(h:a≤0xffffffffffffffff):IntKind.u64.wrap (a:Int)=(a:Int):=wrap_u64 (by omega) (by omega)
theorem zfv (x s n M:Nat)(hM:2^n=M):(x:Int)*2^(min s n)%(M:Int)=((x*2^s%2^n:Nat):Int):=by
 subst hM;rcases Nat.lt_or_ge s n with h | h
 ·rw [Nat.min_eq_left (by omega)];push_cast;rfl
 ·rw [Nat.min_eq_right h];have e1:x*2^s%2^n=0:=by
   rw [show s=n+(s-n) by omega,Nat.pow_add,←Nat.mul_assoc,Nat.mul_right_comm];exact Nat.mul_mod_left _ _
  rw [e1];have:((x*2^n%2^n:Nat):Int)=0:=by rw [Nat.mul_mod_left];rfl
  push_cast at this ⊢;exact this
theorem za3 (x s n:Nat)(h:x<2^n):Int.fdiv (x:Int) (2^(min s n))=((x / 2^s:Nat):Int):=by
 rw [Int.fdiv_eq_ediv_of_nonneg _ (by exact_mod_cast Nat.zero_le _)];rcases Nat.lt_or_ge s n with h2 | h2
 ·rw [Nat.min_eq_left (by omega)];push_cast;rfl
 ·rw [Nat.min_eq_right h2,Nat.div_eq_of_lt (Nat.lt_of_lt_of_le h (Nat.pow_le_pow_right (by omega) h2))];have:((x / 2^n:Nat):Int)=0:=by rw [Nat.div_eq_of_lt h];rfl
  push_cast at this ⊢;exact this
theorem zc1 (a:Int):IntKind.u64.wrap a=a%0x10000000000000000:=by simp [IntKind.wrap,IntKind.bits,IntKind.signed]
theorem zz (x y:BitVec 64):Value.int .u64 (Go.bits .xor .u64 (BitVec.toNat x:Int) (BitVec.toNat y:Int))=.int .u64 (BitVec.toNat (x ^^^ y):Int):=by rw [u64_xor_nat _ _ x.isLt y.isLt,BitVec.toNat_xor]
theorem zjZ (x y:BitVec 64):Value.int .u64 (Go.bits .or .u64 (BitVec.toNat x:Int) (BitVec.toNat y:Int))=.int .u64 (BitVec.toNat (x ||| y):Int):=by rw [u64_or_nat _ _ x.isLt y.isLt,BitVec.toNat_or]
theorem uJ (x y:BitVec 64):Value.int .u64 (Go.bits .andNot .u64 (BitVec.toNat x:Int) (BitVec.toNat y:Int))=.int .u64 (BitVec.toNat (x &&& ~~~y):Int):=by rw [u64_andNot_nat _ _ x.isLt y.isLt,BitVec.toNat_and,BitVec.toNat_not]
theorem zfw (x:BitVec 64)(s:Nat):Value.int .u64 (IntKind.u64.wrap ((BitVec.toNat x:Int)*2^(min s 64)))=.int .u64 (BitVec.toNat (x <<< s):Int):=by
 rw [zc1,BitVec.toNat_shiftLeft,Nat.shiftLeft_eq];congr 1;exact zfv x.toNat s 64 0x10000000000000000 rfl
theorem zfx (x:BitVec 64)(s:Nat):Value.int .u64 (Int.fdiv (BitVec.toNat x:Int) (2^(min s 64)))=.int .u64 (BitVec.toNat (x >>> s):Int):=by
 rw [BitVec.toNat_ushiftRight,Nat.shiftRight_eq_div_pow];congr 1;exact za3 x.toNat s 64 x.isLt
theorem zj0 (a:Nat):Value.int .u64 (IntKind.u64.wrap (a:Int))=.int .u64 (BitVec.toNat (BitVec.ofNat 64 a):Int):=by rw [zc1,BitVec.toNat_ofNat];congr 1
theorem zc2 (a:Int):IntKind.u32.wrap a=a%4294967296:=by simp [IntKind.wrap,IntKind.bits,IntKind.signed]
theorem uK (x y:BitVec 32):Value.int .u32 (Go.bits .xor .u32 (BitVec.toNat x:Int) (BitVec.toNat y:Int))=.int .u32 (BitVec.toNat (x ^^^ y):Int):=by rw [u32_xor_nat _ _ x.isLt y.isLt,BitVec.toNat_xor]
theorem uL (x y:BitVec 32):Value.int .u32 (Go.bits .and .u32 (BitVec.toNat x:Int) (BitVec.toNat y:Int))=.int .u32 (BitVec.toNat (x &&& y):Int):=by rw [u32_and_nat _ _ x.isLt y.isLt,BitVec.toNat_and]
theorem uM (x y:BitVec 32):Value.int .u32 (Go.bits .or .u32 (BitVec.toNat x:Int) (BitVec.toNat y:Int))=.int .u32 (BitVec.toNat (x ||| y):Int):=by rw [u32_or_nat _ _ x.isLt y.isLt,BitVec.toNat_or]
theorem jJ (x y:BitVec 32):Value.int .u32 (IntKind.u32.wrap ((BitVec.toNat x:Int)+(BitVec.toNat y:Int)))=.int .u32 (BitVec.toNat (x+y):Int):=by rw [zc2,BitVec.toNat_add];congr 1
theorem zfy (x:BitVec 32)(s:Nat):Value.int .u32 (IntKind.u32.wrap ((BitVec.toNat x:Int)*2^(min s 32)))=.int .u32 (BitVec.toNat (x <<< s):Int):=by
 rw [zc2,BitVec.toNat_shiftLeft,Nat.shiftLeft_eq];congr 1;exact zfv x.toNat s 32 4294967296 rfl
theorem zc3 (x:BitVec 32)(s:Nat):Value.int .u32 (Int.fdiv (BitVec.toNat x:Int) (2^(min s 32)))=.int .u32 (BitVec.toNat (x >>> s):Int):=by
 rw [BitVec.toNat_ushiftRight,Nat.shiftRight_eq_div_pow];congr 1;exact za3 x.toNat s 32 x.isLt
theorem zj1 (a:Nat):Value.int .u32 (IntKind.u32.wrap (a:Int))=.int .u32 (BitVec.toNat (BitVec.ofNat 32 a):Int):=by rw [zc2,BitVec.toNat_ofNat];congr 1
theorem zc4 (a:Int):IntKind.u8.wrap a=a%256:=by simp [IntKind.wrap,IntKind.bits,IntKind.signed]
theorem zj2 (x y:BitVec 8):Value.int .u8 (Go.bits .xor .u8 (BitVec.toNat x:Int) (BitVec.toNat y:Int))=.int .u8 (BitVec.toNat (x ^^^ y):Int):=by rw [u8_xor_nat _ _ x.isLt y.isLt,BitVec.toNat_xor]
theorem za4 (x y:BitVec 8):Value.int .u8 (IntKind.u8.wrap ((BitVec.toNat x:Int)+(BitVec.toNat y:Int)))=.int .u8 (BitVec.toNat (x+y):Int):=by rw [zc4,BitVec.toNat_add];congr 1
theorem vG (a:Nat):Value.int .u8 (IntKind.u8.wrap (a:Int))=.int .u8 (BitVec.toNat (BitVec.ofNat 8 a):Int):=by rw [zc4,BitVec.toNat_ofNat];congr 1
theorem zfz {m:Nat}(x:BitVec m):Value.int .u8 (IntKind.u8.wrap (BitVec.toNat x:Int))=.int .u8 (BitVec.toNat (BitVec.setWidth 8 x):Int):=by rw [zc4,BitVec.toNat_setWidth];congr 1
section
variable {P:Program}{ρ:Env}
theorem zfA {t e:TypeId}{size bytes:Nat}(ht:yd P t=some (e,size,bytes)){x y:Operand}{o:Oper}{kd:IntKind}(b n c k:Nat)(ho:o.op=.slice t x none (some y) none)(hx:ev ρ x=.slice (some ⟨b,0,none⟩) n c)(hy:ev ρ y=.int kd (k:Int))(hk:k≤c):
 ∀w,(execOp (ev ρ) o).run P w=.ok (.value (.slice (some ⟨b,0,none⟩) k c)) w:=fun w=>by
 obtain ⟨it,z,hu,hi,hz,hsz,hby,hzs,h0⟩:=yW ht;have hS:(sizeOf e).run P w=.ok size w:=by simp [sizeOf,typeInfo,hi,hsz]
 have h1:(0:Int)≤(k:Int)∧(k:Int)≤(c:Int):=by omega
 unfold execOp;simp [ho,hx,hy,Instr.sliceAt,Instr.slice,Instr.sliceBounds,Instr.sliceBound,asIntOf,run_underlying hu,hS,hk,qn]
end
namespace D2
section
variable {P:Program}{ops:Array Oper}{R:(Nat→Gh)→Env}{i:Nat}{d:Option Nat}
variable {E:(Nat→Bool)→(Nat→Gh)→List Ent}{F:(Nat→Bool)→(Nat→Gh)→Prop}{B:Nat}{w0:World}
end
end D2
section
variable {P:Program}{N:Nat}{ops:Array Oper}{i:Nat}{r:List Nat}{K:Env→World→Prop}{ρ:Env}{w:World}{B:Nat}{w0:World}{l:List (Nat×Obj)}
theorem zj3 (HS:St B w0 w l)(d:Option Nat)(t e:TypeId)(bytes:Nat)(z:Value)(x y:Operand)(kl kc:IntKind)(n:Nat)(h:opk ops i ρ=some (d,true,.makeSlice t x y))(hd:dOK d N=true)(ht:yd P t=some (e,1,bytes))(hz:(P.info? e).bind (·.zero)=some z)(hzz:z.cells=#[z])
 (hx:ev ρ x=.int kl (n:Int)) (hy:ev ρ y=.int kc (n:Int)) (hb:bytes*n≤281474976710656) (hm:n≤maxLen)
 (kk: ∀b cur w',St B w0 w' ((b,.cells cur e (0,0))::l)→Rw 1 cur n n (List.replicate n z)→WPs P N ops K r (zm ρ d (.slice (some ⟨b,0,none⟩) n n)) w'):WPs P N ops K (i::r) ρ w:=by
 obtain ⟨o,ho,rfl,hw,hop⟩:=zH h;obtain ⟨it,z',hu,hi,hz',hsz,hby,hzs,h0⟩:=yW ht;obtain rfl:z'=z:=by rw [hi] at hz;simp [hz'] at hz;exact hz
 have hml:n≤0x7fffffffffffffff:=by have:=hm;simp only [maxLen] at this;omega
 have hbi:(it.bytes:Int)*(n:Int)≤281474976710656:=by
  rw [hby,←Int.natCast_mul];omega
 have hr:=run_make (P:=P) w t e it z' hu hi hz' kl kc (n:Int) (n:Int) (by omega) (by omega) hbi (by omega);simp only [Int.toNat_natCast,hsz,Nat.mul_one] at hr;have hmade:madeCells z'.cells n=Array.replicate n z':=by
  unfold madeCells;apply Array.ext
  ·simp
  ·intro q h1 h2;simp [hzz,Nat.mod_one]
 rw [hmade] at hr;refine WPo.run ho hw fun a ha=>?_;have hex:(execOp (ev ρ) o).run P w=.ok (.value (.slice (some ⟨w.heap.size,0,none⟩) n n)) (w.alloc (.cells (Array.replicate n z') e)):=by
  unfold execOp;simp only [hop,hx,hy,Sem.run_bind,hr,Result.andThen_ok];rfl
 rw [hex,Oper.upon_value];exact ⟨_,ha.put _ (zM hd) _,kk _ _ _ (HS.alloc _) ⟨by simp,Nat.le_refl _,hm,by simp,by simp⟩⟩
end
end Go.Proofs.YtpghmdbjmigjlaaGreatDoor
namespace Go.Proofs.YtpghmdbjmigjlaaGreatDoor
open Go Go.RowKit
set_option linter.unusedVariables false
def tl (s:ByteArray):List UInt8:=s.data.toList
theorem zy (s:ByteArray):(tl s).length=s.size:=rfl
theorem qC (s:ByteArray)(a b:Nat):tl (s.extract a b)=((tl s).take b).drop a:=by
 unfold tl;rw [ByteArray.data_extract,Array.toList_extract,List.extract_eq_take_drop];rw [List.take_drop];rcases Nat.lt_or_ge b a with h | h
 ·rw [show a+(b-a)=a by omega,List.drop_of_length_le (List.length_take_le _ _),List.drop_of_length_le (Nat.le_trans (List.length_take_le _ _) (by omega))]
 ·rw [show a+(b-a)=b by omega]
def by_ (s:ByteArray)(i:Nat):Nat:=((tl s).getD i 0).toNat
theorem jK (s:ByteArray)(i:Nat):by_ s i<256:=UInt8.toNat_lt _
section
variable {P:Program}{ρ:Env}
theorem qV {t:TypeId}(ht:P.underlying t=some .string){x y:Operand}{o:Oper}{kd:IntKind}(s:ByteArray)(k:Nat)(ho:o.op=.index t x y)(hx:ev ρ x=.string s)(hy:ev ρ y=.int kd (k:Int))(hk:k<s.size):
 ∀w,(execOp (ev ρ) o).run P w=.ok (.value (.int .u8 ((by_ s k:Nat):Int))) w:=fun w=>by
 have hg:s[k]? =some ((tl s).getD k 0):=by
  have h1:k<s.data.toList.length:=hk;have h2:(tl s).getD k 0=s.data[k]'hk:=by unfold tl;rw [List.getD_eq_getElem?_getD,List.getElem?_eq_getElem h1];rfl
  rw [h2];exact getElem?_pos s k hk
 unfold execOp;simp [ho,hx,hy,Instr.index,asIntOf,run_underlying ht,hg,by_]
theorem vH {t:TypeId}(ht:P.underlying t=some .string){x y:Operand}{o:Oper}{kd:IntKind}(s:ByteArray)(k:Nat)(ho:o.op=.slice t x none (some y) none)(hx:ev ρ x=.string s)(hy:ev ρ y=.int kd (k:Int))(hk:k≤s.size):
 ∀w,(execOp (ev ρ) o).run P w=.ok (.value (.string (s.extract 0 k))) w:=fun w=>by
 have h1:(0:Int)≤(k:Int)∧(k:Int)≤(s.size:Int):=by omega
 unfold execOp;simp [ho,hx,hy,Instr.sliceAt,Instr.slice,Instr.sliceBounds,Instr.sliceBound,asIntOf,run_underlying ht,hk]
theorem zfB {t:TypeId}(ht:P.underlying t=some .string){x y z:Operand}{o:Oper}{kd kz:IntKind}(s:ByteArray)(j k:Nat)(ho:o.op=.slice t x (some z) (some y) none)(hx:ev ρ x=.string s)(hy:ev ρ y=.int kd (k:Int))(hz:ev ρ z=.int kz (j:Int))(hk:k≤s.size)(hj:j≤k):
 ∀w,(execOp (ev ρ) o).run P w=.ok (.value (.string (s.extract j k))) w:=fun w=>by
 unfold execOp;simp [ho,hx,hy,hz,Instr.sliceAt,Instr.slice,Instr.sliceBounds,Instr.sliceBound,asIntOf,run_underlying ht,hk,hj]
theorem zfC {t:TypeId}(ht:P.underlying t=some .string){x z:Operand}{o:Oper}{kz:IntKind}(s:ByteArray)(j:Nat)(ho:o.op=.slice t x (some z) none none)(hx:ev ρ x=.string s)(hz:ev ρ z=.int kz (j:Int))(hj:j≤s.size):
 ∀w,(execOp (ev ρ) o).run P w=.ok (.value (.string (s.extract j s.size))) w:=fun w=>by
 unfold execOp;simp [ho,hx,hz,Instr.sliceAt,Instr.slice,Instr.sliceBounds,Instr.sliceBound,asIntOf,run_underlying ht,hj]
end
theorem zj4 (a b:Nat):(if (b:Int)>(a:Int) then (b:Int) else (a:Int))=((max a b:Nat):Int):=by split<;>omega
theorem zj5 (s:ByteArray):(s.toList==s.toList)=true:=beq_self_eq_true _
section
variable {P:Program}{N:Nat}{ops:Array Oper}{i:Nat}{r:List Nat}{K:Env→World→Prop}{ρ:Env}{w:World}{B:Nat}{w0:World}{l:List (Nat×Obj)}
theorem zj6 (HS:St B w0 w l)(d:Option Nat)(t t' e:TypeId)(x:Operand)(j b n cap:Nat)(cur:Array Value)(T:TypeId)(fz:Nat×Nat)(xs:List Int)(h:opk ops i ρ=some (d,true,.convert t t' x))(hd:dOK d N=true)
 (ht:P.underlying t=some (.slice e)) (he:P.underlying e=some (.int .u8)) (ht':P.underlying t'=some .string)
 (hx:ev ρ x=.slice (some ⟨b,0,none⟩) n cap) (hj:l[j]? =some (b,.cells cur T fz)) (hr:Rw 1 cur cap n (xs.map (Value.int .u8)))
 (kk:WPs P N ops K r (zm ρ d (.string (strOfNums xs))) w):WPs P N ops K (i::r) ρ w:=by
 refine zaP d _ _ w h hd (fun o ho=>?_) kk;have hlen:xs.length=n:=by have:=hr.len;simpa using this
 have hc:=run_convert_bytes_arg (P:=P) w t e ht he b 0 n cap xs hlen (fun q hq=>by
  have h2:=hr.get q (by omega)
  simp [World.cell?,HS.get j hj,h2,hlen,hq]) t' ht'
 unfold execOp;simp only [ho,hx,hc,Sem.run_bind,Result.andThen_ok];rfl
end
theorem xV {P:Program}{t t' e:TypeId}{x:Operand}{j b n cap:Nat}{cur:Array Value}{T:TypeId}{fz:Nat×Nat}(xs:List Int)(ht:P.underlying t=some (.slice e))(he:P.underlying e=some (.int .u8))(ht':P.underlying t'=some .string)
 (hr:Rw 1 cur cap n (xs.map (Value.int .u8))): ∀(ρ:Env) (o:Oper) (w:World),o.op=.convert t t' x→Ins (ev ρ) [(x,.slice (some ⟨b,0,none⟩) n cap)]→Hd [(j,(b,.cells cur T fz))] w→(execOp (ev ρ) o).run P w=.ok (.value (.string (strOfNums xs))) w:=fun ρ o w ho hi hd=>by
 have hx:ev ρ x=.slice (some ⟨b,0,none⟩) n cap:=hi.1;have hlen:xs.length=n:=by have:=hr.len;simpa using this
 have hc:=run_convert_bytes_arg (P:=P) w t e ht he b 0 n cap xs hlen (fun q hq=>by
  have h2:=hr.get q (by omega)
  simp [World.cell?,hd.1,h2,hlen,hq]) t' ht'
 unfold execOp;simp only [ho,hx,hc,Sem.run_bind,Result.andThen_ok];rfl
def zZ (n:Nat)(f:Nat→Value):List Value:=(List.range n).map f
theorem xv (n:Nat)(f:Nat→Value):(zZ n f).length=n:=by unfold zZ;simp
theorem za5 {n:Nat}{f:Nat→Value}{k:Nat}(h:k<n):(zZ n f)[k]? =some (f k):=by unfold zZ;simp [h]
theorem zj7 {n:Nat}{f g:Nat→Value}(h: ∀j,j<n→f j=g j):zZ n f=zZ n g:=by
 unfold zZ;exact List.map_congr_left fun j hj=>h j (by simpa using hj)
theorem zj8 {n:Nat}{f g:Nat→Value}{k:Nat}{v:Value}(h:k<n)(hg: ∀j,j<n→g j=if j=k then v else f j):(zZ n f).set k v=zZ n g:=by
 apply List.ext_getElem?;intro j;rw [List.getElem?_set];by_cases hj:j<n
 ·rw [za5 hj,za5 hj,hg j hj];by_cases hkj:k=j
  ·subst hkj;rw [if_pos rfl,if_pos (by rw [xv];exact hj),if_pos rfl]
  ·rw [if_neg hkj,if_neg (fun e=>hkj e.symm)]
 ·have e1:(zZ n f)[j]? =none:=List.getElem?_eq_none (by rw [xv];omega);have e2:(zZ n g)[j]? =none:=List.getElem?_eq_none (by rw [xv];omega);rw [e1,e2,if_neg (by omega)]
theorem zj9 {n:Nat}{f:Nat→Value}(h: ∀j,j<n→(f j).oneCell'=true): ∀u∈zZ n f,u.oneCell'=true:=by
 intro u hu;unfold zZ at hu;obtain ⟨j,hj,rfl⟩:=List.mem_map.1 hu;exact h j (by simpa using hj)
theorem zc5 {C:Array Value}{pre post:List Value}{n:Nat}{f:Nat→Value}(hC:C.toList=pre++zZ n f++post){off k:Nat}(ho:off=pre.length+k*1)(hk:k<n):C[off]? =some (f k):=by
 subst ho
 rw [←Array.getElem?_toList,hC,List.append_assoc,List.getElem?_append_right (by omega),show pre.length+k*1-pre.length=k by omega,
  List.getElem?_append_left (by rw [xv];exact hk),za5 hk]
theorem zc6 {C:Array Value}{pre post:List Value}{n:Nat}{f g:Nat→Value}(hC:C.toList=pre++zZ n f++post){off k:Nat}{v:Value}(hv:v.cells=#[v])(ho:off=pre.length+k*1)(hk:k<n)
 (hg: ∀j,j<n→g j=if j=k then v else f j):(C.toList.take off++v.cells.toList++C.toList.drop (off+v.cells.size)).toArray=(pre++zZ n g++post).toArray:=by
 subst ho;congr 1;have hlt:pre.length+k*1<C.toList.length:=by rw [hC];simp [xv];omega
 rw [hv];show List.take _ _++ [v]++List.drop (_+1) _=_;have e:List.take (pre.length+k*1) C.toList++ [v]++List.drop (pre.length+k*1+1) C.toList=C.toList.set (pre.length+k*1) v:=by
  rw [List.set_eq_take_append_cons_drop,if_pos hlt,List.append_assoc];rfl
 rw [e,hC,List.append_assoc,List.set_append_right _ _ (by omega),show pre.length+k*1-pre.length=k by omega,List.set_append_left _ _ (by rw [xv];exact hk),zj8 hk hg,List.append_assoc]
theorem zc7 {P:Program}{ρ:Env}{t e:TypeId}{n:Nat}(ht:P.underlying t=some (.array n e))(he:P.plainKey e=true)(hz:(P.info? e).map (·.size)=some 1){x y:Operand}{o:Oper}{kd:IntKind}(C:Array Value)(k:Nat)(v:Value)
 (ho:o.op=.index t x y) (hx:ev ρ x=.agg C) (hy:ev ρ y=.int kd (k:Int)) (hk:k<n) (hv:C[0+k*1]? =some v): ∀w,(execOp (ev ρ) o).run P w=.ok (.value v) w:=fun w=>by
 obtain ⟨it,hi,hsz⟩:=Option.map_eq_some_iff.1 hz;have hS:(sizeOf e).run P w=.ok 1 w:=by simp [sizeOf,typeInfo,hi,hsz]
 have hp:(part e C (k*1)).run P w=.ok v w:=run_part_plain w he (by rw [Nat.zero_add] at hv;exact hv);have h1:(0:Int)≤(k:Int)∧(k:Int)<(n:Int):=by omega
 unfold execOp;simp only [Nat.mul_one] at hp;simp [ho,hx,hy,Instr.index,asIntOf,run_underlying ht,hS,hp,hk]
theorem kM {P:Program}{ρ:Env}{t t':TypeId}{x y:Operand}{o:Oper}(a b:ByteArray)(w:World)(ho:o.op=.binOp .add t x y t')(hx:ev ρ x=.string a)(hy:ev ρ y=.string b)(h:a.size+b.size≤0x7fffffffffffffff):
 (execOp (ev ρ) o).run P w=.ok (.value (.string (a++b))) w:=by
 unfold execOp;simp [ho,hx,hy,eqGuard,binOp,run_string_add_sum w a b h]
theorem vI (a b:ByteArray):tl (a++b)=tl a++tl b:=by unfold tl;simp
theorem zka (x:BitVec 32):Value.int .u32 (Go.bits .xor .u32 4294967295 (BitVec.toNat x:Int))=.int .u32 (BitVec.toNat (~~~x):Int):=by
 have h:=uK (4294967295:BitVec 32) x;have e:(4294967295:BitVec 32) ^^^ x= ~~~x:=by rw [show (4294967295:BitVec 32)=BitVec.allOnes 32 from rfl,BitVec.allOnes_xor]
 rw [e] at h;exact h
def kP (dT sT:TypeId)(x y:Operand):Op:=.call { callee:=.builtin .copy,args:=#[x,y],argTypes:=#[dT,sT] }
theorem zkb {P:Program}{ρ:Env}{w:World}{dT sT e:TypeId}{bytes:Nat}{x y:Operand}{bd dLen dCap bs m mc q:Nat}{C CS C':Array Value}{T TS:TypeId}{fz:Nat×Nat}{cs:List Value}
 (ht:yd P dT=some (e,1,bytes)) (hx:ev ρ x=.slice (some ⟨bd,0,none⟩) dLen dCap) (hy:ev ρ y=.slice (some ⟨bs,0,none⟩) m mc)
 (hD:w.heap[bd]? =some (.cells C T (0,0))) (hS:w.heap[bs]? =some (.cells CS TS fz)) (hq:Nat.min m dLen=q) (hcs:CS.toList.take q=cs) (hl:cs.length=q) (h1: ∀u∈cs,u.oneCell'=true) (hfit:q≤C.size)
 (hC:(cs++C.toList.drop q).toArray=C') (o:Oper) (ho:o.op=kP dT sT x y):(execOp (ev ρ) o).run P w=.ok (.value (.int .i64 (q:Int))) (w.setRow bd C'):=by
 obtain ⟨it,z,hu,hi,hz,hsz,hby,hzs,h0⟩:=yW ht;have hs1:(P.info? e).map (·.size)=some 1:=by rw [hi];simp [hsz]
 have hr:=run_copy_row (P:=P) w dT sT o.type e bd 0 dLen dCap ⟨bs,0,none⟩ m mc C T cs hu hs1 hD (by rw [hl,hq]) (fun j v hj=>by
  have hjl:j<q:=by rw [←hl];exact (List.getElem?_eq_some_iff.1 hj).1
  rw [←hcs,List.getElem?_take,if_pos hjl,Array.getElem?_toList] at hj;rw [qn,Nat.zero_add]
  simp [World.cell?,hS,hj]) (by omega) h1
 rw [show C.toList.take 0++cs++C.toList.drop (0+cs.length)=cs++C.toList.drop q by rw [hl];simp,hC,hl] at hr;unfold execOp;simp only [ho,kP,resolve,invoke,builtin,Sem.run_bind,Sem.run_pure,Result.andThen_ok,List.map_toArray,List.map_cons,List.map_nil,hx,hy,hr];rfl
def cellsB (l:List UInt8):List Value:=l.map fun b=>Value.int .u8 (b.toNat:Int)
theorem qh (l:List UInt8):(cellsB l).length=l.length:=by unfold cellsB;simp
theorem zc8 (a b:List UInt8):cellsB (a++b)=cellsB a++cellsB b:=by unfold cellsB;simp
theorem zkc (l:List UInt8)(i:Nat)(hi:i<l.length):(cellsB l)[i]? =some (.int .u8 (((l.getD i 0).toNat:Nat):Int)):=by
 unfold cellsB;simp [hi]
theorem zfD {P:Program}{ρ:Env}{w:World}{dT sT e:TypeId}{bytes:Nat}{x y:Operand}{bd dLen dCap:Nat}{C C':Array Value}{T:TypeId}{s:ByteArray}
 (ht:yd P dT=some (e,1,bytes)) (hx:ev ρ x=.slice (some ⟨bd,0,none⟩) dLen dCap) (hy:ev ρ y=.string s)
 (hD:w.heap[bd]? =some (.cells C T (0,0))) (hle:s.size≤dLen) (hfit:s.size≤C.size)
 (hC:(cellsB (tl s)++C.toList.drop s.size).toArray=C') (o:Oper) (ho:o.op=kP dT sT x y):(execOp (ev ρ) o).run P w=.ok (.value (.int .i64 (s.size:Int))) (w.setRow bd C'):=by
 obtain ⟨it,z,hu,hi,hz,hsz,hby,hzs,h0⟩:=yW ht;have hs1:(P.info? e).map (·.size)=some 1:=by rw [hi];simp [hsz]
 have hr:=Go.Lib.run_copy_row_string (P:=P) w dT sT o.type e bd 0 dLen dCap s C T hu hs1 hD hle (by omega);rw [show C.toList.take 0++Go.Lib.byteCells s.data.toList++C.toList.drop (0+s.size)=cellsB (tl s)++C.toList.drop s.size by unfold tl cellsB Go.Lib.byteCells;simp,hC] at hr;unfold execOp;simp only [ho,kP,resolve,invoke,builtin,Sem.run_bind,Sem.run_pure,Result.andThen_ok,List.map_toArray,List.map_cons,List.map_nil,hx,hy,hr];rfl
def zf (l:List UInt8):ByteArray:=⟨l.toArray⟩
theorem ji (l:List UInt8):tl (zf l)=l:=rfl
theorem uN (s:ByteArray):zf (tl s)=s:=rfl
theorem qt (l:List UInt8):(zf l).size=l.length:=rfl
theorem kQ {P:Program}{ρ:Env}{t e:TypeId}{n z:Nat}(ht:P.underlying t=some (.array n e))(hz:(P.info? e).map (·.size)=some z){x:Operand}{o:Oper}(b:Nat)(ho:o.op=.slice t x none none none)(hx:ev ρ x=.pointer (some ⟨b,0,none⟩)):
 ∀w,(execOp (ev ρ) o).run P w=.ok (.value (.slice (some ⟨b,0,none⟩) n n)) w:=fun w=>by
 obtain ⟨it,hi,hsz⟩:=Option.map_eq_some_iff.1 hz;have hS:(sizeOf e).run P w=.ok z w:=by simp [sizeOf,typeInfo,hi,hsz]
 unfold execOp;simp [ho,hx,Instr.sliceAt,Instr.slice,Instr.sliceBounds,Instr.sureAddr,run_underlying ht,hS,qn]
theorem zfE (l:List UInt8):strOfNums (l.map fun b=>(b.toNat:Int))=zf l:=by
 unfold strOfNums zf;refine congrArg (fun l:List UInt8=>ByteArray.mk l.toArray) ?_;rw [List.map_map]
 conv=>rhs;rw [←List.map_id l]
 refine List.map_congr_left fun b _=>?_;apply UInt8.toNat_inj.1;simp
theorem zkd (z:Nat):cellsB (List.replicate z 0)=List.replicate z (.int .u8 0):=by unfold cellsB;rw [List.map_replicate];rfl
theorem zke {a:Int}(h1: -0x7fffffffffffffff≤a)(h2:a≤0x7fffffffffffffff):IntKind.i64.wrap (0-a)= -a:=by
 rw [wrap_i64 (by omega) (by omega)];omega
theorem Rw.putB {cur:Array Value}{cap n:Nat}{l:List UInt8}(h:Rw 1 cur cap n (cellsB l))(i:Nat)(v:UInt8)(hi:i<n):
 ∃cur',(cur.toList.take (0+i*1)++(Value.int .u8 (v.toNat:Int)).cells.toList++cur.toList.drop (0+i*1+(Value.int .u8 (v.toNat:Int)).cells.size)).toArray=cur'∧(0+i*1+(Value.int .u8 (v.toNat:Int)).cells.size≤cur.size)∧Rw 1 cur' cap n (cellsB (l.set i v)):=by
 have h1:(Value.int .u8 (v.toNat:Int)).cells=#[.int .u8 (v.toNat:Int)]:=rfl;have hsz:=h.sz;have hle:=h.le;have hlt:i<cur.toList.length:=by simp;omega
 have e:cur.toList.take (0+i*1)++(Value.int .u8 (v.toNat:Int)).cells.toList++cur.toList.drop (0+i*1+(Value.int .u8 (v.toNat:Int)).cells.size)=cur.toList.set i (.int .u8 (v.toNat:Int)):=by
  rw [h1,Nat.zero_add,Nat.mul_one,List.set_eq_take_append_cons_drop,if_pos hlt];simp
 refine ⟨_,rfl,by rw [h1];simp;omega,?_⟩;rw [e];refine ⟨?_,h.le,h.max,?_,by simpa using hsz⟩
 ·have:=h.len;unfold cellsB at this ⊢;simpa using this
 ·have:=h.take;simp only [List.take_set,Nat.mul_one] at this ⊢;rw [this];unfold cellsB;simp [List.map_set]
theorem Rw.ints {cur:Array Value}{cap n:Nat}{l:List UInt8}(h:Rw 1 cur cap n (cellsB l)):Rw 1 cur cap n ((l.map fun b=>(b.toNat:Int)).map (Value.int .u8)):=by
 rw [List.map_map];exact h
def kT (k:IntKind)(n:Nat):Value:=.agg (Array.replicate n (.int k 0))
def yz (n:Nat)(f:Nat→BitVec 8):Value:=.agg (zZ n fun j=>.int .u8 (BitVec.toNat (f j):Int)).toArray
theorem zkf {n:Nat}(f:Nat→BitVec 8){k off:Nat}(ho:off=0+k*1)(hk:k<n):(Value.cells (yz n f))[off]? =some (.int .u8 (BitVec.toNat (f k):Int)):=
 zc5 (pre:=[]) (post:=[]) (n:=n) (f:=fun j=>.int .u8 (BitVec.toNat (f j):Int)) (by show zZ n _=[]++zZ n _++ [];simp) (by simpa using ho) hk
theorem zc9 {n:Nat}{f g:Nat→BitVec 8}{k off:Nat}{x:BitVec 8}(ho:off=0+k*1)(hk:k<n)(hg: ∀j,j<n→g j=if j=k then x else f j):
 ((Value.cells (yz n f)).toList.take off++(Value.int .u8 (BitVec.toNat x:Int)).cells.toList++(Value.cells (yz n f)).toList.drop (off+(Value.int .u8 (BitVec.toNat x:Int)).cells.size)).toArray=Value.cells (yz n g):=by
 rw [zc6 (pre:=[]) (post:=[]) (n:=n) (f:=fun j=>.int .u8 (BitVec.toNat (f j):Int)) (g:=fun j=>.int .u8 (BitVec.toNat (g j):Int)) (by show zZ n _=[]++zZ n _++ [];simp) rfl (by simpa using ho) hk (fun j hj=>by rw [hg j hj];split<;>rfl)];simp;rfl
theorem zda (n:Nat)(f:Nat→BitVec 8)(hn:n≤maxLen):Rw 1 (Value.cells (yz n f)) n n (cellsB ((List.range n).map fun i=>UInt8.ofBitVec (f i))):=by
 have e:(Value.cells (yz n f)).toList=cellsB ((List.range n).map fun i=>UInt8.ofBitVec (f i)):=by
  show zZ n _=_;unfold zZ cellsB;rw [List.map_map];rfl
 rw [←e];have h2:(Value.cells (yz n f)).size=n*1:=by
  rw [←Array.length_toList,e,qh];simp
 exact Rw.lit _ n h2 hn
section
variable {P:Program}{N:Nat}{ops:Array Oper}{i:Nat}{r:List Nat}{K:Env→World→Prop}{ρ:Env}{w:World}{B:Nat}{w0:World}{l:List (Nat×Obj)}
theorem zkg (HS:St B w0 w l)(d:Option Nat)(dT sT e bytes:Nat)(x y:Operand)(jd bd dLen dCap:Nat)(s:ByteArray)(C C':Array Value)(T:TypeId)(l':List (Nat×Obj))
 (h:opk ops i ρ=some (d,true,kP dT sT x y)) (hd:dOK d N=true) (ht:yd P dT=some (e,1,bytes)) (hx:ev ρ x=.slice (some ⟨bd,0,none⟩) dLen dCap) (hy:ev ρ y=.string s)
 (hj:l[jd]? =some (bd,.cells C T (0,0))) (hle:s.size≤dLen) (hfit:s.size≤C.size)
 (hC:(cellsB (tl s)++C.toList.drop s.size).toArray=C') (hl':l.set jd (bd,.cells C' T (0,0))=l') (kk: ∀w',St B w0 w' l'→WPs P N ops K r (zm ρ d (.int .i64 (s.size:Int))) w'):WPs P N ops K (i::r) ρ w:=by
 subst hl';exact zaP d _ _ _ h hd (zfD ht hx hy (HS.get jd hj) hle hfit hC) (kk _ (HS.store jd hj))
theorem zkh (HS:St B w0 w l)(d:Option Nat)(t e:TypeId)(bytes:Nat)(z:Value)(x y:Operand)(kl kc:IntKind)(n c:Nat)(h:opk ops i ρ=some (d,true,.makeSlice t x y))(hd:dOK d N=true)(ht:yd P t=some (e,1,bytes))(hz:(P.info? e).bind (·.zero)=some z)(hzz:z.cells=#[z])
 (hx:ev ρ x=.int kl (n:Int)) (hy:ev ρ y=.int kc (c:Int)) (hnc:n≤c) (hb:bytes*c≤281474976710656) (hm:c≤maxLen)
 (kk: ∀b cur w',St B w0 w' ((b,.cells cur e (0,0))::l)→Rw 1 cur c n (List.replicate n z)→WPs P N ops K r (zm ρ d (.slice (some ⟨b,0,none⟩) n c)) w'):WPs P N ops K (i::r) ρ w:=by
 obtain ⟨o,ho,rfl,hw,hop⟩:=zH h;obtain ⟨it,z',hu,hi,hz',hsz,hby,hzs,h0⟩:=yW ht;obtain rfl:z'=z:=by rw [hi] at hz;simp [hz'] at hz;exact hz
 have hml:c≤0x7fffffffffffffff:=by have:=hm;simp only [maxLen] at this;omega
 have hbi:(it.bytes:Int)*(c:Int)≤281474976710656:=by
  rw [hby,←Int.natCast_mul];omega
 have hr:=run_make (P:=P) w t e it z' hu hi hz' kl kc (n:Int) (c:Int) (by omega) (by omega) hbi (by omega);simp only [Int.toNat_natCast,hsz,Nat.mul_one] at hr;have hmade:madeCells z'.cells c=Array.replicate c z':=by
  unfold madeCells;apply Array.ext
  ·simp
  ·intro q h1 h2;simp [hzz,Nat.mod_one]
 rw [hmade] at hr;refine WPo.run ho hw fun a ha=>?_;have hex:(execOp (ev ρ) o).run P w=.ok (.value (.slice (some ⟨w.heap.size,0,none⟩) n c)) (w.alloc (.cells (Array.replicate c z') e)):=by
  unfold execOp;simp only [hop,hx,hy,Sem.run_bind,hr,Result.andThen_ok];rfl
 rw [hex,Oper.upon_value];exact ⟨_,ha.put _ (zM hd) _,kk _ _ _ (HS.alloc _) ⟨by simp,hnc,hm,by simp [List.take_replicate,Nat.min_eq_left hnc],by simp⟩⟩
theorem zki (HS:St B w0 w l)(d:Option Nat)(t t' e:TypeId)(x:Operand)(j b n cap:Nat)(cur:Array Value)(T:TypeId)(fz:Nat×Nat)(xs:List UInt8)(h:opk ops i ρ=some (d,true,.convert t t' x))(hd:dOK d N=true)
 (ht:P.underlying t=some (.slice e)) (he:P.underlying e=some (.int .u8)) (ht':P.underlying t'=some .string)
 (hx:ev ρ x=.slice (some ⟨b,0,none⟩) n cap) (hj:l[j]? =some (b,.cells cur T fz)) (hr:Rw 1 cur cap n (cellsB xs))
 (kk:WPs P N ops K r (zm ρ d (.string (zf xs))) w):WPs P N ops K (i::r) ρ w:=
 zj6 HS d t t' e x j b n cap cur T fz _ h hd ht he ht' hx hj hr.ints (by rw [zfE];exact kk)
end
namespace D2
section
variable {P:Program}{ops:Array Oper}{R:(Nat→Gh)→Env}{i:Nat}{d:Option Nat}
variable {E:(Nat→Bool)→(Nat→Gh)→List Ent}{F:(Nat→Bool)→(Nat→Gh)→Prop}{B:Nat}{w0:World}
end
end D2
end Go.Proofs.YtpghmdbjmigjlaaGreatDoor
namespace Go.Proofs.YtpghmdbjmigjlaaGreatDoor
open Go Go.RowKit
set_option linter.unusedVariables false
section
variable {P:Program}{N:Nat}{ops:Array Oper}{i:Nat}{r:List Nat}{K:Env→World→Prop}{ρ:Env}{w:World}{B:Nat}{w0:World}{l:List (Nat×Obj)}
end
namespace D2
section
variable {P:Program}{ops:Array Oper}{R:(Nat→Gh)→Env}{i:Nat}{d:Option Nat}
variable {E:(Nat→Bool)→(Nat→Gh)→List Ent}{F:(Nat→Bool)→(Nat→Gh)→Prop}{B:Nat}{w0:World}
end
end D2
end Go.Proofs.YtpghmdbjmigjlaaGreatDoor
