/-
  Texts of the proof,part 1.
-/
import Derived.WalkKit
import Derived.ProofKit
import Derived.Orders
import Derived.Maps.AppendAt
import Derived.Laws.BitsAllLaws
import Derived.Laws.MakeOwn
import Derived.Laws.BytesArg
import Derived.Laws.CopyRow
import Derived.Laws.Concat
import Derived.Lib.BufferWrite
import Derived.Laws.IdiomStrings
import Derived.Lib.UnsafeStr
import Derived.Lib.AppendZeros
import Derived.Lib.Overlaps
import Derived.Scope
import Derived.Deep.Upon
import Derived.Test.YtdaeahhkiilbaaaRows
import Derived.ChangeArms
import Derived.ChangeSlices
import Derived.OpenShut
import Derived.Deep.Strs
import Derived.DataReads
import Derived.Below
import Derived.KernelRfl
import Derived.Test.YtdaeahhkiilbaaaProg
import Derived.Handy
import Derived.WalkLawsBesides
import Derived.Shelf.Spec.BitsCarry
import Derived.Shelf.Bits.Mul64
import Derived.Laws.Bits64b
import Derived.Lib.BitFns
import Derived.Shelf.Strconv.Itoa0
import Derived.Lib.Hide
import Derived.Laws.StructEq
import Derived.ChangeKeysEq
import Derived.Test.YtdaeahhkiilbaaaChecked
import Derived.Laws.IdiomArrays
import Derived.Lib.AppendStr
import Derived.Lib.Builder
import Derived.Recover
import Derived.Laws.BitsLemmas
import Derived.Laws.Externs
import Derived.MapKept
import Derived.SizedLaws
set_option maxRecDepth 100000
set_option maxHeartbeats 4000000
set_option linter.unusedVariables false
open Go Go.RowKit
open Below renaming refl->Qs
open Bool renaming and_eq_true->Qr
open DataW renaming weightsEach->QF,trod->QN
open Instr renaming loadAt->QC
open IntKind renaming i64->Qn,u64->Qw
open List renaming range->Qm,getElem?_eq_getElem->Qt,map_cons->Qv,getElem?_set->Qz,mem_of_getElem?->QA,nodup_cons->QB,mem_map->QD,getElem?_map->QE,replicate->QJ,cons->QL
open Nat renaming eq_of_beq_eq_true->Qk,beq->Qq,le_of_ble_eq_true->Qu,le_refl->Qx,le_trans->QH,blt->QP
open Oper renaming upon_value->Qy
open Region renaming wanted->Qp
open Result renaming andThen_ok->Ql
open Sem renaming run_bind->Qo
open UInt8 renaming ofNat->QM
open World renaming cell?->QI,setRow->QK
open _root_.Array renaming replicate->QG
open _root_.ByteArray renaming size->Qj
namespace Go.Proofs.Ytdaeahhkiilbaaa
abbrev Qa:=ByteArray
abbrev Qc:=Option Addr
abbrev Qb:=List (Nat×Obj)
abbrev Qd:=Array Value
abbrev Qi:=List ByteArray
abbrev Qg (b:Nat):Option Addr:=some ⟨b,0,none⟩
abbrev Qe (b:Nat):Value:=.pointer (some ⟨b,0,none⟩)
abbrev Qf (b n c:Nat):Value:=.slice (some ⟨b,0,none⟩) n c
abbrev wZ:Value:=.int .u64 0
abbrev iN (n:Nat):Value:=.int .i64 (n:Int)
abbrev em:Qa:=⟨#[]⟩
theorem kr {α:Sort _}{a b:α}(h:a=b:=by kernel_rfl):a=b:=h
@[reducible] def Env:=Nat->Value
def upd (ρ:Env)(d:Nat)(v:Value):Env:=fun t=>bif Qq t d then v else ρ t
def zd (ρ:Env):Option Nat->Value->Env
 | some d,v=>upd ρ d v
 | none,_=>ρ
def ev (ρ:Env):Operand->Value
 | .tmp t=>ρ t
 | .const v=>v
 | .global g=>.pointer (some ⟨g,0,none⟩)
 | .func f=>.func (.func f) #[] #[]
def ini (args:Qd):Env:=fun t=>args.getD t undef
structure Rep (a:Act)(ρ:Env)(N:Nat):Prop where
 defers:a.defers=[]
 size:a.tmps.size=N
 at_: ∀t,a.tmps.getD t undef=ρ t
theorem Rep.eval {a:Act}{ρ:Env}{N:Nat}(h:Rep a ρ N):a.eval=ev ρ:=by
 funext x;cases x<;>first | rfl | exact h.at_ _
theorem zM (a:Qd)(t:Nat):a.getD t undef=(a[t]?).getD undef:=by
 simp[Array.getD_eq_getD_getElem?]
theorem Rep.get? {a:Act}{ρ:Env}{N:Nat}(h:Rep a ρ N){t:Nat}(ht:t<N):a.tmps[t]? =some (ρ t):=by
 have e:=h.at_ t;rw[zM]at e;have:t<a.tmps.size:=by rw[h.size];exact ht
 rw[Array.getElem?_eq_getElem this]at e⊢
 simpa using e
theorem Rep.put {a:Act}{ρ:Env}{N:Nat}(h:Rep a ρ N)(d:Option Nat)(hd: ∀k,d=some k->k<N)(v:Value):Rep (a.put d v) (zd ρ d v) N:=by
 cases d with
 | none=>exact h
 | some k=>
  have hk:=hd k rfl;refine⟨h.defers,by simp[Act.put,h.size],fun t=>?_⟩;have e:=h.at_ t;rw[zM]at e⊢;simp only[Act.put,zd,upd,Array.getElem?_setIfInBounds];by_cases hkt:k=t
  ·subst hkt;simp[h.size,hk]
  ·have:Qq t k=false:=by
    cases hb:Qq t k with
    | false=>rfl
    | true=>exact absurd (Qk hb).symm hkt
   simp[hkt,this,e]
def zk (ops:Array Oper)(ρ:Env)(j:Nat):Option Bool:=
 match (ops[j]?).bind (·.dst) with
 | some d=>match ρ d with | .bool b=>some b | _=>none
 | none=>none
theorem Rep.yielded {a:Act}{ρ:Env}{N:Nat}(h:Rep a ρ N)(ops:Array Oper)(hu: ∀t,N<=t->ρ t=undef)(j:Nat):Go.yielded ops a.tmps j=zk ops ρ j:=by
 unfold Go.yielded zk;cases hd:(ops[j]?).bind (·.dst) with
 | none=>rfl
 | some d=>
  simp only[Option.bind_some];by_cases hlt:d<N
  ·rw[h.get? hlt];cases ρ d<;>rfl
  ·rw[hu d (Nat.le_of_not_lt hlt),Array.getElem?_eq_none (by rw[h.size];exact Nat.le_of_not_lt hlt)];rfl
theorem Rep.hu {a:Act}{ρ:Env}{N:Nat}(h:Rep a ρ N): ∀t,N<=t->ρ t=undef:=fun t ht=>by
 rw[<-h.at_ t,zM,Array.getElem?_eq_none (by rw[h.size];exact ht)];rfl
def yw (N:Nat)(Q:Exit->Env->World->Prop):Exit->Act->World->Prop:=fun e a w=> ∃ρ,Rep a ρ N/\Q e ρ w
def WP (P:Program)(N:Nat)(c:Code)(Q:Exit->Env->World->Prop)(ρ:Env)(w:World):Prop:=
 ∀a,Rep a ρ N->c.wp P (yw N Q) a w
section
variable {P:Program}{N:Nat}{Q:Exit->Env->World->Prop}{ρ:Env}{w:World}
theorem WP.mono {c:Code}{Q':Exit->Env->World->Prop}(h:WP P N c Q ρ w)(hq: ∀e ρ w,Q e ρ w->Q' e ρ w):WP P N c Q' ρ w:=
 fun a ha=>Go.wp_mono (h a ha) fun _ _ _ ⟨r,hr,q⟩=>⟨r,hr,hq _ _ _ q⟩
def nx (K:Env->World->Prop)(Q:Exit->Env->World->Prop):Exit->Env->World->Prop
 | .normal,ρ,w=>K ρ w
 | e,ρ,w=>Q e ρ w
theorem WP.seq {x y:Code}(h:WP P N x (nx (WP P N y Q) Q) ρ w):WP P N (.seq x y) Q ρ w:=fun a ha=>
 wp_seq (Go.wp_mono (h a ha) fun e a' w' ⟨r,hr,q⟩=>by
  cases e<;>first | exact q a' hr | exact⟨r,hr,q⟩)
theorem WP.skip (h:Q .normal ρ w):WP P N .skip Q ρ w:=fun a ha=>wp_skip ⟨ρ,ha,h⟩
theorem WP.ret (h:Q .ret ρ w):WP P N .ret Q ρ w:=fun a ha=>wp_ret ⟨ρ,ha,h⟩
theorem WP.exit {id:Nat}(h:Q (.exit id) ρ w):WP P N (.exit id) Q ρ w:=fun a ha=>wp_exit ⟨ρ,ha,h⟩
theorem WP.cond {c:Operand}{x y:Code}(b:Bool)(hc:ev ρ c=.bool b)(ht:b=true->WP P N x Q ρ w)(hf:b=false->WP P N y Q ρ w):WP P N (.cond c x y) Q ρ w:=fun a ha=>by
 cases b
 ·exact wp_cond_false (by rw[ha.eval];exact hc) (hf rfl a ha)
 ·exact wp_cond_true (by rw[ha.eval];exact hc) (ht rfl a ha)
theorem WP.cond_t {c:Operand}{x y:Code}(hc:ev ρ c=.bool true)(h:WP P N x Q ρ w):WP P N (.cond c x y) Q ρ w:=
 WP.cond true hc (fun _=>h) (fun h=>by cases h)
theorem WP.cond_f {c:Operand}{x y:Code}(hc:ev ρ c=.bool false)(h:WP P N y Q ρ w):WP P N (.cond c x y) Q ρ w:=
 WP.cond false hc (fun h=>by cases h) (fun _=>h)
def inb (id:Nat)(Q:Exit->Env->World->Prop):Exit->Env->World->Prop
 | .exit i,ρ,w=>bif Qq i id then Q .normal ρ w else Q (.exit i) ρ w
 | e,ρ,w=>Q e ρ w
theorem WP.block {id:Nat}{c:Code}(h:WP P N c (inb id Q) ρ w):WP P N (.block id c) Q ρ w:=fun a ha=>
 wp_block (Go.wp_mono (h a ha) fun e a' w' ⟨r,hr,q⟩=>by
  cases e with
  | exit i=>
   simp only[inb]at q;simp only[Exit.inBlock];split
   ·rename_i hi;subst hi
    rw[Nat.beq_refl]at q;exact⟨r,hr,q⟩
   ·rename_i hi
    have:Qq i id=false:=by
     cases hb:Qq i id with
     | false=>rfl
     | true=>exact absurd (Qk hb) hi
    rw[this]at q;exact⟨r,hr,q⟩
  | _=>exact⟨r,hr,q⟩)
theorem WP.loop {c:Code}(I:Nat->Env->World->Prop)(n:Nat)(h0:I n ρ w)
 (round: ∀n ρ w,I n ρ w->WP P N c (nx (fun ρ' w'=> ∃m,m<n/\I m ρ' w') Q) ρ w):WP P N (.loop c) Q ρ w:=fun a ha=>by
 have:∃m,∃ρ,Rep a ρ N/\I m ρ w:=⟨n,ρ,ha,h0⟩
 intro b k cs;have key: ∀n a ρ w,Rep a ρ N->I n ρ w->
  ∃e a' w',yw N Q e a' w'/\Arrives P (lone (b.at a (.code c ::.inLoop c::k)) cs w) b k cs e a' w':=by
  intro n
  induction n using Nat.strongRecOn with
  | _ n ih=>
   intro a ρ w ha hI;obtain⟨e,a₁,w₁,⟨ρ₁,hr,hq⟩,harr⟩:=round n ρ w hI a ha b (.inLoop c::k) cs;cases e with
   | normal=>
    obtain⟨m,hlt,hI₁⟩:=hq;obtain⟨e₂,a₂,w₂,hq₂,harr₂⟩:=ih m hlt a₁ ρ₁ w₁ hr hI₁;exact⟨e₂,a₂,w₂,hq₂,.of_steps (Steps.trans harr (.one step_inLoop)) harr₂⟩
   | exit id=>exact⟨_,a₁,w₁,⟨ρ₁,hr,hq⟩,.pass (x:=.inLoop c) rfl (fun _ _=>.inl (by simp)) harr⟩
   | goto l=>exact⟨_,a₁,w₁,⟨ρ₁,hr,hq⟩,.pass (x:=.inLoop c) rfl (fun _ _=>.inl (by simp)) harr⟩
   | ret=>exact⟨_,a₁,w₁,⟨ρ₁,hr,hq⟩,.pass (x:=.inLoop c) rfl (fun _ _=>.inl (by simp)) harr⟩
   | panic ch=>exact⟨_,a₁,w₁,⟨ρ₁,hr,hq⟩,.pass (x:=.inLoop c) rfl (fun _ _=>.inl (by simp)) harr⟩
   | outgrown=>exact⟨_,a₁,w₁,⟨ρ₁,hr,hq⟩,.pass (x:=.inLoop c) rfl (fun _ _=>.inl (by simp)) harr⟩
 obtain⟨e,a',w',hq,harr⟩:=key n a ρ w ha h0;exact⟨e,a',w',hq,.of_steps (.one step_loop) harr⟩
end
structure St (B:Nat)(w0 w:World)(l:Qb):Prop where
 below:Below B w0 w
 le:B<=w.heap.size
 own: ∀e∈l,B<=e.1/\w.heap[e.1]? =some e.2
 nd:(l.map (·.1)).Nodup
theorem St.start (w:World):St w.heap.size w w []:=⟨Qs _ _,Qx _,(fun _ h=>nomatch h),List.nodup_nil⟩
theorem St.get {B:Nat}{w0 w:World}{l:Qb}(h:St B w0 w l)(k:Nat){b:Nat}{o:Obj}(hk:l[k]? =some (b,o)):w.heap[b]? =some o:=
 (h.own (b,o) (QA hk)).2
theorem St.ge {B:Nat}{w0 w:World}{l:Qb}(h:St B w0 w l)(k:Nat){b:Nat}{o:Obj}(hk:l[k]? =some (b,o)):B<=b:=
 (h.own (b,o) (QA hk)).1
theorem zl {w:World}{b:Nat}{o:Obj}(h:w.heap[b]? =some o):b<w.heap.size:=(Array.getElem?_eq_some_iff.1 h).1
theorem St.alloc {B:Nat}{w0 w:World}{l:Qb}(h:St B w0 w l)(o:Obj):St B w0 (w.alloc o) ((w.heap.size,o)::l):=by
 refine⟨h.below.alloc h.le o,by have:=h.le;have e:(w.alloc o).heap.size=w.heap.size+1:=Array.size_push _;omega,?_,?_⟩
 ·intro e he;rcases List.mem_cons.1 he with rfl | he
  ·exact⟨h.le,heap_alloc_new w o⟩
  ·have:=h.own e he;exact⟨this.1,by rw[Below.heap_alloc _ _ _ (zl this.2)];exact this.2⟩
 ·simp only[Qv,QB];refine⟨fun hm=>?_,h.nd⟩;obtain⟨e,he,heq⟩:=QD.1 hm;have:=zl (h.own e he).2;omega
theorem St.call {B:Nat}{w0 w w':World}{l:Qb}(h:St B w0 w l)(hb:Below w.heap.size w w'):St B w0 w' l:=
 ⟨h.below.trans (hb.mono h.le),QH h.le hb.size,fun e he=>⟨(h.own e he).1,by rw[hb.block _ (zl (h.own e he).2)];exact(h.own e he).2⟩,h.nd⟩
theorem yx (w:World)(g:Nat)(cs:Qd)(k:Nat)(h:k≠g):(w.setRow g cs).heap[k]? =w.heap[k]? :=by
 simp only[QK,Array.getElem?_modify];rw[if_neg (by omega)]
theorem St.store {B:Nat}{w0 w:World}{l:Qb}(h:St B w0 w l)(k:Nat){b:Nat}{C C':Qd}{T:TypeId}{fz:Nat×Nat}(hk:l[k]? =some (b,.cells C T fz)):
 St B w0 (w.setRow b C') (l.set k (b,.cells C' T fz)):=by
 have hB:=h.ge k hk;have hh:=h.get k hk;have hkl:k<l.length:=(List.getElem?_eq_some_iff.1 hk).1;have hnew:(w.setRow b C').heap[b]? =some (.cells C' T fz):=setRow_heap w b C C' T fz hh;have hmap:(l.set k (b,Obj.cells C' T fz)).map (·.1)=l.map (·.1):=by
  apply List.ext_getElem?;intro j;simp only[QE,Qz];by_cases hj:k=j
  ·subst hj;rw[if_pos rfl,if_pos hkl,hk];rfl
  ·simp[hj]
 refine⟨?_,by simpa [QK] using h.le,?_,by rw[hmap];exact h.nd⟩
 ·exact h.below.trans ⟨rfl,rfl,rfl,by simp[QK],fun j hj=>yx _ _ _ _ (by omega)⟩
 ·intro e he;obtain⟨j,hj,he⟩:=List.getElem_of_mem he;rw[List.getElem_set]at he;split at he
  ·subst he;exact⟨hB,hnew⟩
  ·rename_i hjk
   have hj':j<l.length:=by simpa using hj
   have hmem:e∈l:=by rw[<-he];exact List.getElem_mem _
   have hne:e.1≠b:=by
    intro heq;have h1:(l.map (·.1))[j]? =some b:=by simp[QE,Qt hj',he,heq]
    have h2:(l.map (·.1))[k]? =some b:=by simp[QE,hk]
    have:=(List.getElem?_inj (by simpa using hj') h.nd).1 (h1.trans h2.symm);omega
   exact⟨(h.own e hmem).1,by rw[yx _ _ _ _ hne];exact(h.own e hmem).2⟩
def NoQ:Exit->Act->World->Prop:=fun _ _ _=>False
theorem Oper.wp_noQ {P:Program}{o:Oper}{a:Act}{w:World}{K:Act->World->Prop}{Q:Exit->Act->World->Prop}(h:o.wp P a w K NoQ):o.wp P a w K Q:=by
 unfold Oper.wp at*;generalize (execOp a.eval o).run P w=r at*;cases r with
 | ok n w'=>
  cases n<;>simp only[Oper.upon]at h⊢<;>first
   | exact h
   | exact Calls.mono h (fun e w'' he=>by
    cases e with
    | returned v=>exact he
    | panicked c=>exact(he:False).elim
    | outgrown=>obtain⟨_,_,hf⟩:=he;exact(hf:False).elim)
 | halt x w'=>cases x<;>simp only[Oper.upon]at h⊢<;>exact(h:False).elim
theorem qF {P:Program}{ops:Array Oper}{i:Nat}{a:Act}{w:World}{K:Act->World->Prop}{Q:Exit->Act->World->Prop}(h:wpOp P ops NoQ i K a w):wpOp P ops Q i K a w:=by
 unfold wpOp at*;split
 ·simp_all
 ·rename_i o ho
  simp only[ho]at h;split
  ·rename_i hw
   simp only[hw,if_true]at h;rcases h with h | ⟨_,_,_,hf⟩
   ·exact .inl (Oper.wp_noQ h)
   ·exact(hf:False).elim
  ·rename_i hw;simp only[hw]at h;exact h
def WPo (P:Program)(N:Nat)(ops:Array Oper)(i:Nat)(K:Env->World->Prop)(ρ:Env)(w:World):Prop:=
 ∀a,Rep a ρ N->wpOp P ops NoQ i (fun a' w'=> ∃ρ',Rep a' ρ' N/\K ρ' w') a w
def WPs (P:Program)(N:Nat)(ops:Array Oper)(K:Env->World->Prop):List Nat->Env->World->Prop
 | [],ρ,w=>K ρ w
 | i::r,ρ,w=>WPo P N ops i (WPs P N ops K r) ρ w
theorem wW {a b c d e f}(h:WP a b c d e f):WP a b c d e f:=h
theorem wX {a b c d}(l){f g}(h:WPs a b c d l f g):WPs a b c d l f g:=h
theorem WPs.sound {P:Program}{N:Nat}{ops:Array Oper}{Q:Exit->Env->World->Prop} : ∀(l:List Nat) (ρ:Env) (w:World),WPs P N ops (Q .normal) l ρ w-> ∀a,Rep a ρ N->wpOps P ops (yw N Q) l a w
 | [],ρ,w,h,a,ha=>⟨ρ,ha,h⟩
 | i::r,ρ,w,h,a,ha=>by
  rw[wpOps_cons];exact wpOp_mono (fun a' w' ⟨ρ',hr,h'⟩=>WPs.sound r ρ' w' h' a' hr) (qF (h a ha))
theorem WP.region {P:Program}{N id:Nat}{ops:Array Oper}{Q:Exit->Env->World->Prop}{ρ:Env}{w:World}(l:List Nat)(hl:Qm ops.size=l)
 (h:WPs P N ops (Q .normal) l ρ w):WP P N (.region id ops false) Q ρ w:=fun a ha=>
 wp_region (by rw[hl];exact WPs.sound l ρ w h a ha)
def opv (P:Program)(ops:Array Oper)(i:Nat)(ρ:Env)(w:World):Option (Option Nat×Bool×Result Next):=
 (ops[i]?).map fun o=>(o.dst,Qp o (zk ops ρ),(execOp (ev ρ) o).run P w)
def opk (ops:Array Oper)(i:Nat)(ρ:Env):Option (Option Nat×Bool×Op):=
 (ops[i]?).map fun o=>(o.dst,Qp o (zk ops ρ),o.op)
def opn (ops:Array Oper)(i:Nat)(ρ:Env):Option (Option Nat×Bool):=
 (ops[i]?).map fun o=>(o.dst,Qp o (zk ops ρ))
def dOK (d:Option Nat)(N:Nat):Bool:=match d with | none=>true | some k=>QP k N
theorem zt {d:Option Nat}{N:Nat}(h:dOK d N=true): ∀k,d=some k->k<N:=fun k hk=>by
 subst hk;exact Qu h
section
variable {P:Program}{N:Nat}{ops:Array Oper}{i:Nat}{K:Env->World->Prop}{ρ:Env}{w:World}
theorem yS {o:Oper}{a:Act}(ha:Rep a ρ N):Qp o (yielded ops a.tmps)=Qp o (zk ops ρ):=by
 unfold Qp;cases o.guard with
 | none=>rfl
 | some g=>simp only[ha.yielded ops ha.hu]
theorem WPo.run {o:Oper}(ho:ops[i]? =some o)(hw:Qp o (zk ops ρ)=true)
 (h: ∀a,Rep a ρ N->Oper.upon P o a (fun a' w'=> ∃ρ',Rep a' ρ' N/\K ρ' w') NoQ ((execOp (ev ρ) o).run P w)):WPo P N ops i K ρ w:=fun a ha=>by
 unfold wpOp;simp only[ho,yS ha,hw,if_true];refine .inl ?_;unfold Oper.wp;rw[ha.eval];exact h a ha
theorem zB {d:Option Nat}{b:Bool}{r:Result Next}(h:opv P ops i ρ w=some (d,b,r)):∃o,ops[i]? =some o/\o.dst=d/\Qp o (zk ops ρ)=b/\(execOp (ev ρ) o).run P w=r:=by
 unfold opv at h;cases ho:ops[i]? with
 | none=>rw[ho]at h;cases h
 | some o=>rw[ho]at h;simp at h;exact⟨o,rfl,h⟩
theorem yT {d:Option Nat}{b:Bool}(h:opn ops i ρ=some (d,b)):∃o,ops[i]? =some o/\o.dst=d/\Qp o (zk ops ρ)=b:=by
 unfold opn at h;cases ho:ops[i]? with
 | none=>rw[ho]at h;cases h
 | some o=>rw[ho]at h;simp at h;exact⟨o,rfl,h⟩
theorem zg {d:Option Nat}{b:Bool}{r:Op}(h:opk ops i ρ=some (d,b,r)):∃o,ops[i]? =some o/\o.dst=d/\Qp o (zk ops ρ)=b/\o.op=r:=by
 unfold opk at h;cases ho:ops[i]? with
 | none=>rw[ho]at h;cases h
 | some o=>rw[ho]at h;simp at h;exact⟨o,rfl,h⟩
theorem yU (d:Option Nat)(v:Value)(h:opv P ops i ρ w=some (d,true,.ok (.value v) w))(hd:dOK d N=true)(k:K (zd ρ d v) w):WPo P N ops i K ρ w:=by
 obtain⟨o,ho,rfl,hw,hr⟩:=zB h;refine WPo.run ho hw fun a ha=>?_;rw[hr,Qy];exact⟨_,ha.put _ (zt hd) v,k⟩
theorem qG (d:Option Nat)(h:opn ops i ρ=some (d,false))(hd:dOK d N=true)(k:K (zd ρ d undef) w):WPo P N ops i K ρ w:=by
 obtain⟨o,ho,rfl,hw⟩:=yT h;intro a ha;unfold wpOp;simp only[ho,yS ha,hw];exact⟨_,ha.put _ (zt hd) undef,k⟩
theorem yV (d:Option Nat)(op:Op)(v:Value)(w':World)(h:opk ops i ρ=some (d,true,op))(hd:dOK d N=true)
 (hr: ∀o:Oper,o.op=op->(execOp (ev ρ) o).run P w=.ok (.value v) w') (k:K (zd ρ d v) w'):WPo P N ops i K ρ w:=by
 obtain⟨o,ho,rfl,hw,hop⟩:=zg h;refine WPo.run ho hw fun a ha=>?_;rw[hr o hop,Qy];exact⟨_,ha.put _ (zt hd) v,k⟩
def aggSize (P:Program)(t:TypeId):Option Nat:=
 match P.underlying t with
 | some (.struct _) | some (.array _ _)=>(P.info? t).map (·.size)
 | _=>none
def oneCell (P:Program)(t:TypeId):Bool:=
 match P.underlying t with
 | some (.struct _) | some (.array _ _) | none=>false
 | _=>(P.info? t).map (·.size)==some 1
theorem qH {t:TypeId}{n:Nat}(h:aggSize P t=some n):∃d,P.underlying t=some d/\(match d with | .struct _ | .array _ _=>true | _=>false)=true/\(P.info? t).map (·.size)=some n:=by
 unfold aggSize at h;cases hu:P.underlying t with
 | none=>rw[hu]at h;cases h
 | some d=>rw[hu]at h;cases d<;>first | (cases h;done) | exact⟨_,rfl,rfl,h⟩
theorem qI {t:TypeId}(h:oneCell P t=true):∃d,P.underlying t=some d/\(match d with | .struct _ | .array _ _=>true | _=>false)=false/\(P.info? t).map (·.size)=some 1:=by
 unfold oneCell at h;cases hu:P.underlying t with
 | none=>rw[hu]at h;cases h
 | some d=>rw[hu]at h;cases d<;>first | (cases h;done) | exact⟨_,rfl,rfl,eq_of_beq h⟩
theorem zU {t:TypeId}{n b off:Nat}{C:Qd}{T:TypeId}{fz:Nat×Nat}(ht:aggSize P t=some n)(hh:w.heap[b]? =some (.cells C T fz))(hs:off+n<=C.size):
 (loadVar t ⟨b,off,none⟩).run P w=.ok (.agg (C.extract off (off+n))) w:=by
 obtain⟨d,hu,hd,hi⟩:=qH ht;have hA:(isAgg t).run P w=.ok true w:=by cases d<;>simp_all [isAgg,run_underlying hu]
 have hS:(sizeOf t).run P w=.ok n w:=by
  cases hq:P.info? t with
  | none=>simp[hq]at hi
  | some i=>simp[hq]at hi;simp[sizeOf,typeInfo,hq,hi]
 have hC:(loadCells ⟨b,off,none⟩ n).run P w=.ok (C.extract off (off+n)) w:=by
  rw[run_loadCells w ⟨b,off,none⟩ n (fun j=>C.getD (off+j) undef) (fun j hj=>by
   have ha:(⟨b,off,none⟩:Addr).add j=⟨b,off+j,none⟩:=by unfold Addr.add;split<;>simp_all
   rw[ha];have:off+j<C.size:=by omega
   simp[QI,hh,this])]
  congr 1;apply Array.ext
  ·simp;omega
  ·intro j h1 h2;simp at h1 h2;have:off+j<C.size:=by omega
   simp[this]
 simp[loadVar,hA,hS,hC]
theorem zV {t:TypeId}{b off:Nat}{C:Qd}{T:TypeId}{fz:Nat×Nat}{v:Value}(ht:oneCell P t=true)(hh:w.heap[b]? =some (.cells C T fz))(hv:C[off]? =some v):
 (loadVar t ⟨b,off,none⟩).run P w=.ok v w:=by
 obtain⟨d,hu,hd,hi⟩:=qI ht;have hA:(isAgg t).run P w=.ok false w:=by cases d<;>simp_all [isAgg,run_underlying hu]
 have hL:(load ⟨b,off,none⟩).run P w=.ok v w:=by
  rw[run_load];simp[QI,hh,hv]
 simp only[loadVar,Qo,hA,Ql,Bool.false_eq_true,if_false,hL]
theorem yW {t:TypeId}{b off:Nat}{C:Qd}{T:TypeId}{v:Value}(hi:(P.info? t).map (·.size)=some v.cells.size)(h1:v.cells.all (·.oneCell')=true)
 (hh:w.heap[b]? =some (.cells C T)) (hs:off+v.cells.size<=C.size):
 (storeVar t ⟨b,off,none⟩ v).run P w=.ok () (w.setRow b (C.toList.take off++v.cells.toList++C.toList.drop (off+v.cells.size)).toArray):=by
 have hc:=run_storeCells_at (P:=P) b off T v.cells.toList 0 C w hh (by simpa using hs) (fun x hx=>(Array.all_eq_true_iff_forall_mem.1 h1) x (by simpa using hx));cases hq:P.info? t with
 | none=>simp[hq]at hi
 | some i=>
  have hsz:v.cells.size=i.size:=by simp[hq]at hi;omega
  simp[storeVar,sizeOf,typeInfo,hq,hsz]at hc⊢;exact hc
def Fn (P:Program)(f:Nat)(args:Qd)(v:Value):Prop:= ∀w,Calls P f args w fun e w'=>e=.returned v/\Below w.heap.size w w'
theorem qJ {B:Nat}{w0:World}{l:Qb}(HS:St B w0 w l)(d:Option Nat)(f:Nat)(args:Qd)(v:Value)(hc:Fn P f args v)
 (h: ∀w,opv P ops i ρ w=some (d,true,.ok (.enter f args) w)) (hd:dOK d N=true)
 (kk: ∀w',St B w0 w' l->K (zd ρ d v) w'):WPo P N ops i K ρ w:=by
 obtain⟨o,ho,rfl,hw,hr⟩:=zB (h w);refine WPo.run ho hw fun a ha=>?_;rw[hr,Oper.upon_enter];refine(hc w).mono ?_;rintro e w' ⟨rfl,hb⟩;exact⟨_,ha.put _ (zt hd) v,kk w' (HS.call hb)⟩
end
inductive Res (P:Program)(w:World)(ρ:Env):List ResultVar->List Value->Prop
 | nil:Res P w ρ [] []
 | tmp {t:Nat} {rs:List ResultVar} {vs:List Value} (v:Value) (hv:ρ t=v) (h:Res P w ρ rs vs):Res P w ρ (.tmp t::rs) (v::vs)
 | agg {t b ty:Nat} {rs:List ResultVar} {vs:List Value} (C:Qd) (T:TypeId) (fz:Nat×Nat) (hv:ρ t=.pointer (some ⟨b,0,none⟩)) (hh:w.heap[b]? =some (.cells C T fz)) (ht:aggSize P ty=some C.size)
  (h:Res P w ρ rs vs):Res P w ρ (.cell t ty::rs) (.agg C::vs)
 | one {t b ty:Nat} {rs:List ResultVar} {vs:List Value} (v:Value) (C:Qd) (T:TypeId) (fz:Nat×Nat) (hv:ρ t=.pointer (some ⟨b,0,none⟩)) (hh:w.heap[b]? =some (.cells C T fz)) (ht:oneCell P ty=true)
  (hc:C[0]? =some v) (h:Res P w ρ rs vs):Res P w ρ (.cell t ty::rs) (v::vs)
theorem wV {a b c d}{p:List Value->Prop}(h:∃vs,Res a b c d vs/\p vs):∃vs,Res a b c d vs/\p vs:=h
def zW:List Value->Value
 | [v]=>v
 | vs=>.tuple vs.toArray
def zN (tmps:Qd):ResultVar->Sem Value
 | .tmp t=>pure (tmps.getD t undef)
 | .cell a t=>do loadVar t (<-asAddr (tmps.getD a undef))
theorem Res.mapM {P:Program}{w:World}{ρ:Env}{a:Act}{N:Nat}(ha:Rep a ρ N): ∀ {rs:List ResultVar} {vs:List Value},Res P w ρ rs vs->(rs.mapM (zN a.tmps)).run P w=.ok vs w
 | _,_,.nil=>rfl
 | _,_,.tmp v hv h=>by
  have e:=ha.at_ _ |>.trans hv;simp[List.mapM_cons,zN,e,Res.mapM ha h]
 | _,_,.agg C T fz hv hh ht h=>by
  have e:=ha.at_ _ |>.trans hv;have hl:=zU (w:=w) (off:=0) ht hh (by omega);have e2:C.extract 0 (0+C.size)=C:=by simp
  rw[e2]at hl;simp[List.mapM_cons,zN,e,asAddr,hl,Res.mapM ha h]
 | _,_,.one v C T fz hv hh ht hc h=>by
  have e:=ha.at_ _ |>.trans hv;have hl:=zV (w:=w) ht hh hc;simp[List.mapM_cons,zN,e,asAddr,hl,Res.mapM ha h]
theorem Res.run {P:Program}{w:World}{ρ:Env}{a:Act}{N:Nat}{fn:Func}{vs:List Value}(ha:Rep a ρ N)(h:Res P w ρ fn.results.toList vs):(results fn a.tmps).run P w=.ok (zW vs) w:=by
 have e:results fn a.tmps=(do let vs <-fn.results.mapM (zN a.tmps);pure (if h:vs.size=1 then vs[0] else .tuple vs)):=by
  unfold results;congr 1
 rw[e,Array.mapM_eq_mapM_toList];have:=Res.mapM ha h;simp only[map_eq_pure_bind,bind_assoc,pure_bind];rw[Qo,this]
 match vs with
 | []=>rfl
 | [v]=>rfl
 | _::_::_=>rfl
def zJ (P:Program)(rs:List ResultVar)(R:Value->World->Prop):Exit->Env->World->Prop
 | .normal,ρ,w | .ret,ρ,w=> ∃vs,Res P w ρ rs vs/\R (zW vs) w
 | _,_,_=>False
theorem yX {P:Program}{f:Nat}{fn:Func}{c:Code}{rs:List ResultVar}{N:Nat}{args:Qd}{w:World}{R:Value->World->Prop}(hf:P.funcs[f]? =some fn)(hb:fn.body=some c)(hr:fn.results.toList=rs)(hn:args.size+(fn.ntmps-args.size)=N)
 (h:WP P N c (zJ P rs R) (ini args) w):Calls P f args w fun e w'=> ∃v,e=.returned v/\R v w':=by
 subst hr;refine calls_of_wp hf hb (Go.wp_mono (h { tmps:=args++QG (fn.ntmps-args.size) undef,defers:=[] } ⟨rfl,by simp[hn],fun t=>?_⟩) ?_)
 ·unfold ini;rw[zM,zM,Array.getElem?_append];split
  ·rfl
  ·rename_i hge
   rw[Array.getElem?_eq_none (Nat.le_of_not_lt hge)];cases he:(QG (fn.ntmps-args.size) undef)[t-args.size]? with
   | none=>rfl
   | some v=>
    have:=Array.mem_of_getElem? he;simp at this;simp[this]
 ·rintro e a w' ⟨ρ,ha,hq⟩;cases e with
  | normal=>obtain⟨vs,hR,hv⟩:=hq;exact⟨ha.defers,_,hR.run ha,_,rfl,hv⟩
  | ret=>obtain⟨vs,hR,hv⟩:=hq;exact⟨ha.defers,_,hR.run ha,_,rfl,hv⟩
  | _=>exact(hq:False).elim
theorem Fn.intro {P:Program}{f:Nat}{fn:Func}{c:Code}(rs:List ResultVar)(N:Nat){args:Qd}{v:Value}(hf:P.funcs[f]? =some fn)(hb:fn.body=some c)(hr:fn.results.toList=rs)(hn:args.size+(fn.ntmps-args.size)=N)
 (h: ∀w,WP P N c (zJ P rs fun v' w'=>v'=v/\Below w.heap.size w w') (ini args) w):Fn P f args v:=fun w=>
 (yX hf hb hr hn (h w)).mono fun e w' ⟨v',he,hv,hb⟩=>by subst hv;exact⟨he,hb⟩
def zC (f:Func):Code:=f.body.getD .skip
def ze:Code->Code | .seq a _=>a | _=>.skip
def zs:Code->Code | .seq _ b=>b | _=>.skip
def zx:Code->Bool | .seq _ _=>true | _=>false
def zF:Code->Operand | .cond x _ _=>x | _=>.const undef
def zX:Code->Code | .cond _ a _=>a | _=>.skip
def zY:Code->Code | .cond _ _ b=>b | _=>.skip
def zK:Code->Bool | .cond _ _ _=>true | _=>false
def zD:Code->Code | .block _ b=>b | .loop b=>b | .scope b=>b | _=>.skip
def zZ:Code->Option Nat | .block i _=>some i | _=>none
def yy:Code->Bool | .loop _=>true | _=>false
def ya:Code->Bool | .ret=>true | _=>false
def yb:Code->Bool | .skip=>true | _=>false
def yz:Code->Option Nat | .exit i=>some i | _=>none
def zc:Code->Array Oper | .region _ ops _=>ops | _=>#[]
def yc:Code->Option (List Nat×Bool) | .region _ ops d=>some (Qm ops.size,d) | _=>none
section
variable {P:Program}{N:Nat}{Q:Exit->Env->World->Prop}{K:Env->World->Prop}{ρ:Env}{w:World}{c:Code}
theorem qK (h:zx c=true):c=.seq (ze c) (zs c):=by cases c<;>first | rfl | cases h
theorem yY (h:zK c=true):c=.cond (zF c) (zX c) (zY c):=by cases c<;>first | rfl | cases h
theorem qL {l:List Nat}{d:Bool}(h:yc c=some (l,d)):∃id,c=.region id (zc c) d/\Qm (zc c).size=l:=by
 cases c<;>first
  | (cases h;done)
  | (simp only[yc,Option.some.injEq,Prod.mk.injEq]at h;obtain⟨h1,h2⟩:=h;subst h2;exact⟨_,rfl,h1⟩)
theorem qM {i:Nat}(h:zZ c=some i):c=.block i (zD c):=by
 cases c<;>first | (cases h;done) | (cases h;rfl)
theorem qN (h:yy c=true):c=.loop (zD c):=by cases c<;>first | rfl | cases h
theorem qP (h:ya c=true):c=.ret:=by cases c<;>first | rfl | cases h
theorem qQ (h:yb c=true):c=.skip:=by cases c<;>first | rfl | cases h
theorem qR {i:Nat}(h:yz c=some i):c=.exit i:=by cases c<;>first | (cases h;done) | (cases h;rfl)
theorem zu (hc:zx c=true)(h:WP P N (ze c) (nx (WP P N (zs c) Q) Q) ρ w):WP P N c Q ρ w:=by
 rw[qK hc];exact WP.seq h
theorem qS (l:List Nat)(hc:yc c=some (l,false))(h:WPs P N (zc c) K l ρ w):WP P N c (nx K Q) ρ w:=by
 obtain⟨id,he,hl⟩:=qL hc;rw[he];exact WP.region l hl h
theorem zy (l:List Nat)(hc:zx c=true)(hr:yc (ze c)=some (l,false))(h:WPs P N (zc (ze c)) (WP P N (zs c) Q) l ρ w):WP P N c Q ρ w:=
 zu hc (qS l hr h)
theorem yA (hc:zK c=true)(hx:ev ρ (zF c)=.bool true)(ht:WP P N (zX c) Q ρ w):WP P N c Q ρ w:=by
 rw[yY hc];exact WP.cond_t hx ht
theorem yB (hc:zK c=true)(hx:ev ρ (zF c)=.bool false)(ht:WP P N (zY c) Q ρ w):WP P N c Q ρ w:=by
 rw[yY hc];exact WP.cond_f hx ht
theorem yZ (i:Nat)(hc:zZ c=some i)(h:WP P N (zD c) (inb i Q) ρ w):WP P N c Q ρ w:=by
 rw[qM hc];exact WP.block h
theorem yd (hc:ya c=true)(h:Q .ret ρ w):WP P N c Q ρ w:=by rw[qP hc];exact WP.ret h
theorem yC (hc:yb c=true)(h:Q .normal ρ w):WP P N c Q ρ w:=by rw[qQ hc];exact WP.skip h
theorem qT (i:Nat)(hc:yz c=some i)(h:Q (.exit i) ρ w):WP P N c Q ρ w:=by rw[qR hc];exact WP.exit h
theorem qU (hc:yy c=true)(I:Nat->Env->World->Prop)(n:Nat)(h0:I n ρ w)
 (round: ∀n ρ w,I n ρ w->WP P N (zD c) (nx (fun ρ' w'=> ∃m,m<n/\I m ρ' w') Q) ρ w):WP P N c Q ρ w:=by
 rw[qN hc];exact WP.loop I n h0 round
theorem qV {Q':Exit->Env->World->Prop}(h:WP P N c Q ρ w)(hq: ∀e ρ w,Q e ρ w->Q' e ρ w):WP P N c Q' ρ w:=WP.mono h hq
end
section
variable {P:Program}{N:Nat}{ops:Array Oper}{i:Nat}{r:List Nat}{K:Env->World->Prop}{ρ:Env}{w:World}{B:Nat}{w0:World}{l:Qb}
theorem zn (h:K ρ w):WPs P N ops K [] ρ w:=h
theorem zf (d:Option Nat)(v:Value)(h: ∀w,opv P ops i ρ w=some (d,true,.ok (.value v) w))(hd:dOK d N=true)(k:WPs P N ops K r (zd ρ d v) w):WPs P N ops K (i::r) ρ w:=yU d v (h w) hd k
theorem yD (d:Option Nat)(v v':Value)(h: ∀w,opv P ops i ρ w=some (d,true,.ok (.value v) w))(e:v=v')(hd:dOK d N=true)(k:WPs P N ops K r (zd ρ d v') w):WPs P N ops K (i::r) ρ w:=yU d v (h w) hd (by rw[e];exact k)
theorem qW (d:Option Nat)(op:Op)(v:Value)(h:opk ops i ρ=some (d,true,op))(hd:dOK d N=true)(hr: ∀(o:Oper) w,o.op=op->(execOp (ev ρ) o).run P w=.ok (.value v) w)(k:WPs P N ops K r (zd ρ d v) w):WPs P N ops K (i::r) ρ w:=
 yV d op v w h hd (fun o ho=>hr o w ho) k
theorem qX (HS:St B w0 w l)(d:Option Nat)(f:Nat)(args:Qd)(v:Value)(hc:Fn P f args v)
 (h: ∀w,opv P ops i ρ w=some (d,true,.ok (.enter f args) w)) (hd:dOK d N=true)
 (kk: ∀w',St B w0 w' l->WPs P N ops K r (zd ρ d v) w'):WPs P N ops K (i::r) ρ w:=qJ HS d f args v hc h hd kk
end
def zO:List (Nat×Value)->Env->Env
 | [],ρ=>ρ
 | (t,v)::r,ρ=>upd (zO r ρ) t v
def ye (ρ:Env):List (Nat×Value)->Prop
 | []=>True
 | (t,v)::r=>ρ t=v/\ye ρ r
theorem yf {ρ:Env}{t:Nat}{v:Value}(h:ρ t=v):upd ρ t v=ρ:=by
 funext k;unfold upd;cases hb:Qq k t with
 | false=>rfl
 | true=>rw[Qk hb,h];rfl
theorem yE {ρ:Env} : ∀ {l:List (Nat×Value)},ye ρ l->zO l ρ=ρ
 | [],_=>rfl
 | (t,v)::r,⟨h,hr⟩=>by rw[zO,yE hr,yf h]
def Is (l:List (Nat×Value))(ρ:Env):Prop:=∃ρ',ρ=zO l ρ'
theorem Is.of {ρ:Env}{l:List (Nat×Value)}(h:ye ρ l):Is l ρ:=⟨ρ,(yE h).symm⟩
def FnP (P:Program)(f:Nat)(args:Qd)(pre:World->Prop)(v:Value):Prop:= ∀w,pre w->Calls P f args w fun e w'=>e=.returned v/\Below w.heap.size w w'
theorem FnP.intro {P:Program}{f:Nat}{fn:Func}{c:Code}(rs:List ResultVar)(N:Nat){args:Qd}{pre:World->Prop}{v:Value}(hf:P.funcs[f]? =some fn)(hb:fn.body=some c)(hr:fn.results.toList=rs)(hn:args.size+(fn.ntmps-args.size)=N)
 (h: ∀w,pre w->WP P N c (zJ P rs fun v' w'=>v'=v/\Below w.heap.size w w') (ini args) w):FnP P f args pre v:=fun w hp=>
 (yX hf hb hr hn (h w hp)).mono fun e w' ⟨v',he,hv,hb⟩=>by subst hv;exact⟨he,hb⟩
section
variable {P:Program}{N:Nat}{ops:Array Oper}{i:Nat}{r:List Nat}{K:Env->World->Prop}{ρ:Env}{w:World}{B:Nat}{w0:World}{l:Qb}
end
theorem zv {a b:Bool}(h:a=b):Value.bool a=.bool b:=by rw[h]
theorem zb {k:IntKind}{a b:Int}(h:a=b):Value.int k a=.int k b:=by rw[h]
theorem wrap_i64 {a:Int}(h0: -0x8000000000000000<=a)(h1:a<=0x7fffffffffffffff):Qn.wrap a=a:=by rw[IntKind.wrap_i64];omega
theorem wrap_u64 {a:Int}(h0:0<=a)(h1:a<=0xffffffffffffffff):Qw.wrap a=a:=by rw[IntKind.wrap_u64];omega
def Runs (P:Program)(S:Value->World->Prop):Result Next->Prop
 | .ok (.value v) w'=>S v w'
 | .ok .skip w'=>S undef w'
 | .ok (.enter f args) w'=>Calls P f args w' fun e w''=> ∃v,e=.returned v/\S v w''
 | _=>False
def at_:List (Option Nat×(Nat->Value))->(Nat->Nat)->Nat->List (Option Nat×Value)
 | [],_,_=>[]
 | (d,f)::r,g,k=>(d,f (g k))::at_ r g (k+1)
def qa:List (Option Nat×Value)->List (Nat×Value)
 | []=>[]
 | (some d,V)::r=>(d,V)::qa r
 | (none,_)::r=>qa r
section
variable {P:Program}{N:Nat}{ops:Array Oper}{Q:Exit->Env->World->Prop}{K:Env->World->Prop}{ρ:Env}{w:World}{vs:List (Option Nat×(Nat->Value))}{pre:(Nat->Bool)->(Nat->Nat)->World->Prop}
end
section
variable {P:Program}{ops:Array Oper}{R:(Nat->Nat)->Env}{pre:(Nat->Bool)->(Nat->Nat)->World->Prop}{i:Nat}{d:Option Nat}{V:Value}
variable {l:(Nat->Bool)->(Nat->Nat)->Qb}{B:Nat}{w0:World}
end
structure Rw (size:Nat)(cur:Qd)(cap n:Nat)(xs:List Value):Prop where
 len:xs.length=n*size
 le:n<=cap
 max:cap<=maxLen
 take:cur.toList.take (n*size)=xs
 sz:cur.size=cap*size
theorem Rw.get {size:Nat}{cur:Qd}{cap n:Nat}{xs:List Value}(h:Rw size cur cap n xs)(i:Nat)(hi:i<n*size):cur[i]? =xs[i]? :=by
 rw[<-h.take,List.getElem?_take,if_pos hi,Array.getElem?_toList]
theorem yg (b o q:Nat):(⟨b,o,none⟩:Addr).add q=⟨b,o+q,none⟩:=by unfold Addr.add;split<;>simp_all
def zw (P:Program)(t:TypeId):Option (TypeId×Nat×Nat):=
 match P.underlying t with
 | some (.slice e)=>match P.info? e with
  | some i=>match i.zero with
   | some z=>if z.cells.size==i.size&&QP 0 i.size then some (e,i.size,i.bytes) else none
   | none=>none
  | none=>none
 | _=>none
theorem zP {P:Program}{t e:TypeId}{size bytes:Nat}(h:zw P t=some (e,size,bytes)):
 ∃i z,P.underlying t=some (.slice e)/\P.info? e=some i/\i.zero=some z/\i.size=size/\i.bytes=bytes/\z.cells.size=size/\0<size:=by
 unfold zw at h;split at h
 ·rename_i e' hu
  split at h
  ·rename_i i hi
   split at h
   ·rename_i z hz
    split at h
    ·rename_i hc
     simp only[Qr,beq_iff_eq]at hc;simp only[Option.some.injEq,Prod.mk.injEq]at h;obtain⟨rfl,rfl,rfl⟩:=h;exact⟨i,z,hu,hi,hz,rfl,rfl,hc.1,Qu hc.2⟩
    ·cases h
   ·cases h
  ·cases h
 ·cases h
section
variable {P:Program}{N:Nat}{ops:Array Oper}{i:Nat}{r:List Nat}{K:Env->World->Prop}{ρ:Env}{w:World}{B:Nat}{w0:World}{l:Qb}
theorem qY (d:Option Nat)(op:Op)(v:Value)(w':World)(h:opk ops i ρ=some (d,true,op))(hd:dOK d N=true)
 (hr: ∀o:Oper,o.op=op->(execOp (ev ρ) o).run P w=.ok (.value v) w') (k:WPs P N ops K r (zd ρ d v) w'):WPs P N ops K (i::r) ρ w:=yV d op v w' h hd hr k
theorem qb {t e:TypeId}{size bytes:Nat}(ht:zw P t=some (e,size,bytes)){x y:Operand}{o:Oper}{kd:IntKind}(b q n c:Nat)(k:Nat)(ho:o.op=.indexAddr t x y)(hx:ev ρ x=.slice (some ⟨b,q,none⟩) n c)(hy:ev ρ y=.int kd (k:Int))(hk:k<n):
 ∀w,(execOp (ev ρ) o).run P w=.ok (.value (.pointer (some ⟨b,q+k*size,none⟩))) w:=fun w=>by
 obtain⟨it,z,hu,hi,hz,hsz,hby,hzs,h0⟩:=zP ht;have hS:(sizeOf e).run P w=.ok size w:=by simp[sizeOf,typeInfo,hi,hsz]
 have h1:(0:Int)<=(k:Int)/\(k:Int)<(n:Int):=by omega
 simp[execOp,ho,hx,hy,Instr.indexAt,asIntOf,run_underlying hu,hS,h1,yg,hk]
end
namespace D2
structure Gh where
 b:Nat:=0
 cap:Nat:=0
 n:Nat:=0
 cur:Qd:=#[]
 l:List Nat:=[]
 deriving Inhabited
section
variable {P:Program}{N:Nat}{ops:Array Oper}{Q:Exit->Env->World->Prop}{K:Env->World->Prop}{ρ:Env}{w:World}{vs:List (Option Nat×(Gh->Value))}{pre:(Nat->Bool)->(Nat->Gh)->World->Prop}
end
abbrev Ent:=Bool×(Nat×Obj)
structure StE (B:Nat)(w0 w:World)(E:List Ent):Prop where
 below:Below B w0 w
 le:B<=w.heap.size
 own: ∀(k:Nat) (e:Nat×Obj),E[k]? =some (true,e)->B<=e.1/\w.heap[e.1]? =some e.2
 inj: ∀(j k:Nat) (e e':Nat×Obj),E[j]? =some (true,e)->E[k]? =some (true,e')->e.1=e'.1->j=k
def pres:List Ent->Qb
 | []=>[]
 | (true,e)::r=>e::pres r
 | (false,_)::r=>pres r
theorem zQ: ∀ {E:List Ent} {k:Nat} {e:Nat×Obj},E[k]? =some (true,e)->e∈pres E
 | [],_,_,h=>by simp at h
 | (true,x)::r,0,e,h=>by simp at h;subst h;simp[pres]
 | (false,x)::r,0,e,h=>by simp at h
 | (true,x)::r,k+1,e,h=>List.mem_cons_of_mem _ (zQ (E:=r) (by simpa using h))
 | (false,x)::r,k+1,e,h=>zQ (E:=r) (by simpa using h)
theorem yh: ∀ {E:List Ent} {e:Nat×Obj},e∈pres E->∃k:Nat,E[k]? =some (true,e)
 | [],_,h=>by simp[pres]at h
 | (true,x)::r,e,h=>by
  rcases List.mem_cons.1 h with rfl|h
  ·exact⟨0,rfl⟩
  ·obtain⟨k,hk⟩:=yh (E:=r) h;exact⟨k+1,by simpa using hk⟩
 | (false,x)::r,e,h=>by obtain⟨k,hk⟩:=yh (E:=r) h;exact⟨k+1,by simpa using hk⟩
theorem yF: ∀ {E:List Ent},((pres E).map (·.1)).Nodup-> ∀ {j k:Nat} {e e':Nat×Obj},E[j]? =some (true,e)->E[k]? =some (true,e')->e.1=e'.1->j=k
 | [],_,_,_,_,_,h,_,_=>by simp at h
 | (true,x)::r,hn,0,0,_,_,_,_,_=>rfl
 | (true,x)::r,hn,0,k+1,e,e',h,h',q=>by
  simp only[pres,Qv,QB]at hn;simp at h;subst h;exact absurd (QD.2 ⟨e',zQ (by simpa using h'),q.symm⟩) hn.1
 | (true,x)::r,hn,j+1,0,e,e',h,h',q=>by
  simp only[pres,Qv,QB]at hn;simp at h';subst h';exact absurd (QD.2 ⟨e,zQ (by simpa using h),q⟩) hn.1
 | (true,x)::r,hn,j+1,k+1,e,e',h,h',q=>by
  simp only[pres,Qv,QB]at hn;exact congrArg (·+1) (yF (E:=r) hn.2 (j:=j) (k:=k) (by simpa using h) (by simpa using h') q)
 | (false,x)::r,hn,0,_,_,_,h,_,_=>by simp at h
 | (false,x)::r,hn,_+1,0,_,_,_,h',_=>by simp at h'
 | (false,x)::r,hn,j+1,k+1,e,e',h,h',q=>by
  exact congrArg (·+1) (yF (E:=r) hn (j:=j) (k:=k) (by simpa using h) (by simpa using h') q)
theorem yG: ∀ {E:List Ent},(∀(j k:Nat) (e e':Nat×Obj),E[j]? =some (true,e)->E[k]? =some (true,e')->e.1=e'.1->j=k)->((pres E).map (·.1)).Nodup
 | [],_=>by simp[pres]
 | (true,x)::r,h=>by
  simp only[pres,Qv,QB];refine⟨fun hm=>?_,yG fun j k e e' hj hk q=>by have:=h (j+1) (k+1) e e' (by simpa using hj) (by simpa using hk) q;omega⟩;obtain⟨e,he,q⟩:=QD.1 hm;obtain⟨k,hk⟩:=yh he;have:=h 0 (k+1) x e rfl (by simpa using hk) q.symm;omega
 | (false,x)::r,h=>yG (E:=r) fun j k e e' hj hk q=>by have:=h (j+1) (k+1) e e' (by simpa using hj) (by simpa using hk) q;omega
theorem StE.of {B:Nat}{w0 w:World}{l:Qb}(h:St B w0 w l)(E:List Ent)(he:pres E=l):StE B w0 w E:=by
 subst he;exact⟨h.below,h.le,fun k e hk=>h.own e (zQ hk),fun j k e e' hj hk q=>yF h.nd hj hk q⟩
theorem StE.st {B:Nat}{w0 w:World}{E:List Ent}(h:StE B w0 w E):St B w0 w (pres E):=
 ⟨h.below,h.le,fun e he=>by obtain⟨k,hk⟩:=yh he;exact h.own k e hk,yG h.inj⟩
theorem StE.call {B:Nat}{w0 w w':World}{E:List Ent}(h:StE B w0 w E)(hb:Below w.heap.size w w'):StE B w0 w' E:=
 ⟨h.below.trans (hb.mono h.le),QH h.le hb.size,fun k e hk=>⟨(h.own k e hk).1,by rw[hb.block _ (zl (h.own k e hk).2)];exact(h.own k e hk).2⟩,h.inj⟩
theorem StE.add {B:Nat}{w0 w w':World}{E:List Ent}(h:StE B w0 w E)(hb:Below w.heap.size w w')(k:Nat){b:Nat}{o:Obj}(hle:w.heap.size<=b)(ho:w'.heap[b]? =some o):StE B w0 w' (E.set k (true,(b,o))):=by
 have h':=h.call hb;refine⟨h'.below,h'.le,fun j e hj=>?_,fun i j e e' hi hj q=>?_⟩
 ·rw[Qz]at hj;split at hj
  ·split at hj
   ·simp at hj;subst hj;exact⟨QH h.le hle,ho⟩
   ·cases hj
  ·exact h'.own j e hj
 ·rw[Qz]at hi hj;split at hi<;>split at hj
  ·omega
  ·split at hi
   ·simp at hi;subst hi;have:=zl (h.own j e' hj).2;simp at q;omega
   ·cases hi
  ·split at hj
   ·simp at hj;subst hj;have:=zl (h.own i e hi).2;simp at q;omega
   ·cases hj
  ·exact h.inj i j e e' hi hj q
theorem StE.turn {B:Nat}{w0 w w':World}{E:List Ent}(h:StE B w0 w E)(k:Nat){b b':Nat}{o o':Obj}(hk:E[k]? =some (true,(b,o)))(hg:w.grownBy w' (some b))(hb:b'=b\/b'=w.heap.size)(ho:w'.heap[b']? =some o'):StE B w0 w' (E.set k (true,(b',o'))):=by
 have hB:=(h.own k _ hk).1;have hlt:=zl (h.own k _ hk).2;have hle:=h.le;have hB':B<=b':=by
  rcases hb with q|q
  ·rw[q];exact hB
  ·rw[q];exact hle
 refine⟨h.below.grown hg hle (fun q hq=>by injection hq with hq;subst hq;exact hB),QH hle hg.size,fun j e hj=>?_,fun i j e e' hi hj q=>?_⟩
 ·rw[Qz]at hj;split at hj
  ·split at hj
   ·simp at hj;subst hj;exact⟨hB',ho⟩
   ·cases hj
  ·rename_i hkj
   have hne:e.1≠b:=fun q=>hkj (h.inj k j _ e hk hj q.symm);exact⟨(h.own j e hj).1,by rw[hg.block e.1 (zl (h.own j e hj).2) (fun q=>hne (by injection q))];exact(h.own j e hj).2⟩
 ·have other: ∀(j:Nat) (e:Nat×Obj),k≠j->E[j]? =some (true,e)->b'≠e.1:=fun j1 e1 hne1 hj1 q1=>by
   rcases hb with hq|hq
   ·exact hne1 (h.inj k j1 _ e1 hk hj1 (hq▸q1))
   ·have h9:=zl (h.own j1 e1 hj1).2;omega
  rw[Qz]at hi hj;split at hi<;>split at hj
  ·omega
  ·rename_i _ hne
   split at hi
   ·simp at hi;subst hi;exact absurd q (other j e' hne hj)
   ·cases hi
  ·rename_i hne _
   split at hj
   ·simp at hj;subst hj;exact absurd q.symm (other i e hne hi)
   ·cases hj
  ·exact h.inj i j e e' hi hj q
theorem grownBy_setRow (w:World)(b:Nat)(C:Qd):w.grownBy (w.setRow b C) (some b):=
 ⟨rfl,rfl,rfl,by simp[QK],fun k hk hne=>yx _ _ _ _ (fun q=>hne (by rw[q]))⟩
section
variable {P:Program}{ops:Array Oper}{R:(Nat->Gh)->Env}{pre:(Nat->Bool)->(Nat->Gh)->World->Prop}{i:Nat}{d:Option Nat}{V:Gh->Value}
variable {E:(Nat->Bool)->(Nat->Gh)->List Ent}{F:(Nat->Bool)->(Nat->Gh)->Prop}{B:Nat}{w0:World}
end
end D2
section
variable {P:Program}{N:Nat}{ops:Array Oper}{i:Nat}{r:List Nat}{K:Env->World->Prop}{ρ:Env}{w:World}{B:Nat}{w0:World}{l:Qb}
end
namespace D2
section
variable {P:Program}{ops:Array Oper}{R:(Nat->Gh)->Env}{i:Nat}{d:Option Nat}{V:Gh->Value}
variable {E:(Nat->Bool)->(Nat->Gh)->List Ent}{F:(Nat->Bool)->(Nat->Gh)->Prop}{B:Nat}{w0:World}
end
end D2
section
open D2 (Gh StE)
structure Eqn:Type 1 where
 {α:Type}
 a:α
 b:α
def Eqn.lf (e:Eqn):Sigma (fun α:Type=>α):=⟨e.α,e.a⟩
def Eqn.rt (e:Eqn):Sigma (fun α:Type=>α):=⟨e.α,e.b⟩
abbrev Eqs (l:List Eqn):Prop:=l.map Eqn.lf=l.map Eqn.rt
theorem Eqs.head {α:Type}{a b:α}{l:List Eqn}(h:Eqs (⟨a,b⟩::l)):a=b:=by
 have h1:(⟨α,a⟩:Sigma (fun α:Type=>α))=⟨α,b⟩:=(QL.inj h).1;exact eq_of_heq (Sigma.mk.inj h1).2
theorem Eqs.tail {e:Eqn}{l:List Eqn}(h:Eqs (e::l)):Eqs l:=(QL.inj h).2
theorem Eqs.both: ∀ {l m:List Eqn},Eqs (l++m)->Eqs l/\Eqs m
 | [],m,h=>⟨rfl,h⟩
 | e::l,m,h=>by
  obtain⟨h1,h2⟩:=Eqs.both (l:=l) (QL.inj h).2;refine⟨?_,h2⟩;have:=(QL.inj h).1;show e.lf::l.map Eqn.lf=e.rt::l.map Eqn.rt;rw[this,h1]
def Hd:List (Nat×(Nat×Obj))->World->Prop
 | [],_=>True
 | e::r,w=>w.heap[e.2.1]? =some e.2.2/\Hd r w
def Ins (r:Operand->Value):List (Operand×Value)->Prop
 | []=>True
 | p::l=>r p.1=p.2/\Ins r l
inductive Eff
 | no
 | new (o:Obj)
 | turn (j:Nat) (o:Obj)
def yi (bl:Qb)(w w':World)(g:Gh):Eff->Prop
 | .no=>Below w.heap.size w w'
 | .new o=>Below w.heap.size w w'/\w.heap.size<=g.b/\w'.heap[g.b]? =some o
 | .turn j o=> ∃e,bl[j]? =some e/\w.grownBy w' (some e.1)/\w'.heap[e.1]? =some o
inductive It (P:Program)(B:Nat)(w0:World):Type
 | v
 | n
 | a
 | b
 | l (j:Nat)
 | s (j:Nat)
 | e {v v':Value} (h:v=v')
 | f {b:Nat} {o:Obj} (h:w0.heap[b]? =some o) (hb:b<B)
 | ls (j:Nat) {C:Qd} {off:Nat} {v:Value} (h:C[off]? =some v)
 | lp (j:Nat) {C W:Qd} {off n:Nat} (hs:off+n<=C.size) (h:C.extract off (off+n)=W)
 | fs {b off:Nat} {C:Qd} {T:TypeId} {fz:Nat×Nat} {v:Value} (h:w0.heap[b]? =some (.cells C T fz)) (hb:b<B) (hv:C[off]? =some v)
 | fp {b off n:Nat} {C W:Qd} {T:TypeId} {fz:Nat×Nat} (h:w0.heap[b]? =some (.cells C T fz)) (hb:b<B) (hs:off+n<=C.size) (hW:C.extract off (off+n)=W)
 | se (j:Nat) {C C':Qd} {off:Nat} {v:Value} (hs:off+v.cells.size<=C.size) (h:(C.toList.take off++v.cells.toList++C.toList.drop (off+v.cells.size)).toArray=C')
 | c {f:Nat} {args:Qd} {v:Value} (h:Fn P f args v)
 | cp {f:Nat} {args:Qd} {pre:World->Prop} {v:Value} (h:FnP P f args pre v) (rd:List (Nat×(Nat×Obj))) (hp: ∀w,Below B w0 w->Hd rd w->pre w)
 | o {ins:List (Operand×Value)} {op:Op} {v:Value} (h: ∀(ρ:Env) (o:Oper) (w:World),o.op=op->Ins (ev ρ) ins->(execOp (ev ρ) o).run P w=.ok (.value v) w)
 | oe {ins:List (Operand×Value)} {op:Op} {v v':Value} (h: ∀(ρ:Env) (o:Oper) (w:World),o.op=op->Ins (ev ρ) ins->(execOp (ev ρ) o).run P w=.ok (.value v) w) (e:v=v')
 | g (ins:List (Operand×Value)) (op:Op) (rd:List (Nat×(Nat×Obj))) (val:Gh->Value) (eff:Eff)
  (h: ∀(ρ:Env) (o:Oper) (w:World),o.op=op->Ins (ev ρ) ins->Hd rd w->Below B w0 w->Runs P (fun v w'=> ∃g:Gh,v=val g/\(match eff with
   | .no=>Below w.heap.size w w'
   | .new o=>Below w.heap.size w w'/\w.heap.size<=g.b/\w'.heap[g.b]? =some o
   | .turn j o=> ∃q,(rd.lookup j)=some q/\w.grownBy w' (some q.1)/\w'.heap[q.1]? =some o)) ((execOp (ev ρ) o).run P w))
 | nw (V:Nat->Value) (C:Qd) (T:TypeId)
 | x {ins:List (Operand×Value)} {op:Op} {v:Value} (rd:List (Nat×(Nat×Obj))) (h: ∀(ρ:Env) (o:Oper) (w:World),o.op=op->Ins (ev ρ) ins->Hd rd w->(execOp (ev ρ) o).run P w=.ok (.value v) w)
 | w (f:(Nat->Nat)->It P B w0)
abbrev It.E {P B w0}(v v':Value)(h:v=v'):It P B w0:=.e h
def zh:Value->Nat
 | .pointer (some a)=>a.off
 | _=>0
def cellsOf:Obj->Qd
 | .cells C _ _=>C
 | _=>#[]
def zz:Obj->TypeId
 | .cells _ T _=>T
 | _=>0
def yj:Obj->Nat×Nat
 | .cells _ _ fz=>fz
 | _=>(0,0)
def za (ops:Array Oper)(i:Nat):Option Nat:=(ops[i]?).bind (·.dst)
def opo (ops:Array Oper)(i:Nat):Op:=match ops[i]? with | some o=>o.op | none=>.ready 0
def ldT:Op->TypeId
 | .load t _=>t
 | .alloc t=>t
 | .box t _=>t
 | .store t _ _=>t
 | _=>0
def ldX:Op->Operand
 | .load _ x=>x
 | .box _ x=>x
 | .store _ x _=>x
 | _=>.tmp 0
def ldY:Op->Operand
 | .store _ _ y=>y
 | _=>.tmp 0
def nm (bl:Qb)(j:Nat):Nat:=match bl[j]? with | some e=>e.1 | none=>0
def ob (bl:Qb)(j:Nat):Obj:=match bl[j]? with | some e=>e.2 | none=>.cells #[] 0 (0,0)
def yk (P:Program)(t:TypeId)(a:Nat)(C:Qd):Bool:=match aggSize P t with
 | some n=>Nat.ble (a+n) C.size
 | none=>oneCell P t&&QP a C.size
def ldv (P:Program)(t:TypeId)(a:Nat)(C:Qd):Value:=match aggSize P t with
 | some n=>bif Qq a 0&&Qq n C.size then .agg C else .agg (C.extract a (a+n))
 | none=>C.getD a undef
def zL (a:Nat)(v C:Qd):Qd:=
 bif Qq a 0&&Qq v.size C.size then v else (C.toList.take a++v.toList++C.toList.drop (a+v.size)).toArray
def zof (P:Program)(t:TypeId):Value:=match (P.info? t).bind (·.zero) with | some z=>z | none=>undef
def vof (P:Program)(ops:Array Oper)(i:Nat)(ρ:Env)(w:World):Value:=match opv P ops i ρ w with
 | some (_,_,.ok (.value v) _)=>v
 | _=>undef
def isC (bl:Qb)(j:Nat):Bool:=match bl[j]? with
 | some (_,.cells _ _ _)=>true
 | _=>false
def zR (bl:Qb)(j:Nat):Bool:=match bl[j]? with
 | some (_,.cells _ _ fz)=>Qq fz.1 0&&Qq fz.2 0
 | _=>false
theorem yH {bl:Qb}{j:Nat}(h:isC bl j=true):bl[j]? =some (nm bl j,.cells (cellsOf (ob bl j)) (zz (ob bl j)) (yj (ob bl j))):=by
 unfold isC at h;unfold nm ob;cases hb:bl[j]? with
 | none=>rw[hb]at h;cases h
 | some e=>
  obtain⟨b,o⟩:=e;rw[hb]at h;cases o<;>first | rfl | cases h
theorem qc {bl:Qb}{j:Nat}(h:zR bl j=true):bl[j]? =some (nm bl j,.cells (cellsOf (ob bl j)) (zz (ob bl j))):=by
 unfold zR at h;unfold nm ob;cases hb:bl[j]? with
 | none=>rw[hb]at h;cases h
 | some e=>
  obtain⟨b,o⟩:=e;rw[hb]at h;cases o with
  | cells C T fz=>
   obtain⟨x,y⟩:=fz;simp only[Qr]at h;obtain rfl:=Qk h.1;obtain rfl:=Qk h.2;rfl
  | _=>cases h
theorem qd {bl:Qb}{j:Nat}{C:Qd}(h:isC bl j=true)(hC:cellsOf (ob bl j)=C):bl[j]? =some (nm bl j,.cells C (zz (ob bl j)) (yj (ob bl j))):=hC▸yH h
theorem qZ {bl:Qb}{j:Nat}{C:Qd}(h:zR bl j=true)(hC:cellsOf (ob bl j)=C):bl[j]? =some (nm bl j,.cells C (zz (ob bl j))):=hC▸qc h
structure Rc where
 val:Gh->Value
 eff:Eff
 rd:List Nat
 eqs:List Eqn
def itR {P:Program}{B:Nat}{w0:World}(ops:Array Oper)(i:Nat)(ρ:Env)(bl:Qb):It P B w0->Rc
 | .v=>⟨fun _=>vof P ops i ρ w0,.no,[],[⟨fun w=>opv P ops i ρ w,fun w=>some (za ops i,true,.ok (.value (vof P ops i ρ w0)) w)⟩]⟩
 | .n=>⟨fun _=>undef,.no,[],[⟨opn ops i ρ,some (za ops i,false)⟩]⟩
 | .a=>⟨fun g=>.pointer (some ⟨g.b,0,none⟩),.new (.cells (zof P (ldT (opo ops i))).cells (ldT (opo ops i))),[],
  [⟨opk ops i ρ,some (za ops i,true,.alloc (ldT (opo ops i)))⟩,⟨(P.info? (ldT (opo ops i))).bind (·.zero),some (zof P (ldT (opo ops i)))⟩]⟩
 | .b=>⟨fun g=>.pointer (some ⟨g.b,0,none⟩),.new (.cells (ev ρ (ldX (opo ops i))).cells (ldT (opo ops i))),[],
  [⟨opk ops i ρ,some (za ops i,true,.box (ldT (opo ops i)) (ldX (opo ops i)))⟩]⟩
 | .l j=>⟨fun _=>ldv P (ldT (opo ops i)) (zh (ev ρ (ldX (opo ops i)))) (cellsOf (ob bl j)),.no,[j],
  [⟨opk ops i ρ,some (za ops i,true,.load (ldT (opo ops i)) (ldX (opo ops i)))⟩,⟨isC bl j,true⟩,
   ⟨ev ρ (ldX (opo ops i)),.pointer (some ⟨nm bl j,zh (ev ρ (ldX (opo ops i))),none⟩)⟩,⟨yk P (ldT (opo ops i)) (zh (ev ρ (ldX (opo ops i)))) (cellsOf (ob bl j)),true⟩]⟩
 | .s j=>⟨fun _=>undef,.turn j (.cells (zL (zh (ev ρ (ldX (opo ops i)))) (ev ρ (ldY (opo ops i))).cells (cellsOf (ob bl j))) (zz (ob bl j)) (0,0)),[j],
  [⟨opk ops i ρ,some (none,true,.store (ldT (opo ops i)) (ldX (opo ops i)) (ldY (opo ops i)))⟩,⟨zR bl j,true⟩,
   ⟨ev ρ (ldX (opo ops i)),.pointer (some ⟨nm bl j,zh (ev ρ (ldX (opo ops i))),none⟩)⟩,⟨(P.info? (ldT (opo ops i))).map (·.size),some (ev ρ (ldY (opo ops i))).cells.size⟩,
   ⟨(ev ρ (ldY (opo ops i))).cells.all (·.oneCell'),true⟩,⟨Nat.ble (zh (ev ρ (ldX (opo ops i)))+(ev ρ (ldY (opo ops i))).cells.size) (cellsOf (ob bl j)).size,true⟩]⟩
 | .E v v' _=>⟨fun _=>v',.no,[],[⟨fun w=>opv P ops i ρ w,fun w=>some (za ops i,true,.ok (.value v) w)⟩]⟩
 | .f (b:=b) (o:=o) _ _=>⟨fun _=>ldv P (ldT (opo ops i)) (zh (ev ρ (ldX (opo ops i)))) (cellsOf o),.no,[],
  [⟨opk ops i ρ,some (za ops i,true,.load (ldT (opo ops i)) (ldX (opo ops i)))⟩,⟨o,.cells (cellsOf o) (zz o) (yj o)⟩,
   ⟨ev ρ (ldX (opo ops i)),.pointer (some ⟨b,zh (ev ρ (ldX (opo ops i))),none⟩)⟩,⟨yk P (ldT (opo ops i)) (zh (ev ρ (ldX (opo ops i)))) (cellsOf o),true⟩]⟩
 | .ls j (C:=C) (off:=off) (v:=v) _=>⟨fun _=>v,.no,[j],
  [⟨opk ops i ρ,some (za ops i,true,.load (ldT (opo ops i)) (ldX (opo ops i)))⟩,⟨isC bl j,true⟩,⟨cellsOf (ob bl j),C⟩,
   ⟨ev ρ (ldX (opo ops i)),.pointer (some ⟨nm bl j,off,none⟩)⟩,⟨oneCell P (ldT (opo ops i)),true⟩]⟩
 | .lp j (C:=C) (W:=W) (off:=off) (n:=n) _ _=>⟨fun _=>.agg W,.no,[j],
  [⟨opk ops i ρ,some (za ops i,true,.load (ldT (opo ops i)) (ldX (opo ops i)))⟩,⟨isC bl j,true⟩,⟨cellsOf (ob bl j),C⟩,
   ⟨ev ρ (ldX (opo ops i)),.pointer (some ⟨nm bl j,off,none⟩)⟩,⟨aggSize P (ldT (opo ops i)),some n⟩]⟩
 | .fs (b:=b) (off:=off) (v:=v) _ _ _=>⟨fun _=>v,.no,[],
  [⟨opk ops i ρ,some (za ops i,true,.load (ldT (opo ops i)) (ldX (opo ops i)))⟩,
   ⟨ev ρ (ldX (opo ops i)),.pointer (some ⟨b,off,none⟩)⟩,⟨oneCell P (ldT (opo ops i)),true⟩]⟩
 | .fp (b:=b) (off:=off) (n:=n) (W:=W) _ _ _ _=>⟨fun _=>.agg W,.no,[],
  [⟨opk ops i ρ,some (za ops i,true,.load (ldT (opo ops i)) (ldX (opo ops i)))⟩,
   ⟨ev ρ (ldX (opo ops i)),.pointer (some ⟨b,off,none⟩)⟩,⟨aggSize P (ldT (opo ops i)),some n⟩]⟩
 | .se j (C:=C) (C':=C') (off:=off) (v:=v) _ _=>⟨fun _=>undef,.turn j (.cells C' (zz (ob bl j))),[j],
  [⟨opk ops i ρ,some (none,true,.store (ldT (opo ops i)) (ldX (opo ops i)) (ldY (opo ops i)))⟩,⟨zR bl j,true⟩,⟨cellsOf (ob bl j),C⟩,
   ⟨ev ρ (ldX (opo ops i)),.pointer (some ⟨nm bl j,off,none⟩)⟩,⟨ev ρ (ldY (opo ops i)),v⟩,⟨(P.info? (ldT (opo ops i))).map (·.size),some v.cells.size⟩,
   ⟨v.cells.all (·.oneCell'),true⟩]⟩
 | .c (f:=f) (args:=args) (v:=v) _=>⟨fun _=>v,.no,[],[⟨fun w=>opv P ops i ρ w,fun w=>some (za ops i,true,.ok (.enter f args) w)⟩]⟩
 | .cp (f:=f) (args:=args) (v:=v) _ rd _=>⟨fun _=>v,.no,rd.map (·.1),⟨fun w=>opv P ops i ρ w,fun w=>some (za ops i,true,.ok (.enter f args) w)⟩::rd.map fun r=>⟨bl[r.1]?,some r.2⟩⟩
 | .o (ins:=ins) (op:=op) (v:=v) _=>⟨fun _=>v,.no,[],⟨opk ops i ρ,some (za ops i,true,op)⟩::ins.map fun p=>⟨ev ρ p.1,p.2⟩⟩
 | .oe (ins:=ins) (op:=op) (v':=v') _ _=>⟨fun _=>v',.no,[],⟨opk ops i ρ,some (za ops i,true,op)⟩::ins.map fun p=>⟨ev ρ p.1,p.2⟩⟩
 | .g ins op rd val eff _=>⟨val,eff,rd.map (·.1),⟨opk ops i ρ,some (za ops i,true,op)⟩::((ins.map fun p=>⟨ev ρ p.1,p.2⟩)++rd.map fun r=>⟨bl[r.1]?,some r.2⟩)⟩
 | .nw V C T=>⟨fun g=>V g.b,.new (.cells C T),[],[⟨fun w=>opv P ops i ρ w,fun w=>some (za ops i,true,.ok (.value (V w.heap.size)) (w.alloc (.cells C T)))⟩]⟩
 | .x (ins:=ins) (op:=op) (v:=v) rd _=>⟨fun _=>v,.no,rd.map (·.1),⟨opk ops i ρ,some (za ops i,true,op)⟩::((ins.map fun p=>⟨ev ρ p.1,p.2⟩)++rd.map fun r=>⟨bl[r.1]?,some r.2⟩)⟩
 | .w f=>itR ops i ρ bl (f (nm bl))
section
variable {P:Program}{N:Nat}{ops:Array Oper}{i:Nat}{ρ:Env}{w w0:World}{B:Nat}{bl:Qb}
theorem qe {t:TypeId}{b off:Nat}{C:Qd}{T:TypeId}{fz:Nat×Nat}(h:yk P t off C=true)(hh:w.heap[b]? =some (.cells C T fz)):
 (loadVar t ⟨b,off,none⟩).run P w=.ok (ldv P t off C) w:=by
 unfold yk at h;unfold ldv;cases ht:aggSize P t with
 | none=>
  rw[ht]at h;simp only[Qr]at h;have hlt:off<C.size:=Qu h.2;refine zV h.1 hh ?_;simp[Array.getD_eq_getD_getElem?,hlt]
 | some n=>
  rw[ht]at h;have hle:off+n<=C.size:=Qu h;have:=zU (w:=w) ht hh hle;rw[this];cases hb:Qq off 0&&Qq n C.size with
  | false=>simp only[hb,cond_false]
  | true=>
   simp only[hb,cond_true];simp only[Qr]at hb;have h1:=Qk hb.1;have h2:=Qk hb.2;subst h1 h2;simp
theorem ja {a:Nat}{v C:Qd} :zL a v C=(C.toList.take a++v.toList++C.toList.drop (a+v.size)).toArray:=by
 unfold zL;cases hb:Qq a 0&&Qq v.size C.size with
 | false=>rfl
 | true=>
  simp only[Qr]at hb;have h1:=Qk hb.1;have h2:=Qk hb.2;subst h1;have h3:C.toList.length=v.size:=by rw[h2];simp
  simp[h2];show v=(v.toList++List.drop C.size C.toList).toArray;rw[List.drop_eq_nil_of_le (by simp)];simp
theorem Ins.of {r:Operand->Value} : ∀ {ins:List (Operand×Value)},Eqs (ins.map fun p=>⟨r p.1,p.2⟩)->Ins r ins
 | [],_=>trivial
 | p::l,h=>⟨Eqs.head h,Ins.of (Eqs.tail h)⟩
theorem Hd.of: ∀ {rd:List (Nat×(Nat×Obj))},Eqs (rd.map fun r=>⟨bl[r.1]?,some r.2⟩)->(∀j,j∈rd.map (·.1)-> ∀e,bl[j]? =some e->w.heap[e.1]? =some e.2)->Hd rd w
 | [],_,_=>trivial
 | p::l,h,hd=>⟨hd p.1 (by simp) p.2 (Eqs.head h),Hd.of (Eqs.tail h) fun j hj=>hd j (by simp at hj⊢;exact .inr hj)⟩
theorem qf: ∀ {rd:List (Nat×(Nat×Obj))} {j:Nat} {q:Nat×Obj},Eqs (rd.map fun r=>⟨bl[r.1]?,some r.2⟩)->rd.lookup j=some q->bl[j]? =some q
 | [],j,q,_,h=>by simp at h
 | p::l,j,q,hE,h=>by
  simp only[List.lookup]at h;split at h
  ·rename_i hb
   cases h;rw[eq_of_beq hb];exact Eqs.head hE
  ·exact qf (Eqs.tail hE) h
theorem qg: ∀(it:It P B w0),Eqs (itR ops i ρ bl it).eqs->Below B w0 w->(∀j,j∈(itR ops i ρ bl it).rd-> ∀e,bl[j]? =some e->w.heap[e.1]? =some e.2)->
 ∃o,ops[i]? =some o/\o.dst=za ops i/\((Qp o (zk ops ρ)=false/\(itR ops i ρ bl it).val=(fun _=>undef)/\(itR ops i ρ bl it).eff=.no)\/
  (Qp o (zk ops ρ)=true/\Runs P (fun v w'=> ∃g,v=(itR ops i ρ bl it).val g/\yi bl w w' g (itR ops i ρ bl it).eff) ((execOp (ev ρ) o).run P w)))
 | .v,hE,hb,hd=>by
  obtain⟨o,ho,h1,hw,hr⟩:=zB (congrFun (Eqs.head hE) w);exact⟨o,ho,h1,.inr ⟨hw,by rw[hr];exact⟨default,rfl,Qs _ _⟩⟩⟩
 | .n,hE,hb,hd=>by
  obtain⟨o,ho,h1,hw⟩:=yT (Eqs.head hE);exact⟨o,ho,h1,.inl ⟨hw,rfl,rfl⟩⟩
 | .a,hE,hb,hd=>by
  obtain⟨o,ho,h1,hw,hop⟩:=zg (Eqs.head hE);refine⟨o,ho,h1,.inr ⟨hw,?_⟩⟩;have hz:=Eqs.head (Eqs.tail hE);generalize zof P (ldT (opo ops i))=z at hz;have hz0:=hz;have e:(execOp (ev ρ) o).run P w=.ok (.value (Qe w.heap.size)) (w.alloc (.cells z.cells (ldT (opo ops i)))):=by
   cases hq:P.info? (ldT (opo ops i)) with
   | none=>rw[hq]at hz;cases hz
   | some it=>
    rw[hq]at hz;simp only[Option.bind_some]at hz;simp[execOp,hop,Instr.alloc,zeroValue,typeInfo,hq,hz,newVar,newRow,newObj];rfl
  rw[e];refine⟨{ b:=w.heap.size },rfl,(Qs _ _).alloc (Qx _) _,Qx _,?_⟩;have ez:zof P (ldT (opo ops i))=z:=by unfold zof;rw[hz0]
  rw[ez];exact heap_alloc_new w _
 | .b,hE,hb,hd=>by
  obtain⟨o,ho,h1,hw,hop⟩:=zg (Eqs.head hE);refine⟨o,ho,h1,.inr ⟨hw,?_⟩⟩;have e:(execOp (ev ρ) o).run P w=.ok (.value (Qe w.heap.size)) (w.alloc (.cells (ev ρ (ldX (opo ops i))).cells (ldT (opo ops i)))):=by
   simp[execOp,hop,Instr.box,newVar,newRow,newObj];rfl
  rw[e];exact⟨{ b:=w.heap.size },rfl,(Qs _ _).alloc (Qx _) _,Qx _,heap_alloc_new w _⟩
 | .l j,hE,hb,hd=>by
  obtain⟨o,ho,h1,hw,hop⟩:=zg (Eqs.head hE);refine⟨o,ho,h1,.inr ⟨hw,?_⟩⟩;have hj:=yH (Eqs.head (Eqs.tail hE));have hx:=Eqs.head (Eqs.tail (Eqs.tail hE));have hk:=Eqs.head (Eqs.tail (Eqs.tail (Eqs.tail hE)));have hh:=hd j (by simp[itR]) _ hj;have e3:=qe hk hh;have e2:(execOp (ev ρ) o).run P w=.ok (.value (ldv P (ldT (opo ops i)) (zh (ev ρ (ldX (opo ops i)))) (cellsOf (ob bl j)))) w:=by
   have e4:(QC (ldT (opo ops i)) (ev ρ (ldX (opo ops i)))).run P w=.ok (ldv P (ldT (opo ops i)) (zh (ev ρ (ldX (opo ops i)))) (cellsOf (ob bl j))) w:=by
    rw[hx];rw[hx]at e3;exact e3
   simp only[execOp,hop,Qo,e4,Ql];rfl
  rw[e2];exact⟨default,rfl,Qs _ _⟩
 | .s j,hE,hb,hd=>by
  obtain⟨o,ho,h1,hw,hop⟩:=zg (Eqs.head hE);refine⟨o,ho,by unfold za;rw[ho];rfl,.inr ⟨hw,?_⟩⟩;have hj:=qc (Eqs.head (Eqs.tail hE));have hx:=Eqs.head (Eqs.tail (Eqs.tail hE));have hi:=Eqs.head (Eqs.tail (Eqs.tail (Eqs.tail hE)));have hc:=Eqs.head (Eqs.tail (Eqs.tail (Eqs.tail (Eqs.tail hE))));have hs:_+_<=_:=Qu (Eqs.head (Eqs.tail (Eqs.tail (Eqs.tail (Eqs.tail (Eqs.tail hE))))));have hh:=hd j (by simp[itR]) _ hj;have h9:=yW (P:=P) (w:=w) hi hc hh hs;rw[<-ja]at h9;refine cast (congrArg (Runs P _) ?_) (show Runs P (fun v w'=> ∃g,v=undef/\yi bl w w' g (.turn j (.cells (zL (zh (ev ρ (ldX (opo ops i)))) (ev ρ (ldY (opo ops i))).cells (cellsOf (ob bl j))) (zz (ob bl j)) (0,0)))) (.ok .skip (w.setRow (nm bl j) (zL (zh (ev ρ (ldX (opo ops i)))) (ev ρ (ldY (opo ops i))).cells (cellsOf (ob bl j))))) from ?_)
  ·have e4:(Instr.storeAt (ldT (opo ops i)) (ev ρ (ldX (opo ops i))) (ev ρ (ldY (opo ops i)))).run P w=.ok () (w.setRow (nm bl j) (zL (zh (ev ρ (ldX (opo ops i)))) (ev ρ (ldY (opo ops i))).cells (cellsOf (ob bl j)))):=by
    rw[hx];rw[hx]at h9;exact h9
   symm
   simp only[execOp,hop,Qo,e4,Ql];rfl
  ·exact⟨default,rfl,_,hj,D2.grownBy_setRow _ _ _,setRow_heap w _ _ _ _ _ hh⟩
 | .e h,hE,hb,hd=>by
  obtain⟨o,ho,h1,hw,hr⟩:=zB (congrFun (Eqs.head hE) w);subst h;exact⟨o,ho,h1,.inr ⟨hw,by rw[hr];exact⟨default,rfl,Qs _ _⟩⟩⟩
 | .f (b:=b) (o:=q) h hlt,hE,hb,hd=>by
  obtain⟨o,ho,h1,hw,hop⟩:=zg (Eqs.head hE);refine⟨o,ho,h1,.inr ⟨hw,?_⟩⟩;have hj:=Eqs.head (Eqs.tail hE);have hx:=Eqs.head (Eqs.tail (Eqs.tail hE));have hk:=Eqs.head (Eqs.tail (Eqs.tail (Eqs.tail hE)));have hh:w.heap[b]? =some (.cells (cellsOf q) (zz q) (yj q)):=by rw[hb.block b hlt,h];exact congrArg some hj
  have e3:=qe hk hh;have e2:(execOp (ev ρ) o).run P w=.ok (.value (ldv P (ldT (opo ops i)) (zh (ev ρ (ldX (opo ops i)))) (cellsOf q))) w:=by
   have e4:(QC (ldT (opo ops i)) (ev ρ (ldX (opo ops i)))).run P w=.ok (ldv P (ldT (opo ops i)) (zh (ev ρ (ldX (opo ops i)))) (cellsOf q)) w:=by
    rw[hx];rw[hx]at e3;exact e3
   simp only[execOp,hop,Qo,e4,Ql];rfl
  rw[e2];exact⟨default,rfl,Qs _ _⟩
 | .ls j (C:=C) (off:=off) (v:=v) h,hE,hb,hd=>by
  obtain⟨o,ho,h1,hw,hop⟩:=zg (Eqs.head hE);refine⟨o,ho,h1,.inr ⟨hw,?_⟩⟩;have hj:=qd (Eqs.head (Eqs.tail hE)) (Eqs.head (Eqs.tail (Eqs.tail hE)));have hE':=Eqs.tail (Eqs.tail hE);have hx:=Eqs.head (Eqs.tail hE');have hk:=Eqs.head (Eqs.tail (Eqs.tail hE'));have hh:=hd j (by simp[itR]) _ hj;have e3:=zV (w:=w) hk hh h;have e4:(QC (ldT (opo ops i)) (ev ρ (ldX (opo ops i)))).run P w=.ok v w:=by rw[hx];exact e3
  have e2:(execOp (ev ρ) o).run P w=.ok (.value v) w:=by simp only[execOp,hop,Qo,e4,Ql];rfl
  rw[e2];exact⟨default,rfl,Qs _ _⟩
 | .lp j (C:=C) (W:=W) (off:=off) (n:=n) hs h,hE,hb,hd=>by
  obtain⟨o,ho,h1,hw,hop⟩:=zg (Eqs.head hE);refine⟨o,ho,h1,.inr ⟨hw,?_⟩⟩;have hj:=qd (Eqs.head (Eqs.tail hE)) (Eqs.head (Eqs.tail (Eqs.tail hE)));have hE':=Eqs.tail (Eqs.tail hE);have hx:=Eqs.head (Eqs.tail hE');have hk:=Eqs.head (Eqs.tail (Eqs.tail hE'));have hh:=hd j (by simp[itR]) _ hj;have e3:=zU (w:=w) hk hh hs;rw[h]at e3;have e4:(QC (ldT (opo ops i)) (ev ρ (ldX (opo ops i)))).run P w=.ok (.agg W) w:=by rw[hx];exact e3
  have e2:(execOp (ev ρ) o).run P w=.ok (.value (.agg W)) w:=by simp only[execOp,hop,Qo,e4,Ql];rfl
  rw[e2];exact⟨default,rfl,Qs _ _⟩
 | .fs (b:=b) (off:=off) (v:=v) h hlt hv,hE,hb,hd=>by
  obtain⟨o,ho,h1,hw,hop⟩:=zg (Eqs.head hE);refine⟨o,ho,h1,.inr ⟨hw,?_⟩⟩;have hx:=Eqs.head (Eqs.tail hE);have hk:=Eqs.head (Eqs.tail (Eqs.tail hE));have e3:=zV (w:=w) hk ((hb.block b hlt).trans h) hv;have e4:(QC (ldT (opo ops i)) (ev ρ (ldX (opo ops i)))).run P w=.ok v w:=by rw[hx];exact e3
  have e2:(execOp (ev ρ) o).run P w=.ok (.value v) w:=by simp only[execOp,hop,Qo,e4,Ql];rfl
  rw[e2];exact⟨default,rfl,Qs _ _⟩
 | .fp (b:=b) (off:=off) (n:=n) (W:=W) h hlt hs hW,hE,hb,hd=>by
  obtain⟨o,ho,h1,hw,hop⟩:=zg (Eqs.head hE);refine⟨o,ho,h1,.inr ⟨hw,?_⟩⟩;have hx:=Eqs.head (Eqs.tail hE);have hk:=Eqs.head (Eqs.tail (Eqs.tail hE));have e3:=zU (w:=w) hk ((hb.block b hlt).trans h) hs;rw[hW]at e3;have e4:(QC (ldT (opo ops i)) (ev ρ (ldX (opo ops i)))).run P w=.ok (.agg W) w:=by rw[hx];exact e3
  have e2:(execOp (ev ρ) o).run P w=.ok (.value (.agg W)) w:=by simp only[execOp,hop,Qo,e4,Ql];rfl
  rw[e2];exact⟨default,rfl,Qs _ _⟩
 | .se j (C:=C) (C':=C') (off:=off) (v:=v) hs h,hE,hb,hd=>by
  obtain⟨o,ho,h1,hw,hop⟩:=zg (Eqs.head hE);refine⟨o,ho,by unfold za;rw[ho];rfl,.inr ⟨hw,?_⟩⟩;have hj:=qZ (Eqs.head (Eqs.tail hE)) (Eqs.head (Eqs.tail (Eqs.tail hE)));have hE':=Eqs.tail (Eqs.tail hE);have hx:=Eqs.head (Eqs.tail hE');have hy:=Eqs.head (Eqs.tail (Eqs.tail hE'));have hi:=Eqs.head (Eqs.tail (Eqs.tail (Eqs.tail hE')));have hc:=Eqs.head (Eqs.tail (Eqs.tail (Eqs.tail (Eqs.tail hE'))));have hh:=hd j (by simp[itR]) _ hj;have h9:=yW (P:=P) (w:=w) hi hc hh hs;rw[h]at h9;have e4:(Instr.storeAt (ldT (opo ops i)) (ev ρ (ldX (opo ops i))) (ev ρ (ldY (opo ops i)))).run P w=.ok () (w.setRow (nm bl j) C'):=by rw[hx,hy];exact h9
  have e2:(execOp (ev ρ) o).run P w=.ok .skip (w.setRow (nm bl j) C'):=by simp only[execOp,hop,Qo,e4,Ql];rfl
  rw[e2];exact⟨default,rfl,_,hj,D2.grownBy_setRow _ _ _,setRow_heap w _ _ _ _ _ hh⟩
 | .c (f:=f) (args:=args) (v:=v) h,hE,hb,hd=>by
  obtain⟨o,ho,h1,hw,hr⟩:=zB (congrFun (Eqs.head hE) w);refine⟨o,ho,h1,.inr ⟨hw,?_⟩⟩;rw[hr];exact(h w).mono fun e w' ⟨he,hB⟩=>⟨v,he,default,rfl,hB⟩
 | .cp (f:=f) (args:=args) (v:=v) h rd hp,hE,hb,hd=>by
  obtain⟨o,ho,h1,hw,hr⟩:=zB (congrFun (Eqs.head hE) w);refine⟨o,ho,h1,.inr ⟨hw,?_⟩⟩;rw[hr];exact(h w (hp w hb (Hd.of (Eqs.tail hE) hd))).mono fun e w' ⟨he,hB⟩=>⟨v,he,default,rfl,hB⟩
 | .o h,hE,hb,hd=>by
  obtain⟨o,ho,h1,hw,hop⟩:=zg (Eqs.head hE);refine⟨o,ho,h1,.inr ⟨hw,?_⟩⟩;rw[h ρ o w hop (Ins.of (Eqs.tail hE))];exact⟨default,rfl,Qs _ _⟩
 | .oe h e,hE,hb,hd=>by
  obtain⟨o,ho,h1,hw,hop⟩:=zg (Eqs.head hE);refine⟨o,ho,h1,.inr ⟨hw,?_⟩⟩;rw[h ρ o w hop (Ins.of (Eqs.tail hE))];subst e;exact⟨default,rfl,Qs _ _⟩
 | .g ins op rd val eff h,hE,hb,hd=>by
  obtain⟨o,ho,h1,hw,hop⟩:=zg (Eqs.head hE);refine⟨o,ho,h1,.inr ⟨hw,?_⟩⟩;obtain⟨hi,hr⟩:=Eqs.both (Eqs.tail hE);have h9:=h ρ o w hop (Ins.of hi) (Hd.of hr hd) hb
  have conv: ∀ {v w'},(∃g:Gh,v=val g/\(match eff with
   | .no=>Below w.heap.size w w'
   | .new o=>Below w.heap.size w w'/\w.heap.size<=g.b/\w'.heap[g.b]? =some o
   | .turn j o=> ∃q,(rd.lookup j)=some q/\w.grownBy w' (some q.1)/\w'.heap[q.1]? =some o))->∃g,v=val g/\yi bl w w' g eff:=by
   rintro v w' ⟨g,hv,ha⟩;refine⟨g,hv,?_⟩;cases eff with
   | no=>exact ha
   | new o=>exact ha
   | turn j o=>obtain⟨q,hq,ha⟩:=ha;exact⟨q,qf hr hq,ha⟩
  generalize (execOp (ev ρ) o).run P w=r at h9;cases r with
  | halt h w'=>exact h9.elim
  | ok n w'=>
   cases n with
   | value v=>exact conv h9
   | skip=>exact conv h9
   | enter f' args=>exact Calls.mono h9 fun e w'' ⟨v,he,hh⟩=>⟨v,he,conv hh⟩
   | _=>exact h9.elim
 | .nw V C T,hE,hb,hd=>by
  obtain⟨o,ho,h1,hw,hr⟩:=zB (congrFun (Eqs.head hE) w);refine⟨o,ho,h1,.inr ⟨hw,?_⟩⟩;rw[hr];exact⟨{ b:=w.heap.size },rfl,(Qs _ _).alloc (Qx _) _,Qx _,heap_alloc_new w _⟩
 | .x rd h,hE,hb,hd=>by
  obtain⟨o,ho,h1,hw,hop⟩:=zg (Eqs.head hE);refine⟨o,ho,h1,.inr ⟨hw,?_⟩⟩;obtain⟨hi,hr⟩:=Eqs.both (Eqs.tail hE);rw[h ρ o w hop (Ins.of hi) (Hd.of hr hd)];exact⟨default,rfl,Qs _ _⟩
 | .w f,hE,hb,hd=>qg (f (nm bl)) hE hb hd
end
def ap (bl:Qb)(g:Gh):Eff->Qb
 | .no=>bl
 | .new o=>bl++ [(g.b,o)]
 | .turn j o=>bl.set j (nm bl j,o)
def shf (g:Nat->Gh):Nat->Gh:=fun j=>g (j+1)
def zA {P:Program}{B:Nat}{w0:World}(ops:Array Oper):List (It P B w0)->List Nat->Env->Qb->(Nat->Gh)->Env×Qb
 | it::r,i::is,ρ,bl,g=>zA ops r is (zd ρ (za ops i) ((itR ops i ρ bl it).val (g 0))) (ap bl (g 0) (itR ops i ρ bl it).eff) (shf g)
 | _,_,ρ,bl,_=>(ρ,bl)
def zE {P:Program}{B:Nat}{w0:World}(N:Nat)(ops:Array Oper):List (It P B w0)->List Nat->Env->Qb->(Nat->Gh)->List Eqn
 | [],_,_,_,_=>[]
 | _::_,[],_,_,_=>[⟨true,false⟩]
 | it::r,i::is,ρ,bl,g=>⟨dOK (za ops i) N,true⟩::((itR ops i ρ bl it).eqs++zE N ops r is (zd ρ (za ops i) ((itR ops i ρ bl it).val (g 0))) (ap bl (g 0) (itR ops i ρ bl it).eff) (shf g))
theorem yl: ∀(l:Qb),D2.pres (l.map fun e=>(true,e))=l
 | []=>rfl
 | e::l=>congrArg (e :: ·) (yl l)
theorem qh: ∀(l:Qb) (x:Nat×Obj),D2.pres (l.map (fun e=>(true,e))++ [(false,x)])=l
 | [],x=>rfl
 | e::l,x=>congrArg (e :: ·) (qh l x)
theorem jb {bl:Qb}{j:Nat}{e:Nat×Obj}(h:bl[j]? =some e):nm bl j=e.1:=by unfold nm;rw[h]
section
variable {P:Program}{N:Nat}{ops:Array Oper}{i:Nat}{ρ:Env}{w w' w0:World}{B:Nat}{bl:Qb}{K:Env->World->Prop}
theorem St.after {g:Gh}{eff:Eff}(H:St B w0 w bl)(h:yi bl w w' g eff):St B w0 w' (ap bl g eff):=by
 cases eff with
 | no=>exact H.call h
 | new o=>
  obtain⟨hb,hle,ho⟩:=h;have h1:=(StE.of H (bl.map (fun e=>(true,e))++ [(false,(0,o))]) (qh _ _)).add hb bl.length hle ho;have h2:=h1.st;have e:(bl.map (fun e=>(true,e))++ [(false,(0,o))]).set bl.length (true,(g.b,o))=(bl++ [(g.b,o)]).map fun e=>(true,e):=by
   rw[List.set_append_right _ _ (by simp)];simp
  rw[e,yl]at h2;exact h2
 | turn j o=>
  obtain⟨e,he,hg,ho⟩:=h;have h1:=(StE.of H (bl.map (fun e=>(true,e))) (yl _)).turn (w':=w') j (b:=e.1) (o:=e.2) (b':=e.1) (o':=o) (by simp[he]) hg (.inl rfl) ho;have h2:=h1.st;have e2:(bl.map (fun e=>(true,e))).set j (true,(e.1,o))=(bl.set j (e.1,o)).map fun e=>(true,e):=by
   rw[List.map_set]
  rw[e2,yl]at h2;show St B w0 w' (bl.set j (nm bl j,o));rw[jb he];exact h2
theorem WPo.runs {o:Oper}{S:Value->World->Prop}(ho:ops[i]? =some o)(hw:Qp o (zk ops ρ)=true)(hd:dOK o.dst N=true)(h:Runs P S ((execOp (ev ρ) o).run P w))(hS: ∀v w',S v w'->K (zd ρ o.dst v) w'):WPo P N ops i K ρ w:=by
 refine WPo.run ho hw fun a ha=>?_;generalize (execOp (ev ρ) o).run P w=r at h;cases r with
 | halt h1 w'=>exact h.elim
 | ok n w'=>
  cases n with
  | value v=>rw[Qy];exact⟨_,ha.put _ (zt hd) v,hS _ _ h⟩
  | skip=>rw[Oper.upon_skip];exact⟨_,ha.put _ (zt hd) undef,hS _ _ h⟩
  | enter f' args=>
   rw[Oper.upon_enter];refine Calls.mono h ?_;rintro e w'' ⟨v,rfl,hh⟩;exact⟨_,ha.put _ (zt hd) v,hS _ _ hh⟩
  | _=>exact h.elim
theorem jc (it:It P B w0)(H:St B w0 w bl)(hd:dOK (za ops i) N=true)(hE:Eqs (itR ops i ρ bl it).eqs)
 (k: ∀g w',St B w0 w' (ap bl g (itR ops i ρ bl it).eff)->K (zd ρ (za ops i) ((itR ops i ρ bl it).val g)) w'):WPo P N ops i K ρ w:=by
 obtain⟨o,ho,hdst,h⟩:=qg it hE H.below (fun j _ e he=>H.get j he);rcases h with⟨hw,hv,he⟩|⟨hw,hr⟩
 ·refine qG (za ops i) (by unfold opn;rw[ho];simp[hdst,hw]) hd ?_;have:=k default w (by rw[he];exact H);rw[hv]at this;exact this
 ·refine WPo.runs ho hw (by rw[hdst];exact hd) hr ?_;rintro v w' ⟨g,rfl,ha⟩;rw[hdst];exact k g w' (H.after ha)
theorem ym: ∀(its:List (It P B w0)) (l:List Nat) (ρ:Env) (bl:Qb) (w:World),St B w0 w bl->(∀g,Eqs (zE N ops its l ρ bl g))->
 (∀g w',St B w0 w' (zA ops its l ρ bl g).2->WPs P N ops K (l.drop its.length) (zA ops its l ρ bl g).1 w')->WPs P N ops K l ρ w
 | [],l,ρ,bl,w,H,_,k=>by
  have:=k (fun _=>default) w;cases l<;>exact this H
 | it::r,[],ρ,bl,w,H,hE,k=>by
  have:=Eqs.head (hE fun _=>default);cases this
 | it::r,i::is,ρ,bl,w,H,hE,k=>by
  have h0:=hE fun _=>default;refine jc it H (Eqs.head h0) (Eqs.both (Eqs.tail h0)).1 fun g w' H'=>?_;exact ym r is _ _ w' H' (fun g'=>(Eqs.both (Eqs.tail (hE fun j=>match j with | 0=>g | j+1=>g' j))).2)
   fun g' w'' H''=>k (fun j=>match j with | 0=>g | j+1=>g' j) w'' H''
variable {Q:Exit->Env->World->Prop}{c:Code}
theorem rp {l:List Nat}(its:List (It P B w0))(H:St B w0 w bl)(h:(fun g=>(zE N ops its l ρ bl g).map Eqn.lf)=fun g=>(zE N ops its l ρ bl g).map Eqn.rt)
 (k: ∀g w',St B w0 w' (zA ops its l ρ bl g).2->WPs P N ops K (l.drop its.length) (zA ops its l ρ bl g).1 w'):WPs P N ops K l ρ w:=
 ym its l ρ bl w H (fun g=>congrFun h g) k
def srK (c:Code)(n:Nat):Bool:=match c with
 | .region _ ops false=>Qq ops.size n
 | _=>false
theorem qi {n:Nat}(h:srK c n=true):∃id,c=.region id (zc c) false/\Qm (zc c).size=Qm n:=by
 cases c with
 | region id ops d=>
  cases d with
  | true=>cases h
  | false=>exact⟨id,rfl,congrArg Qm (Qk h)⟩
 | _=>cases h
theorem rS (its:List (It P B w0))(H:St B w0 w bl)
 (h:(fun g=>(⟨zx c&&srK (ze c) its.length,true⟩::zE N (zc (ze c)) its (Qm its.length) ρ bl g).map Eqn.lf)=fun g=>(⟨zx c&&srK (ze c) its.length,true⟩::zE N (zc (ze c)) its (Qm its.length) ρ bl g).map Eqn.rt)
 (k: ∀g w',St B w0 w' (zA (zc (ze c)) its (Qm its.length) ρ bl g).2->WP P N (zs c) Q (zA (zc (ze c)) its (Qm its.length) ρ bl g).1 w'):WP P N c Q ρ w:=by
 have h0:(zx c&&srK (ze c) its.length)=true:=Eqs.head (congrFun h fun _=>default);rw[Qr]at h0;obtain⟨id,he,hl⟩:=qi h0.2;refine zu h0.1 ?_;rw[he];refine WP.region (Qm its.length) hl ?_;have hd:(Qm its.length).drop its.length=[]:=by simp
 exact ym its _ ρ bl w H (fun g=>Eqs.tail (congrFun h g)) fun g w' H'=>by rw[hd];exact k g w' H'
theorem rL (its:List (It P B w0))(H:St B w0 w bl)
 (h:(fun g=>(⟨srK c its.length,true⟩::zE N (zc c) its (Qm its.length) ρ bl g).map Eqn.lf)=fun g=>(⟨srK c its.length,true⟩::zE N (zc c) its (Qm its.length) ρ bl g).map Eqn.rt)
 (k: ∀g w',St B w0 w' (zA (zc c) its (Qm its.length) ρ bl g).2->Q .normal (zA (zc c) its (Qm its.length) ρ bl g).1 w'):WP P N c Q ρ w:=by
 obtain⟨id,he,hl⟩:=qi (Eqs.head (congrFun h fun _=>default));rw[he];refine WP.region (Qm its.length) hl ?_;have hd:(Qm its.length).drop its.length=[]:=by simp
 exact ym its _ ρ bl w H (fun g=>Eqs.tail (congrFun h g)) fun g w' H'=>by rw[hd];exact k g w' H'
def qj (P:Program)(t:TypeId)(C:Qd):Bool:=match aggSize P t with
 | some n=>Qq n C.size
 | none=>oneCell P t&&QP 0 C.size
def rs1 (P:Program)(t:TypeId)(C:Qd):Value:=match aggSize P t with
 | some _=>.agg C
 | none=>C.getD 0 undef
def rsv (P:Program)(ρ:Env)(bl:Qb):List ResultVar->List Nat->List Value
 | .tmp t::r,js=>ρ t::rsv P ρ bl r js
 | .cell t ty::r,j::js=>rs1 P ty (cellsOf (ob bl j))::rsv P ρ bl r js
 | _,_=>[]
def rse (P:Program)(ρ:Env)(bl:Qb):List ResultVar->List Nat->List Eqn
 | .tmp t::r,js=>rse P ρ bl r js
 | .cell t ty::r,j::js=>⟨ρ t,.pointer (some ⟨nm bl j,0,none⟩)⟩::⟨isC bl j,true⟩::⟨qj P ty (cellsOf (ob bl j)),true⟩::rse P ρ bl r js
 | [],_=>[]
 | .cell _ _::_,[]=>[⟨true,false⟩]
theorem Res.of (H:St B w0 w bl): ∀ {rs:List ResultVar} {js:List Nat},Eqs (rse P ρ bl rs js)->Res P w ρ rs (rsv P ρ bl rs js)
 | [],js,_=>by cases js<;>exact .nil
 | .tmp t::r,js,h=>.tmp _ rfl (Res.of H (rs:=r) (js:=js) h)
 | .cell t ty::r,[],h=>by have:=Eqs.head h;cases this
 | .cell t ty::r,j::js,h=>by
  have h1:=Eqs.head h;have h2:=yH (Eqs.head (Eqs.tail h));have h3:=Eqs.head (Eqs.tail (Eqs.tail h));have h4:=Res.of H (rs:=r) (js:=js) (Eqs.tail (Eqs.tail (Eqs.tail h)));have hh:=H.get j h2;show Res P w ρ (.cell t ty::r) (rs1 P ty (cellsOf (ob bl j))::rsv P ρ bl r js);unfold qj at h3;unfold rs1;cases ht:aggSize P ty with
  | some n=>
   simp only[ht]at h3⊢;exact .agg _ _ _ h1 hh (by rw[ht,Qk h3]) h4
  | none=>
   simp only[ht,Qr]at h3⊢;have hlt:0<(cellsOf (ob bl j)).size:=Qu h3.2;exact .one _ _ _ _ h1 hh h3.1 (by simp[Array.getD_eq_getD_getElem?,hlt]) h4
theorem St.as {l:Qb}(H:St B w0 w bl)(h:bl=l):St B w0 w l:=h▸H
theorem rR (rs:List ResultVar)(js:List Nat)(v:Value)(H:St B w0 w bl)
 (h:(⟨ya c,true⟩::⟨Q .ret,zJ P rs (fun v' w'=>v'=v/\Below B w0 w') .ret⟩::⟨zW (rsv P ρ bl rs js),v⟩::rse P ρ bl rs js).map Eqn.lf=(⟨ya c,true⟩::⟨Q .ret,zJ P rs (fun v' w'=>v'=v/\Below B w0 w') .ret⟩::⟨zW (rsv P ρ bl rs js),v⟩::rse P ρ bl rs js).map Eqn.rt):WP P N c Q ρ w:=by
 have h1:Q .ret=zJ P rs (fun v' w'=>v'=v/\Below B w0 w') .ret:=Eqs.head (Eqs.tail h);refine yd (Eqs.head h) ?_;rw[h1];exact⟨_,Res.of H (Eqs.tail (Eqs.tail (Eqs.tail h))),Eqs.head (Eqs.tail (Eqs.tail h)),H.below⟩
end
end
namespace D3
open D2 (Gh StE)
section
variable {P:Program}{N:Nat}{ops:Array Oper}{Q:Exit->Env->World->Prop}{K:Env->World->Prop}{ρ:Env}{w:World}{V:(Nat->Gh)->Nat->Value}{pre:(Nat->Bool)->(Nat->Gh)->World->Prop}
end
end D3
section
open D2 (Gh StE)
section
variable {P:Program}{N:Nat}{ops:Array Oper}{Q:Exit->Env->World->Prop}{ρ:Env}{w w0:World}{B:Nat}{bl:Qb}
end
section
variable {P:Program}{N:Nat}{ops:Array Oper}{Q:Exit->Env->World->Prop}{ρ:Env}{w w0:World}{B:Nat}{bl:Qb}
end
section
variable {P:Program}{N:Nat}{ops:Array Oper}{Q:Exit->Env->World->Prop}{ρ:Env}{w w0:World}{B:Nat}{bl:Qb}{c:Code}
theorem qk (l:List (Nat×Value))(h:(l.map fun p=>Eqn.mk (ρ p.1) p.2).map Eqn.lf=(l.map fun p=>Eqn.mk (ρ p.1) p.2).map Eqn.rt)(k: ∀ρ',WP P N c Q (zO l ρ') w):WP P N c Q ρ w:=by
 have hh: ∀ {l:List (Nat×Value)},Eqs (l.map fun p=>Eqn.mk (ρ p.1) p.2)->ye ρ l:=by
  intro l
  induction l with
  | nil=>intro _;trivial
  | cons p l ih=>intro h;exact⟨Eqs.head h,ih (Eqs.tail h)⟩
 have:=k ρ
 rwa [yE (hh h)]at this
end
end
theorem je (a b:Nat):(a:Int).tdiv (b:Int)=((a / b:Nat):Int):=rfl
theorem jf (a b:Nat):(a:Int).tmod (b:Int)=((a%b:Nat):Int):=rfl
theorem ql {a b:Nat}(h:a+b<=0x7fffffffffffffff):Qn.wrap ((a:Int)+(b:Int))=((a+b:Nat):Int):=by rw[wrap_i64 (by omega) (by omega)];omega
theorem qm {a b:Nat}(h:a*b<=0x7fffffffffffffff):Qn.wrap ((a:Int)*(b:Int))=((a*b:Nat):Int):=by
 rw[<-Int.natCast_mul];exact wrap_i64 (by omega) (by omega)
theorem yn {a b:Nat}(h:b<=a/\a<=0x7fffffffffffffff):Qn.wrap ((a:Int)-(b:Int))=((a-b:Nat):Int):=by rw[wrap_i64 (by omega) (by omega)];omega
theorem qn {a b:Nat}(h:a<=0x7fffffffffffffff):Qn.wrap ((a:Int).tdiv (b:Int))=((a / b:Nat):Int):=by
 rw[je];have:=Nat.div_le_self a b;generalize a / b=q at*;exact wrap_i64 (by omega) (by omega)
theorem qo (a b:Nat):(a:Int).tmod (b:Int)=((a%b:Nat):Int):=jf a b
theorem jg {a:Nat}(h:a<=0x7fffffffffffffff):Qn.wrap (a:Int)=(a:Int):=wrap_i64 (by omega) (by omega)
theorem yo {a:Nat}(h:a<=0xffffffffffffffff):Qw.wrap (a:Int)=(a:Int):=wrap_u64 (by omega) (by omega)
theorem qp (a:Int):Qw.wrap a=a%0x10000000000000000:=by simp[IntKind.wrap,IntKind.bits,IntKind.signed]
section
variable {P:Program}{ρ:Env}
theorem qq {k:IntKind}{t t':TypeId}{x y:Operand}{o:Oper}{n:Nat}(X Y:Nat)(h:Y≠0)(w:World)(ho:o.op=.binOp .rem t x y t')(hx:ev ρ x=.int k (X:Int))(hy:ev ρ y=.int k (Y:Int)):
 (execOp (ev ρ) o).run P w=.ok (.value (.int k ((X:Int).tmod (Y:Int)))) w:=by
 have h2:(Y:Int)≠0:=by omega
 unfold execOp;simp[ho,hx,hy,eqGuard,binOp,Op.intDiv,h2,h]
end
namespace D2
section
variable {P:Program}{ops:Array Oper}{R:(Nat->Gh)->Env}{i:Nat}{d:Option Nat}
variable {E:(Nat->Bool)->(Nat->Gh)->List Ent}{F:(Nat->Bool)->(Nat->Gh)->Prop}{B:Nat}{w0:World}
end
end D2
section
variable {P:Program}{N:Nat}{ops:Array Oper}{i:Nat}{r:List Nat}{K:Env->World->Prop}{ρ:Env}{w:World}{B:Nat}{w0:World}{l:Qb}
theorem jh (HS:St B w0 w l)(d:Option Nat)(t e:TypeId)(bytes:Nat)(z:Value)(x y:Operand)(kl kc:IntKind)(n:Nat)(h:opk ops i ρ=some (d,true,.makeSlice t x y))(hd:dOK d N=true)(ht:zw P t=some (e,1,bytes))(hz:(P.info? e).bind (·.zero)=some z)(hzz:z.cells=#[z])
 (hx:ev ρ x=.int kl (n:Int)) (hy:ev ρ y=.int kc (n:Int)) (hb:bytes*n<=281474976710656) (hm:n<=maxLen)
 (kk: ∀b cur w',St B w0 w' ((b,.cells cur e)::l)->Rw 1 cur n n (QJ n z)->WPs P N ops K r (zd ρ d (Qf b n n)) w'):WPs P N ops K (i::r) ρ w:=by
 obtain⟨o,ho,rfl,hw,hop⟩:=zg h;obtain⟨it,z',hu,hi,hz',hsz,hby,hzs,h0⟩:=zP ht;obtain rfl:z'=z:=by rw[hi]at hz;simp[hz']at hz;exact hz
 have hml:n<=0x7fffffffffffffff:=by have:=hm;simp only[maxLen]at this;omega
 have hbi:(it.bytes:Int)*(n:Int)<=281474976710656:=by
  rw[hby,<-Int.natCast_mul];omega
 have hr:=run_make (P:=P) w t e it z' hu hi hz' kl kc (n:Int) (n:Int) (by omega) (by omega) hbi (by omega);simp only[Int.toNat_natCast,hsz,Nat.mul_one]at hr;have hmade:madeCells z'.cells n=QG n z':=by
  unfold madeCells;apply Array.ext
  ·simp
  ·intro q h1 h2;simp[hzz,Nat.mod_one]
 rw[hmade]at hr;refine WPo.run ho hw fun a ha=>?_;have hex:(execOp (ev ρ) o).run P w=.ok (.value (Qf w.heap.size n n)) (w.alloc (.cells (QG n z') e)):=by
  unfold execOp;simp only[hop,hx,hy,Qo,hr,Ql];rfl
 rw[hex,Qy];exact⟨_,ha.put _ (zt hd) _,kk _ _ _ (HS.alloc _) ⟨by simp,Qx _,hm,by simp,by simp⟩⟩
end
def tl (s:Qa):List UInt8:=s.data.toList
theorem yp (s:Qa):(tl s).length=s.size:=rfl
section
variable {P:Program}{ρ:Env}
end
theorem ji (s:Qa):(s.toList==s.toList)=true:=beq_self_eq_true _
section
variable {P:Program}{N:Nat}{ops:Array Oper}{i:Nat}{r:List Nat}{K:Env->World->Prop}{ρ:Env}{w:World}{B:Nat}{w0:World}{l:Qb}
end
def yI (dT sT:TypeId)(x y:Operand):Op:=.call { callee:=.builtin .copy,args:=#[x,y],argTypes:=#[dT,sT] }
def zi (l:List UInt8):List Value:=l.map fun b=>Value.int .u8 (b.toNat:Int)
theorem yq (l:List UInt8):(zi l).length=l.length:=by unfold zi;simp
theorem jj {P:Program}{ρ:Env}{w:World}{dT sT e:TypeId}{bytes:Nat}{x y:Operand}{bd dLen dCap:Nat}{C C':Qd}{T:TypeId}{s:Qa}
 (ht:zw P dT=some (e,1,bytes)) (hx:ev ρ x=Qf bd dLen dCap) (hy:ev ρ y=.string s)
 (hD:w.heap[bd]? =some (.cells C T)) (hle:s.size<=dLen) (hfit:s.size<=C.size)
 (hC:(zi (tl s)++C.toList.drop s.size).toArray=C') (o:Oper) (ho:o.op=yI dT sT x y):(execOp (ev ρ) o).run P w=.ok (.value (.int .i64 (s.size:Int))) (w.setRow bd C'):=by
 obtain⟨it,z,hu,hi,hz,hsz,hby,hzs,h0⟩:=zP ht;have hs1:(P.info? e).map (·.size)=some 1:=by rw[hi];simp[hsz]
 have hr:=Go.Lib.run_copy_row_string (P:=P) w dT sT o.type e bd 0 dLen dCap s C T hu hs1 hD hle (by omega);rw[show C.toList.take 0++Go.Lib.byteCells s.data.toList++C.toList.drop (0+s.size)=zi (tl s)++C.toList.drop s.size by unfold tl zi Go.Lib.byteCells;simp,hC]at hr;unfold execOp;simp only[ho,yI,resolve,invoke,builtin,Qo,Sem.run_pure,Ql,List.map_toArray,Qv,List.map_nil,hx,hy,hr];rfl
def zG (l:List UInt8):Qa:=⟨l.toArray⟩
theorem qr (s:Qa):zG (tl s)=s:=rfl
theorem jk (z:Nat):zi (QJ z 0)=QJ z (.int .u8 0):=by unfold zi;rw[List.map_replicate];rfl
section
variable {P:Program}{N:Nat}{ops:Array Oper}{i:Nat}{r:List Nat}{K:Env->World->Prop}{ρ:Env}{w:World}{B:Nat}{w0:World}{l:Qb}
theorem jl (HS:St B w0 w l)(d:Option Nat)(dT sT e bytes:Nat)(x y:Operand)(jd bd dLen dCap:Nat)(s:Qa)(C C':Qd)(T:TypeId)(l':Qb)
 (h:opk ops i ρ=some (d,true,yI dT sT x y)) (hd:dOK d N=true) (ht:zw P dT=some (e,1,bytes)) (hx:ev ρ x=Qf bd dLen dCap) (hy:ev ρ y=.string s)
 (hj:l[jd]? =some (bd,.cells C T)) (hle:s.size<=dLen) (hfit:s.size<=C.size)
 (hC:(zi (tl s)++C.toList.drop s.size).toArray=C') (hl':l.set jd (bd,.cells C' T)=l') (kk: ∀w',St B w0 w' l'->WPs P N ops K r (zd ρ d (.int .i64 (s.size:Int))) w'):WPs P N ops K (i::r) ρ w:=by
 subst hl';exact qY d _ _ _ h hd (jj ht hx hy (HS.get jd hj) hle hfit hC) (kk _ (HS.store jd hj))
end
namespace D2
section
variable {P:Program}{ops:Array Oper}{R:(Nat->Gh)->Env}{i:Nat}{d:Option Nat}
variable {E:(Nat->Bool)->(Nat->Gh)->List Ent}{F:(Nat->Bool)->(Nat->Gh)->Prop}{B:Nat}{w0:World}
end
end D2
section
variable {P:Program}{N:Nat}{ops:Array Oper}{i:Nat}{r:List Nat}{K:Env->World->Prop}{ρ:Env}{w:World}{B:Nat}{w0:World}{l:Qb}
end
namespace D2
section
variable {P:Program}{ops:Array Oper}{R:(Nat->Gh)->Env}{i:Nat}{d:Option Nat}
variable {E:(Nat->Bool)->(Nat->Gh)->List Ent}{F:(Nat->Bool)->(Nat->Gh)->Prop}{B:Nat}{w0:World}
end
end D2
theorem jm (a b:Qa)(h:a=b):(a.toList==b.toList)=true:=by subst h;exact ji a
theorem jo {a b:Qa}(h:tl a=tl b):a=b:=by rw[<-qr a,h,qr]
section
variable {P:Program}{N:Nat}{ops:Array Oper}{i:Nat}{r:List Nat}{K:Env->World->Prop}{ρ:Env}{w:World}{B:Nat}{w0:World}{l:Qb}
def qs (t t':TypeId)(x y:Operand):Op:=.call { callee:=.builtin .unsafeString,args:=#[x,y],argTypes:=#[t,t'] }
theorem jp {b:Nat}{C:Qd}{T:TypeId}(HS:St B w0 w [(b,.cells C T)])(d:Option Nat)(t t' e:TypeId)(x y:Operand)(n cap:Nat)(xs:List UInt8)
 (h:opk ops i ρ=some (d,true,qs t t' x y)) (hd:dOK d N=true) (ht:P.underlying t=some (.pointer e)) (hc:P.cellsOf e=1) (hT:T=e)
 (hx:ev ρ x=Qe b) (hy:ev ρ y=.int .i64 (n:Int)) (hr:Rw 1 C cap n (zi xs)) (h0:0<n) (hm:n<=0x7fffffffffffffff)
 (kk: ∀w',St B w0 w' []->WPs P N ops K r (zd ρ d (.string (zG xs))) w'):WPs P N ops K (i::r) ρ w:=by
 obtain⟨o,ho,rfl,hw,hop⟩:=zg h;subst hT;have hb:=HS.get 0 rfl;have hB:=HS.ge 0 rfl;have hlen:xs.length=n:=by have:=hr.len;rw[yq]at this;omega
 have hsz:=hr.sz;have hle:=hr.le
 have hrun:=Lib.run_unsafeString_row (P:=P) w t t' o.type T ht hc b C.size (by unfold World.shape?;rw[hb]) xs (by intro e;subst e;simp at hlen;omega) (by omega) (by omega) (fun j u hj=>by
  have hjl:j<xs.length:=(List.getElem?_eq_some_iff.1 hj).1;have h2:=hr.get j (by omega);rw[yg,Nat.zero_add];have h3:(zi xs)[j]? =some (.int .u8 (u.toNat:Int)):=by unfold zi;rw[QE,hj];rfl
  simp[QI,hb,h2,h3])
 rw[hlen]at hrun;refine WPo.run ho hw fun a ha=>?_;have hex:(execOp (ev ρ) o).run P w=.ok (.value (.string (zG xs))) (w.freeze ⟨b,0,none⟩ n):=by
  unfold execOp;simp only[hop,qs,resolve,invoke,builtin,Qo,Sem.run_pure,Ql,List.map_toArray,Qv,List.map_nil,hx,hy,hrun];rfl
 rw[hex,Qy];have hbel:=Lib.below_freeze HS.below (p:=⟨b,0,none⟩) hB n;refine⟨_,ha.put _ (zt hd) _,kk _ ⟨hbel,QH HS.le ?_,(fun e he=>nomatch he),List.nodup_nil⟩⟩;unfold World.freeze;split<;>simp
theorem jq {t e:TypeId}{size bytes:Nat}(ht:zw P t=some (e,size,bytes)){x y:Operand}{o:Oper}{kd:IntKind}(a:Addr)(n c k:Nat)(ho:o.op=.slice t x none (some y) none)(hx:ev ρ x=.slice (some a) n c)(hy:ev ρ y=.int kd (k:Int))(hk:k<=c):
 ∀w,(execOp (ev ρ) o).run P w=.ok (.value (.slice (some a) k c)) w:=fun w=>by
 obtain⟨it,z,hu,hi,hz,hsz,hby,hzs,h0⟩:=zP ht;have hS:(sizeOf e).run P w=.ok size w:=by simp[sizeOf,typeInfo,hi,hsz]
 have ha:a.add 0=a:=rfl;unfold execOp;simp[ho,hx,hy,Instr.sliceAt,Instr.slice,Instr.sliceBounds,Instr.sliceBound,asIntOf,run_underlying hu,hS,hk,ha]
end
inductive Fr (α:Type)
 | nil
 | cons (a:α) (k r:Fr α)
structure Sh (α:Type) where
 K:Nat
 hd:α->List Value
 ok:α->Prop
 mx:Nat
 len: ∀a,(hd a).length+1=K
 one: ∀a,∀u∈hd a,u.oneCell'=true
section
variable {α:Type}{S:Sh α}
structure El (α:Type) where
 a:α
 p:Qc
 n:Nat
 c:Nat
 k:Fr α
end
section
variable {P:Program}{ρ:Env}{w w0:World}{B:Nat}{l:Qb}
end
namespace D2
section
variable {P:Program}{ops:Array Oper}{R:(Nat->Gh)->Env}{i:Nat}{d:Option Nat}{pre:(Nat->Bool)->(Nat->Gh)->World->Prop}
end
end D2
section
variable {P:Program}{N:Nat}{ops:Array Oper}{i:Nat}{r:List Nat}{K:Env->World->Prop}{ρ:Env}{w:World}{B:Nat}{w0:World}{l:Qb}
end
structure Fl (α:Type) where
 K:Nat
 cs:α->List Value
 pos:0<K
 len: ∀a,(cs a).length=K
 one: ∀a,∀u∈cs a,u.oneCell'=true
section
variable {α:Type}{S:Fl α}
def zH (S:Fl α)(C:Qd)(off:Nat)(L:List α):Prop:= ∀(i:Nat) (x:α),L[i]? =some x->off+i*S.K+S.K<=C.size/\C.extract (off+i*S.K) (off+i*S.K+S.K)=(S.cs x).toArray
theorem zH.take {C:Qd}{off:Nat}{L:List α}(h:zH S C off L)(k:Nat):zH S C off (L.take k):=fun i x hx=>by
 rw[List.getElem?_take]at hx;split at hx
 ·exact h i x hx
 ·cases hx
theorem zH.cell {C:Qd}{off:Nat}{L:List α}(h:zH S C off L){i:Nat}{x:α}(hx:L[i]? =some x)(j:Nat)(hj:j<S.K):C[off+i*S.K+j]? =(S.cs x)[j]? :=by
 obtain⟨h1,h2⟩:=h i x hx;have e:(C.extract (off+i*S.K) (off+i*S.K+S.K))[j]? =C[off+i*S.K+j]? :=by
  rw[Array.getElem?_extract,if_pos (by omega)]
 rw[<-e,h2];simp
end
namespace D2
section
variable {P:Program}{ops:Array Oper}{R:(Nat->Gh)->Env}{d:Option Nat}
variable {B:Nat}{w0:World}{E row:Qb}{Y:Qd}{ty:TypeId}{n:Nat}{K:Nat}{xs:List Value}
end
end D2
section
variable {α:Type}{S:Fl α}
variable {P:Program}{ρ:Env}{w w0:World}{B:Nat}{l:Qb}
variable {N:Nat}{ops:Array Oper}{i:Nat}{r:List Nat}{K:Env->World->Prop}
end
section
variable {P:Program}{w w0:World}
end
section
variable {P:Program}{N:Nat}{ops:Array Oper}{i:Nat}{r:List Nat}{K:Env->World->Prop}{ρ:Env}{w:World}{B:Nat}{w0:World}{l:Qb}
end
namespace D2
section
variable {P:Program}{ops:Array Oper}{R:(Nat->Gh)->Env}{d:Option Nat}
variable {ρ:Env}{k:Nat}{w:World}{S:Value->World->Prop}
end
end D2
section
open D2 (Gh)
end
section
variable {P:Program}{N:Nat}{Q:Exit->Env->World->Prop}{ρ:Env}{w:World}{c:Code}
end
section
variable {P:Program}{N:Nat}{ops:Array Oper}{i:Nat}{r:List Nat}{K:Env->World->Prop}{ρ:Env}{w:World}{B:Nat}{w0:World}{l:Qb}
end
def sS:Fl Qa where
 K:=1
 cs x:=[.string x]
 pos:=by decide
 len _:=rfl
 one _:=fun u hu=>by obtain rfl:=List.mem_singleton.1 hu;rfl
theorem qt {P:Program}{ρ:Env}{t e:TypeId}{K bytes:Nat}(ht:zw P t=some (e,K,bytes)){x y:Operand}{o:Oper}{kd:IntKind}{p:Qc}(b q n c k:Nat)(hp:p=some ⟨b,q,none⟩)(ho:o.op=.indexAddr t x y)(hx:ev ρ x=.slice p n c)(hy:ev ρ y=.int kd (k:Int))(hk:k<n):
 ∀w,(execOp (ev ρ) o).run P w=.ok (.value (.pointer (some ⟨b,q+k*K,none⟩))) w:=by
 subst hp;exact qb ht b q n c k ho hx hy hk
section
variable {α:Type}{S:Fl α}
def AtF (S:Fl α)(w:World)(p:Qc)(n:Nat)(L:List α):Prop:=n=L.length/\(L=[]\/∃b off C T fz,p=some ⟨b,off,none⟩/\w.heap[b]? =some (.cells C T fz)/\zH S C off L)
theorem AtF.call {w w':World}{p:Qc}{n:Nat}{L:List α}(h:AtF S w p n L)(hb:Below w.heap.size w w'):AtF S w' p n L:=by
 obtain⟨h1,h2⟩:=h;refine⟨h1,h2.imp id ?_⟩;rintro⟨b,off,C,T,fz,e,hh,hr⟩;exact⟨b,off,C,T,fz,e,by rw[hb.block b (zl hh)];exact hh,hr⟩
theorem AtF.take {w:World}{p:Qc}{n:Nat}{L:List α}(h:AtF S w p n L)(k:Nat)(hk:k<=n):AtF S w p k (L.take k):=by
 obtain⟨h1,h2⟩:=h;refine⟨by rw[List.length_take];omega,?_⟩;rcases h2 with rfl|⟨b,off,C,T,fz,e,hh,hr⟩
 ·exact .inl (by simp)
 ·exact .inr ⟨b,off,C,T,fz,e,hh,hr.take k⟩
def yr (p:Qc)(n c:Nat):Prop:=(p=none/\n=0/\c=0)\/((∃a,p=some a)/\n<=c)
theorem jr {P:Program}{ρ:Env}{t e:TypeId}{size bytes:Nat}(ht:zw P t=some (e,size,bytes)){x y:Operand}{o:Oper}{kd:IntKind}{p:Qc}{n c k:Nat}(h:yr p n c)(hk:k<=n)(ho:o.op=.slice t x none (some y) none)(hx:ev ρ x=.slice p n c)(hy:ev ρ y=.int kd (k:Int)):
 ∀w,(execOp (ev ρ) o).run P w=.ok (.value (.slice p k c)) w:=fun w=>by
 rcases h with⟨rfl,rfl,rfl⟩|⟨⟨a,rfl⟩,h2⟩
 ·obtain rfl:k=0:=by omega
  obtain⟨it,z,hu,hi,hz,hsz,hby,hzs,h0⟩:=zP ht;have hS:(sizeOf e).run P w=.ok size w:=by simp[sizeOf,typeInfo,hi,hsz]
  unfold execOp;simp[ho,hx,hy,Instr.sliceAt,Instr.slice,Instr.sliceBounds,Instr.sliceBound,asIntOf,run_underlying hu,hS]
 ·exact jq ht a n c k ho hx hy (by omega) w
end
section
variable {P:Program}{N:Nat}{ops:Array Oper}{K:Env->World->Prop}{ρ:Env}{w w0:World}{i B:Nat}{r:List Nat}{l:Qb}
end
section
open Go.ChangeShapes Go.WideShapes Go.ChangeAt
theorem jt {C:Qd}{o m:Nat}{l:List Value}(hl:l.length=m)(hm:0<m)(h: ∀j,j<m->C[o+j]? =l[j]?):o+m<=C.size/\C.extract o (o+m)=l.toArray:=by
 have hs:o+m<=C.size:=by
  have h1:=h (m-1) (by omega);rw[Qt (by omega)]at h1;have:=(Array.getElem?_eq_some_iff.1 h1).1;omega
 refine⟨hs,?_⟩;apply Array.toList_inj.1;apply List.ext_getElem?;intro i;rw[Array.getElem?_toList,Array.getElem?_extract,List.toList_toArray];by_cases hi:i<m
 ·rw[if_pos (by omega),h i hi]
 ·rw[if_neg (by omega),List.getElem?_eq_none (by omega)]
section
variable {H:Type}{enc:TypeId×Value->H}{W:World}{sp:Nat->Bool}{held:Bool}
theorem ju {a:Addr}{v:Value}(h:W.cell? a=some v):a=⟨a.block,a.off,none⟩/\∃C T fz,W.heap[a.block]? =some (.cells C T fz)/\C[a.off]? =some v:=by
 obtain⟨b,o,sp⟩:=a;unfold QI at h;split at h
 ·rename_i C T fz hh
  cases sp with
  | none=>simp at h;exact⟨rfl,C,T,fz,hh,h⟩
  | some x=>simp at h
 ·cases h
theorem jv {b o:Nat}{C:Qd}{T:TypeId}{fz:Nat×Nat}{v:Option Value}(hh:W.heap[b]? =some (.cells C T fz))(h:W.cell? ⟨b,o,none⟩=v):C[o]? =v:=by
 unfold QI at h;simp only[hh]at h;simpa using h
theorem jw {a:Int}(h:(Lit.int .u64 a).wf=true):∃n:Nat,n<0x10000000000000000/\a=((n:Nat):Int):=by
 have h2:0<=a/\a<0x10000000000000000:=by
  simp[Lit.wf,IntKind.min,IntKind.max,IntKind.signed,IntKind.bits]at h;omega
 exact⟨a.toNat,by omega,by omega⟩
end
end
end Go.Proofs.Ytdaeahhkiilbaaa
namespace Go.Proofs.Ec
section
variable {F:Type}[Lean.Grind.Field F]
variable [DecidableEq F]
end
end Go.Proofs.Ec
namespace Go.Proofs.Ytdaeahhkiilbaaa
def PrP (p:Nat):Prop:=1<p/\ ∀d,d∣p->d=1\/d=p
theorem jx {n:Nat} : ∀k,(∃d,1<d/\d<=k/\d∣n)->∃r,1<r/\r∣n/\ ∀d,1<d->d∣n->r<=d
 | 0,⟨d,h1,h2,_⟩=>by omega
 | k+1,⟨d,h1,h2,h3⟩=>by
  by_cases h:∃d,1<d/\d<=k/\d∣n
  ·exact jx k h
  ·have hd:d=k+1:=by
    rcases Nat.lt_or_ge k d with h' | h'
    ·omega
    ·exact absurd ⟨d,h1,h',h3⟩ h
   refine⟨d,h1,h3,fun e he hen=>?_⟩;rcases Nat.lt_or_ge e d with h' | h'
   ·exact absurd ⟨e,he,by omega,hen⟩ h
   ·exact h'
end Go.Proofs.Ytdaeahhkiilbaaa
namespace Go.Proofs.Zm
open Go.Proofs.Ytdaeahhkiilbaaa
class PrM (M:Nat):Prop where
 pr:PrP M
 two:2<M
section
variable {M:Nat}[hM:PrM M]
end
end Go.Proofs.Zm
namespace Go.Proofs.Ytdaeahhkiilbaaa
section
open Go.ChangeShapes Go.WideShapes Go.ChangeAt
end
end Go.Proofs.Ytdaeahhkiilbaaa
namespace Go.Proofs.Ec
open Go.Proofs.Ytdaeahhkiilbaaa Go.Proofs.Zm
section
variable {F:Type}[Lean.Grind.Field F][DecidableEq F]
structure jy (b:F):Prop where
 two:(2:F)≠0
 three:(3:F)≠0
 b:b≠0
variable {b:F}(g:jy b)
include g
end
end Go.Proofs.Ec
namespace Go.Proofs.Ytdaeahhkiilbaaa
section
open Go.ChangeShapes Go.WideShapes Go.ChangeAt
end
section
open Go.ChangeShapes Go.WideShapes Go.ChangeAt Go.Shelf
end
def len (A:Nat):Nat:=if A=0 then 0 else Nat.log2 A+1
section
open Go.ChangeShapes Go.WideShapes Go.ChangeAt
end
section
variable {P:Program}{N:Nat}{ops:Array Oper}{i:Nat}{r:List Nat}{K:Env->World->Prop}{ρ:Env}{w:World}{B:Nat}{w0:World}{l:Qb}
end
namespace D2
section
variable {P:Program}{ops:Array Oper}{R:(Nat->Gh)->Env}{i:Nat}{d:Option Nat}
variable {E:(Nat->Bool)->(Nat->Gh)->List Ent}{F:(Nat->Bool)->(Nat->Gh)->Prop}{B:Nat}{w0:World}
end
end D2
section
open Go.ChangeShapes Go.WideShapes Go.ChangeAt
end
inductive Fo
 | nil
 | cons (l:Bool) (s:Qa) (k r:Fo)
def dgI:Nat->Nat->List UInt8
 | 0,_=>[]
 | m+1,n=>if n=0 then [] else dgI m (n / 256)++ [QM n]
def dg (n:Nat):List UInt8:=dgI 8 n
def hd (f n:Nat):List UInt8:=if n<=55 then [QM (f+n)] else QM (f+55+(dg n).length)::dg n
section
variable {l:Bool}{s:Qa}{n y:Nat}{k:Fo}
end
section
variable {P:Program}{N:Nat}{ops:Array Oper}{i:Nat}{r:List Nat}{K:Env->World->Prop}{ρ:Env}{w:World}{w0:World}{l E:Qb}
end
section
variable {P:Program}{ops:Array Oper}{R:(Nat->D2.Gh)->Env}{i:Nat}{d:Option Nat}{w0:World}{p:Nat}{T e:TypeId}{out':List UInt8}{bx:Nat×Obj}{E:Qb}{q:Nat}
end
section
variable {P:Program}{ops:Array Oper}{R:(Nat->D2.Gh)->Env}{i:Nat}{d:Option Nat}{w0:World}{l:Qb}{q:Nat}
end
structure X3 where
 l:Bool
 s:Qa
 p:Qc
 n:Nat
 c:Nat
 k:Fo
theorem rwB (s:Qa)(h:Qj s<=maxLen):Rw 1 (zi (tl s)).toArray (Qj s) (Qj s) (zi (tl s)):=
 ⟨by rw[yq,yp];omega,Qx _,h,by rw[List.take_of_length_le (by simp[yq,yp])],by simp[yq,yp]⟩
theorem jz {P:Program}{ρ:Env}{t e:TypeId}{bytes:Nat}(ht:zw P t=some (e,1,bytes)){x y:Operand}{o:Oper}{kd:IntKind}(b n c:Nat)(ho:o.op=.indexAddr t x y)(hx:ev ρ x=Qf b n c)(hy:ev ρ y=.int kd 0)(hk:0<n):
 ∀w,(execOp (ev ρ) o).run P w=.ok (.value (Qe b)) w:=fun w=>
 qb (P:=P) (kd:=kd) ht b 0 n c 0 ho hx hy hk w
theorem jA (s:Qa)(hs:Qj s<=0x800000000000):Fn Try.prog 30 #[.string s] (.string s):=by
 refine Fn.intro (c:=zC Try.f30) [.tmp 2] 18 Try.func30 kr kr kr fun w=>?_;have H0:=St.start w;refine zy [0] kr kr<|zf (some 2) (.string (⟨#[]⟩)) (fun w=>by kernel_rfl) kr<|zn<|zu kr<|zy [0,1,2] kr kr<|zf (some 4) (.string s) (fun w=>by kernel_rfl) kr<|zf (some 5) (.int .i64 (Qj s:Int)) (fun w=>by kernel_rfl) kr ?_;by_cases hc1:(Qj s:Nat)=0
 ·refine yD (some 6) (.bool ((Qj s:Int)==0)) (.bool true) (fun w=>by kernel_rfl) (zv (beq_iff_eq.2 (by omega))) kr<|zn<|yA kr kr<|zy [0] kr kr<|zf (some 2) (.string (⟨#[]⟩)) (fun w=>by kernel_rfl) kr<|zn<|yd kr ?_;show ∃vs,Res _ _ _ _ vs/\_;refine⟨[.string (⟨#[]⟩)],(.tmp (.string (⟨#[]⟩)) kr .nil),?_,H0.below⟩;exact congrArg Value.string (jo (List.eq_nil_of_length_eq_zero (by rw[yp];omega):tl s=[]).symm)
 ·refine yD (some 6) (.bool ((Qj s:Int)==0)) (.bool false) (fun w=>by kernel_rfl) (zv (beq_eq_false_iff_ne.2 (by omega))) kr<|zn<|yB kr kr<|yC kr ?_;refine wW ?_;refine zy [0,1,2,3] kr kr<|zf (some 7) (.string s) (fun w=>by kernel_rfl) kr<|zf (some 8) (.int .i64 (Qj s:Int)) (fun w=>by kernel_rfl) kr<|jh H0 (some 9) 70 5 1 (.int .u8 0) (.tmp 8) (.tmp 8) .i64 .i64 (Qj s) kr kr kr kr rfl kr kr (by omega) (by unfold maxLen;omega) ?_;intro b_1 cur_2 w1 H1 hr_3;clear H0;have hr_3z:Rw 1 cur_2 (Qj s) (Qj s) (zi (QJ (Qj s) 0)):=by rw[jk];exact hr_3
  refine zf (some 3) (Qf b_1 (Qj s) (Qj s)) (fun w=>by kernel_rfl) kr<|zn<|zy [0,1,2] kr kr<|zf (some 10) (Qf b_1 (Qj s) (Qj s)) (fun w=>by kernel_rfl) kr<|zf (some 11) (.string s) (fun w=>by kernel_rfl) kr<|jl H1 (some 12) 70 9 5 1 (.tmp 10) (.tmp 11) 0 b_1 (Qj s) (Qj s) s cur_2 ((zi (tl s)).toArray) 5 [(b_1,Obj.cells ((zi (tl s)).toArray) 5)] kr kr kr kr kr kr (by omega) (Nat.le_of_eq (by have h:=hr_3z.sz;rw[h];omega)) (by rw[List.drop_of_length_le (by have h:=hr_3z.sz;rw[Array.length_toList,h];omega),List.append_nil]) kr ?_;intro w2 H2;clear H1;refine zn<|zy [0,1,2,3,4,5] kr kr<|zf (some 13) (Qf b_1 (Qj s) (Qj s)) (fun w=>by kernel_rfl) kr<|qW (some 14) _ (Qe b_1) kr kr (fun o w ho=>jz (kd:=.i64) (t:=70) (e:=5) (bytes:=1) kr (x:=(.tmp 13)) (y:=(.const (.int .i64 0))) b_1 (Qj s) (Qj s) ho kr kr (by omega) w)<|zf (some 15) (Qf b_1 (Qj s) (Qj s)) (fun w=>by kernel_rfl) kr<|zf (some 16) (.int .i64 (Qj s:Int)) (fun w=>by kernel_rfl) kr<|jp H2 (some 17) 71 3 5 (.tmp 14) (.tmp 16) (Qj s) (Qj s) (tl s) kr kr kr kr rfl kr kr (rwB s (by unfold maxLen;omega)) (by omega) (by omega) ?_;intro w3 H3;clear H2;refine zf (some 2) (.string (zG (tl s))) (fun w=>by kernel_rfl) kr<|zn<|yd kr ?_;show ∃vs,Res _ _ _ _ vs/\_;refine⟨[.string (zG (tl s))],(.tmp (.string (zG (tl s))) kr .nil),?_,H3.below⟩;rfl
theorem jB (s:Qa)(hs:Qj s<=0x800000000000):Fn Try.prog 19 #[.string s] (.string s):=by
 refine Fn.intro (c:=zC Try.f19) [.tmp 2] 5 Try.func19 kr kr kr fun w=>?_;have H0:=St.start w;refine zy [0] kr kr<|zf (some 2) (.string (⟨#[]⟩)) (fun w=>by kernel_rfl) kr<|zn<|zy [0,1,2] kr kr<|zf (some 3) (.string s) (fun w=>by kernel_rfl) kr<|qX H0 (some 4) 30 #[.string s] (.string s) (jA s (by omega)) (fun w=>by kernel_rfl) kr ?_;intro w1 H1;clear H0;refine zf (some 2) (.string s) (fun w=>by kernel_rfl) kr<|zn<|yd kr ?_;show ∃vs,Res _ _ _ _ vs/\_;refine⟨[.string s],(.tmp (.string s) kr .nil),?_,H1.below⟩;rfl
section
variable {P:Program}{N:Nat}{ops:Array Oper}{i:Nat}{r:List Nat}{K:Env->World->Prop}{ρ:Env}{w:World}{B:Nat}{w0:World}{l:Qb}
end
section
variable {P:Program}{N:Nat}{ops:Array Oper}{Q:Exit->Env->World->Prop}{K:Env->World->Prop}{ρ:Env}{w:World}{i:Nat}{r:List Nat}{c:Code}
end
section
variable {P:Program}{N:Nat}{ops:Array Oper}{Q:Exit->Env->World->Prop}{K:Env->World->Prop}{ρ:Env}{w w0:World}{i B:Nat}{r:List Nat}{l:Qb}
end
namespace D2
section
variable {P:Program}{N:Nat}{ops:Array Oper}{Q:Exit->Env->World->Prop}{K:Env->World->Prop}{ρ:Env}{w:World}{vs:List (Option Nat×(Gh->Value))}{pre:(Nat->Bool)->(Nat->Gh)->World->Prop}{Bad:List PanicEntry->World->Prop}
end
end D2
section
variable {P:Program}{ρ:Env}{w w0:World}{B:Nat}{l:Qb}
end
section
variable {B:Nat}{w0:World}{t:Qa}{b2 b3 b4:Nat}{p:Qc}{n c:Nat}{row:Qb}{M:List X3}{L0:Qb}{L:Nat->Bool}{g:Nat->D2.Gh}{w:World}
end
section
variable {P:Program}{N:Nat}{ops:Array Oper}{Q:Exit->Env->World->Prop}{K:Env->World->Prop}{ρ:Env}{w:World}{i:Nat}{ds:List Deferred}
variable {c:Code}
end
section
variable {P:Program}{N:Nat}{ops:Array Oper}{ρ:Env}{w w':World}{i:Nat}{ds:List Deferred}{c:Code}{rest:List Nat}{a:Act}{cs:List Frame}
variable {Q:Exit->Act->List Frame->World->Prop}
end
section
variable {P:Program}{N:Nat}{ops:Array Oper}{ρ:Env}{w w':World}{i:Nat}{rest:List Nat}{a:Act}{Q:Exit->Act->World->Prop}
end
section
variable {P:Program}{N:Nat}{ops:Array Oper}{K:Env->World->Prop}{ρ:Env}{w w0:World}{i B:Nat}{r:List Nat}{l:Qb}
end
section
open D2 (Gh)
end
section
variable {B:Nat}{w0:World}{bq bf bk:Nat}{qO kO:Obj}{p:Qc}{i c:Nat}{row:Qb}{M:List (El (Nat×Qa))}{ok:El (Nat×Qa)->Qb->Prop}{T:Qb}{L:Nat->Bool}{g:Nat->D2.Gh}{w w':World}
end
section
variable {B:Nat}{w0:World}{bd b2 bo:Nat}{dO bO:Obj}{kv:Value}{cur:Qd}{N en:Nat}{row:Qb}{xs:List Value}{T:Qb}{L:Nat->Bool}{g:Nat->D2.Gh}{w:World}
end
section
section
variable {p H Q:Nat}
end
open Go Go.RowKit Go.Proofs.Zm
end
section
open Go.ChangeShapes Go.WideShapes Go.ChangeAt
end
end Go.Proofs.Ytdaeahhkiilbaaa
namespace Go.Proofs.Kec
end Go.Proofs.Kec
namespace Go.Proofs.Ytdaeahhkiilbaaa
namespace Ke
open Go.Proofs.Kec
end Ke
section
open Go.Proofs.Kec
end
section
open Go.Proofs.Kec Ke
end
section
open Go.ChangeShapes Go.WideShapes Go.ChangeAt
end
def hv:List UInt8->List UInt8
 | []=>[]
 | b::t=>(b >>> 4)::(b &&& 15)::hv t
def isP (l:List UInt8):Bool:=l.all fun b=>decide (b.toNat<=15)
def jn:List UInt8->List UInt8
 | a::b::t=>(a <<< 4 ||| b)::jn t
 | _=>[]
structure Nd where
 kind:Int
 part:Qa
 value:Qa
 kids:List Int
def kyB (l:List UInt8):Bool:=isP l&& !decide (l.length%2=1)
def kyS (l:List UInt8):Qa:=bif kyB l then zG (jn l) else ⟨#[]⟩
section
variable {P:Program}{N:Nat}{ops:Array Oper}{i:Nat}{r:List Nat}{K:Env->World->Prop}{ρ:Env}{w:World}
end
abbrev Pr:=Qa×Qa
def jC (k v:Qa):Bool:=(decide (1<=k.size)&&decide (k.size<=32))&&(decide (1<=v.size)&&decide (v.size<=500))
def jD (part:List UInt8)(v:Qa)(ps:List Pr):List Pr:=if jC (kyS part) v=true then ps++ [(kyS part,v)] else ps
def jE (kind:Int)(i:Nat):List UInt8:=if kind=3 then [QM i] else []
def yJ (go:Int->List UInt8->Nat×List Pr->Nat×List Pr)(x:Nd)(part:List UInt8):Nat->Nat×List Pr->Nat×List Pr
 | 0,s=>s
 | i+1,s=>if x.kids.getD i (-1)= -1 then yJ go x part i s else go (x.kids.getD i (-1)) (part++jE x.kind i) (yJ go x part i s)
def qu (A:List Nd):Nat->Int->List UInt8->Nat×List Pr->Nat×List Pr
 | 0,_,_,s=>s
 | f+1,at_,ahead,s=>
  if s.1=0\/at_<0\/(A.length:Int)<=at_ then s
  else match A[at_.toNat]? with
   | none=>s
   | some x=>if 64<ahead.length+x.part.size then (s.1-1,s.2)
    else yJ (qu A f) x (ahead++tl x.part) 16 (s.1-1,jD (ahead++tl x.part) x.value s.2)
section
variable {P:Program}{N:Nat}{ops:Array Oper}{i:Nat}{r:List Nat}{K:Env->World->Prop}{ρ:Env}{w:World}
end
def xc (A:List Nd)(root:Int):List Pr:=(qu A 192 root [] (192,[])).2
def hK:Qi:=[⟨#[104]⟩,⟨#[110]⟩,⟨#[104]⟩,⟨#[104]⟩,⟨#[97]⟩,⟨#[98]⟩,⟨#[42,97]⟩,⟨#[98]⟩,⟨#[110]⟩,⟨#[110]⟩,⟨#[42,115]⟩]
theorem isK {l:List (Nat×Value)}{ρ:Env}(h:l.map (fun p=>ρ p.1)=l.map (·.2):=by kernel_rfl):Is l ρ:=by
 refine Is.of ?_
 induction l with
 | nil=>trivial
 | cons p r ih=>
  simp only[Qv,QL.injEq]at h;exact⟨h.1,ih h.2⟩
section
variable {P:Program}{N:Nat}{c:Code}{Q:Exit->Env->World->Prop}{ρ:Env}{w:World}
theorem yK (k:Q .normal ρ w)(h:(zK c&&yb (zY c))=true:=by kernel_rfl)(hx:ev ρ (zF c)=.bool false:=by kernel_rfl):WP P N c Q ρ w:=by
 rw[Qr]at h;exact yB h.1 hx (yC h.2 k)
theorem jF (k:WP P N (zX c) Q ρ w)(h:zK c=true:=by kernel_rfl)(hx:ev ρ (zF c)=.bool true:=by kernel_rfl):WP P N c Q ρ w:=yA h hx k
def yL (c:Code):Code:=zD (zD c)
def ys (c:Code):Code:=ze (yL c)
def zo (c:Code):Code:=zs (yL c)
def yM (c:Code):Code:=zD (ze (zs (zo c)))
def zS (c:Code):Code:=zs (zs (zo c))
def zT (n:Nat):Code->Bool
 | .region _ ops d=>Qq ops.size n&& !d
 | _=>false
theorem qv {n:Nat}{c:Code}(h:zT n c=true):∃id,c=.region id (zc c) false/\Qm (zc c).size=Qm n:=by
 cases c with
 | region id ops d=>
  cases d with
  | true=>simp[zT]at h
  | false=>
   simp only[zT,Bool.not_false,Bool.and_true]at h;exact⟨id,rfl,congrArg Qm (Qk h)⟩
 | _=>cases h
def yt (a:Option Nat)(b:Nat):Bool:=match a with
 | some x=>Qq x b
 | none=>false
theorem yN {a:Option Nat}{b:Nat}(h:yt a b=true):a=some b:=by
 cases a with
 | none=>cases h
 | some x=>exact congrArg some (Qk h)
def yO (nt ni b0 b1 tc:Nat)(c:Code):Bool:=
 yt (zZ c) b0&&(yy (zD c)&&(zx (yL c)&&(zT nt (ys c)&&(zx (zo c)&&(zK (ze (zo c))&&(yb (zX (ze (zo c)))&&(yt (yz (zY (ze (zo c)))) b0&&(zx (zs (zo c))&&(yt (zZ (ze (zs (zo c)))) b1&&zT ni (zS c))))))))))
abbrev qw (ti b0 b1:Nat)(inc:Env->Env)(I:Nat->Env->World->Prop)(Q:Exit->Env->World->Prop)(i:Nat):Exit->Env->World->Prop
 | .normal,ρ,w=>ρ ti=iN i/\I (i+1) (inc ρ) w
 | .exit k,ρ,w=>bif Qq k b1 then ρ ti=iN i/\I (i+1) (inc ρ) w else bif Qq k b0 then Q .normal ρ w else Q (.exit k) ρ w
 | e,ρ,w=>Q e ρ w
theorem jG {ti b0 b1 tc nt ni n:Nat}{tst:Nat->Env->Env}{inc:Nat->Env->Env}(I:Nat->Env->World->Prop)
 (hs:yO nt ni b0 b1 tc c=true) (hx:zF (ze (zo c))=.tmp tc)
 (hT: ∀i ρ w K,I i ρ w->K (tst i ρ) w->WPs P N (zc (ys c)) K (Qm nt) ρ w) (hv: ∀i ρ w,I i ρ w->tst i ρ tc=.bool (decide ((i:Int)<(n:Int))))
 (hJ: ∀i ρ w K,i<n->ρ ti=iN i->K (inc i ρ) w->WPs P N (zc (zS c)) K (Qm ni) ρ w)
 (h0:I 0 ρ w) (hb: ∀i ρ w,i<n->I i ρ w->WP P N (yM c) (qw ti b0 b1 (inc i) I Q i) (tst i ρ) w) (he: ∀ρ w,I n ρ w->Q .normal (tst n ρ) w):WP P N c Q ρ w:=by
 unfold yO at hs;simp only[Qr]at hs;obtain⟨s1,s2,s3,s4,s5,s6,s7,s8,s9,s10,s11⟩:=hs;obtain⟨id1,e1,l1⟩:=qv s4;obtain⟨id2,e2,l2⟩:=qv s11;refine yZ b0 (yN s1)<|qU s2 (fun m ρ w=> ∃i,n-i=m/\i<=n/\I i ρ w) n ⟨0,rfl,Nat.zero_le _,h0⟩ ?_;rintro m ρ w ⟨i,rfl,hin,hI⟩;refine zu s3 ?_;show WP P N (ys c) _ ρ w;rw[e1];refine WP.region _ l1<|hT i ρ w _ hI ?_;show WP P N (zo c) _ (tst i ρ) w;refine zu s5 ?_;have hval:=hv i ρ w hI;by_cases hi:i<n
 ·refine yA s6 (by rw[hx];show tst i ρ tc=_;rw[hval,decide_eq_true (by omega)])<|yC s7 ?_;show WP P N (zs (zo c)) _ (tst i ρ) w;refine zu s9<|yZ b1 (yN s10) ?_;have hfin: ∀(Q3:Exit->Env->World->Prop) ρ' w',(ρ' ti=iN i/\I (i+1) (inc i ρ') w')->(∀e ρ w,Q3 e ρ w=Q3 e ρ w)->WP P N (zS c) (nx (fun ρ' w'=> ∃m,m<n-i/\∃i,n-i=m/\i<=n/\I i ρ' w') Q3) ρ' w':=fun Q3 ρ' w' h _=>by
   rw[e2];refine WP.region _ l2 ?_;exact hJ i ρ' w' _ hi h.1 ⟨n-(i+1),by omega,i+1,rfl,by omega,h.2⟩
  refine qV (hb i ρ w hi hI) fun e ρ' w' h=>?_;cases e with
  | normal=>exact hfin _ ρ' w' h fun _ _ _=>rfl
  | exit k=>
   show bif Qq k b1 then _ else _;change (bif Qq k b1 then _ else _)at h;cases hk:Qq k b1 with
   | true=>rw[hk]at h;exact hfin _ ρ' w' h fun _ _ _=>rfl
   | false=>rw[hk]at h;exact h
  | _=>exact h
 ·obtain rfl:i=n:=by omega
  refine yB s6 (by rw[hx];show tst i ρ tc=_;rw[hval,decide_eq_false (by omega)])<|qT b0 (yN s8) ?_;show bif Qq b0 b0 then _ else _;rw[Nat.beq_refl];exact he ρ w hI
theorem jH (ti tn tc tj b0 b1 n:Nat)(hn:n<=0x4000000000000000)(I:Nat->Env->World->Prop)(hI: ∀i ρ w,I i ρ w->ρ ti=iN i/\ρ tn=iN n)
 (h0:I 0 ρ w) (hb: ∀i ρ w,i<n->I i ρ w->WP P N (yM c) (qw ti b0 b1 (fun ρ=>upd (upd ρ tj (iN (i+1))) ti (iN (i+1))) I Q i) (upd ρ tc (.bool true)) w)
 (he: ∀ρ w,I n ρ w->Q .normal (upd ρ tc (.bool false)) w)
 (hs:yO 1 2 b0 b1 tc c=true:=by kernel_rfl) (hx:zF (ze (zo c))=.tmp tc:=by kernel_rfl)
 (ht: ∀(ρ0:Env) (i:Nat) w,opv P (zc (ys c)) 0 (upd (upd ρ0 tn (iN n)) ti (iN i)) w=some (some tc,true,.ok (.value (.bool (decide ((i:Int)<(n:Int))))) w):=by exact fun ρ0 i w=>by kernel_rfl)
 (hj: ∀(ρ0:Env) (i:Nat) w,opv P (zc (zS c)) 0 (upd ρ0 ti (iN i)) w=some (some tj,true,.ok (.value (.int .i64 (Qn.wrap ((i:Int)+1)))) w):=by exact fun ρ0 i w=>by kernel_rfl)
 (hk: ∀(ρ0:Env) (v:Value) w,opv P (zc (zS c)) 1 (upd ρ0 tj v) w=some (some ti,true,.ok (.value v) w):=by exact fun ρ0 v w=>by kernel_rfl)
 (hd:(dOK (some tc) N&&(dOK (some tj) N&&dOK (some ti) N))=true:=by kernel_rfl):WP P N c Q ρ w:=by
 simp only[Qr]at hd;refine jG (ti:=ti) (tst:=fun i ρ=>upd ρ tc (.bool (decide ((i:Int)<(n:Int))))) (inc:=fun i ρ=>upd (upd ρ tj (iN (i+1))) ti (iN (i+1))) (n:=n) I hs hx (fun i ρ w K h k=>?_) (fun i ρ w h=>?_) (fun i ρ w K hi h k=>?_) h0 (fun i ρ w hi h=>?_) (fun ρ w h=>?_)
 ·have e:upd (upd ρ tn (iN n)) ti (iN i)=ρ:=by rw[yf (hI i ρ w h).2,yf (hI i ρ w h).1]
  refine zf (some tc) _ (fun w=>e▸ht ρ i w) hd.1 ?_;exact zn k
 ·show upd ρ tc _ tc=_;unfold upd;rw[Nat.beq_refl];rfl
 ·have e:upd ρ ti (iN i)=ρ:=yf h;refine yD (some tj) _ (iN (i+1)) (fun w=>e▸hj ρ i w) (zb (ql (a:=i) (b:=1) (by omega))) hd.2.1<|zf (some ti) (iN (i+1)) (fun w=>hk ρ (iN (i+1)) w) hd.2.2 ?_;exact zn k
 ·show WP P N (yM c) _ (upd ρ tc (.bool (decide ((i:Int)<(n:Int))))) w;rw[decide_eq_true (show (i:Int)<(n:Int) by omega)];exact hb i ρ w hi h
 ·show Q .normal (upd ρ tc (.bool (decide ((n:Int)<(n:Int))))) w;rw[decide_eq_false (show ¬(n:Int)<(n:Int) by omega)];exact he ρ w h
end
theorem AtF.row2 {α:Type}{S:Fl α}{w:World}{p:Qc}{n:Nat}{L:List α}(h:AtF S w p n L)(hn:0<n):∃b off C T fz,p=some ⟨b,off,none⟩/\w.heap[b]? =some (.cells C T fz)/\zH S C off L:=by
 rcases h.2 with rfl|h2
 ·have:=h.1;simp at this;omega
 ·exact h2
section
open Go.ChangeShapes Go.WideShapes Go.ChangeAt
theorem jI:Try.prog.cellsOf 9=1:=kr
section
variable {H:Type}{enc:TypeId×Value->H}{W:World}{sp:Nat->Bool}{held:Bool}
end
end
section
variable {l:Bool}{s:Qa}{k:Fo}
end
section
open D2 (Gh)
end
section
variable {t:Qa}{a b j:Nat}{p:Qc}{n c:Nat}{row:Qb}{M:List X3}{T:Qb}
end
section
variable {P:Program}{N:Nat}{ops:Array Oper}{K:Env->World->Prop}{ρ:Env}{w w0:World}{i B:Nat}{r:List Nat}{l:Qb}
end
section
open D2 (Gh)
section
variable {P:Program}{N:Nat}{ops:Array Oper}{i:Nat}{r:List Nat}{K:Env->World->Prop}{ρ:Env}{w w0:World}{B:Nat}{l:Qb}
end
end
section
open Go.ChangeShapes Go.WideShapes Go.ChangeAt
section
variable {H:Type}{enc:TypeId×Value->H}{W:World}{sp:Nat->Bool}{held:Bool}
end
end
section
open D2 (Gh)
section
variable {P:Program}{B:Nat}{w0:World}
end
section
variable {α:Type}{S:Fl α}
end
end
section
open D2 (Gh)
abbrev jJ:=List (Qa×Nat)
section
variable {w:World}{b:Nat}{A:jJ}
end
theorem jK {P:Program}{N:Nat}{ops:Array Oper}{i:Nat}{r:List Nat}{K:Env->World->Prop}{ρ:Env}{w w0:World}{B:Nat}{l:Qb}(HS:St B w0 w l)(d:Option Nat)(V:Nat->Value)(o:Obj)(h:opv P ops i ρ w=some (d,true,.ok (.value (V w.heap.size)) (w.alloc o)))(hd:dOK d N=true)
 (kk: ∀b w',St B w0 w' ((b,o)::l)->WPs P N ops K r (zd ρ d (V b)) w'):WPs P N ops K (i::r) ρ w:=by
 obtain⟨o',ho,rfl,hw,hr⟩:=zB h;refine WPo.run ho hw fun a ha=>?_;rw[hr,Qy];exact⟨_,ha.put _ (zt hd) _,kk w.heap.size _ (HS.alloc _)⟩
end
section
open D2 (Gh)
section
variable {P:Program}{N:Nat}{c:Code}{Q:Exit->Env->World->Prop}{ρ:Env}{w:World}
end
end
section
open D2 (Gh)
open Go.ChangeShapes Go.WideShapes Go.ChangeAt
section
variable {H:Type}{enc:TypeId×Value->H}{W:World}{sp:Nat->Bool}{held:Bool}
end
def zp (n:Int):Nat:=(min (max n 0) 1000000).toNat
def yu (n:Int):Nat:=(2*zp n+2) / 3
def yv (n:Int):Nat:=(zp n-1) / 3
def zj (L:Qi)(h r:Nat):Nat:=(h+r)%0x10000000000000000%L.length
def zq (L:Qi)(h r:Nat):Qa:=L.getD (zj L h r) em
def zI (L:Qi):Nat:=if L=[] then 1 else 0
def yP:Prop:= ∀n:Int,-0x8000000000000000<=n->n<=0x7fffffffffffffff->Fn Try.prog 8 #[.int .i64 n] (iN (yu n))
def yQ:Prop:= ∀n:Int,-0x8000000000000000<=n->n<=0x7fffffffffffffff->Fn Try.prog 9 #[.int .i64 n] (iN (yv n))
def qx:Prop:= ∀(q:Qc) (m c:Nat) (L:Qi) (h r:Nat),(L.length<=0x7fffffffffffffff/\ ∀x∈L,Qj x<=0x800000000000)->h<0x10000000000000000->r<0x10000000000000000->
 FnP Try.prog 10 #[.slice q m c,.int .u64 (h:Int),.int .u64 (r:Int)] (fun w=>AtF sS w q m L) (.tuple #[.string (zq L h r),iN (zI L)])
theorem jL {a b:Nat} :Qw.wrap ((a:Int)+(b:Int))=(((a+b)%0x10000000000000000:Nat):Int):=by rw[qp];omega
theorem jM (hQ:yP)(hF:yQ):Fn Try.prog 11 #[] (.bool true):=by
 refine Fn.intro (c:=zC Try.f11) [.tmp 0] 7 Try.func11 kr kr kr fun w=>rS [.v] (St.start w) kr fun gs1 w1 H1=>rS [.c (hQ 4 (by decide) (by decide)),.v,.v,.c (hF 4 (by decide) (by decide)),.v,.v,.v] H1 kr fun gs2 w2 H2=>?_;exact rR [.tmp 0] [] (.bool true) H2 kr
end
section
open D2 (Gh)
theorem jN {L:Qi}{h r:Nat}(e:L≠[]):zj L h r<L.length:=Nat.mod_lt _ (List.length_pos_iff.2 e)
theorem jO {L:Qi}{h r:Nat}(e:L≠[]):L[zj L h r]? =some (zq L h r):=by
 unfold zq;rw[List.getD_eq_getElem?_getD,Qt (jN e)];rfl
def zr:Nat->List Nat->List MapEntry
 | _,[]=>[]
 | k,x::r=>⟨iN x,.bool true,k⟩::zr (k+1) r
def mpN (A:List Nat):Obj:=.map (zr 0 A).toArray A.length
theorem qy (a:Nat): ∀(A:List Nat) (k:Nat),zr k (A++ [a])=zr k A++ [⟨iN a,.bool true,k+A.length⟩]
 | [],k=>rfl
 | x::r,k=>by
  show _::zr (k+1) (r++ [a])=_::(zr (k+1) r++_);rw[qy a r (k+1),show k+1+r.length=k+(x::r).length by rw[List.length_cons];omega]
theorem qz: ∀(A:List Nat) (k:Nat),(zr k A).length=A.length
 | [],_=>rfl
 | x::r,k=>by show (zr (k+1) r).length+1=_;rw[qz r (k+1)];rfl
theorem qA (a:Nat): ∀(A:List Nat) (k i:Nat),a∉A->Instr.findNow (.int .i64) (iN a) (zr k A) i=some none
 | [],_,_,_=>rfl
 | x::r,k,i,h=>by
  have hne:a≠x:=fun e=>h (by rw[e];exact List.mem_cons_self ..);have hs:Instr.sameNow (.int .i64) (iN a) (iN x)=some false:=by
   show (if Qn=Qn then some ((a:Int)==(x:Int)) else none)=_;rw[if_pos rfl,beq_eq_false_iff_ne.2 (by omega)]
  show (match Instr.sameNow (.int .i64) (iN a) (iN x) with | some true=>_ | some false=>_ | none=>_)=_;rw[hs];exact qA a r (k+1) (i+1) fun q=>h (List.mem_cons_of_mem _ q)
section
variable {w:World}{b:Nat}{A:List Nat}
theorem jP (hb:w.heap[b]? =some (mpN A))(a:Nat)(ha:a∉A):(Instr.mapUpdate 43 (.map (some b)) (iN a) (.bool true)).run Try.prog w=.ok () { w with heap:=w.heap.setIfInBounds b (mpN (A++ [a])) } :=by
 have hb':w.heap[b]? =some (.map (zr 0 A).toArray A.length):=hb;have hk:MapKept.IsKey (.int .i64) (iN a):=rfl;have e:mpN (A++ [a])=.map ((zr 0 A).toArray.push ⟨iN a,.bool true,A.length⟩) (A.length+1):=by
  unfold mpN;rw[qy,Nat.zero_add,List.length_append];simp
 rw[e];simp[Instr.mapUpdate,run_underlying Try.underlying43,MapKept.run_getObj_map hb',MapKept.run_checkKey Try.underlying3 hk,MapKept.run_findKey Try.underlying3 (qA a A 0 0 ha),MapKept.run_setObj_map _ hb',Result.andThen]
end
def zm (h n i:Nat):List Nat:=(Qm i).map fun r=>(h+r)%n
theorem jQ (h n i:Nat):zm h n (i+1)=zm h n i++ [(h+i)%n]:=by unfold zm;rw[List.range_succ,List.map_append];rfl
theorem jR (h n i:Nat):(zm h n i).length=i:=by unfold zm;rw[List.length_map,List.length_range]
theorem jS {h n i:Nat}(hi:i<n):(h+i)%n∉zm h n i:=fun hm=>by
 unfold zm at hm;obtain⟨r,hr,e⟩:=QD.1 hm;have hr':=List.mem_range.1 hr;have h1:=Nat.sub_mod_eq_zero_of_mod_eq e.symm;rw[show h+i-(h+r)=i-r by omega,Nat.mod_eq_of_lt (by omega)]at h1;omega
theorem jT (hQ:yP)(hF:yQ)(hP:qx)(n:Int)(hn:(Lit.int .i64 n).wf=true)(q:Qc)(m c:Nat)(L:Qi)(sl:yr q m c)(hmz:m<=0x7fffffffffffffff/\ ∀x∈L,Qj x<=0x800000000000)(h:Nat)(hh:h<0x10000000000000000):
 FnP Try.prog 5 #[.int .i64 n,.slice q m c,.int .u64 (h:Int)] (fun w=>AtF sS w q m L) (.bool true):=by
 refine FnP.intro (c:=zC Try.f5) [.tmp 6] 97 Try.func5 kr kr kr fun w hA=>?_;have hm:=hmz.1;have hA0:=hA.take (min m 20) (Nat.min_le_left _ _);have hz0: ∀x∈L.take (min m 20),Qj x<=0x800000000000:=fun x hx=>hmz.2 x (List.mem_of_mem_take hx);have hml:(L.take (min m 20)).length<=20:=by rw[List.length_take];omega
 generalize hL0:L.take (min m 20)=L0 at hA0 hml hz0;have hm0:=hA0.1;have hal:=jM hQ hF;have H0:=St.start w;refine rS [.v] H0 kr fun gs1 w1 H1=>rS [.v,.E (.int .i64 (if (1:Int)>n then (1:Int) else n)) (.int .i64 (max n 1)) (zb (by split<;>omega)),.E (.int .i64 (if (1000000:Int)<max n 1 then (1000000:Int) else max n 1)) (iN (min (max n 1) 1000000).toNat) (zb (by split<;>omega)),.v] H1 kr fun gs2 w2 H2=>qk [(0,iN (min (max n 1) 1000000).toNat),(1,.slice q m c),(2,.int .u64 (h:Int))] kr fun ρ1=>?_;have H3:St w.heap.size w w2 []:=H2.as kr;clear H0 H1 H2;obtain⟨N,hN,hN1,hN2⟩:∃N,(min (max n 1) 1000000).toNat=N/\1<=N/\N<=1000000:=⟨_,rfl,by omega,by omega⟩
 rw[hN];have hq1:=hQ (N:Int) (by omega) (by omega);have hf1:=hF (N:Int) (by omega) (by omega);have hc1:zp (N:Int)=N:=by unfold zp;omega
 have e1:yu (N:Int)=(2*N+2) / 3:=by unfold yu;rw[hc1]
 have e2:yv (N:Int)=(N-1) / 3:=by unfold yv;rw[hc1]
 rw[e1]at hq1;rw[e2]at hf1;obtain⟨Q,hQe⟩:∃Q,(2*N+2) / 3=Q:=⟨_,rfl⟩
 obtain⟨F,hFe⟩:∃F,(N-1) / 3=F:=⟨_,rfl⟩
 rw[hQe]at hq1;rw[hFe]at hf1;refine rS [.v,.c hq1,.v,.c hf1,.v,.v] H3 kr fun gs3 w3 H4=>zu kr<|rS [.v,.E (.int .i64 (Qn.wrap (2*(Q:Int)))) (iN (2*Q)) (zb (qm (a:=2) (b:=Q) (by omega))),.v,.E (.int .i64 (Qn.wrap (((2*Q:Nat):Int)-(N:Int)))) (iN (2*Q-N)) (zb (yn (a:=2*Q) (b:=N) (by omega))),.v,.E (.bool (decide (((2*Q-N:Nat):Int)<=(F:Int)))) (.bool false) (zv (decide_eq_false (by omega))),.v,.v,.v,.E (.int .i64 (Qn.wrap ((N:Int)-(F:Int)))) (iN (N-F)) (zb (yn (a:=N) (b:=F) (by omega))),.v,.E (.bool (decide (((N-F:Nat):Int)<(Q:Int)))) (.bool false) (zv (decide_eq_false (by omega))),.v,.v,.v,.v,.E (.int .i64 (Qn.wrap ((Q:Int)-(F:Int)))) (iN (Q-F)) (zb (yn (a:=Q) (b:=F) (by omega))),.E (.bool (decide (((Q-F:Nat):Int)<=0))) (.bool false) (zv (decide_eq_false (by omega))),.v,.v,.v,.v,.E (.bool (decide ((Q:Int)<=(F:Int)))) (.bool false) (zv (decide_eq_false (by omega))),.v,.v,.c hal,.v,.v] H4 kr fun gs4 w4 H5=>yK ?_;refine wW ?_;refine rS [.v,.v,.v,.E (.int .i64 (if (20:Int)<(m:Int) then (20:Int) else (m:Int))) (iN (min m 20)) (zb (by split<;>omega)),.o (ins:=[((.tmp 49),.slice q m c),((.tmp 52),iN (min m 20))]) (v:=.slice q (min m 20) c) (fun ρ o w ho hi=>jr (t:=22) (e:=9) (size:=1) (bytes:=16) (kd:=.i64) kr (x:=(.tmp 49)) (y:=(.tmp 52)) sl (by omega) ho hi.1 hi.2.1 w),.v] H5 kr fun gs5 w5 H6=>rS [.v,.E (.int .u64 (if (0x4000000000000000:Int)<(h:Int) then (0x4000000000000000:Int) else (h:Int))) (.int .u64 ((min h 0x4000000000000000:Nat):Int)) (zb (by split<;>omega)),.v] H6 kr fun gs6 w6 H7=>zy [0,1] kr kr<|jK H7 (some 56) (fun b=>.map (some b)) (mpN []) kr kr ?_;intro bm w7 H8;refine rp [.v] H8 kr fun gs8 w8 H9=>?_;refine wX [] ?_;refine zn ?_;refine wW ?_;refine qk [(1,.slice q (min m 20) c),(2,.int .u64 ((min h 0x4000000000000000:Nat):Int)),(9,.map (some bm))] kr fun ρ2=>?_;have H10:St w.heap.size w w8 [(bm,mpN [])]:=H9.as kr;clear H3 H4 H5 H6 H7 H8 H9;generalize min m 20=m0 at*;obtain⟨h0,hh0,hh1⟩:∃h0,min h 0x4000000000000000=h0/\h0<=0x4000000000000000:=⟨_,rfl,Nat.min_le_right _ _⟩
 rw[hh0];refine zu kr<|rS [.v,.v,.v] H10 kr fun gs11 w11 H11=>jH 59 58 60 91 0 1 m0 (by omega) (fun i ρ ww=>St w.heap.size w ww [(bm,mpN (zm h0 m0 i))]/\Is [(1,.slice q m0 c),(2,.int .u64 (h0:Int)),(9,.map (some bm)),(58,iN m0),(59,iN i)] ρ) (by rintro i _ ww ⟨_,_,rfl⟩;exact⟨kr,kr⟩) ⟨H11.as kr,isK⟩ ?_ ?_
 ·clear H10 H11;rintro i _ w5 hi ⟨H5,_,rfl⟩;have hne:L0≠[]:=fun e=>by rw[e]at hm0;simp at hm0;omega
  have p1:=hP q m0 c L0 h0 i ⟨by omega,hz0⟩ (by omega) (by omega);have e3:zI L0=0:=by unfold zI;rw[if_neg hne]
  rw[e3]at p1;have ek:zj L0 h0 i=(h0+i)%m0:=by unfold zj;rw[Nat.mod_eq_of_lt (show h0+i<0x10000000000000000 by omega),<-hm0]
  have hx:=jO (h:=h0) (r:=i) hne;rw[ek]at hx;have hki:(h0+i)%m0<m0:=Nat.mod_lt _ (by omega);have hnew:=jS (h:=h0) hi;obtain⟨bl,off,C,T,fz,hp,hh2,hR⟩:=hA0.row2 (by omega);have hcx:C[off+(h0+i)%m0*1]? =some (.string (zq L0 h0 i)):=hR.cell hx 0 (by decide);generalize zq L0 h0 i=S at p1 hcx;have hks:=jQ h0 m0 i;generalize hK:(h0+i)%m0=K at*;refine rS [.v,.v] H5 kr fun gs6 w6 H6=>rS [.v,.v,.v,.E (.int .u64 (Qw.wrap (i:Int))) (.int .u64 (i:Int)) (zb (yo (by omega))),.cp (pre:=fun w=>AtF sS w q m0 L0) p1 [] (fun w hb hd=>hA0.call hb),.v,.v,.v,.v,.v] H6 kr fun gs7 w7 H7=>rS [.v,.v,.E (.int .u64 (Qw.wrap (i:Int))) (.int .u64 (i:Int)) (zb (yo (by omega))),.E (.int .u64 (Qw.wrap ((h0:Int)+(i:Int)))) (.int .u64 ((h0+i:Nat):Int)) (zb (by rw[qp];omega)),.v,.v,.E (.int .u64 (Qw.wrap (m0:Int))) (.int .u64 (m0:Int)) (zb (yo (by omega))),.oe (ins:=[((.tmp 73),.int .u64 ((h0+i:Nat):Int)),((.tmp 76),.int .u64 (m0:Int))]) (v:=.int .u64 (Int.tmod ((h0+i:Nat):Int) (m0:Int))) (v':=.int .u64 (K:Int)) (fun ρ o w ho hi=>qq (n:=0) (t:=23) (t':=23) (x:=(.tmp 73)) (y:=(.tmp 76)) (h0+i) m0 (by omega) w ho hi.1 hi.2.1) (zb (by rw[qo,hK])),.E (.int .i64 (Qn.wrap (K:Int))) (iN K) (zb (jg (by omega))),.v] H7 kr fun gs8 w8 H8=>zu kr<|rS [.v,.v,.v,.v,.v,.v,.o (ins:=[((.tmp 83),.slice q m0 c),((.tmp 84),iN K)]) (v:=.pointer (some ⟨bl,off+K*1,none⟩)) (fun ρ o w ho hi2=>qt (kd:=.i64) (t:=22) (e:=9) (K:=1) (bytes:=16) kr (x:=(.tmp 83)) (y:=(.tmp 84)) bl off m0 c K hp ho hi2.1 hi2.2.1 (by omega) w),.fs (off:=off+K*1) (v:=.string S) hh2 (zl hh2) hcx,.E (.bool (!(S.toList==S.toList))) (.bool false) (zv (by rw[jm _ _ rfl];rfl)),.v] H8 kr fun gs9 w9 H9=>yK ?_;refine wW ?_
  refine rL [.v,.v,.g [((.tmp 89),.map (some bm)),((.tmp 90),iN K)] (.mapUpdate 43 (.tmp 89) (.tmp 90) (.const (.bool true))) [(0,(bm,mpN (zm h0 m0 i)))] (fun _=>undef) (.turn 0 (mpN (zm h0 m0 i++ [K]))) (fun ρ o w ho hi2 hd hb=>by
   have hr:=jP hd.1 K hnew;have e:(execOp (ev ρ) o).run Try.prog w=.ok .skip { w with heap:=w.heap.setIfInBounds bm (mpN (zm h0 m0 i++ [K])) } :=by
    have hcst:ev ρ (.const (.bool true))=.bool true:=rfl;unfold execOp;simp only[ho,hi2.1,hi2.2.1,hcst,Qo,hr,Ql];rfl
   rw[e];have hlt:=zl hd.1
   exact⟨default,rfl,(bm,mpN (zm h0 m0 i)),rfl,⟨rfl,rfl,rfl,by simp,fun k _ hk=>by simp[Array.getElem?_setIfInBounds,show ¬bm=k from fun e=>hk (by rw[e])]⟩,by simp[Array.getElem?_setIfInBounds,hlt]⟩)] H9 kr fun gs10 w10 H10=>?_
  exact⟨kr,by rw[hks];exact H10.as kr,isK⟩
 ·rintro _ w5 ⟨H5,_,rfl⟩;have hlen:=jR h0 m0 m0;generalize zm h0 m0 m0=KS at H5 hlen;refine wW ?_
  refine rS [.v,.x (ins:=[((.tmp 92),.map (some bm))]) (op:=.call { callee:=.builtin .len,args:=#[.tmp 92],argTypes:=#[43] }) (v:=iN m0) [(0,(bm,mpN KS))] (fun ρ o w ho hi2 hd=>by
   have hb':w.heap[bm]? =some (.map (zr 0 KS).toArray KS.length):=hd.1;unfold execOp;simp only[ho,resolve,invoke,builtin,Qo,Sem.run_pure,Ql,List.map_toArray,Qv,List.map_nil,hi2.1];simp[Builtin.len_,Builtin.lenOf,MapKept.run_getObj_map hb',qz,hlen,Result.andThen]
   rfl),.v,.v,.E (.bool ((m0:Int)==(m0:Int))) (.bool true) (zv (beq_self_eq_true _)),.v] H5 kr fun gs6 w6 H6=>?_
  exact rR [.tmp 6] [] (.bool true) H6 kr
end
section
open D2 (Gh)
open Go.ChangeShapes Go.WideShapes Go.ChangeAt
theorem qB (n:Int):Fn Try.prog 18 #[.int .i64 n] (iN (zp n)):=by
 refine Fn.intro (c:=zC Try.f18) [.tmp 2] 6 Try.func18 kr kr kr fun w=>rS [.v] (St.start w) kr fun gs1 w1 H1=>rS [.v,.E (.int .i64 (if n>(0:Int) then n else (0:Int))) (.int .i64 (max n 0)) (zb (by split<;>omega)),.E (.int .i64 (if (1000000:Int)<max n 0 then (1000000:Int) else max n 0)) (iN (zp n)) (zb (by unfold zp;split<;>omega)),.v] H1 kr fun gs2 w2 H2=>?_;exact rR [.tmp 2] [] (iN (zp n)) H2 kr
theorem qC (n:Int):zp n<=1000000:=by unfold zp;omega
theorem jU:yP:=by
 intro n n1 n2;refine Fn.intro (c:=zC Try.f8) [.tmp 2] 8 Try.func8 kr kr kr fun w=>?_;have hc:=qB n;have hk:=qC n;unfold yu;generalize zp n=k at hc hk;refine rS [.v] (St.start w) kr fun gs1 w1 H1=>rS [.v,.c hc,.E (.int .i64 (Qn.wrap (2*(k:Int)))) (iN (2*k)) (zb (qm (a:=2) (b:=k) (by omega))),.E (.int .i64 (Qn.wrap (((2*k:Nat):Int)+2))) (iN (2*k+2)) (zb (ql (a:=2*k) (b:=2) (by omega))),.E (.int .i64 (Qn.wrap (((2*k+2:Nat):Int).tdiv 3))) (iN ((2*k+2) / 3)) (zb ((qn (a:=2*k+2) (b:=3) (by omega)).trans (by omega))),.v] H1 kr fun gs2 w2 H2=>?_;exact rR [.tmp 2] [] (iN ((2*k+2) / 3)) H2 kr
theorem jV:yQ:=by
 intro n n1 n2;refine Fn.intro (c:=zC Try.f9) [.tmp 2] 8 Try.func9 kr kr kr fun w=>?_;have hc:=qB n;have hk:=qC n;unfold yv;generalize zp n=k at hc hk;refine rS [.v] (St.start w) kr fun gs1 w1 H1=>rS [.v,.c hc,.E (.int .i64 (if (k:Int)>(1:Int) then (k:Int) else (1:Int))) (iN (max 1 k)) (zb (by split<;>omega)),.E (.int .i64 (Qn.wrap (((max 1 k:Nat):Int)-1))) (iN (k-1)) (zb ((yn (a:=max 1 k) (b:=1) (by omega)).trans (by omega))),.E (.int .i64 (Qn.wrap (((k-1:Nat):Int).tdiv 3))) (iN ((k-1) / 3)) (zb ((qn (a:=k-1) (b:=3) (by omega)).trans (by omega))),.v] H1 kr fun gs2 w2 H2=>?_;exact rR [.tmp 2] [] (iN ((k-1) / 3)) H2 kr
theorem jW:qx:=by
 intro q m c L h r hLz hh hr;obtain⟨hL,hz⟩:=hLz;refine FnP.intro (c:=zC Try.f10) [.tmp 6,.tmp 7] 24 Try.func10 kr kr kr fun w hA=>?_;have hmL:=hA.1;refine rS [.v,.v] (St.start w) kr fun gs1 w1 H1=>zu kr ?_;by_cases hL0:L=[]
 ·have e3:zI L=1:=by unfold zI;rw[if_pos hL0]
  have e4:zq L h r=em:=by unfold zq;rw[hL0];rfl
  have e5:m=0:=by rw[hmL,hL0];rfl
  rw[e3,e4];refine rS [.v,.v,.E (.bool ((m:Int)==0)) (.bool true) (zv (beq_iff_eq.2 (by omega)))] H1 kr fun gs2 w2 H2=>jF<|rS [.v,.v] H2 kr fun gs3 w3 H3=>?_;exact rR [.tmp 6,.tmp 7] [] (.tuple #[.string em,iN 1]) H3 kr
 ·have e3:zI L=0:=by unfold zI;rw[if_neg hL0]
  have e5:0<L.length:=List.length_pos_iff.2 hL0;have hi:zj L h r<L.length:=Nat.mod_lt _ e5;have hx:L[zj L h r]? =some (zq L h r):=by
   unfold zq;rw[List.getD_eq_getElem?_getD,Qt hi];rfl
  have hcl:=jB (zq L h r) (hz _ (QA hx));obtain⟨bl,off,C,T,fz,hp,hh2,hR⟩:=hA.row2 (by omega);have hcx:C[off+zj L h r*1]? =some (.string (zq L h r)):=hR.cell hx 0 (by decide);have e6:(h+r)%0x10000000000000000%m=zj L h r:=by rw[hmL];rfl
  rw[e3];generalize zq L h r=S at hcl hcx;refine rS [.v,.v,.E (.bool ((m:Int)==0)) (.bool false) (zv (beq_eq_false_iff_ne.2 (by omega)))] H1 kr fun gs2 w2 H2=>yK ?_;refine wW ?_;refine rS [.v,.v,.E (.int .u64 (Qw.wrap ((h:Int)+(r:Int)))) (.int .u64 (((h+r)%0x10000000000000000:Nat):Int)) (zb jL),.v,.v,.E (.int .u64 (Qw.wrap (m:Int))) (.int .u64 (m:Int)) (zb (yo (by omega))),.oe (ins:=[((.tmp 14),.int .u64 (((h+r)%0x10000000000000000:Nat):Int)),((.tmp 17),.int .u64 (m:Int))]) (v:=.int .u64 (Int.tmod (((h+r)%0x10000000000000000:Nat):Int) (m:Int))) (v':=.int .u64 ((zj L h r:Nat):Int)) (fun ρ o w ho hi=>qq (n:=0) (t:=23) (t':=23) (x:=(.tmp 14)) (y:=(.tmp 17)) ((h+r)%0x10000000000000000) m (by omega) w ho hi.1 hi.2.1) (zb (by rw[qo,e6])),.v] H2 kr fun gs3 w3 H3=>?_
  refine rS [.v,.v,
   .o (ins:=[((.tmp 19),.slice q m c),((.tmp 20),.int .u64 ((zj L h r:Nat):Int))]) (v:=.pointer (some ⟨bl,off+zj L h r*1,none⟩)) (fun ρ o w ho hi2=>qt (kd:=.u64) (t:=22) (e:=9) (K:=1) (bytes:=16) kr (x:=(.tmp 19)) (y:=(.tmp 20)) bl off m c (zj L h r) hp ho hi2.1 hi2.2.1 (by omega) w),.fs (off:=off+zj L h r*1) (v:=.string S) hh2 (zl hh2) hcx,.c hcl,.v,.v] H3 kr fun gs4 w4 H4=>?_
  exact rR [.tmp 6,.tmp 7] [] (.tuple #[.string S,iN 0]) H4 kr
end
section
open Go.ChangeShapes Go.WideShapes Go.ChangeAt
theorem qD {H:Type}{P:Program}{t:TypeId}{ts:List TypeId}{d:DataW H}{r:List (DataW H)} :QF P (t::ts) (d::r)=d.weights P t++QF P ts r:=by simp[QF]
theorem qE {H:Type}{P:Program}{e:TypeId} : ∀ {l:List (DataW H)} {d:DataW H} {n:Nat},d∈l->n∈d.weights P e->n∈DataW.weightsAll P e l
 | [],_,_,h,_=>nomatch h
 | x::r,d,n,h,hn=>by
  unfold DataW.weightsAll;rcases List.mem_cons.1 h with rfl | h
  ·exact List.mem_append_left _ hn
  ·exact List.mem_append_right _ (qE h hn)
section
variable {H:Type}{enc:TypeId×Value->H}{W:World}{sp:Nat->Bool}{held:Bool}
theorem jX {α:Type}{S:Fl α}{ok:α->Prop}{st et:TypeId}{B:Nat}(hst:Try.prog.underlying st=some (.slice et))(hc:Try.prog.cellsOf et=S.K)(hone: ∀(fuel:Nat) (cs:List Value) (x:DataW H×List MemPlace),QN enc Try.prog W 0 sp held fuel et cs=some x->(∀n∈x.1.weights Try.prog et,n<=B)->∃a:α,cs=S.cs a/\ok a)
 {v:Value} {d:DataW H} {p:List MemPlace} {base:Nat} (hv:Value.okWide Try.prog W .any base st v) (h:DataW.Trod enc Try.prog W 0 sp held st v d p) (hw: ∀n∈d.weights Try.prog st,n<=B):
 ∃(q:Qc) (n c:Nat) (L:List α),v=.slice q n c/\yr q n c/\(∀x∈L,ok x)/\AtF S W q n L:=by
 obtain⟨ao,l0,c0,rfl⟩:=okWide_slice hst hv;obtain⟨fuel,hf⟩:=h
 replace hf:QN enc Try.prog W 0 sp held fuel st [.slice ao l0 c0]=some (d,p):=hf
 rcases DataW.trod_slice hst hf with⟨hc,hx⟩|⟨a,len0,cap0,elems,rest,n',rfl,hc',hx,_,hlc,hcm,hel,hels,_,_⟩
 ·obtain⟨rfl,rfl,rfl⟩:ao=none/\l0=0/\c0=0:=by simpa using hc
  exact⟨none,0,0,[],rfl,.inl ⟨rfl,rfl,rfl⟩,(fun _ h=>nomatch h),rfl,.inl rfl⟩
 ·obtain⟨rfl,rfl,rfl⟩:ao=some a/\l0=len0/\c0=cap0:=by simpa using hc'
  have rows: ∀q,q<=l0->∃L:List α,L.length=q/\(∀x∈L,ok x)/\ ∀(i:Nat) (z:α),L[i]? =some z->W.cells? 0 (a.add (i*S.K)) S.K=some (S.cs z):=by
   intro q
   induction q with
   | zero=>exact fun _=>⟨[],rfl,(fun _ h=>nomatch h),fun i z h=>by simp at h⟩
   | succ q ihq=>
    intro hq;obtain⟨L,hL,hk,hcc⟩:=ihq (by omega);have hi:=hels q (by omega);rw[hc]at hi;have hlt:q<elems.length:=by omega
    have hy:=Qt hlt;rw[hy]at hi;obtain⟨cs',hcs,ht⟩:=Option.bind_eq_some_iff.1 hi
    obtain⟨nd,rfl,hnd⟩:=hone n' cs' _ ht (fun n hn=>hw n (by
     obtain rfl:=congrArg Prod.fst hx;unfold DataW.weights;rw[hst];refine List.mem_cons_of_mem _ (List.mem_append_left _ ?_)
     exact qE (QD.2 ⟨_,QA hy,rfl⟩) hn))
    refine⟨L++ [nd],by simp[hL],fun x hx=>?_,fun i z hz=>?_⟩
    ·rcases List.mem_append.1 hx with hx|hx
     ·exact hk x hx
     ·rw[List.mem_singleton.1 hx];exact hnd
    by_cases hiq:i<L.length
    ·rw[List.getElem?_append_left hiq]at hz;exact hcc i z hz
    ·rw[List.getElem?_append_right (by omega)]at hz;have:i-L.length=0:=by
      have:=(List.getElem?_eq_some_iff.1 hz).1;simp at this;omega
     rw[this]at hz;simp at hz;subst hz;obtain rfl:i=q:=by omega
     exact hcs
  obtain⟨L,hL,hk,hcl⟩:=rows l0 (Qx _);refine⟨some a,l0,c0,L,rfl,.inr ⟨⟨a,rfl⟩,hlc⟩,hk,hL.symm,?_⟩;cases L with
  | nil=>exact .inl rfl
  | cons z0 L0=>
   have f0:=(World.cells?_some (hcl 0 z0 rfl)).2.2 0 S.pos;rw[Nat.zero_mul]at f0;have e0:(a.add 0).add 0=a:=rfl;rw[e0,Qt (by rw[S.len];exact S.pos)]at f0;obtain⟨ea,C,T,fz,hh,hC0⟩:=ju f0;refine .inr ⟨a.block,a.off,C,T,fz,congrArg some ea,hh,fun i z hz=>?_⟩;refine jt (S.len z) S.pos fun j hj=>?_;have h9:=(World.cells?_some (hcl i z hz)).2.2 j hj;rw[ea,yg,yg]at h9;exact jv hh h9
theorem jY {B:Nat}(fuel:Nat)(cs:List Value)(x:DataW H×List MemPlace)(h:QN enc Try.prog W 0 sp held fuel 9 cs=some x)(hw: ∀n∈x.1.weights Try.prog 9,n<=B):∃a:Qa,cs=sS.cs a/\a.size<=B:=by
 obtain⟨s,e0,e1,hs⟩:=DataW.trod_string Try.underlying9 h;refine⟨s,e0,?_⟩;obtain⟨x1,x2⟩:=x;obtain⟨rfl,-⟩:=Prod.mk.inj e1;have h9:=hw s.data.toList.length (by unfold DataW.weights;exact List.mem_singleton.2 rfl)
 rwa [Array.length_toList]at h9
theorem jZ {v:Value}{d:DataW H}{p:List MemPlace}{base:Nat}(hv:Value.okWide Try.prog W .any base 22 v)(h:DataW.Trod enc Try.prog W 0 sp held 22 v d p)(hw: ∀n∈d.weights Try.prog 22,n<=0x800000000000):
 ∃(q:Qc) (n c:Nat) (L:Qi),v=.slice q n c/\yr q n c/\(n<=0x7fffffffffffffff/\ ∀x∈L,Qj x<=0x800000000000)/\AtF sS W q n L:=by
 obtain⟨q,n,c,L,rfl,sl,hk,hat⟩:=jX (S:=sS) (ok:=fun x=>Qj x<=0x800000000000) Try.underlying22 jI jY hv h hw;refine⟨q,n,c,L,rfl,sl,⟨?_,hk⟩,hat⟩;obtain⟨fuel,hf⟩:=h;rcases DataW.trod_slice Try.underlying22 (show QN enc Try.prog W 0 sp held fuel 22 [.slice q n c]=some (d,p) from hf) with⟨hc,_⟩|⟨a,len0,cap0,elems,rest,n',rfl,hc',hx,_,hlc,hcm,_⟩
 ·have:n=0:=by simp at hc;exact hc.2.1
  omega
 ·have h1:n=len0:=by simp at hc';exact hc'.2.1
  simp only[maxLen]at hcm;omega
end
end
end Go.Proofs.Ytdaeahhkiilbaaa
