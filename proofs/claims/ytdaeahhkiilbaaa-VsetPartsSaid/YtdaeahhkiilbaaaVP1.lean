/-
  Texts of the proof,part 1.
-/
import Derived.WalkKit
import Derived.ProofKit
import Derived.Orders
import Derived.Maps.AppendAt
import Derived.Laws.BitsAllLaws
import Derived.Laws.MakeOwn
import Derived.Laws.BytesArg
import Derived.Laws.CopyRow
import Derived.Laws.Concat
import Derived.Lib.BufferWrite
import Derived.Laws.IdiomStrings
import Derived.Lib.UnsafeStr
set_option maxRecDepth 100000
set_option maxHeartbeats 4000000
set_option linter.unusedVariables false
open Go Go.RowKit
open Below renaming refl->Rm
open Bool renaming and_eq_true->Qm,not_eq_true'->Rn,false_eq_true->Rt,not_true->RL,or_eq_true->RR,false_or->Ub,not_eq_true->Uf,not_false->U3
open Calls renaming mono->R4
open Instr renaming loadAt->RI,sliceBounds->Uc,sliceBound->Ui,sureAddr->Up,sliceAt->UD,storeAt->UK,slice->UL
open IntKind renaming i64->Qo
open List renaming getElem?_eq_getElem->Ql,mem_of_getElem?->Qp,take_of_length_le->Qq,getElem?_eq_some_iff->Qt,length_take->Qw,length_append->QF,range->QG,append_assoc->QJ,map_cons->QK,all_eq_true->QL,mem_cons->QN,mem_cons_self->QU,mem_iff_getElem?->QV,getElem?_map->QY,any_eq_true->Q2,getElem?_zipIdx->Q6,mem_cons_of_mem->Q7,getElem?_eq_none->Q9,mem_map->Rq,getElem?_set->RA,getElem_mem->RF,replicate->RG,contains_iff_mem->RM,map_toArray->RN,nodup_cons->RP,length_map->RQ,getD_eq_getElem?_getD->RU,map_nil->R5,getElem?_take->R7,ext_getElem?->Ue,getElem_of_mem->Un,mem_append->Ut,getElem?_append_left->Uu,getElem_set->UC,cons->UW,getElem?_append_right->U5,take_append->U7
open Nat renaming eq_of_beq_eq_true->Qn,le_of_ble_eq_true->Qr,le_refl->Qs,beq->Qv,zero_add->Qy,zero_le->QH,mul_le_mul_right->QR,beq_refl->Q4,le_trans->Ro,min_eq_left->Rx,lt_trichotomy->RX,lt_succ_self->R0,blt->Uh,succ_mul->Uq,le_of_not_lt->UE,testBit->UZ,one_mul->U0,lt_or_ge->U4,sub_self->Vc
open Oper renaming upon_value->Rs,upon_enter->Um,wp->U9
open Option renaming some->Q1
open Region renaming wanted->Qz,binds->QT,ready->Q0
open Result renaming andThen_ok->QA
open Sem renaming run_bind->QM,run_pure->RY
open World renaming cell?->RW,setRow->UR
open _root_.Array renaming length_toList->QD,getElem?_eq_some_iff->QI,getElem?_eq_getElem->Q5,getD_eq_getD_getElem?->Ri,replicate->Rp,getElem?_toList->Rr
namespace Go.Proofs.Ytdaeahhkiilbaaa
abbrev Qa:=ByteArray
abbrev Qc:=Option Addr
abbrev Qb:=List (Nat×Obj)
abbrev Qd:=Array Value
abbrev Qi:=List ByteArray
abbrev Qg (b:Nat):Option Addr:=some ⟨b,0,none⟩
abbrev Qe (b:Nat):Value:=.pointer (some ⟨b,0,none⟩)
abbrev Qf (b n c:Nat):Value:=.slice (some ⟨b,0,none⟩) n c
abbrev wZ:Value:=.int .u64 0
abbrev iN (n:Nat):Value:=.int .i64 (n:Int)
abbrev em:Qa:=⟨#[]⟩
theorem kr {α:Sort _}{a b:α}(h:a=b:=by kernel_rfl):a=b:=h
@[reducible] def Env:=Nat->Value
def upd (ρ:Env)(d:Nat)(v:Value):Env:=fun t=>bif Qv t d then v else ρ t
def zm (ρ:Env):Option Nat->Value->Env
 | some d,v=>upd ρ d v
 | none,_=>ρ
def ev (ρ:Env):Operand->Value
 | .tmp t=>ρ t
 | .const v=>v
 | .global g=>.pointer (some ⟨g,0,none⟩)
 | .func f=>.func (.func f) #[] #[]
def ini (args:Qd):Env:=fun t=>args.getD t undef
structure Rep (a:Act)(ρ:Env)(N:Nat):Prop where
 defers:a.defers=[]
 size:a.tmps.size=N
 at_: ∀t,a.tmps.getD t undef=ρ t
theorem Rep.eval {a:Act}{ρ:Env}{N:Nat}(h:Rep a ρ N):a.eval=ev ρ:=by
 funext x;cases x<;>first | rfl | exact h.at_ _
theorem jL (a:Qd)(t:Nat):a.getD t undef=(a[t]?).getD undef:=by
 simp[Ri]
theorem Rep.get? {a:Act}{ρ:Env}{N:Nat}(h:Rep a ρ N){t:Nat}(ht:t<N):a.tmps[t]? =some (ρ t):=by
 have e:=h.at_ t;rw[jL]at e;have:t<a.tmps.size:=by rw[h.size];exact ht
 rw[Q5 this]at e⊢
 simpa using e
theorem Rep.put {a:Act}{ρ:Env}{N:Nat}(h:Rep a ρ N)(d:Option Nat)(hd: ∀k,d=some k->k<N)(v:Value):Rep (a.put d v) (zm ρ d v) N:=by
 cases d with
 | none=>exact h
 | some k=>
  have hk:=hd k rfl;refine⟨h.defers,by simp[Act.put,h.size],fun t=>?_⟩;have e:=h.at_ t;rw[jL]at e⊢;simp only[Act.put,zm,upd,Array.getElem?_setIfInBounds];by_cases hkt:k=t
  ·subst hkt;simp[h.size,hk]
  ·have:Qv t k=false:=by
    cases hb:Qv t k with
    | false=>rfl
    | true=>exact absurd (Qn hb).symm hkt
   simp[hkt,this,e]
def zy (ops:Array Oper)(ρ:Env)(j:Nat):Option Bool:=
 match (ops[j]?).bind (·.dst) with
 | some d=>match ρ d with | .bool b=>some b | _=>none
 | none=>none
theorem Rep.yielded {a:Act}{ρ:Env}{N:Nat}(h:Rep a ρ N)(ops:Array Oper)(hu: ∀t,N<=t->ρ t=undef)(j:Nat):Go.yielded ops a.tmps j=zy ops ρ j:=by
 unfold Go.yielded zy;cases hd:(ops[j]?).bind (·.dst) with
 | none=>rfl
 | some d=>
  simp only[Option.bind_some];by_cases hlt:d<N
  ·rw[h.get? hlt];cases ρ d<;>rfl
  ·rw[hu d (UE hlt),Array.getElem?_eq_none (by rw[h.size];exact UE hlt)];rfl
theorem Rep.hu {a:Act}{ρ:Env}{N:Nat}(h:Rep a ρ N): ∀t,N<=t->ρ t=undef:=fun t ht=>by
 rw[<-h.at_ t,jL,Array.getElem?_eq_none (by rw[h.size];exact ht)];rfl
def qy (N:Nat)(Q:Exit->Env->World->Prop):Exit->Act->World->Prop:=fun e a w=> ∃ρ,Rep a ρ N/\Q e ρ w
def WP (P:Program)(N:Nat)(c:Code)(Q:Exit->Env->World->Prop)(ρ:Env)(w:World):Prop:=
 ∀a,Rep a ρ N->c.wp P (qy N Q) a w
section
variable {P:Program}{N:Nat}{Q:Exit->Env->World->Prop}{ρ:Env}{w:World}
theorem WP.mono {c:Code}{Q':Exit->Env->World->Prop}(h:WP P N c Q ρ w)(hq: ∀e ρ w,Q e ρ w->Q' e ρ w):WP P N c Q' ρ w:=
 fun a ha=>Go.wp_mono (h a ha) fun _ _ _ ⟨r,hr,q⟩=>⟨r,hr,hq _ _ _ q⟩
def nx (K:Env->World->Prop)(Q:Exit->Env->World->Prop):Exit->Env->World->Prop
 | .normal,ρ,w=>K ρ w
 | e,ρ,w=>Q e ρ w
theorem WP.seq {x y:Code}(h:WP P N x (nx (WP P N y Q) Q) ρ w):WP P N (.seq x y) Q ρ w:=fun a ha=>
 wp_seq (Go.wp_mono (h a ha) fun e a' w' ⟨r,hr,q⟩=>by
  cases e<;>first | exact q a' hr | exact⟨r,hr,q⟩)
theorem WP.skip (h:Q .normal ρ w):WP P N .skip Q ρ w:=fun a ha=>wp_skip ⟨ρ,ha,h⟩
theorem WP.ret (h:Q .ret ρ w):WP P N .ret Q ρ w:=fun a ha=>wp_ret ⟨ρ,ha,h⟩
theorem WP.exit {id:Nat}(h:Q (.exit id) ρ w):WP P N (.exit id) Q ρ w:=fun a ha=>wp_exit ⟨ρ,ha,h⟩
theorem WP.label {id:Nat}(h:Q .normal ρ w):WP P N (.label id) Q ρ w:=fun a ha=>wp_label ⟨ρ,ha,h⟩
theorem WP.cond {c:Operand}{x y:Code}(b:Bool)(hc:ev ρ c=.bool b)(ht:b=true->WP P N x Q ρ w)(hf:b=false->WP P N y Q ρ w):WP P N (.cond c x y) Q ρ w:=fun a ha=>by
 cases b
 ·exact wp_cond_false (by rw[ha.eval];exact hc) (hf rfl a ha)
 ·exact wp_cond_true (by rw[ha.eval];exact hc) (ht rfl a ha)
theorem WP.cond_t {c:Operand}{x y:Code}(hc:ev ρ c=.bool true)(h:WP P N x Q ρ w):WP P N (.cond c x y) Q ρ w:=
 WP.cond true hc (fun _=>h) (fun h=>by cases h)
theorem WP.cond_f {c:Operand}{x y:Code}(hc:ev ρ c=.bool false)(h:WP P N y Q ρ w):WP P N (.cond c x y) Q ρ w:=
 WP.cond false hc (fun h=>by cases h) (fun _=>h)
def inb (id:Nat)(Q:Exit->Env->World->Prop):Exit->Env->World->Prop
 | .exit i,ρ,w=>bif Qv i id then Q .normal ρ w else Q (.exit i) ρ w
 | e,ρ,w=>Q e ρ w
theorem WP.block {id:Nat}{c:Code}(h:WP P N c (inb id Q) ρ w):WP P N (.block id c) Q ρ w:=fun a ha=>
 wp_block (Go.wp_mono (h a ha) fun e a' w' ⟨r,hr,q⟩=>by
  cases e with
  | exit i=>
   simp only[inb]at q;simp only[Exit.inBlock];split
   ·rename_i hi;subst hi
    rw[Q4]at q;exact⟨r,hr,q⟩
   ·rename_i hi
    have:Qv i id=false:=by
     cases hb:Qv i id with
     | false=>rfl
     | true=>exact absurd (Qn hb) hi
    rw[this]at q;exact⟨r,hr,q⟩
  | _=>exact⟨r,hr,q⟩)
theorem WP.loop {c:Code}(I:Nat->Env->World->Prop)(n:Nat)(h0:I n ρ w)
 (round: ∀n ρ w,I n ρ w->WP P N c (nx (fun ρ' w'=> ∃m,m<n/\I m ρ' w') Q) ρ w):WP P N (.loop c) Q ρ w:=fun a ha=>by
 have:∃m,∃ρ,Rep a ρ N/\I m ρ w:=⟨n,ρ,ha,h0⟩
 intro b k cs;have key: ∀n a ρ w,Rep a ρ N->I n ρ w->
  ∃e a' w',qy N Q e a' w'/\Arrives P (lone (b.at a (.code c ::.inLoop c::k)) cs w) b k cs e a' w':=by
  intro n
  induction n using Nat.strongRecOn with
  | _ n ih=>
   intro a ρ w ha hI;obtain⟨e,a₁,w₁,⟨ρ₁,hr,hq⟩,harr⟩:=round n ρ w hI a ha b (.inLoop c::k) cs;cases e with
   | normal=>
    obtain⟨m,hlt,hI₁⟩:=hq;obtain⟨e₂,a₂,w₂,hq₂,harr₂⟩:=ih m hlt a₁ ρ₁ w₁ hr hI₁;exact⟨e₂,a₂,w₂,hq₂,.of_steps (Steps.trans harr (.one step_inLoop)) harr₂⟩
   | exit id=>exact⟨_,a₁,w₁,⟨ρ₁,hr,hq⟩,.pass (x:=.inLoop c) rfl (fun _ _=>.inl (by simp)) harr⟩
   | goto l=>exact⟨_,a₁,w₁,⟨ρ₁,hr,hq⟩,.pass (x:=.inLoop c) rfl (fun _ _=>.inl (by simp)) harr⟩
   | ret=>exact⟨_,a₁,w₁,⟨ρ₁,hr,hq⟩,.pass (x:=.inLoop c) rfl (fun _ _=>.inl (by simp)) harr⟩
   | panic ch=>exact⟨_,a₁,w₁,⟨ρ₁,hr,hq⟩,.pass (x:=.inLoop c) rfl (fun _ _=>.inl (by simp)) harr⟩
   | outgrown=>exact⟨_,a₁,w₁,⟨ρ₁,hr,hq⟩,.pass (x:=.inLoop c) rfl (fun _ _=>.inl (by simp)) harr⟩
 obtain⟨e,a',w',hq,harr⟩:=key n a ρ w ha h0;exact⟨e,a',w',hq,.of_steps (.one step_loop) harr⟩
end
structure St (B:Nat)(w0 w:World)(l:Qb):Prop where
 below:Below B w0 w
 le:B<=w.heap.size
 own: ∀e∈l,B<=e.1/\w.heap[e.1]? =some e.2
 nd:(l.map (·.1)).Nodup
theorem St.start (w:World):St w.heap.size w w []:=⟨Rm _ _,Qs _,(fun _ h=>nomatch h),List.nodup_nil⟩
theorem St.get {B:Nat}{w0 w:World}{l:Qb}(h:St B w0 w l)(k:Nat){b:Nat}{o:Obj}(hk:l[k]? =some (b,o)):w.heap[b]? =some o:=
 (h.own (b,o) (Qp hk)).2
theorem St.ge {B:Nat}{w0 w:World}{l:Qb}(h:St B w0 w l)(k:Nat){b:Nat}{o:Obj}(hk:l[k]? =some (b,o)):B<=b:=
 (h.own (b,o) (Qp hk)).1
theorem zj {w:World}{b:Nat}{o:Obj}(h:w.heap[b]? =some o):b<w.heap.size:=(QI.1 h).1
theorem St.alloc {B:Nat}{w0 w:World}{l:Qb}(h:St B w0 w l)(o:Obj):St B w0 (w.alloc o) ((w.heap.size,o)::l):=by
 refine⟨h.below.alloc h.le o,by have:=h.le;have e:(w.alloc o).heap.size=w.heap.size+1:=Array.size_push _;omega,?_,?_⟩
 ·intro e he;rcases QN.1 he with rfl | he
  ·exact⟨h.le,heap_alloc_new w o⟩
  ·have:=h.own e he;exact⟨this.1,by rw[Below.heap_alloc _ _ _ (zj this.2)];exact this.2⟩
 ·simp only[QK,RP];refine⟨fun hm=>?_,h.nd⟩;obtain⟨e,he,heq⟩:=Rq.1 hm;have:=zj (h.own e he).2;omega
theorem St.drew {B:Nat}{w0 w:World}{l:Qb}(h:St B w0 w l):St B w0 w.drew l:=
 ⟨h.below.drew,h.le,h.own,h.nd⟩
theorem St.call {B:Nat}{w0 w w':World}{l:Qb}(h:St B w0 w l)(hb:Below w.heap.size w w'):St B w0 w' l:=
 ⟨h.below.trans (hb.mono h.le),Ro h.le hb.size,fun e he=>⟨(h.own e he).1,by rw[hb.block _ (zj (h.own e he).2)];exact(h.own e he).2⟩,h.nd⟩
theorem St.add {B:Nat}{w0 w w':World}{l:Qb}(h:St B w0 w l)(hb:Below w.heap.size w w'){b:Nat}{o:Obj}(hle:w.heap.size<=b)(ho:w'.heap[b]? =some o):St B w0 w' ((b,o)::l):=by
 have h':=h.call hb;refine⟨h'.below,h'.le,?_,?_⟩
 ·intro e he;rcases QN.1 he with rfl | he
  ·exact⟨Ro h.le hle,ho⟩
  ·exact h'.own e he
 ·simp only[QK,RP];refine⟨fun hm=>?_,h.nd⟩;obtain⟨e,he,heq⟩:=Rq.1 hm;have:=zj (h.own e he).2;omega
theorem St.sub {B:Nat}{w0 w:World}{l l':Qb}(h:St B w0 w l)(hs:l'.Sublist l):St B w0 w l':=
 ⟨h.below,h.le,fun e he=>h.own e (hs.subset he),(hs.map (·.1)).nodup h.nd⟩
theorem kw (w:World)(g:Nat)(cs:Qd)(k:Nat)(h:k≠g):(w.setRow g cs).heap[k]? =w.heap[k]? :=by
 simp only[UR,Array.getElem?_modify];rw[if_neg (by omega)]
theorem St.store {B:Nat}{w0 w:World}{l:Qb}(h:St B w0 w l)(k:Nat){b:Nat}{C C':Qd}{T:TypeId}{fz:Nat×Nat}(hk:l[k]? =some (b,.cells C T fz)):
 St B w0 (w.setRow b C') (l.set k (b,.cells C' T fz)):=by
 have hB:=h.ge k hk;have hh:=h.get k hk;have hkl:k<l.length:=(Qt.1 hk).1;have hnew:(w.setRow b C').heap[b]? =some (.cells C' T fz):=setRow_heap w b C C' T fz hh;have hmap:(l.set k (b,Obj.cells C' T fz)).map (·.1)=l.map (·.1):=by
  apply Ue;intro j;simp only[QY,RA];by_cases hj:k=j
  ·subst hj;rw[if_pos rfl,if_pos hkl,hk];rfl
  ·simp[hj]
 refine⟨?_,by simpa [UR] using h.le,?_,by rw[hmap];exact h.nd⟩
 ·exact h.below.trans ⟨rfl,rfl,rfl,by simp[UR],fun j hj=>kw _ _ _ _ (by omega)⟩
 ·intro e he;obtain⟨j,hj,he⟩:=Un he;rw[UC]at he;split at he
  ·subst he;exact⟨hB,hnew⟩
  ·rename_i hjk
   have hj':j<l.length:=by simpa using hj
   have hmem:e∈l:=by rw[<-he];exact RF _
   have hne:e.1≠b:=by
    intro heq;have h1:(l.map (·.1))[j]? =some b:=by simp[QY,Ql hj',he,heq]
    have h2:(l.map (·.1))[k]? =some b:=by simp[QY,hk]
    have:=(List.getElem?_inj (by simpa using hj') h.nd).1 (h1.trans h2.symm);omega
   exact⟨(h.own e hmem).1,by rw[kw _ _ _ _ hne];exact(h.own e hmem).2⟩
def NoQ:Exit->Act->World->Prop:=fun _ _ _=>False
theorem Oper.wp_noQ {P:Program}{o:Oper}{a:Act}{w:World}{K:Act->World->Prop}{Q:Exit->Act->World->Prop}(h:o.wp P a w K NoQ):o.wp P a w K Q:=by
 unfold U9 at*;generalize (execOp a.eval o).run P w=r at*;cases r with
 | ok n w'=>
  cases n<;>simp only[Oper.upon]at h⊢<;>first
   | exact h
   | exact R4 h (fun e w'' he=>by
    cases e with
    | returned v=>exact he
    | panicked c=>exact(he:False).elim
    | outgrown=>obtain⟨_,_,hf⟩:=he;exact(hf:False).elim)
 | halt x w'=>cases x<;>simp only[Oper.upon]at h⊢<;>exact(h:False).elim
theorem zbu {P:Program}{ops:Array Oper}{i:Nat}{a:Act}{w:World}{K:Act->World->Prop}{Q:Exit->Act->World->Prop}(h:wpOp P ops NoQ i K a w):wpOp P ops Q i K a w:=by
 unfold wpOp at*;split
 ·simp_all
 ·rename_i o ho
  simp only[ho]at h;split
  ·rename_i hw
   simp only[hw,if_true]at h;rcases h with h | ⟨_,_,_,hf⟩
   ·exact .inl (Oper.wp_noQ h)
   ·exact(hf:False).elim
  ·rename_i hw;simp only[hw]at h;exact h
def WPo (P:Program)(N:Nat)(ops:Array Oper)(i:Nat)(K:Env->World->Prop)(ρ:Env)(w:World):Prop:=
 ∀a,Rep a ρ N->wpOp P ops NoQ i (fun a' w'=> ∃ρ',Rep a' ρ' N/\K ρ' w') a w
def WPs (P:Program)(N:Nat)(ops:Array Oper)(K:Env->World->Prop):List Nat->Env->World->Prop
 | [],ρ,w=>K ρ w
 | i::r,ρ,w=>WPo P N ops i (WPs P N ops K r) ρ w
theorem wW {a b c d e f}(h:WP a b c d e f):WP a b c d e f:=h
theorem wX {a b c d}(l){f g}(h:WPs a b c d l f g):WPs a b c d l f g:=h
theorem WPs.sound {P:Program}{N:Nat}{ops:Array Oper}{Q:Exit->Env->World->Prop} : ∀(l:List Nat) (ρ:Env) (w:World),WPs P N ops (Q .normal) l ρ w-> ∀a,Rep a ρ N->wpOps P ops (qy N Q) l a w
 | [],ρ,w,h,a,ha=>⟨ρ,ha,h⟩
 | i::r,ρ,w,h,a,ha=>by
  rw[wpOps_cons];exact wpOp_mono (fun a' w' ⟨ρ',hr,h'⟩=>WPs.sound r ρ' w' h' a' hr) (zbu (h a ha))
theorem WP.region {P:Program}{N id:Nat}{ops:Array Oper}{Q:Exit->Env->World->Prop}{ρ:Env}{w:World}(l:List Nat)(hl:QG ops.size=l)
 (h:WPs P N ops (Q .normal) l ρ w):WP P N (.region id ops false) Q ρ w:=fun a ha=>
 wp_region (by rw[hl];exact WPs.sound l ρ w h a ha)
def opv (P:Program)(ops:Array Oper)(i:Nat)(ρ:Env)(w:World):Option (Option Nat×Bool×Result Next):=
 (ops[i]?).map fun o=>(o.dst,Qz o (zy ops ρ),(execOp (ev ρ) o).run P w)
def opk (ops:Array Oper)(i:Nat)(ρ:Env):Option (Option Nat×Bool×Op):=
 (ops[i]?).map fun o=>(o.dst,Qz o (zy ops ρ),o.op)
def opn (ops:Array Oper)(i:Nat)(ρ:Env):Option (Option Nat×Bool):=
 (ops[i]?).map fun o=>(o.dst,Qz o (zy ops ρ))
def dOK (d:Option Nat)(N:Nat):Bool:=match d with | none=>true | some k=>Uh k N
theorem zS {d:Option Nat}{N:Nat}(h:dOK d N=true): ∀k,d=some k->k<N:=fun k hk=>by
 subst hk;exact Qr h
section
variable {P:Program}{N:Nat}{ops:Array Oper}{i:Nat}{K:Env->World->Prop}{ρ:Env}{w:World}
theorem jM {o:Oper}{a:Act}(ha:Rep a ρ N):Qz o (yielded ops a.tmps)=Qz o (zy ops ρ):=by
 unfold Qz;cases o.guard with
 | none=>rfl
 | some g=>simp only[ha.yielded ops ha.hu]
theorem WPo.run {o:Oper}(ho:ops[i]? =some o)(hw:Qz o (zy ops ρ)=true)
 (h: ∀a,Rep a ρ N->Oper.upon P o a (fun a' w'=> ∃ρ',Rep a' ρ' N/\K ρ' w') NoQ ((execOp (ev ρ) o).run P w)):WPo P N ops i K ρ w:=fun a ha=>by
 unfold wpOp;simp only[ho,jM ha,hw,if_true];refine .inl ?_;unfold U9;rw[ha.eval];exact h a ha
theorem yh {d:Option Nat}{b:Bool}{r:Result Next}(h:opv P ops i ρ w=some (d,b,r)):∃o,ops[i]? =some o/\o.dst=d/\Qz o (zy ops ρ)=b/\(execOp (ev ρ) o).run P w=r:=by
 unfold opv at h;cases ho:ops[i]? with
 | none=>rw[ho]at h;cases h
 | some o=>rw[ho]at h;simp at h;exact⟨o,rfl,h⟩
theorem vQ {d:Option Nat}{b:Bool}(h:opn ops i ρ=some (d,b)):∃o,ops[i]? =some o/\o.dst=d/\Qz o (zy ops ρ)=b:=by
 unfold opn at h;cases ho:ops[i]? with
 | none=>rw[ho]at h;cases h
 | some o=>rw[ho]at h;simp at h;exact⟨o,rfl,h⟩
theorem zJ {d:Option Nat}{b:Bool}{r:Op}(h:opk ops i ρ=some (d,b,r)):∃o,ops[i]? =some o/\o.dst=d/\Qz o (zy ops ρ)=b/\o.op=r:=by
 unfold opk at h;cases ho:ops[i]? with
 | none=>rw[ho]at h;cases h
 | some o=>rw[ho]at h;simp at h;exact⟨o,rfl,h⟩
theorem vR (d:Option Nat)(v:Value)(h:opv P ops i ρ w=some (d,true,.ok (.value v) w))(hd:dOK d N=true)(k:K (zm ρ d v) w):WPo P N ops i K ρ w:=by
 obtain⟨o,ho,rfl,hw,hr⟩:=yh h;refine WPo.run ho hw fun a ha=>?_;rw[hr,Rs];exact⟨_,ha.put _ (zS hd) v,k⟩
theorem vS (d:Option Nat)(h:opn ops i ρ=some (d,false))(hd:dOK d N=true)(k:K (zm ρ d undef) w):WPo P N ops i K ρ w:=by
 obtain⟨o,ho,rfl,hw⟩:=vQ h;intro a ha;unfold wpOp;simp only[ho,jM ha,hw];exact⟨_,ha.put _ (zS hd) undef,k⟩
theorem jq (d:Option Nat)(op:Op)(v:Value)(w':World)(h:opk ops i ρ=some (d,true,op))(hd:dOK d N=true)
 (hr: ∀o:Oper,o.op=op->(execOp (ev ρ) o).run P w=.ok (.value v) w') (k:K (zm ρ d v) w'):WPo P N ops i K ρ w:=by
 obtain⟨o,ho,rfl,hw,hop⟩:=zJ h;refine WPo.run ho hw fun a ha=>?_;rw[hr o hop,Rs];exact⟨_,ha.put _ (zS hd) v,k⟩
theorem zbv (d:Option Nat)(op:Op)(w':World)(h:opk ops i ρ=some (d,true,op))(hd:dOK d N=true)
 (hr: ∀o:Oper,o.op=op->(execOp (ev ρ) o).run P w=.ok .skip w') (k:K (zm ρ d undef) w'):WPo P N ops i K ρ w:=by
 obtain⟨o,ho,rfl,hw,hop⟩:=zJ h;refine WPo.run ho hw fun a ha=>?_;rw[hr o hop,Oper.upon_skip];exact⟨_,ha.put _ (zS hd) undef,k⟩
def aggSize (P:Program)(t:TypeId):Option Nat:=
 match P.underlying t with
 | some (.struct _) | some (.array _ _)=>(P.info? t).map (·.size)
 | _=>none
def oneCell (P:Program)(t:TypeId):Bool:=
 match P.underlying t with
 | some (.struct _) | some (.array _ _) | none=>false
 | _=>(P.info? t).map (·.size)==some 1
theorem zbw {t:TypeId}{n:Nat}(h:aggSize P t=some n):∃d,P.underlying t=some d/\(match d with | .struct _ | .array _ _=>true | _=>false)=true/\(P.info? t).map (·.size)=some n:=by
 unfold aggSize at h;cases hu:P.underlying t with
 | none=>rw[hu]at h;cases h
 | some d=>rw[hu]at h;cases d<;>first | (cases h;done) | exact⟨_,rfl,rfl,h⟩
theorem zbx {t:TypeId}(h:oneCell P t=true):∃d,P.underlying t=some d/\(match d with | .struct _ | .array _ _=>true | _=>false)=false/\(P.info? t).map (·.size)=some 1:=by
 unfold oneCell at h;cases hu:P.underlying t with
 | none=>rw[hu]at h;cases h
 | some d=>rw[hu]at h;cases d<;>first | (cases h;done) | exact⟨_,rfl,rfl,eq_of_beq h⟩
theorem jr {t:TypeId}{n b off:Nat}{C:Qd}{T:TypeId}{fz:Nat×Nat}(ht:aggSize P t=some n)(hh:w.heap[b]? =some (.cells C T fz))(hs:off+n<=C.size):
 (loadVar t ⟨b,off,none⟩).run P w=.ok (.agg (C.extract off (off+n))) w:=by
 obtain⟨d,hu,hd,hi⟩:=zbw ht;have hA:(isAgg t).run P w=.ok true w:=by cases d<;>simp_all [isAgg,run_underlying hu]
 have hS:(sizeOf t).run P w=.ok n w:=by
  cases hq:P.info? t with
  | none=>simp[hq]at hi
  | some i=>simp[hq]at hi;simp[sizeOf,typeInfo,hq,hi]
 have hC:(loadCells ⟨b,off,none⟩ n).run P w=.ok (C.extract off (off+n)) w:=by
  rw[run_loadCells w ⟨b,off,none⟩ n (fun j=>C.getD (off+j) undef) (fun j hj=>by
   have ha:(⟨b,off,none⟩:Addr).add j=⟨b,off+j,none⟩:=by unfold Addr.add;split<;>simp_all
   rw[ha];have:off+j<C.size:=by omega
   simp[RW,hh,this])]
  congr 1;apply Array.ext
  ·simp;omega
  ·intro j h1 h2;simp at h1 h2;have:off+j<C.size:=by omega
   simp[this]
 simp[loadVar,hA,hS,hC]
theorem xn {t:TypeId}{b off:Nat}{C:Qd}{T:TypeId}{fz:Nat×Nat}{v:Value}(ht:oneCell P t=true)(hh:w.heap[b]? =some (.cells C T fz))(hv:C[off]? =some v):
 (loadVar t ⟨b,off,none⟩).run P w=.ok v w:=by
 obtain⟨d,hu,hd,hi⟩:=zbx ht;have hA:(isAgg t).run P w=.ok false w:=by cases d<;>simp_all [isAgg,run_underlying hu]
 have hL:(load ⟨b,off,none⟩).run P w=.ok v w:=by
  rw[run_load];simp[RW,hh,hv]
 simp only[loadVar,QM,hA,QA,Rt,if_false,hL]
theorem zby (d:Option Nat)(t:TypeId)(x:Operand)(b:Nat)(C:Qd)(T:TypeId)(fz:Nat×Nat)(h:opk ops i ρ=some (d,true,.load t x))(hd:dOK d N=true)
 (hx:ev ρ x=Qe b) (hh:w.heap[b]? =some (.cells C T fz)) (ht:aggSize P t=some C.size) (k:K (zm ρ d (.agg C)) w):WPo P N ops i K ρ w:=
 jq d _ _ w h hd (fun o ho=>by
  have:=jr (w:=w) (off:=0) ht hh (by omega);have e:C.extract 0 (0+C.size)=C:=by simp
  rw[e]at this
  simp[execOp,ho,RI,Up,hx,this]) k
theorem jN {t:TypeId}{b off:Nat}{C:Qd}{T:TypeId}{v:Value}(hi:(P.info? t).map (·.size)=some v.cells.size)(h1:v.cells.all (·.oneCell')=true)
 (hh:w.heap[b]? =some (.cells C T)) (hs:off+v.cells.size<=C.size):
 (storeVar t ⟨b,off,none⟩ v).run P w=.ok () (w.setRow b (C.toList.take off++v.cells.toList++C.toList.drop (off+v.cells.size)).toArray):=by
 have hc:=run_storeCells_at (P:=P) b off T v.cells.toList 0 C w hh (by simpa using hs) (fun x hx=>(Array.all_eq_true_iff_forall_mem.1 h1) x (by simpa using hx));cases hq:P.info? t with
 | none=>simp[hq]at hi
 | some i=>
  have hsz:v.cells.size=i.size:=by simp[hq]at hi;omega
  simp[storeVar,sizeOf,typeInfo,hq,hsz]at hc⊢;exact hc
theorem zbz {B:Nat}{w0:World}{l:Qb}(HS:St B w0 w l)(k:Nat)(l':Qb)(d:Option Nat)(t:TypeId)(x y:Operand)(b off:Nat)(C C':Qd)(T:TypeId)(v:Value)
 (h:opk ops i ρ=some (d,true,.store t x y)) (hd:dOK d N=true)
 (hx:ev ρ x=.pointer (some ⟨b,off,none⟩)) (hy:ev ρ y=v) (hk:l[k]? =some (b,.cells C T)) (hi:(P.info? t).map (·.size)=some v.cells.size) (h1:v.cells.all (·.oneCell')=true)
 (hs:off+v.cells.size<=C.size) (hC:(C.toList.take off++v.cells.toList++C.toList.drop (off+v.cells.size)).toArray=C') (hl:l.set k (b,.cells C' T)=l')
 (kk: ∀w',St B w0 w' l'->K (zm ρ d undef) w'):WPo P N ops i K ρ w:=by
 subst hl;refine zbv d _ (w.setRow b C') h hd (fun o ho=>?_) (kk _ (HS.store k hk));have:=jN (P:=P) (w:=w) hi h1 (HS.get k hk) hs;rw[hC]at this;simp[execOp,ho,UK,Up,hx,hy,this]
theorem zbA {B:Nat}{w0:World}{l:Qb}(HS:St B w0 w l)(d:Option Nat)(t:TypeId)(z:Value)(h:opk ops i ρ=some (d,true,.alloc t))(hd:dOK d N=true)
 (hz:(P.info? t).bind (·.zero)=some z)
 (kk: ∀b w',St B w0 w' ((b,.cells z.cells t)::l)->K (zm ρ d (Qe b)) w'):WPo P N ops i K ρ w:=by
 refine jq d _ _ (w.alloc (.cells z.cells t)) h hd (fun o ho=>?_) (kk w.heap.size _ (HS.alloc _));cases hq:P.info? t with
 | none=>simp[hq]at hz
 | some i=>
  simp[hq]at hz;simp[execOp,ho,Instr.alloc,zeroValue,typeInfo,hq,hz,newVar,newRow,newObj];rfl
theorem zbB {B:Nat}{w0:World}{l:Qb}(HS:St B w0 w l)(d:Option Nat)(t:TypeId)(x:Operand)(v:Value)(h:opk ops i ρ=some (d,true,.box t x))(hd:dOK d N=true)
 (hx:ev ρ x=v)
 (kk: ∀b w',St B w0 w' ((b,.cells v.cells t)::l)->K (zm ρ d (Qe b)) w'):WPo P N ops i K ρ w:=by
 refine jq d _ _ (w.alloc (.cells v.cells t)) h hd (fun o ho=>?_) (kk w.heap.size _ (HS.alloc _));simp[execOp,ho,Instr.box,newVar,newRow,newObj,hx];rfl
def Fn (P:Program)(f:Nat)(args:Qd)(v:Value):Prop:= ∀w,Calls P f args w fun e w'=>e=.returned v/\Below w.heap.size w w'
def FnR (P:Program)(f:Nat)(args:Qd)(pre:World->Prop)(R:Nat->Value->World->Prop):Prop:=
 ∀w,pre w->Calls P f args w fun e w'=> ∃v,e=.returned v/\Below w.heap.size w w'/\R w.heap.size v w'
theorem zbC {B:Nat}{w0:World}{l:Qb}(HS:St B w0 w l)(d:Option Nat)(f:Nat)(args:Qd)(pre:World->Prop)(R:Nat->Value->World->Prop)(hc:FnR P f args pre R)(hp:pre w)
 (h:opv P ops i ρ w=some (d,true,.ok (.enter f args) w)) (hd:dOK d N=true)
 (kk: ∀v w',Below w.heap.size w w'->St B w0 w' l->R w.heap.size v w'->K (zm ρ d v) w'):WPo P N ops i K ρ w:=by
 obtain⟨o,ho,rfl,hw,hr⟩:=yh h;refine WPo.run ho hw fun a ha=>?_;rw[hr,Um];refine(hc w hp).mono ?_;rintro e w' ⟨v,rfl,hb,hR⟩;exact⟨_,ha.put _ (zS hd) v,kk v w' hb (HS.call hb) hR⟩
theorem zbD {B:Nat}{w0:World}{l:Qb}(HS:St B w0 w l)(d:Option Nat)(f:Nat)(args:Qd)(v:Value)(hc:Fn P f args v)
 (h: ∀w,opv P ops i ρ w=some (d,true,.ok (.enter f args) w)) (hd:dOK d N=true)
 (kk: ∀w',St B w0 w' l->K (zm ρ d v) w'):WPo P N ops i K ρ w:=by
 obtain⟨o,ho,rfl,hw,hr⟩:=yh (h w);refine WPo.run ho hw fun a ha=>?_;rw[hr,Um];refine(hc w).mono ?_;rintro e w' ⟨rfl,hb⟩;exact⟨_,ha.put _ (zS hd) v,kk w' (HS.call hb)⟩
end
inductive Res (P:Program)(w:World)(ρ:Env):List ResultVar->List Value->Prop
 | nil:Res P w ρ [] []
 | tmp {t:Nat} {rs:List ResultVar} {vs:List Value} (v:Value) (hv:ρ t=v) (h:Res P w ρ rs vs):Res P w ρ (.tmp t::rs) (v::vs)
 | agg {t b ty:Nat} {rs:List ResultVar} {vs:List Value} (C:Qd) (T:TypeId) (fz:Nat×Nat) (hv:ρ t=.pointer (some ⟨b,0,none⟩)) (hh:w.heap[b]? =some (.cells C T fz)) (ht:aggSize P ty=some C.size)
  (h:Res P w ρ rs vs):Res P w ρ (.cell t ty::rs) (.agg C::vs)
 | one {t b ty:Nat} {rs:List ResultVar} {vs:List Value} (v:Value) (C:Qd) (T:TypeId) (fz:Nat×Nat) (hv:ρ t=.pointer (some ⟨b,0,none⟩)) (hh:w.heap[b]? =some (.cells C T fz)) (ht:oneCell P ty=true)
  (hc:C[0]? =some v) (h:Res P w ρ rs vs):Res P w ρ (.cell t ty::rs) (v::vs)
theorem wV {a b c d}{p:List Value->Prop}(h:∃vs,Res a b c d vs/\p vs):∃vs,Res a b c d vs/\p vs:=h
def qz:List Value->Value
 | [v]=>v
 | vs=>.tuple vs.toArray
def jO (tmps:Qd):ResultVar->Sem Value
 | .tmp t=>pure (tmps.getD t undef)
 | .cell a t=>do loadVar t (<-asAddr (tmps.getD a undef))
theorem Res.mapM {P:Program}{w:World}{ρ:Env}{a:Act}{N:Nat}(ha:Rep a ρ N): ∀ {rs:List ResultVar} {vs:List Value},Res P w ρ rs vs->(rs.mapM (jO a.tmps)).run P w=.ok vs w
 | _,_,.nil=>rfl
 | _,_,.tmp v hv h=>by
  have e:=ha.at_ _ |>.trans hv;simp[List.mapM_cons,jO,e,Res.mapM ha h]
 | _,_,.agg C T fz hv hh ht h=>by
  have e:=ha.at_ _ |>.trans hv;have hl:=jr (w:=w) (off:=0) ht hh (by omega);have e2:C.extract 0 (0+C.size)=C:=by simp
  rw[e2]at hl;simp[List.mapM_cons,jO,e,asAddr,hl,Res.mapM ha h]
 | _,_,.one v C T fz hv hh ht hc h=>by
  have e:=ha.at_ _ |>.trans hv;have hl:=xn (w:=w) ht hh hc;simp[List.mapM_cons,jO,e,asAddr,hl,Res.mapM ha h]
theorem Res.run {P:Program}{w:World}{ρ:Env}{a:Act}{N:Nat}{fn:Func}{vs:List Value}(ha:Rep a ρ N)(h:Res P w ρ fn.results.toList vs):(results fn a.tmps).run P w=.ok (qz vs) w:=by
 have e:results fn a.tmps=(do let vs <-fn.results.mapM (jO a.tmps);pure (if h:vs.size=1 then vs[0] else .tuple vs)):=by
  unfold results;congr 1
 rw[e,Array.mapM_eq_mapM_toList];have:=Res.mapM ha h;simp only[map_eq_pure_bind,bind_assoc,pure_bind];rw[QM,this]
 match vs with
 | []=>rfl
 | [v]=>rfl
 | _::_::_=>rfl
def yW (P:Program)(rs:List ResultVar)(R:Value->World->Prop):Exit->Env->World->Prop
 | .normal,ρ,w | .ret,ρ,w=> ∃vs,Res P w ρ rs vs/\R (qz vs) w
 | _,_,_=>False
theorem yJ {P:Program}{f:Nat}{fn:Func}{c:Code}{rs:List ResultVar}{N:Nat}{args:Qd}{w:World}{R:Value->World->Prop}(hf:P.funcs[f]? =some fn)(hb:fn.body=some c)(hr:fn.results.toList=rs)(hn:args.size+(fn.ntmps-args.size)=N)
 (h:WP P N c (yW P rs R) (ini args) w):Calls P f args w fun e w'=> ∃v,e=.returned v/\R v w':=by
 subst hr;refine calls_of_wp hf hb (Go.wp_mono (h { tmps:=args++Rp (fn.ntmps-args.size) undef,defers:=[] } ⟨rfl,by simp[hn],fun t=>?_⟩) ?_)
 ·unfold ini;rw[jL,jL,Array.getElem?_append];split
  ·rfl
  ·rename_i hge
   rw[Array.getElem?_eq_none (UE hge)];cases he:(Rp (fn.ntmps-args.size) undef)[t-args.size]? with
   | none=>rfl
   | some v=>
    have:=Array.mem_of_getElem? he;simp at this;simp[this]
 ·rintro e a w' ⟨ρ,ha,hq⟩;cases e with
  | normal=>obtain⟨vs,hR,hv⟩:=hq;exact⟨ha.defers,_,hR.run ha,_,rfl,hv⟩
  | ret=>obtain⟨vs,hR,hv⟩:=hq;exact⟨ha.defers,_,hR.run ha,_,rfl,hv⟩
  | _=>exact(hq:False).elim
theorem Fn.intro {P:Program}{f:Nat}{fn:Func}{c:Code}(rs:List ResultVar)(N:Nat){args:Qd}{v:Value}(hf:P.funcs[f]? =some fn)(hb:fn.body=some c)(hr:fn.results.toList=rs)(hn:args.size+(fn.ntmps-args.size)=N)
 (h: ∀w,WP P N c (yW P rs fun v' w'=>v'=v/\Below w.heap.size w w') (ini args) w):Fn P f args v:=fun w=>
 (yJ hf hb hr hn (h w)).mono fun e w' ⟨v',he,hv,hb⟩=>by subst hv;exact⟨he,hb⟩
def zk (f:Func):Code:=f.body.getD .skip
def zG:Code->Code | .seq a _=>a | _=>.skip
def yK:Code->Code | .seq _ b=>b | _=>.skip
def yL:Code->Bool | .seq _ _=>true | _=>false
def je:Code->Operand | .cond x _ _=>x | _=>.const undef
def xo:Code->Code | .cond _ a _=>a | _=>.skip
def xp:Code->Code | .cond _ _ b=>b | _=>.skip
def jt:Code->Bool | .cond _ _ _=>true | _=>false
def qq:Code->Code | .block _ b=>b | .loop b=>b | .scope b=>b | _=>.skip
def xq:Code->Option Nat | .block i _=>some i | _=>none
def kx:Code->Bool | .loop _=>true | _=>false
def qM:Code->Bool | .ret=>true | _=>false
def xr:Code->Bool | .skip=>true | _=>false
def ky:Code->Option Nat | .exit i=>some i | _=>none
def zd:Code->Array Oper | .region _ ops _=>ops | _=>#[]
def qN:Code->Option (List Nat×Bool) | .region _ ops d=>some (QG ops.size,d) | _=>none
section
variable {P:Program}{N:Nat}{Q:Exit->Env->World->Prop}{K:Env->World->Prop}{ρ:Env}{w:World}{c:Code}
theorem zbE (h:yL c=true):c=.seq (zG c) (yK c):=by cases c<;>first | rfl | cases h
theorem vT (h:jt c=true):c=.cond (je c) (xo c) (xp c):=by cases c<;>first | rfl | cases h
theorem xt {l:List Nat}{d:Bool}(h:qN c=some (l,d)):∃id,c=.region id (zd c) d/\QG (zd c).size=l:=by
 cases c<;>first
  | (cases h;done)
  | (simp only[qN,Q1.injEq,Prod.mk.injEq]at h;obtain⟨h1,h2⟩:=h;subst h2;exact⟨_,rfl,h1⟩)
theorem zbF {i:Nat}(h:xq c=some i):c=.block i (qq c):=by
 cases c<;>first | (cases h;done) | (cases h;rfl)
theorem zbG (h:kx c=true):c=.loop (qq c):=by cases c<;>first | rfl | cases h
theorem zbH (h:qM c=true):c=.ret:=by cases c<;>first | rfl | cases h
theorem zbI (h:xr c=true):c=.skip:=by cases c<;>first | rfl | cases h
theorem zbJ {i:Nat}(h:ky c=some i):c=.exit i:=by cases c<;>first | (cases h;done) | (cases h;rfl)
theorem zb (hc:yL c=true)(h:WP P N (zG c) (nx (WP P N (yK c) Q) Q) ρ w):WP P N c Q ρ w:=by
 rw[zbE hc];exact WP.seq h
theorem zbK (l:List Nat)(hc:qN c=some (l,false))(h:WPs P N (zd c) K l ρ w):WP P N c (nx K Q) ρ w:=by
 obtain⟨id,he,hl⟩:=xt hc;rw[he];exact WP.region l hl h
theorem kC (l:List Nat)(hc:qN c=some (l,false))(h:WPs P N (zd c) (Q .normal) l ρ w):WP P N c Q ρ w:=by
 obtain⟨id,he,hl⟩:=xt hc;rw[he];exact WP.region l hl h
theorem zg (l:List Nat)(hc:yL c=true)(hr:qN (zG c)=some (l,false))(h:WPs P N (zd (zG c)) (WP P N (yK c) Q) l ρ w):WP P N c Q ρ w:=
 zb hc (zbK l hr h)
theorem zN (hc:jt c=true)(hx:ev ρ (je c)=.bool true)(ht:WP P N (xo c) Q ρ w):WP P N c Q ρ w:=by
 rw[vT hc];exact WP.cond_t hx ht
theorem zE (hc:jt c=true)(hx:ev ρ (je c)=.bool false)(ht:WP P N (xp c) Q ρ w):WP P N c Q ρ w:=by
 rw[vT hc];exact WP.cond_f hx ht
theorem yo (i:Nat)(hc:xq c=some i)(h:WP P N (qq c) (inb i Q) ρ w):WP P N c Q ρ w:=by
 rw[zbF hc];exact WP.block h
theorem zT (hc:qM c=true)(h:Q .ret ρ w):WP P N c Q ρ w:=by rw[zbH hc];exact WP.ret h
theorem zM (hc:xr c=true)(h:Q .normal ρ w):WP P N c Q ρ w:=by rw[zbI hc];exact WP.skip h
theorem qe (i:Nat)(hc:ky c=some i)(h:Q (.exit i) ρ w):WP P N c Q ρ w:=by rw[zbJ hc];exact WP.exit h
theorem qP (hc:kx c=true)(I:Nat->Env->World->Prop)(n:Nat)(h0:I n ρ w)
 (round: ∀n ρ w,I n ρ w->WP P N (qq c) (nx (fun ρ' w'=> ∃m,m<n/\I m ρ' w') Q) ρ w):WP P N c Q ρ w:=by
 rw[zbG hc];exact WP.loop I n h0 round
theorem kD {Q':Exit->Env->World->Prop}(h:WP P N c Q ρ w)(hq: ∀e ρ w,Q e ρ w->Q' e ρ w):WP P N c Q' ρ w:=WP.mono h hq
end
section
variable {P:Program}{N:Nat}{ops:Array Oper}{i:Nat}{r:List Nat}{K:Env->World->Prop}{ρ:Env}{w:World}{B:Nat}{w0:World}{l:Qb}
theorem zc (h:K ρ w):WPs P N ops K [] ρ w:=h
theorem zn (d:Option Nat)(v:Value)(h: ∀w,opv P ops i ρ w=some (d,true,.ok (.value v) w))(hd:dOK d N=true)(k:WPs P N ops K r (zm ρ d v) w):WPs P N ops K (i::r) ρ w:=vR d v (h w) hd k
theorem jP (d:Option Nat)(v v':Value)(h: ∀w,opv P ops i ρ w=some (d,true,.ok (.value v) w))(e:v=v')(hd:dOK d N=true)(k:WPs P N ops K r (zm ρ d v') w):WPs P N ops K (i::r) ρ w:=vR d v (h w) hd (by rw[e];exact k)
theorem zbL (d:Option Nat)(op:Op)(v:Value)(h:opk ops i ρ=some (d,true,op))(hd:dOK d N=true)(hr: ∀(o:Oper) w,o.op=op->(execOp (ev ρ) o).run P w=.ok (.value v) w)(k:WPs P N ops K r (zm ρ d v) w):WPs P N ops K (i::r) ρ w:=
 jq d op v w h hd (fun o ho=>hr o w ho) k
theorem vU (d:Option Nat)(op:Op)(v v':Value)(h:opk ops i ρ=some (d,true,op))(hr: ∀(o:Oper) w,o.op=op->(execOp (ev ρ) o).run P w=.ok (.value v) w)(e:v=v')(hd:dOK d N=true)(k:WPs P N ops K r (zm ρ d v') w):WPs P N ops K (i::r) ρ w:=
 jq d op v w h hd (fun o ho=>hr o w ho) (by rw[e];exact k)
theorem ju (d:Option Nat)(h:opn ops i ρ=some (d,false))(hd:dOK d N=true)(k:WPs P N ops K r (zm ρ d undef) w):WPs P N ops K (i::r) ρ w:=vS d h hd k
theorem yw (HS:St B w0 w l)(d:Option Nat)(t:TypeId)(x:Operand)(j b:Nat)(C:Qd)(T:TypeId)(fz:Nat×Nat)(h:opk ops i ρ=some (d,true,.load t x))(hd:dOK d N=true)
 (hx:ev ρ x=Qe b) (hj:l[j]? =some (b,.cells C T fz)) (ht:aggSize P t=some C.size) (k:WPs P N ops K r (zm ρ d (.agg C)) w):WPs P N ops K (i::r) ρ w:=
 zby d t x b C T fz h hd hx (HS.get j hj) ht k
theorem yX (HS:St B w0 w l)(j:Nat)(l':Qb)(t:TypeId)(x y:Operand)(b off:Nat)(C C':Qd)(T:TypeId)(v:Value)
 (h:opk ops i ρ=some (none,true,.store t x y))
 (hx:ev ρ x=.pointer (some ⟨b,off,none⟩)) (hy:ev ρ y=v) (hk:l[j]? =some (b,.cells C T)) (hi:(P.info? t).map (·.size)=some v.cells.size) (h1:v.cells.all (·.oneCell')=true)
 (hs:off+v.cells.size<=C.size) (hC:(C.toList.take off++v.cells.toList++C.toList.drop (off+v.cells.size)).toArray=C') (hl:l.set j (b,.cells C' T)=l')
 (kk: ∀w',St B w0 w' l'->WPs P N ops K r ρ w'):WPs P N ops K (i::r) ρ w:=
 zbz HS j l' none t x y b off C C' T v h rfl hx hy hk hi h1 hs hC hl kk
theorem zU (HS:St B w0 w l)(d:Option Nat)(t:TypeId)(z:Value)(h:opk ops i ρ=some (d,true,.alloc t))(hd:dOK d N=true)
 (hz:(P.info? t).bind (·.zero)=some z)
 (kk: ∀b w',St B w0 w' ((b,.cells z.cells t)::l)->WPs P N ops K r (zm ρ d (Qe b)) w'):WPs P N ops K (i::r) ρ w:=
 zbA HS d t z h hd hz kk
theorem yR (HS:St B w0 w l)(d:Option Nat)(t:TypeId)(x:Operand)(v:Value)(h:opk ops i ρ=some (d,true,.box t x))(hd:dOK d N=true)
 (hx:ev ρ x=v)
 (kk: ∀b w',St B w0 w' ((b,.cells v.cells t)::l)->WPs P N ops K r (zm ρ d (Qe b)) w'):WPs P N ops K (i::r) ρ w:=
 zbB HS d t x v h hd hx kk
theorem qQ (HS:St B w0 w l)(d:Option Nat)(f:Nat)(args:Qd)(v:Value)(hc:Fn P f args v)
 (h: ∀w,opv P ops i ρ w=some (d,true,.ok (.enter f args) w)) (hd:dOK d N=true)
 (kk: ∀w',St B w0 w' l->WPs P N ops K r (zm ρ d v) w'):WPs P N ops K (i::r) ρ w:=zbD HS d f args v hc h hd kk
end
def yE:List (Nat×Value)->Env->Env
 | [],ρ=>ρ
 | (t,v)::r,ρ=>upd (yE r ρ) t v
def xu (ρ:Env):List (Nat×Value)->Prop
 | []=>True
 | (t,v)::r=>ρ t=v/\xu ρ r
theorem jv {ρ:Env}{t:Nat}{v:Value}(h:ρ t=v):upd ρ t v=ρ:=by
 funext k;unfold upd;cases hb:Qv k t with
 | false=>rfl
 | true=>rw[Qn hb,h];rfl
theorem kE {ρ:Env} : ∀ {l:List (Nat×Value)},xu ρ l->yE l ρ=ρ
 | [],_=>rfl
 | (t,v)::r,⟨h,hr⟩=>by rw[yE,kE hr,jv h]
def Is (l:List (Nat×Value))(ρ:Env):Prop:=∃ρ',ρ=yE l ρ'
theorem Is.of {ρ:Env}{l:List (Nat×Value)}(h:xu ρ l):Is l ρ:=⟨ρ,(kE h).symm⟩
def FnP (P:Program)(f:Nat)(args:Qd)(pre:World->Prop)(v:Value):Prop:= ∀w,pre w->Calls P f args w fun e w'=>e=.returned v/\Below w.heap.size w w'
theorem FnP.intro {P:Program}{f:Nat}{fn:Func}{c:Code}(rs:List ResultVar)(N:Nat){args:Qd}{pre:World->Prop}{v:Value}(hf:P.funcs[f]? =some fn)(hb:fn.body=some c)(hr:fn.results.toList=rs)(hn:args.size+(fn.ntmps-args.size)=N)
 (h: ∀w,pre w->WP P N c (yW P rs fun v' w'=>v'=v/\Below w.heap.size w w') (ini args) w):FnP P f args pre v:=fun w hp=>
 (yJ hf hb hr hn (h w hp)).mono fun e w' ⟨v',he,hv,hb⟩=>by subst hv;exact⟨he,hb⟩
section
variable {P:Program}{N:Nat}{ops:Array Oper}{i:Nat}{r:List Nat}{K:Env->World->Prop}{ρ:Env}{w:World}{B:Nat}{w0:World}{l:Qb}
theorem yY (HS:St B w0 w l)(d:Option Nat)(f:Nat)(args:Qd)(pre:World->Prop)(v:Value)(hc:FnP P f args pre v)(hp:pre w)
 (h: ∀w,opv P ops i ρ w=some (d,true,.ok (.enter f args) w)) (hd:dOK d N=true)
 (kk: ∀w',St B w0 w' l->WPs P N ops K r (zm ρ d v) w'):WPs P N ops K (i::r) ρ w:=
 zbC HS d f args pre (fun _ v' _=>v'=v) (fun w hp=>(hc w hp).mono fun e w' ⟨he,hb⟩=>⟨v,he,hb,rfl⟩) hp (h w) hd (fun v' w' _ HS' e=>by subst e;exact kk w' HS')
end
theorem za {a b:Bool}(h:a=b):Value.bool a=.bool b:=by rw[h]
theorem ze {k:IntKind}{a b:Int}(h:a=b):Value.int k a=.int k b:=by rw[h]
theorem wrap_i64 {a:Int}(h0: -0x8000000000000000<=a)(h1:a<=0x7fffffffffffffff):Qo.wrap a=a:=by rw[IntKind.wrap_i64];omega
theorem vV {P:Program}{ρ:Env}{o:Oper}{c:Call}{x:Operand}{f:Nat}{args:Qd}{w:World}(ho:o.op=.call c)(hc:c.callee=.value x)(hx:ev ρ x=.func (.func f) #[] #[])(ha:c.args.map (ev ρ)=args):
 (execOp (ev ρ) o).run P w=(callFunc f args).run P w:=by
 simp[execOp,ho,resolve,hc,hx,ha,Deferred.ofValue,invoke]
def Runs (P:Program)(S:Value->World->Prop):Result Next->Prop
 | .ok (.value v) w'=>S v w'
 | .ok .skip w'=>S undef w'
 | .ok (.enter f args) w'=>Calls P f args w' fun e w''=> ∃v,e=.returned v/\S v w''
 | _=>False
def put1 (L:Nat->Bool)(i:Nat):Nat->Bool:=fun j=>Qv j i||L j
def setN (g:Nat->Nat)(i b:Nat):Nat->Nat:=fun j=>bif Qv j i then b else g j
theorem setN_self (g:Nat->Nat)(i:Nat):setN g i (g i)=g:=by
 funext j;unfold setN;cases hb:Qv j i with
 | false=>rfl
 | true=>rw[Qn hb];rfl
def at_:List (Option Nat×(Nat->Value))->(Nat->Nat)->Nat->List (Option Nat×Value)
 | [],_,_=>[]
 | (d,f)::r,g,k=>(d,f (g k))::at_ r g (k+1)
theorem at_get: ∀ {l:List (Option Nat×(Nat->Value))} {g:Nat->Nat} {k i:Nat},(at_ l g k)[i]? =(l[i]?).map fun (d,f)=>(d,f (g (k+i)))
 | [],g,k,i=>by simp[at_]
 | (d,f)::r,g,k,0=>by simp[at_]
 | (d,f)::r,g,k,i+1=>by
  have:=at_get (l:=r) (g:=g) (k:=k+1) (i:=i);simp only[at_,List.getElem?_cons_succ,this,show k+1+i=k+(i+1) by omega]
theorem at_map: ∀ {l:List (Option Nat×(Nat->Value))} {g:Nat->Nat} {k:Nat},(at_ l g k).map (·.1)=l.map (·.1)
 | [],g,k=>rfl
 | (d,f)::r,g,k=>by simp only[at_,QK,at_map (l:=r)]
theorem at_map0 (vs:List (Option Nat×(Nat->Value)))(g:Nat->Nat):(at_ vs g 0).map (·.1)=vs.map (·.1):=at_map
def Closed (ops:Array Oper)(L:Nat->Bool):Prop:= ∀j o,L j=true->ops[j]? =some o-> ∀e∈o.after,QT .any e=true->L e.on=true
def Gives (P:Program)(ops:Array Oper)(R:(Nat->Nat)->Env)(pre:(Nat->Bool)->(Nat->Nat)->World->Prop)(i:Nat)(d:Option Nat)(f:Nat->Value):Prop:=
 ∀L g w,pre L g w->L i=false->(∀o,ops[i]? =some o-> ∀e∈o.after,QT .any e=true->L e.on=true)->Closed ops L->∃o,ops[i]? =some o/\o.dst=d/\
  ((Qz o (zy ops (R g))=false/\f (g i)=undef/\pre (put1 L i) g w)\/(Qz o (zy ops (R g))=true/\Runs P (fun v w'=> ∃b,v=f b/\pre (put1 L i) (setN g i b) w') ((execOp (ev (R g)) o).run P w)))
def GivesAll (P:Program)(ops:Array Oper)(R:(Nat->Nat)->Env)(pre:(Nat->Bool)->(Nat->Nat)->World->Prop):List (Option Nat×(Nat->Value))->Nat->Prop
 | [],_=>True
 | (d,f)::r,i=>Gives P ops R pre i d f/\GivesAll P ops R pre r (i+1)
def slots:List (Option Nat×Value)->List (Nat×Value)
 | []=>[]
 | (some d,V)::r=>(d,V)::slots r
 | (none,_)::r=>slots r
theorem GivesAll.get {P:Program}{ops:Array Oper}{R:(Nat->Nat)->Env}{pre:(Nat->Bool)->(Nat->Nat)->World->Prop} : ∀ {l:List (Option Nat×(Nat->Value))} {k:Nat},GivesAll P ops R pre l k-> ∀ {i:Nat} {d:Option Nat} {f:Nat->Value},l[i]? =some (d,f)->Gives P ops R pre (k+i) d f
 | [],_,_,_,_,_,h=>by simp at h
 | (d,V)::r,k,⟨h,hr⟩,0,_,_,hi=>by simp at hi;obtain⟨rfl,rfl⟩:=hi;exact h
 | (d,V)::r,k,⟨h,hr⟩,i+1,_,_,hi=>by
  have:=hr.get (i:=i) (by simpa using hi)
  rwa [show k+1+i=k+(i+1) by omega]at this
def opTmps (o:Oper):List Nat:=o.op.operands.toList.filterMap fun | .tmp t=>some t | _=>none
def notSelect (o:Oper):Bool:=match o.op with | .select .. =>false | _=>true
def opOK (ds:List (Option Nat))(i:Nat)(o:Oper):Bool:=
 (some o.dst==ds[i]?)&&notSelect o&&
 (o.after.toList.all fun e=> !Region.binds .any e||Uh e.on i)&&
 ((opTmps o).all fun t=> !ds.contains (some t)||o.after.toList.any fun e=>QT .any e&&ds[e.on]? ==some (some t))&&
 (match o.guard with | none=>true | some (j,_)=>o.after.toList.any fun e=>QT .any e&&e.on==j)
def nodupO:List (Option Nat)->Bool
 | []=>true
 | none::r=>nodupO r
 | some x::r=> !r.contains (some x)&&nodupO r
def nodupB:List Nat->Bool
 | []=>true
 | x::r=> !r.contains x&&nodupB r
def drawOK (ops:Array Oper)(ds:List (Option Nat))(N:Nat):Bool:=
 (ops.size==ds.length)&&nodupO ds&&(ds.all fun d=>dOK d N)&&(ops.toList.zipIdx.all fun (o,i)=>opOK ds i o)
theorem slots_mem: ∀ {l:List (Option Nat×Value)} {t:Nat},t∈(slots l).map (·.1)↔some t∈l.map (·.1)
 | [],t=>by simp[slots]
 | (some d,V)::r,t=>by simp only[slots,QK,QN,slots_mem (l:=r)];simp
 | (none,V)::r,t=>by simp only[slots,QK,QN,slots_mem (l:=r)];simp
theorem slots_nodup: ∀ {l:List (Option Nat×Value)},nodupO (l.map (·.1))=true->nodupB ((slots l).map (·.1))=true
 | [],_=>rfl
 | (some d,V)::r,h=>by
  simp only[QK,nodupO,Qm,Rn]at h;simp only[slots,QK,nodupB,Qm,Rn];refine⟨?_,slots_nodup h.2⟩;have h1:=h.1;rw[<-Uf]at h1⊢
  simpa only[RM,slots_mem] using h1
 | (none,V)::r,h=>slots_nodup (l:=r) h
theorem slots_get: ∀ {l:List (Option Nat×Value)} {i d:Nat} {V:Value},l[i]? =some (some d,V)->∃j:Nat,(slots l)[j]? =some (d,V)
 | [],_,_,_,h=>by simp at h
 | (some d,V)::r,0,_,_,h=>by simp at h;obtain⟨rfl,rfl⟩:=h;exact⟨0,rfl⟩
 | (none,V)::r,0,_,_,h=>by simp at h
 | (some d,V)::r,i+1,_,_,h=>by obtain⟨j,hj⟩:=slots_get (l:=r) (by simpa using h);exact⟨j+1,by simpa [slots] using hj⟩
 | (none,V)::r,i+1,_,_,h=>by obtain⟨j,hj⟩:=slots_get (l:=r) (by simpa using h);exact⟨j,by simpa [slots] using hj⟩
theorem setAll_in: ∀ {l:List (Nat×Value)} {ρ:Env},nodupB (l.map (·.1))=true-> ∀ {i d:Nat} {V:Value},l[i]? =some (d,V)->yE l ρ d=V
 | [],_,_,_,_,_,h=>by simp at h
 | (d,V)::r,ρ,hn,0,_,_,h=>by
  simp at h;obtain⟨rfl,rfl⟩:=h;show (bif Qv d d then V else _)=V;rw[Q4];rfl
 | (d,V)::r,ρ,hn,i+1,d',V',h=>by
  have hr:r[i]? =some (d',V'):=by simpa using h
  simp[nodupB]at hn;have hne:Qv d' d=false:=by
   cases hb:Qv d' d with
   | false=>rfl
   | true=>
    have:=Qn hb;subst this;exact absurd (Qp hr) (hn.1 _)
  show (bif Qv d' d then V else yE r ρ d')=V';rw[hne];exact setAll_in hn.2 hr
theorem setAll_out: ∀ {l:List (Nat×Value)} {ρ:Env} {t:Nat},t∉l.map (·.1)->yE l ρ t=ρ t
 | [],_,_,_=>rfl
 | (d,V)::r,ρ,t,h=>by
  simp at h;have hne:Qv t d=false:=by
   cases hb:Qv t d with
   | false=>rfl
   | true=>exact absurd (Qn hb) h.1
  show (bif Qv t d then V else yE r ρ t)=_;rw[hne];exact setAll_out (by simpa using h.2)
section
variable {P:Program}{N:Nat}{ops:Array Oper}{Q:Exit->Env->World->Prop}{K:Env->World->Prop}{ρ:Env}{w:World}{vs:List (Option Nat×(Nat->Value))}{pre:(Nat->Bool)->(Nat->Nat)->World->Prop}
def fin_ (vs:List (Option Nat×(Nat->Value)))(ρ:Env)(g:Nat->Nat):Env:=yE (slots (at_ vs g 0)) ρ
def ran (L:Array Bool):Nat->Bool:=fun j=>L.getD j false
def Mid (ρ:Env)(vs:List (Option Nat×(Nat->Value)))(g:Nat->Nat)(L:Nat->Bool)(ρ':Env):Prop:=
 ∀t,(∀i f,L i=true->vs[i]? =some (some t,f)->ρ' t=f (g i))/\((∀i,L i=true->(vs.map (·.1))[i]? ≠some (some t))->ρ' t=ρ t)
theorem ran_set {L:Array Bool}{i:Nat}(hi:i<L.size):ran (L.setIfInBounds i true)=put1 (ran L) i:=by
 funext j;unfold ran put1;by_cases hij:i=j
 ·subst hij;rw[Q4];simp[hi]
 ·have:Qv j i=false:=by
   cases hb:Qv j i with
   | false=>rfl
   | true=>exact absurd (Qn hb).symm hij
  rw[getD_set_ne false hij,this];rfl
theorem put1_or {L:Nat->Bool}{i j:Nat}(h:put1 L i j=true):j=i\/L j=true:=by
 unfold put1 at h;cases hb:Qv j i with
 | false=>rw[hb]at h;exact .inr h
 | true=>exact .inl (Qn hb)
theorem put1_self (L:Nat->Bool)(i:Nat):put1 L i i=true:=by unfold put1;rw[Q4];rfl
theorem put1_of {L:Nat->Bool}{i j:Nat}(h:L j=true):put1 L i j=true:=by unfold put1;rw[h,Bool.or_true]
theorem nodupO_inj: ∀ {l:List (Option Nat)},nodupO l=true-> ∀ {i j x:Nat},l[i]? =some (some x)->l[j]? =some (some x)->i=j
 | [],_,_,_,_,h,_=>by simp at h
 | none::r,h,0,_,_,hi,_=>by simp at hi
 | none::r,h,_+1,0,_,_,hj=>by simp at hj
 | none::r,h,i+1,j+1,x,hi,hj=>congrArg (·+1) (nodupO_inj (l:=r) h (x:=x) (by simpa using hi) (by simpa using hj))
 | some y::r,h,0,0,_,_,_=>rfl
 | some y::r,h,0,j+1,x,hi,hj=>by
  simp[nodupO]at h hi hj;subst hi;exact absurd (Qp hj) h.1
 | some y::r,h,i+1,0,x,hi,hj=>by
  simp[nodupO]at h hi hj;subst hj;exact absurd (Qp hi) h.1
 | some y::r,h,i+1,j+1,x,hi,hj=>by
  simp[nodupO]at h hi hj;exact congrArg (·+1) (nodupO_inj (l:=r) h.2 (x:=x) (by simpa using hi) (by simpa using hj))
theorem fin_in (hnd:nodupO (vs.map (·.1))=true){g:Nat->Nat}{i t:Nat}{f:Nat->Value}(h:vs[i]? =some (some t,f)):fin_ vs ρ g t=f (g i):=by
 have h1:(at_ vs g 0)[i]? =some (some t,f (g i)):=by rw[at_get,h];simp
 obtain⟨j,hj⟩:=slots_get h1;exact setAll_in (slots_nodup (Eq.mpr (congrArg (fun l=>nodupO l=true) (at_map0 vs g)) hnd)) hj
theorem fin_out {g:Nat->Nat}{t:Nat}(h:some t∉vs.map (·.1)):fin_ vs ρ g t=ρ t:=
 setAll_out (fun h'=>h (Eq.mp (congrArg (fun l=>some t∈l) (at_map0 vs g)) (slots_mem.1 h')))
theorem draw_step (hok:drawOK ops (vs.map (·.1)) N=true)(hg:GivesAll P ops (fin_ vs ρ) pre vs 0){i:Nat}{L:Array Bool}(hi:i∈Q0 .any ops L)
 {a:Act} {ρ':Env} {g:Nat->Nat} (ha:Rep a ρ' N) (hm:Mid ρ vs g (ran L) ρ') (hL:L.size=ops.size) (hcl:Closed ops (ran L)) (hp:pre (ran L) g w)
 {QQ:Exit->Act->World->Prop} {KK:Act->World->Prop} (hK: ∀a' ρ'' g' w',Rep a' ρ'' N->Mid ρ vs g' (put1 (ran L) i) ρ''->Closed ops (put1 (ran L) i)->pre (put1 (ran L) i) g' w'->KK a' w'):
 wpOp P ops QQ i KK a w:=by
 simp only[drawOK,Qm,QL,beq_iff_eq]at hok;obtain⟨⟨⟨hsz,hnd⟩,hN⟩,hops⟩:=hok;obtain⟨hun,o,ho,hready⟩:=mem_ready.1 hi;have hilt:i<ops.size:=(QI.1 ho).1
 have hoi:opOK (vs.map (·.1)) i o=true:=hops (o,i) (by
  rw[QV];refine⟨i,?_⟩;rw[Q6]
  simp[ho])
 simp only[opOK,Qm]at hoi;obtain⟨⟨⟨⟨hdst,hsel⟩,hback⟩,hreads⟩,hguard⟩:=hoi;have hivs:i<vs.length:=by rw[RQ]at hsz;omega
 obtain⟨⟨d,f⟩,hv⟩:∃p,vs[i]? =some p:=⟨_,Ql hivs⟩
 have hd:o.dst=d:=by
  have:=eq_of_beq hdst
  simpa [hv] using this
 have hdN: ∀k,d=some k->k<N:=zS (hN d (Rq.2 ⟨(d,f),Qp hv,rfl⟩));have hunL:ran L i=false:=by
  have hlt:i<L.size:=by omega
  unfold ran;simpa [hlt] using hun
 have hcl':Closed ops (put1 (ran L) i):=by
  intro j oj hj hoj e he hb;rcases put1_or hj with rfl | hj
  ·rw[ho]at hoj;obtain rfl:=Q1.inj hoj;exact put1_of (hready e he hb)
  ·exact put1_of (hcl j oj hj hoj e he hb)
 have look: ∀t,((vs.map (·.1)).contains (some t)=true->∃e∈o.after.toList,QT .any e=true/\(vs.map (·.1))[e.on]? =some (some t))->ρ' t=fin_ vs ρ g t:=by
  intro t ht;by_cases hc:(vs.map (·.1)).contains (some t)=true
  ·obtain⟨e,he,hb,hdt⟩:=ht hc;rw[QY]at hdt;cases hve:vs[e.on]? with
   | none=>rw[hve]at hdt;cases hdt
   | some p=>
    obtain⟨d1,f1⟩:=p;rw[hve]at hdt;simp at hdt;subst hdt;rw[fin_in hnd hve];exact(hm t).1 e.on f1 (hready e (by simpa using he) hb) hve
  ·have hnot:some t∉vs.map (·.1):=by simpa using hc
   rw[fin_out hnot];exact(hm t).2 fun j hj heq=>hnot (Qp heq)
 have hops': ∀x∈o.op.operands,ev ρ' x=ev (fin_ vs ρ g) x:=by
  intro x hx;cases x with
  | tmp t=>
   have hmem:t∈opTmps o:=List.mem_filterMap.2 ⟨.tmp t,by simpa using hx,rfl⟩;have:=QL.1 hreads t hmem;refine look t fun hc=>?_;rw[hc]at this;simp only[RL,Ub,Q2]at this;obtain⟨e,he,hb⟩:=this;simp only[Qm,beq_iff_eq]at hb;exact⟨e,he,hb⟩
  | _=>rfl
 have hexec:execOp (ev ρ') o=execOp (ev (fin_ vs ρ g)) o:=execOp_congr o (fun cs b he=>by simp[notSelect,he]at hsel) hops';have hwant:Qz o (zy ops ρ')=Qz o (zy ops (fin_ vs ρ g)):=by
  unfold Qz;cases hgd:o.guard with
  | none=>rfl
  | some gd=>
   obtain⟨j,b⟩:=gd;have:zy ops ρ' j=zy ops (fin_ vs ρ g) j:=by
    unfold zy;cases hj:(ops[j]?).bind (·.dst) with
    | none=>rfl
    | some t=>
     simp only[hgd,Q2,Qm,beq_iff_eq]at hguard;obtain⟨e,he,hb,hon⟩:=hguard;have hjds:(vs.map (·.1))[j]? =some (some t):=by
      cases hoj:ops[j]? with
      | none=>simp[hoj]at hj
      | some oj=>
       have hjj:opOK (vs.map (·.1)) j oj=true:=hops (oj,j) (by
        rw[QV];refine⟨j,?_⟩;rw[Q6]
        simp[hoj])
       simp only[opOK,Qm,beq_iff_eq]at hjj;have:=hjj.1.1.1.1;simp[hoj]at hj;rw[<-this,hj]
     simp only[look t fun _=>⟨e,he,hb,by rw[hon];exact hjds⟩]
   simp only[this]
 have hmid: ∀b,Mid ρ vs (setN g i b) (put1 (ran L) i) (zm ρ' d (f b)):=by
  intro b t;have hds:(vs.map (·.1))[i]? =some d:=by simp[hv]
  by_cases htd:d=some t
  ·subst htd;have e:zm ρ' (some t) (f b) t=f b:=by
    show (bif Qv t t then f b else _)=f b;rw[Q4];rfl
   refine⟨fun j f1 hj hvj=>?_,fun hn=>absurd hds (hn i (put1_self _ _))⟩;have hji:j=i:=nodupO_inj hnd (by rw[QY,hvj];rfl) hds;subst hji;rw[hv]at hvj;obtain rfl:f1=f:=by simpa using hvj.symm
   rw[e];unfold setN;rw[Q4];rfl
  ·have e:zm ρ' d (f b) t=ρ' t:=by
    cases d with
    | none=>rfl
    | some k=>
     have hne:Qv t k=false:=by
      cases hb:Qv t k with
      | false=>rfl
      | true=>exact absurd (by rw[Qn hb]) htd
     show (bif Qv t k then f b else ρ' t)=ρ' t;rw[hne];rfl
   rw[e];refine⟨fun j f1 hj hvj=>?_,fun hn=>(hm t).2 fun j hj=>hn j (put1_of hj)⟩;have hji:j≠i:=by
    rintro rfl;rw[hv]at hvj;have:d=some t:=by simpa using congrArg (Option.map (·.1)) hvj
    exact htd this
   have hLj:ran L j=true:=(put1_or hj).resolve_left hji;have hN':setN g i b j=g j:=by
    unfold setN;cases hb:Qv j i with
    | false=>rfl
    | true=>exact absurd (Qn hb) hji
   rw[hN'];exact(hm t).1 j f1 hLj hvj
 have hgi:=hg.get hv;rw[Qy]at hgi
 obtain⟨o',ho',hd',hrun⟩:=hgi (ran L) g w hp hunL (fun o1 ho1 e he hb=>by
  rw[ho]at ho1;obtain rfl:=Q1.inj ho1;exact hready e he hb) hcl
 have:o'=o:=by rw[ho]at ho';exact(Q1.inj ho').symm
 subst this;have hput: ∀v,Rep (a.put o'.dst v) (zm ρ' d v) N:=fun v=>by
  have:=ha.put o'.dst (fun k hk=>hdN k (by rw[<-hd,hk])) v
  rwa [hd]at this⊢
 unfold wpOp;simp only[ho,jM ha,hwant];rcases hrun with⟨hwf,hV,hp'⟩ | ⟨hwt,hR⟩
 ·simp only[hwf,Rt,if_false];refine hK _ _ g _ (hput undef) ?_ hcl' hp';have:=hmid (g i)
  rwa [setN_self,hV]at this
 ·simp only[hwt,if_true];refine .inl ?_;unfold U9;rw[ha.eval,hexec];generalize (execOp (ev (fin_ vs ρ g)) o').run P w=r at hR;cases r with
  | halt h w'=>exact hR.elim
  | ok n w'=>
   cases n with
   | value v=>obtain⟨b,rfl,hb⟩:=hR;exact hK _ _ _ _ (hput _) (hmid b) hcl' hb
   | skip=>obtain⟨b,hu,hb⟩:=hR;exact hK _ _ _ _ (by have:=hput undef;rwa [hu]at this⊢) (hmid b) hcl' hb
   | enter f' args=>
    refine R4 hR fun e w'' he=>?_;obtain⟨v,rfl,b,rfl,hb⟩:=he;exact hK _ _ _ _ (hput _) (hmid b) hcl' hb
   | _=>exact hR.elim
theorem draw_any (hok:drawOK ops (vs.map (·.1)) N=true)(hg:GivesAll P ops (fin_ vs ρ) pre vs 0)
 (hfin: ∀L g w',(∀i,i<ops.size->L i=true)->pre L g w'->Q .normal (fin_ vs ρ g) w'):
 ∀(fuel:Nat) (L:Array Bool),L.size=ops.size->(L.toList.countP (! ·))<=fuel-> ∀(a:Act) (ρ':Env) (g:Nat->Nat) (w:World),Rep a ρ' N->Mid ρ vs g (ran L) ρ'->Closed ops (ran L)->pre (ran L) g w->
  wpAny P .any ops (qy N Q) fuel L a w:=by
 have hdone: ∀(L:Array Bool),L.size=ops.size->Q0 .any ops L=[]-> ∀(a:Act) (ρ':Env) (g:Nat->Nat) (w:World),Rep a ρ' N->Mid ρ vs g (ran L) ρ'->pre (ran L) g w->qy N Q .normal a w:=by
  intro L hL hr a ρ' g w ha hm hp;have hok':=hok;simp only[drawOK,Qm,QL,beq_iff_eq]at hok';obtain⟨⟨⟨hsz,hnd⟩,hN⟩,hops⟩:=hok';have hall: ∀i,i<ops.size->ran L i=true:=by
   intro i
   induction i using Nat.strongRecOn with
   | _ i ih=>
    intro hi;cases hb:ran L i with
    | true=>rfl
    | false=>
     have hmem:i∈Q0 .any ops L:=by
      refine mem_ready.2 ⟨?_,ops[i],Q5 hi,fun e he hbd=>?_⟩
      ·have hlt:i<L.size:=by omega
       unfold ran at hb;simp[hlt]at hb⊢;exact hb
      ·have hoi:opOK (vs.map (·.1)) i ops[i]=true:=hops (ops[i],i) (by
        rw[QV];refine⟨i,?_⟩;rw[Q6]
        simp[hi])
       simp only[opOK,Qm]at hoi;have:=QL.1 hoi.1.1.2 e (by simpa using he);rw[hbd]at this;have hlt:e.on<i:=Qr this;exact ih e.on hlt (by omega)
     rw[hr]at hmem;cases hmem
  have heq:ρ'=fin_ vs ρ g:=by
   funext t;by_cases ht:some t∈vs.map (·.1)
   ·obtain⟨i,hi,hit⟩:=Un ht;have hi':i<vs.length:=by simpa using hi
    obtain⟨⟨d,f⟩,hv⟩:∃p,vs[i]? =some p:=⟨_,Ql hi'⟩
    have hd:d=some t:=by
     rw[List.getElem_map]at hit;rw[Ql hi']at hv;rw[Q1.inj hv]at hit;exact hit
    subst hd;rw[fin_in hnd hv];exact(hm t).1 i f (hall i (by rw[hsz];exact hi)) hv
   ·rw[fin_out ht];exact(hm t).2 fun j hj heq=>ht (Qp heq)
  exact⟨_,ha,heq▸hfin (ran L) g w hall hp⟩
 intro fuel
 induction fuel with
 | zero=>
  intro L hL hc a ρ' g w ha hm hcl hp;have hr:Q0 .any ops L=[]:=by
   cases hr:Q0 .any ops L with
   | nil=>rfl
   | cons i r=>
    have hi:i∈Q0 .any ops L:=by rw[hr];exact QU
    obtain⟨hun,o,ho,_⟩:=mem_ready.1 hi;have hlt:i<L.size:=by rw[hL];exact(QI.1 ho).1
    have:L.toList.countP (! ·)=0:=by omega
    rw[List.countP_eq_zero]at this;have h1:=this L[i] (by simp);simp[hlt]at hun h1;rw[hun]at h1;cases h1
  exact⟨hr,hdone L hL hr a ρ' g w ha hm hp⟩
 | succ fuel ih=>
  intro L hL hc a ρ' g w ha hm hcl hp;refine⟨fun hr=>hdone L hL hr a ρ' g w ha hm hp,fun i hi=>?_⟩;obtain⟨hun,o,ho,_⟩:=mem_ready.1 hi;have hlt:i<L.size:=by rw[hL];exact(QI.1 ho).1
  refine draw_step hok hg hi ha hm hL hcl hp fun a' ρ'' g' w' ha' hm' hcl' hp'=>ih (L.setIfInBounds i true) (by simpa using hL) ?_ a' ρ'' g' w' ha' (by rw[ran_set hlt];exact hm') (by rw[ran_set hlt];exact hcl') (by rw[ran_set hlt];exact hp');have hf:L[i]=false:=by simpa [hlt] using hun
  have hc2:(L.setIfInBounds i true).toList.countP (! ·)+1=L.toList.countP (! ·):=by
   rw[Array.toList_setIfInBounds];have hl:i<L.toList.length:=by simpa using hlt
   have hfl:L.toList[i]=false:=by simpa using hf
   have hpos:0<L.toList.countP (! ·):=List.countP_pos_iff.2 ⟨_,RF hl,by rw[hfl];rfl⟩;have hset:=List.countP_set (p:=fun b:Bool=> !b) (l:=L.toList) (i:=i) (a:=true) hl;rw[hfl]at hset;simp only[RL,Rt,if_false,U3,if_true]at hset;omega
  omega
theorem WP.draw {id:Nat}(hm:P.follows .mixedOrders=true)(hok:drawOK ops (vs.map (·.1)) N=true)(hp:pre (fun _=>false) (fun _=>0) w.drew)(hg:GivesAll P ops (fin_ vs ρ) pre vs 0)
 (hfin: ∀L g w',(∀i,i<ops.size->L i=true)->pre L g w'->Q .normal (fin_ vs ρ g) w'):WP P N (.region id ops true) Q ρ w:=fun a ha=>
 have hno:ran (Rp ops.size false)=fun _=>false:=funext fun i=>by
  show (Rp ops.size false).getD i false=false;simp only[Ri,Array.getElem?_replicate];split<;>rfl
 wp_region_any hm (draw_any hok hg hfin ops.size _ (by simp) (by have:= @List.countP_le_length Bool (! ·) (RG ops.size false);simpa using this) a ρ (fun _=>0) _ ha
  (fun t=>⟨fun i f hi _=>(by rw[hno]at hi;cases hi),fun _=>rfl⟩) (fun j o hj=>(by rw[hno]at hj;cases hj)) (by rw[hno];exact hp))
theorem g_draw0 {c:Code}(l:List Nat)(vs:List (Option Nat×(Nat->Value)))(pre:(Nat->Bool)->(Nat->Nat)->World->Prop)(hc:qN c=some (l,true))(hm:P.follows .mixedOrders=true)(hok:drawOK (zd c) (vs.map (·.1)) N=true)(hp:pre (fun _=>false) (fun _=>0) w.drew)
 (hg:GivesAll P (zd c) (fin_ vs ρ) pre vs 0) (hfin: ∀L g w',(∀i,i<(zd c).size->L i=true)->pre L g w'->Q .normal (fin_ vs ρ g) w'):WP P N c Q ρ w:=by
 obtain⟨id,he,hl⟩:=xt hc;rw[he];exact WP.draw hm hok hp hg hfin
theorem vW {c:Code}(l:List Nat)(vs:List (Option Nat×(Nat->Value)))(pre:(Nat->Bool)->(Nat->Nat)->World->Prop)(hs:yL c=true)(hc:qN (zG c)=some (l,true))(hm:P.follows .mixedOrders=true)(hok:drawOK (zd (zG c)) (vs.map (·.1)) N=true)(hp:pre (fun _=>false) (fun _=>0) w.drew)
 (hg:GivesAll P (zd (zG c)) (fin_ vs ρ) pre vs 0) (hfin: ∀L g w',(∀i,i<(zd (zG c)).size->L i=true)->pre L g w'->WP P N (yK c) Q (fin_ vs ρ g) w'):WP P N c Q ρ w:=
 zb hs (g_draw0 l vs pre hc hm hok hp hg hfin)
end
section
variable {P:Program}{ops:Array Oper}{R:(Nat->Nat)->Env}{pre:(Nat->Bool)->(Nat->Nat)->World->Prop}{i:Nat}{d:Option Nat}{V:Value}
def edge (ops:Array Oper)(i j:Nat):Bool:=match ops[j]? with | some o=>o.after.toList.any fun e=>QT .any e&&Qv e.on i | none=>false
theorem Closed.no {L:Nat->Bool}(h:Closed ops L)(i j:Nat)(he:edge ops i j=true)(hn:L i=false):L j=false:=by
 cases hj:L j with
 | false=>rfl
 | true=>
  unfold edge at he;cases ho:ops[j]? with
  | none=>rw[ho]at he;cases he
  | some o=>
   rw[ho]at he;simp only[Q2,Qm]at he;obtain⟨e,hm,hb,hon⟩:=he;have:=h j o hj ho e (by simpa using hm) hb;rw[Qn hon,hn]at this;cases this
theorem Closed.yes {L:Nat->Bool}(h:Closed ops L)(i j:Nat)(he:edge ops i j=true)(hn:L j=true):L i=true:=by
 cases hi:L i with
 | true=>rfl
 | false=>rw[h.no i j he hi]at hn;cases hn
theorem before_yes {L:Nat->Bool}{j:Nat}(h: ∀o,ops[j]? =some o-> ∀e∈o.after,QT .any e=true->L e.on=true)(i:Nat)(he:edge ops i j=true):L i=true:=by
 unfold edge at he;cases ho:ops[j]? with
 | none=>rw[ho]at he;cases he
 | some o=>
  rw[ho]at he;simp only[Q2,Qm]at he;obtain⟨e,hm,hb,hon⟩:=he;have:=h o ho e (by simpa using hm) hb
  rwa [Qn hon]at this
theorem gv_val (hs: ∀L g w,pre L g w->pre (put1 L i) g w)(h: ∀g w,opv P ops i (R g) w=some (d,true,.ok (.value V) w)):Gives P ops R pre i d (fun _=>V):=fun L g w hp _ _ _=>by
 obtain⟨o,ho,hd,hw,hr⟩:=yh (h g w);exact⟨o,ho,hd,.inr ⟨hw,by rw[hr];exact⟨g i,rfl,by rw[setN_self];exact hs _ _ _ hp⟩⟩⟩
theorem gv_valE {V':Value}(hs: ∀L g w,pre L g w->pre (put1 L i) g w)(h: ∀g w,opv P ops i (R g) w=some (d,true,.ok (.value V') w))(e:V'=V):Gives P ops R pre i d (fun _=>V):=e▸gv_val hs h
def Now (ops:Array Oper)(i:Nat)(L:Nat->Bool):Prop:=L i=false/\(∀o,ops[i]? =some o-> ∀e∈o.after,QT .any e=true->L e.on=true)/\Closed ops L
variable {l:(Nat->Bool)->(Nat->Nat)->Qb}{B:Nat}{w0:World}
theorem jf (t:TypeId)(x:Operand)(j:(Nat->Bool)->Nat)(b:(Nat->Nat)->Nat)(C:Qd)(T:TypeId)(fz:Nat×Nat)(hs: ∀L g w,St B w0 w (l L g)->St B w0 w (l (put1 L i) g))(h: ∀g,opk ops i (R g)=some (d,true,.load t x))
 (hx: ∀g,ev (R g) x=.pointer (some ⟨b g,0,none⟩)) (hj: ∀L g,Now ops i L->(l L g)[j L]? =some (b g,.cells C T fz)) (ht:aggSize P t=some C.size):Gives P ops R (fun L g w=>St B w0 w (l L g)) i d (fun _=>.agg C):=fun L g w hp hn hr hc=>by
 obtain⟨o,ho,hd,hw,hop⟩:=zJ (h g);have:=jr (w:=w) (off:=0) ht (hp.get (j L) (hj L g ⟨hn,hr,hc⟩)) (by omega);have e:C.extract 0 (0+C.size)=C:=by simp
 rw[e]at this;have e2:(execOp (ev (R g)) o).run P w=.ok (.value (.agg C)) w:=by simp[execOp,hop,RI,Up,hx g,this]
 exact⟨o,ho,hd,.inr ⟨hw,by rw[e2];exact⟨g i,rfl,by rw[setN_self];exact hs _ _ _ hp⟩⟩⟩
theorem jQ (f:Nat)(args:Qd)(hs: ∀L g w,St B w0 w (l L g)->St B w0 w (l (put1 L i) g))(hc:Fn P f args V)(h: ∀g w,opv P ops i (R g) w=some (d,true,.ok (.enter f args) w)):Gives P ops R (fun L g w=>St B w0 w (l L g)) i d (fun _=>V):=fun L g w HS _ _ _=>by
 obtain⟨o,ho,hd,hw,hr⟩:=yh (h g w);exact⟨o,ho,hd,.inr ⟨hw,by rw[hr];exact(hc w).mono fun e w' ⟨he,hb⟩=>⟨V,he,g i,rfl,by rw[setN_self];exact hs _ _ _ (HS.call hb)⟩⟩⟩
theorem xv (j:(Nat->Bool)->Nat)(t:TypeId)(x y:Operand)(b:(Nat->Nat)->Nat)(off:Nat)(C C':Qd)(T:TypeId)(v:Value)(h: ∀g,opk ops i (R g)=some (none,true,.store t x y))
 (hx: ∀g,ev (R g) x=.pointer (some ⟨b g,off,none⟩)) (hy: ∀g,ev (R g) y=v) (hi:(P.info? t).map (·.size)=some v.cells.size) (h1:v.cells.all (·.oneCell')=true) (hsz:off+v.cells.size<=C.size)
 (hC:(C.toList.take off++v.cells.toList++C.toList.drop (off+v.cells.size)).toArray=C')
 (hj: ∀L g,Now ops i L->(l L g)[j L]? =some (b g,.cells C T)/\(l L g).set (j L) (b g,.cells C' T)=l (put1 L i) g):Gives P ops R (fun L g w=>St B w0 w (l L g)) i none (fun _=>undef):=fun L g w HS hn hr hc=>by
 obtain⟨o,ho,hd,hw,hop⟩:=zJ (h g);obtain⟨hk,hl⟩:=hj L g ⟨hn,hr,hc⟩;have:=jN (P:=P) (w:=w) hi h1 (HS.get (j L) hk) hsz;rw[hC]at this;have e2:(execOp (ev (R g)) o).run P w=.ok .skip (w.setRow (b g) C'):=by simp[execOp,hop,UK,Up,hx g,hy g,this]
 exact⟨o,ho,hd,.inr ⟨hw,by rw[e2];exact⟨g i,rfl,by show St B w0 _ (l (put1 L i) (setN g i (g i)));rw[setN_self,<-hl];exact HS.store (j L) hk⟩⟩⟩
theorem St.mid {B:Nat}{w0 w:World}{l1 l2:Qb}{e:Nat×Obj}(h:St B w0 w (e::(l1++l2))):St B w0 w (l1++e::l2):=by
 have hp:(l1++e::l2).Perm (e::(l1++l2)):=List.perm_middle;exact⟨h.below,h.le,fun x hx=>h.own x (hp.mem_iff.1 hx),((hp.map (·.1)).nodup_iff).2 h.nd⟩
theorem zbM (t:TypeId)(z:Value)(l1 l2:(Nat->Bool)->(Nat->Nat)->Qb)(h: ∀g,opk ops i (R g)=some (d,true,.alloc t))(hz:(P.info? t).bind (·.zero)=some z)
 (hl: ∀L g,Now ops i L->l L g=l1 L g++l2 L g) (hl': ∀L g b,Now ops i L->l1 L g++(b,.cells z.cells t)::l2 L g=l (put1 L i) (setN g i b)):
 Gives P ops R (fun L g w=>St B w0 w (l L g)) i d (fun b=>Qe b):=fun L g w HS hn hr hc=>by
 obtain⟨o,ho,hd,hw,hop⟩:=zJ (h g);have hN:Now ops i L:=⟨hn,hr,hc⟩
 have HS':St B w0 w (l L g):=HS;rw[hl L g hN]at HS';have H2:=(HS'.alloc (.cells z.cells t)).mid;rw[hl' L g _ hN]at H2;refine⟨o,ho,hd,.inr ⟨hw,?_⟩⟩;cases hq:P.info? t with
 | none=>simp[hq]at hz
 | some it=>
  simp[hq]at hz;have e:(execOp (ev (R g)) o).run P w=.ok (.value (Qe w.heap.size)) (w.alloc (.cells z.cells t)):=by
   simp[execOp,hop,Instr.alloc,zeroValue,typeInfo,hq,hz,newVar,newRow,newObj];rfl
  rw[e];exact⟨w.heap.size,rfl,H2⟩
end
structure Rw (size:Nat)(cur:Qd)(cap n:Nat)(xs:List Value):Prop where
 len:xs.length=n*size
 le:n<=cap
 max:cap<=maxLen
 take:cur.toList.take (n*size)=xs
 sz:cur.size=cap*size
theorem Rw.get {size:Nat}{cur:Qd}{cap n:Nat}{xs:List Value}(h:Rw size cur cap n xs)(i:Nat)(hi:i<n*size):cur[i]? =xs[i]? :=by
 rw[<-h.take,R7,if_pos hi,Rr]
theorem qf (b o q:Nat):(⟨b,o,none⟩:Addr).add q=⟨b,o+q,none⟩:=by unfold Addr.add;split<;>simp_all
theorem Rw.lit {size:Nat}(cur:Qd)(n:Nat)(h:cur.size=n*size)(hm:n<=maxLen):Rw size cur n n cur.toList:=
 ⟨by simpa using h,Qs _,hm,by rw[<-h,Qq (by simp)],h⟩
theorem Rw.cut {size:Nat}{cur:Qd}{cap n:Nat}{xs:List Value}(h:Rw size cur cap n xs)(m:Nat)(hm:m<=n):Rw size cur cap m (xs.take (m*size)):=by
 have hms:m*size<=n*size:=QR _ hm;refine⟨by rw[Qw,h.len,Rx hms],Ro hm h.le,h.max,?_,h.sz⟩;rw[<-h.take,List.take_take,Rx hms]
def zV (P:Program)(t:TypeId):Option (TypeId×Nat×Nat):=
 match P.underlying t with
 | some (.slice e)=>match P.info? e with
  | some i=>match i.zero with
   | some z=>if z.cells.size==i.size&&Uh 0 i.size then some (e,i.size,i.bytes) else none
   | none=>none
  | none=>none
 | _=>none
theorem yM {P:Program}{t e:TypeId}{size bytes:Nat}(h:zV P t=some (e,size,bytes)):
 ∃i z,P.underlying t=some (.slice e)/\P.info? e=some i/\i.zero=some z/\i.size=size/\i.bytes=bytes/\z.cells.size=size/\0<size:=by
 unfold zV at h;split at h
 ·rename_i e' hu
  split at h
  ·rename_i i hi
   split at h
   ·rename_i z hz
    split at h
    ·rename_i hc
     simp only[Qm,beq_iff_eq]at hc;simp only[Q1.injEq,Prod.mk.injEq]at h;obtain⟨rfl,rfl,rfl⟩:=h;exact⟨i,z,hu,hi,hz,rfl,rfl,hc.1,Qr hc.2⟩
    ·cases h
   ·cases h
  ·cases h
 ·cases h
theorem Rw.owns {size:Nat}{cur:Qd}{cap n:Nat}{xs:List Value}(h:Rw size cur cap n xs){w:World}{B b:Nat}{e:TypeId}(hb:B<=b)(hh:w.heap[b]? =some (.cells cur e)):
 w.ownsRow B e size (Qf b n cap) n xs:=
 ⟨h.len,.inr ⟨b,cap,cur,rfl,hb,hh,h.le,h.max,h.sz,h.take⟩⟩
theorem St.grown {B:Nat}{w0 w w':World}{l:Qb}(h:St B w0 w l)(j:Nat){b b':Nat}{o o':Obj}(hj:l[j]? =some (b,o))(hg:w.grownBy w' (some b))
 (hb:b'=b\/b'=w.heap.size) (ho:w'.heap[b']? =some o'):St B w0 w' (l.set j (b',o')):=by
 have hB:=h.ge j hj;have hlt:=zj (h.get j hj);have hkl:j<l.length:=(Qt.1 hj).1;have hle:=h.le;have hB':B<=b':=by rcases hb with rfl | rfl<;>omega
 refine⟨h.below.grown hg hle (fun k hk=>by injection hk with hk;omega),Ro hle hg.size,?_,?_⟩
 ·intro e he;obtain⟨i,hi,he⟩:=Un he;rw[UC]at he;split at he
  ·subst he;exact⟨hB',ho⟩
  ·rename_i hij
   have hi':i<l.length:=by simpa using hi
   have hmem:e∈l:=by rw[<-he];exact RF _
   have hne:e.1≠b:=by
    intro heq;have h1:(l.map (·.1))[i]? =some b:=by simp[QY,Ql hi',he,heq]
    have h2:(l.map (·.1))[j]? =some b:=by simp[QY,hj]
    have:=(List.getElem?_inj (by simpa using hi') h.nd).1 (h1.trans h2.symm);omega
   exact⟨(h.own e hmem).1,by rw[hg.block e.1 (zj (h.own e hmem).2) (fun q=>hne (by injection q))];exact(h.own e hmem).2⟩
 ·rcases hb with rfl|rfl
  ·have hmap:(l.set j (b',o')).map (·.1)=l.map (·.1):=by
    apply Ue;intro i;simp only[QY,RA];by_cases hi:j=i
    ·subst hi;rw[if_pos rfl,if_pos hkl,hj];rfl
    ·simp[hi]
   rw[hmap];exact h.nd
  ·rw[List.map_set];have hnew:w.heap.size∉l.map (·.1):=fun hm=>by
    obtain⟨e,he,heq⟩:=Rq.1 hm;have:=zj (h.own e he).2;omega
   rw[List.nodup_iff_pairwise_ne];have hp:=List.nodup_iff_pairwise_ne.1 h.nd;rw[List.pairwise_iff_getElem]at hp⊢;intro x y hx hy hxy;simp only[List.length_set]at hx hy;rw[UC,UC];split
   ·split
    ·omega
    ·intro q;exact hnew (by rw[show w.heap.size=_ from q];exact RF _)
   ·split
    ·intro q;exact hnew (by rw[show w.heap.size=_ from q.symm];exact RF _)
    ·exact hp x y hx hy hxy
section
variable {P:Program}{N:Nat}{ops:Array Oper}{i:Nat}{r:List Nat}{K:Env->World->Prop}{ρ:Env}{w:World}{B:Nat}{w0:World}{l:Qb}
theorem zbN (d:Option Nat)(op:Op)(v:Value)(w':World)(h:opk ops i ρ=some (d,true,op))(hd:dOK d N=true)
 (hr: ∀o:Oper,o.op=op->(execOp (ev ρ) o).run P w=.ok (.value v) w') (k:WPs P N ops K r (zm ρ d v) w'):WPs P N ops K (i::r) ρ w:=jq d op v w' h hd hr k
def yN (t:TypeId)(s x:Operand):Op:=.call { callee:=.builtin .append,args:=#[s,x],argTypes:=#[t,t] }
theorem vX {t e:TypeId}{size bytes:Nat}(ht:zV P t=some (e,size,bytes)){x y:Operand}{o:Oper}{kd:IntKind}(b q n c:Nat)(k:Nat)(ho:o.op=.indexAddr t x y)(hx:ev ρ x=.slice (some ⟨b,q,none⟩) n c)(hy:ev ρ y=.int kd (k:Int))(hk:k<n):
 ∀w,(execOp (ev ρ) o).run P w=.ok (.value (.pointer (some ⟨b,q+k*size,none⟩))) w:=fun w=>by
 obtain⟨it,z,hu,hi,hz,hsz,hby,hzs,h0⟩:=yM ht;have hS:(sizeOf e).run P w=.ok size w:=by simp[sizeOf,typeInfo,hi,hsz]
 have h1:(0:Int)<=(k:Int)/\(k:Int)<(n:Int):=by omega
 simp[execOp,ho,hx,hy,Instr.indexAt,asIntOf,run_underlying hu,hS,h1,qf,hk]
end
namespace D2
structure Gh where
 b:Nat:=0
 cap:Nat:=0
 n:Nat:=0
 cur:Qd:=#[]
 l:List Nat:=[]
 deriving Inhabited
def Runs (P:Program)(S:Value->World->Prop):Result Next->Prop
 | .ok (.value v) w'=>S v w'
 | .ok .skip w'=>S undef w'
 | .ok (.enter f args) w'=>Calls P f args w' fun e w''=> ∃v,e=.returned v/\S v w''
 | _=>False
def put1 (L:Nat->Bool)(i:Nat):Nat->Bool:=fun j=>Qv j i||L j
def setN (g:Nat->Gh)(i:Nat)(b:Gh):Nat->Gh:=fun j=>bif Qv j i then b else g j
theorem setN_self (g:Nat->Gh)(i:Nat):setN g i (g i)=g:=by
 funext j;unfold setN;cases hb:Qv j i with
 | false=>rfl
 | true=>rw[Qn hb];rfl
def at_:List (Option Nat×(Gh->Value))->(Nat->Gh)->Nat->List (Option Nat×Value)
 | [],_,_=>[]
 | (d,f)::r,g,k=>(d,f (g k))::at_ r g (k+1)
theorem at_get: ∀ {l:List (Option Nat×(Gh->Value))} {g:Nat->Gh} {k i:Nat},(at_ l g k)[i]? =(l[i]?).map fun (d,f)=>(d,f (g (k+i)))
 | [],g,k,i=>by simp[at_]
 | (d,f)::r,g,k,0=>by simp[at_]
 | (d,f)::r,g,k,i+1=>by
  have:=at_get (l:=r) (g:=g) (k:=k+1) (i:=i);simp only[at_,List.getElem?_cons_succ,this,show k+1+i=k+(i+1) by omega]
theorem at_map: ∀ {l:List (Option Nat×(Gh->Value))} {g:Nat->Gh} {k:Nat},(at_ l g k).map (·.1)=l.map (·.1)
 | [],g,k=>rfl
 | (d,f)::r,g,k=>by simp only[at_,QK,at_map (l:=r)]
theorem at_map0 (vs:List (Option Nat×(Gh->Value)))(g:Nat->Gh):(at_ vs g 0).map (·.1)=vs.map (·.1):=at_map
def Closed (ops:Array Oper)(L:Nat->Bool):Prop:= ∀j o,L j=true->ops[j]? =some o-> ∀e∈o.after,QT .any e=true->L e.on=true
def Gives (P:Program)(ops:Array Oper)(R:(Nat->Gh)->Env)(pre:(Nat->Bool)->(Nat->Gh)->World->Prop)(i:Nat)(d:Option Nat)(f:Gh->Value):Prop:=
 ∀L g w,pre L g w->L i=false->(∀o,ops[i]? =some o-> ∀e∈o.after,QT .any e=true->L e.on=true)->Closed ops L->∃o,ops[i]? =some o/\o.dst=d/\
  ((Qz o (zy ops (R g))=false/\f (g i)=undef/\pre (put1 L i) g w)\/(Qz o (zy ops (R g))=true/\Runs P (fun v w'=> ∃b,v=f b/\pre (put1 L i) (setN g i b) w') ((execOp (ev (R g)) o).run P w)))
def GivesAll (P:Program)(ops:Array Oper)(R:Nat->(Nat->Gh)->Env)(pre:(Nat->Bool)->(Nat->Gh)->World->Prop):List (Option Nat×(Gh->Value))->Nat->Prop
 | [],_=>True
 | (d,f)::r,i=>Gives P ops (R i) pre i d f/\GivesAll P ops R pre r (i+1)
def slots:List (Option Nat×Value)->List (Nat×Value)
 | []=>[]
 | (some d,V)::r=>(d,V)::slots r
 | (none,_)::r=>slots r
theorem GivesAll.get {P:Program}{ops:Array Oper}{R:Nat->(Nat->Gh)->Env}{pre:(Nat->Bool)->(Nat->Gh)->World->Prop} : ∀ {l:List (Option Nat×(Gh->Value))} {k:Nat},GivesAll P ops R pre l k-> ∀ {i:Nat} {d:Option Nat} {f:Gh->Value},l[i]? =some (d,f)->Gives P ops (R (k+i)) pre (k+i) d f
 | [],_,_,_,_,_,h=>by simp at h
 | (d,V)::r,k,⟨h,hr⟩,0,_,_,hi=>by simp at hi;obtain⟨rfl,rfl⟩:=hi;exact h
 | (d,V)::r,k,⟨h,hr⟩,i+1,_,_,hi=>by
  have:=hr.get (i:=i) (by simpa using hi)
  rwa [show k+1+i=k+(i+1) by omega]at this
def opTmps (o:Oper):List Nat:=o.op.operands.toList.filterMap fun | .tmp t=>some t | _=>none
def notSelect (o:Oper):Bool:=match o.op with | .select .. =>false | _=>true
def opOK (ops:Array Oper)(ds:List (Option Nat))(i:Nat)(o:Oper):Bool:=
 (some o.dst==ds[i]?)&&notSelect o&&
 (o.after.toList.all fun e=> !Region.binds .any e||Uh e.on i)&&
 ((opTmps o).all fun t=> !ds.contains (some t)||(o.after.toList.any fun e=>QT .any e&&ds[e.on]? ==some (some t))||(ops.toList.zipIdx.all fun (oj,j)=> !(ds[j]? ==some (some t))||(!Nat.blt j i&&oj.after.toList.any fun e=>QT .any e&&Qv e.on i)))&&
 (match o.guard with | none=>true | some (j,_)=>o.after.toList.any fun e=>QT .any e&&e.on==j)
def nodupO:List (Option Nat)->Bool
 | []=>true
 | none::r=>nodupO r
 | some x::r=> !r.contains (some x)&&nodupO r
def nodupB:List Nat->Bool
 | []=>true
 | x::r=> !r.contains x&&nodupB r
def drawOK (ops:Array Oper)(ds:List (Option Nat))(N:Nat):Bool:=
 (ops.size==ds.length)&&nodupO ds&&(ds.all fun d=>dOK d N)&&(ops.toList.zipIdx.all fun (o,i)=>opOK ops ds i o)
theorem slots_mem: ∀ {l:List (Option Nat×Value)} {t:Nat},t∈(slots l).map (·.1)↔some t∈l.map (·.1)
 | [],t=>by simp[slots]
 | (some d,V)::r,t=>by simp only[slots,QK,QN,slots_mem (l:=r)];simp
 | (none,V)::r,t=>by simp only[slots,QK,QN,slots_mem (l:=r)];simp
theorem slots_nodup: ∀ {l:List (Option Nat×Value)},nodupO (l.map (·.1))=true->nodupB ((slots l).map (·.1))=true
 | [],_=>rfl
 | (some d,V)::r,h=>by
  simp only[QK,nodupO,Qm,Rn]at h;simp only[slots,QK,nodupB,Qm,Rn];refine⟨?_,slots_nodup h.2⟩;have h1:=h.1;rw[<-Uf]at h1⊢
  simpa only[RM,slots_mem] using h1
 | (none,V)::r,h=>slots_nodup (l:=r) h
theorem slots_get: ∀ {l:List (Option Nat×Value)} {i d:Nat} {V:Value},l[i]? =some (some d,V)->∃j:Nat,(slots l)[j]? =some (d,V)
 | [],_,_,_,h=>by simp at h
 | (some d,V)::r,0,_,_,h=>by simp at h;obtain⟨rfl,rfl⟩:=h;exact⟨0,rfl⟩
 | (none,V)::r,0,_,_,h=>by simp at h
 | (some d,V)::r,i+1,_,_,h=>by obtain⟨j,hj⟩:=slots_get (l:=r) (by simpa using h);exact⟨j+1,by simpa [slots] using hj⟩
 | (none,V)::r,i+1,_,_,h=>by obtain⟨j,hj⟩:=slots_get (l:=r) (by simpa using h);exact⟨j,by simpa [slots] using hj⟩
theorem setAll_in: ∀ {l:List (Nat×Value)} {ρ:Env},nodupB (l.map (·.1))=true-> ∀ {i d:Nat} {V:Value},l[i]? =some (d,V)->yE l ρ d=V
 | [],_,_,_,_,_,h=>by simp at h
 | (d,V)::r,ρ,hn,0,_,_,h=>by
  simp at h;obtain⟨rfl,rfl⟩:=h;show (bif Qv d d then V else _)=V;rw[Q4];rfl
 | (d,V)::r,ρ,hn,i+1,d',V',h=>by
  have hr:r[i]? =some (d',V'):=by simpa using h
  simp[nodupB]at hn;have hne:Qv d' d=false:=by
   cases hb:Qv d' d with
   | false=>rfl
   | true=>
    have:=Qn hb;subst this;exact absurd (Qp hr) (hn.1 _)
  show (bif Qv d' d then V else yE r ρ d')=V';rw[hne];exact setAll_in hn.2 hr
theorem setAll_out: ∀ {l:List (Nat×Value)} {ρ:Env} {t:Nat},t∉l.map (·.1)->yE l ρ t=ρ t
 | [],_,_,_=>rfl
 | (d,V)::r,ρ,t,h=>by
  simp at h;have hne:Qv t d=false:=by
   cases hb:Qv t d with
   | false=>rfl
   | true=>exact absurd (Qn hb) h.1
  show (bif Qv t d then V else yE r ρ t)=_;rw[hne];exact setAll_out (by simpa using h.2)
section
variable {P:Program}{N:Nat}{ops:Array Oper}{Q:Exit->Env->World->Prop}{K:Env->World->Prop}{ρ:Env}{w:World}{vs:List (Option Nat×(Gh->Value))}{pre:(Nat->Bool)->(Nat->Gh)->World->Prop}
def fin_ (vs:List (Option Nat×(Gh->Value)))(ρ:Env)(g:Nat->Gh):Env:=yE (slots (at_ vs g 0)) ρ
def ran (L:Array Bool):Nat->Bool:=fun j=>L.getD j false
def Mid (ρ:Env)(vs:List (Option Nat×(Gh->Value)))(g:Nat->Gh)(L:Nat->Bool)(ρ':Env):Prop:=
 ∀t,(∀i f,L i=true->vs[i]? =some (some t,f)->ρ' t=f (g i))/\((∀i,L i=true->(vs.map (·.1))[i]? ≠some (some t))->ρ' t=ρ t)
theorem ran_set {L:Array Bool}{i:Nat}(hi:i<L.size):ran (L.setIfInBounds i true)=put1 (ran L) i:=by
 funext j;unfold ran put1;by_cases hij:i=j
 ·subst hij;rw[Q4];simp[hi]
 ·have:Qv j i=false:=by
   cases hb:Qv j i with
   | false=>rfl
   | true=>exact absurd (Qn hb).symm hij
  rw[getD_set_ne false hij,this];rfl
theorem put1_or {L:Nat->Bool}{i j:Nat}(h:put1 L i j=true):j=i\/L j=true:=by
 unfold put1 at h;cases hb:Qv j i with
 | false=>rw[hb]at h;exact .inr h
 | true=>exact .inl (Qn hb)
theorem put1_self (L:Nat->Bool)(i:Nat):put1 L i i=true:=by unfold put1;rw[Q4];rfl
theorem put1_of {L:Nat->Bool}{i j:Nat}(h:L j=true):put1 L i j=true:=by unfold put1;rw[h,Bool.or_true]
theorem nodupO_inj: ∀ {l:List (Option Nat)},nodupO l=true-> ∀ {i j x:Nat},l[i]? =some (some x)->l[j]? =some (some x)->i=j
 | [],_,_,_,_,h,_=>by simp at h
 | none::r,h,0,_,_,hi,_=>by simp at hi
 | none::r,h,_+1,0,_,_,hj=>by simp at hj
 | none::r,h,i+1,j+1,x,hi,hj=>congrArg (·+1) (nodupO_inj (l:=r) h (x:=x) (by simpa using hi) (by simpa using hj))
 | some y::r,h,0,0,_,_,_=>rfl
 | some y::r,h,0,j+1,x,hi,hj=>by
  simp[nodupO]at h hi hj;subst hi;exact absurd (Qp hj) h.1
 | some y::r,h,i+1,0,x,hi,hj=>by
  simp[nodupO]at h hi hj;subst hj;exact absurd (Qp hi) h.1
 | some y::r,h,i+1,j+1,x,hi,hj=>by
  simp[nodupO]at h hi hj;exact congrArg (·+1) (nodupO_inj (l:=r) h.2 (x:=x) (by simpa using hi) (by simpa using hj))
theorem kF: ∀ {l:List (Option Nat)},nodupO l=true-> ∀k,nodupO (l.take k)=true
 | _,_,0=>rfl
 | [],_,_+1=>rfl
 | none::r,h,k+1=>kF (l:=r) h k
 | some x::r,h,k+1=>by
  simp only[nodupO,Qm,Rn,List.take_succ_cons]at h⊢;refine⟨?_,kF h.2 k⟩;have h1:=h.1;rw[<-Uf,RM]at h1⊢;exact fun hm=>h1 (List.mem_of_mem_take hm)
theorem fin_in (hnd:nodupO (vs.map (·.1))=true){g:Nat->Gh}{i t:Nat}{f:Gh->Value}(h:vs[i]? =some (some t,f)):fin_ vs ρ g t=f (g i):=by
 have h1:(at_ vs g 0)[i]? =some (some t,f (g i)):=by rw[at_get,h];simp
 obtain⟨j,hj⟩:=slots_get h1;exact setAll_in (slots_nodup (Eq.mpr (congrArg (fun l=>nodupO l=true) (at_map0 vs g)) hnd)) hj
theorem fin_out {g:Nat->Gh}{t:Nat}(h:some t∉vs.map (·.1)):fin_ vs ρ g t=ρ t:=
 setAll_out (fun h'=>h (Eq.mp (congrArg (fun l=>some t∈l) (at_map0 vs g)) (slots_mem.1 h')))
theorem draw_step (hok:drawOK ops (vs.map (·.1)) N=true)(hg:GivesAll P ops (fun i=>fin_ (vs.take i) ρ) pre vs 0){i:Nat}{L:Array Bool}(hi:i∈Q0 .any ops L)
 {a:Act} {ρ':Env} {g:Nat->Gh} (ha:Rep a ρ' N) (hm:Mid ρ vs g (ran L) ρ') (hL:L.size=ops.size) (hcl:Closed ops (ran L)) (hp:pre (ran L) g w)
 {QQ:Exit->Act->World->Prop} {KK:Act->World->Prop} (hK: ∀a' ρ'' g' w',Rep a' ρ'' N->Mid ρ vs g' (put1 (ran L) i) ρ''->Closed ops (put1 (ran L) i)->pre (put1 (ran L) i) g' w'->KK a' w'):
 wpOp P ops QQ i KK a w:=by
 simp only[drawOK,Qm,QL,beq_iff_eq]at hok;obtain⟨⟨⟨hsz,hnd⟩,hN⟩,hops⟩:=hok;obtain⟨hun,o,ho,hready⟩:=mem_ready.1 hi;have hilt:i<ops.size:=(QI.1 ho).1
 have hoi:opOK ops (vs.map (·.1)) i o=true:=hops (o,i) (by
  rw[QV];refine⟨i,?_⟩;rw[Q6]
  simp[ho])
 simp only[opOK,Qm]at hoi;obtain⟨⟨⟨⟨hdst,hsel⟩,hback⟩,hreads⟩,hguard⟩:=hoi;have hivs:i<vs.length:=by rw[RQ]at hsz;omega
 obtain⟨⟨d,f⟩,hv⟩:∃p,vs[i]? =some p:=⟨_,Ql hivs⟩
 have hd:o.dst=d:=by
  have:=eq_of_beq hdst
  simpa [hv] using this
 have hdN: ∀k,d=some k->k<N:=zS (hN d (Rq.2 ⟨(d,f),Qp hv,rfl⟩));have hunL:ran L i=false:=by
  have hlt:i<L.size:=by omega
  unfold ran;simpa [hlt] using hun
 have hcl':Closed ops (put1 (ran L) i):=by
  intro j oj hj hoj e he hb;rcases put1_or hj with rfl | hj
  ·rw[ho]at hoj;obtain rfl:=Q1.inj hoj;exact put1_of (hready e he hb)
  ·exact put1_of (hcl j oj hj hoj e he hb)
 have hnd':nodupO ((vs.take i).map (·.1))=true:=by rw[List.map_take];exact kF hnd i
 have lookB: ∀t j,j<i->ran L j=true->(vs.map (·.1))[j]? =some (some t)->ρ' t=fin_ (vs.take i) ρ g t:=by
  intro t j hji hLj hdt;rw[QY]at hdt;cases hve:vs[j]? with
  | none=>rw[hve]at hdt;cases hdt
  | some p=>
   obtain⟨d1,f1⟩:=p;rw[hve]at hdt;simp at hdt;subst hdt;have hvt:(vs.take i)[j]? =some (some t,f1):=by rw[R7,if_pos hji,hve]
   rw[fin_in hnd' hvt];exact(hm t).1 j f1 hLj hve
 have zL: ∀t,(∀j:Nat,(vs.map (·.1))[j]? =some (some t)->ran L j=false)->(∀j:Nat,j<i->(vs.map (·.1))[j]? ≠some (some t))->ρ' t=fin_ (vs.take i) ρ g t:=by
  intro t hno hnb;have hnot:some t∉(vs.take i).map (·.1):=fun hmem=>by
   obtain⟨j,hj⟩:=QV.1 hmem;rw[List.map_take,R7]at hj;split at hj
   ·rename_i hji;exact hnb j hji hj
   ·cases hj
  rw[fin_out hnot];exact(hm t).2 fun j hj heq=>by rw[hno j heq]at hj;cases hj
 have hbk: ∀e∈o.after.toList,QT .any e=true->e.on<i:=fun e he hb=>by
  have:=QL.1 hback e he;rw[hb]at this;simp only[RL,Ub]at this;exact Qr this
 have hops': ∀x∈o.op.operands,ev ρ' x=ev (fin_ (vs.take i) ρ g) x:=by
  intro x hx;cases x with
  | tmp t=>
   have hmem:t∈opTmps o:=List.mem_filterMap.2 ⟨.tmp t,by simpa using hx,rfl⟩;have:=QL.1 hreads t hmem;simp only[RR,Rn]at this;rcases this with (hc | hb) | hlater
   ·have hnot: ∀j:Nat,(vs.map (·.1))[j]? ≠some (some t):=fun j hj=>by
     have h1:some t∈vs.map (·.1):=Qp hj;rw[<-Uf,RM]at hc;exact hc h1
    exact zL t (fun j hj=>absurd hj (hnot j)) (fun j _=>hnot j)
   ·simp only[Q2,Qm,beq_iff_eq]at hb;obtain⟨e,he,hbi,hdt⟩:=hb;exact lookB t e.on (hbk e he hbi) (hready e (by simpa using he) hbi) hdt
   ·have hl: ∀(j:Nat) oj,ops[j]? =some oj->(vs.map (·.1))[j]? =some (some t)-> ¬j<i/\∃e∈oj.after.toList,QT .any e=true/\e.on=i:=fun j oj hoj hdj=>by
     have h1:=QL.1 hlater (oj,j) (by
      rw[QV];refine⟨j,?_⟩;rw[Q6]
      simp[hoj])
     simp only[hdj,beq_self_eq_true,RL,Ub,Qm,Q2,Rn]at h1;obtain⟨h2,e,he,hb,hon⟩:=h1;refine⟨fun hlt=>?_,e,he,hb,Qn hon⟩;have h3:Uh j i=true:=Nat.ble_eq_true_of_le hlt;rw[h3]at h2;cases h2
    have hsome: ∀j:Nat,(vs.map (·.1))[j]? =some (some t)->∃oj,ops[j]? =some oj:=fun j hj=>by
     have h1:j<(vs.map (·.1)).length:=(Qt.1 hj).1;exact⟨_,Q5 (by omega)⟩
    refine zL t (fun j hj=>?_) (fun j hji hj=>?_)
    ·obtain⟨oj,hoj⟩:=hsome j hj;obtain⟨_,e,he,hb,hon⟩:=hl j oj hoj hj;cases hLj:ran L j with
     | false=>rfl
     | true=>
      have:=hcl j oj hLj hoj e (by simpa using he) hb;rw[hon,hunL]at this;cases this
    ·obtain⟨oj,hoj⟩:=hsome j hj;exact(hl j oj hoj hj).1 hji
  | _=>rfl
 have hexec:execOp (ev ρ') o=execOp (ev (fin_ (vs.take i) ρ g)) o:=execOp_congr o (fun cs b he=>by simp[notSelect,he]at hsel) hops';have hwant:Qz o (zy ops ρ')=Qz o (zy ops (fin_ (vs.take i) ρ g)):=by
  unfold Qz;cases hgd:o.guard with
  | none=>rfl
  | some gd=>
   obtain⟨j,b⟩:=gd;have:zy ops ρ' j=zy ops (fin_ (vs.take i) ρ g) j:=by
    unfold zy;cases hj:(ops[j]?).bind (·.dst) with
    | none=>rfl
    | some t=>
     simp only[hgd,Q2,Qm,beq_iff_eq]at hguard;obtain⟨e,he,hb,hon⟩:=hguard;have hjds:(vs.map (·.1))[j]? =some (some t):=by
      cases hoj:ops[j]? with
      | none=>simp[hoj]at hj
      | some oj=>
       have hjj:opOK ops (vs.map (·.1)) j oj=true:=hops (oj,j) (by
        rw[QV];refine⟨j,?_⟩;rw[Q6]
        simp[hoj])
       simp only[opOK,Qm,beq_iff_eq]at hjj;have:=hjj.1.1.1.1;simp[hoj]at hj;rw[<-this,hj]
     have hlk:=lookB t j (hon▸hbk e he hb) (hon▸hready e (by simpa using he) hb) hjds;simp only[hlk]
   simp only[this]
 have hmid: ∀b,Mid ρ vs (setN g i b) (put1 (ran L) i) (zm ρ' d (f b)):=by
  intro b t;have hds:(vs.map (·.1))[i]? =some d:=by simp[hv]
  by_cases htd:d=some t
  ·subst htd;have e:zm ρ' (some t) (f b) t=f b:=by
    show (bif Qv t t then f b else _)=f b;rw[Q4];rfl
   refine⟨fun j f1 hj hvj=>?_,fun hn=>absurd hds (hn i (put1_self _ _))⟩;have hji:j=i:=nodupO_inj hnd (by rw[QY,hvj];rfl) hds;subst hji;rw[hv]at hvj;obtain rfl:f1=f:=by simpa using hvj.symm
   rw[e];unfold setN;rw[Q4];rfl
  ·have e:zm ρ' d (f b) t=ρ' t:=by
    cases d with
    | none=>rfl
    | some k=>
     have hne:Qv t k=false:=by
      cases hb:Qv t k with
      | false=>rfl
      | true=>exact absurd (by rw[Qn hb]) htd
     show (bif Qv t k then f b else ρ' t)=ρ' t;rw[hne];rfl
   rw[e];refine⟨fun j f1 hj hvj=>?_,fun hn=>(hm t).2 fun j hj=>hn j (put1_of hj)⟩;have hji:j≠i:=by
    rintro rfl;rw[hv]at hvj;have:d=some t:=by simpa using congrArg (Option.map (·.1)) hvj
    exact htd this
   have hLj:ran L j=true:=(put1_or hj).resolve_left hji;have hN':setN g i b j=g j:=by
    unfold setN;cases hb:Qv j i with
    | false=>rfl
    | true=>exact absurd (Qn hb) hji
   rw[hN'];exact(hm t).1 j f1 hLj hvj
 have hgi:=hg.get hv;rw[Qy]at hgi
 obtain⟨o',ho',hd',hrun⟩:=hgi (ran L) g w hp hunL (fun o1 ho1 e he hb=>by
  rw[ho]at ho1;obtain rfl:=Q1.inj ho1;exact hready e he hb) hcl
 have:o'=o:=by rw[ho]at ho';exact(Q1.inj ho').symm
 subst this;have hput: ∀v,Rep (a.put o'.dst v) (zm ρ' d v) N:=fun v=>by
  have:=ha.put o'.dst (fun k hk=>hdN k (by rw[<-hd,hk])) v
  rwa [hd]at this⊢
 unfold wpOp;simp only[ho,jM ha,hwant];rcases hrun with⟨hwf,hV,hp'⟩ | ⟨hwt,hR⟩
 ·simp only[hwf,Rt,if_false];refine hK _ _ g _ (hput undef) ?_ hcl' hp';have:=hmid (g i)
  rwa [setN_self,hV]at this
 ·simp only[hwt,if_true];refine .inl ?_;unfold U9;rw[ha.eval,hexec];generalize (execOp (ev (fin_ (vs.take i) ρ g)) o').run P w=r at hR;cases r with
  | halt h w'=>exact hR.elim
  | ok n w'=>
   cases n with
   | value v=>obtain⟨b,rfl,hb⟩:=hR;exact hK _ _ _ _ (hput _) (hmid b) hcl' hb
   | skip=>obtain⟨b,hu,hb⟩:=hR;exact hK _ _ _ _ (by have:=hput undef;rwa [hu]at this⊢) (hmid b) hcl' hb
   | enter f' args=>
    refine R4 hR fun e w'' he=>?_;obtain⟨v,rfl,b,rfl,hb⟩:=he;exact hK _ _ _ _ (hput _) (hmid b) hcl' hb
   | _=>exact hR.elim
theorem draw_any (hok:drawOK ops (vs.map (·.1)) N=true)(hg:GivesAll P ops (fun i=>fin_ (vs.take i) ρ) pre vs 0)
 (hfin: ∀L g w',(∀i,i<ops.size->L i=true)->pre L g w'->Q .normal (fin_ vs ρ g) w'):
 ∀(fuel:Nat) (L:Array Bool),L.size=ops.size->(L.toList.countP (! ·))<=fuel-> ∀(a:Act) (ρ':Env) (g:Nat->Gh) (w:World),Rep a ρ' N->Mid ρ vs g (ran L) ρ'->Closed ops (ran L)->pre (ran L) g w->
  wpAny P .any ops (qy N Q) fuel L a w:=by
 have hdone: ∀(L:Array Bool),L.size=ops.size->Q0 .any ops L=[]-> ∀(a:Act) (ρ':Env) (g:Nat->Gh) (w:World),Rep a ρ' N->Mid ρ vs g (ran L) ρ'->pre (ran L) g w->qy N Q .normal a w:=by
  intro L hL hr a ρ' g w ha hm hp;have hok':=hok;simp only[drawOK,Qm,QL,beq_iff_eq]at hok';obtain⟨⟨⟨hsz,hnd⟩,hN⟩,hops⟩:=hok';have hall: ∀i,i<ops.size->ran L i=true:=by
   intro i
   induction i using Nat.strongRecOn with
   | _ i ih=>
    intro hi;cases hb:ran L i with
    | true=>rfl
    | false=>
     have hmem:i∈Q0 .any ops L:=by
      refine mem_ready.2 ⟨?_,ops[i],Q5 hi,fun e he hbd=>?_⟩
      ·have hlt:i<L.size:=by omega
       unfold ran at hb;simp[hlt]at hb⊢;exact hb
      ·have hoi:opOK ops (vs.map (·.1)) i ops[i]=true:=hops (ops[i],i) (by
        rw[QV];refine⟨i,?_⟩;rw[Q6]
        simp[hi])
       simp only[opOK,Qm]at hoi;have:=QL.1 hoi.1.1.2 e (by simpa using he);rw[hbd]at this;have hlt:e.on<i:=Qr this;exact ih e.on hlt (by omega)
     rw[hr]at hmem;cases hmem
  have heq:ρ'=fin_ vs ρ g:=by
   funext t;by_cases ht:some t∈vs.map (·.1)
   ·obtain⟨i,hi,hit⟩:=Un ht;have hi':i<vs.length:=by simpa using hi
    obtain⟨⟨d,f⟩,hv⟩:∃p,vs[i]? =some p:=⟨_,Ql hi'⟩
    have hd:d=some t:=by
     rw[List.getElem_map]at hit;rw[Ql hi']at hv;rw[Q1.inj hv]at hit;exact hit
    subst hd;rw[fin_in hnd hv];exact(hm t).1 i f (hall i (by rw[hsz];exact hi)) hv
   ·rw[fin_out ht];exact(hm t).2 fun j hj heq=>ht (Qp heq)
  exact⟨_,ha,heq▸hfin (ran L) g w hall hp⟩
 intro fuel
 induction fuel with
 | zero=>
  intro L hL hc a ρ' g w ha hm hcl hp;have hr:Q0 .any ops L=[]:=by
   cases hr:Q0 .any ops L with
   | nil=>rfl
   | cons i r=>
    have hi:i∈Q0 .any ops L:=by rw[hr];exact QU
    obtain⟨hun,o,ho,_⟩:=mem_ready.1 hi;have hlt:i<L.size:=by rw[hL];exact(QI.1 ho).1
    have:L.toList.countP (! ·)=0:=by omega
    rw[List.countP_eq_zero]at this;have h1:=this L[i] (by simp);simp[hlt]at hun h1;rw[hun]at h1;cases h1
  exact⟨hr,hdone L hL hr a ρ' g w ha hm hp⟩
 | succ fuel ih=>
  intro L hL hc a ρ' g w ha hm hcl hp;refine⟨fun hr=>hdone L hL hr a ρ' g w ha hm hp,fun i hi=>?_⟩;obtain⟨hun,o,ho,_⟩:=mem_ready.1 hi;have hlt:i<L.size:=by rw[hL];exact(QI.1 ho).1
  refine draw_step hok hg hi ha hm hL hcl hp fun a' ρ'' g' w' ha' hm' hcl' hp'=>ih (L.setIfInBounds i true) (by simpa using hL) ?_ a' ρ'' g' w' ha' (by rw[ran_set hlt];exact hm') (by rw[ran_set hlt];exact hcl') (by rw[ran_set hlt];exact hp');have hf:L[i]=false:=by simpa [hlt] using hun
  have hc2:(L.setIfInBounds i true).toList.countP (! ·)+1=L.toList.countP (! ·):=by
   rw[Array.toList_setIfInBounds];have hl:i<L.toList.length:=by simpa using hlt
   have hfl:L.toList[i]=false:=by simpa using hf
   have hpos:0<L.toList.countP (! ·):=List.countP_pos_iff.2 ⟨_,RF hl,by rw[hfl];rfl⟩;have hset:=List.countP_set (p:=fun b:Bool=> !b) (l:=L.toList) (i:=i) (a:=true) hl;rw[hfl]at hset;simp only[RL,Rt,if_false,U3,if_true]at hset;omega
  omega
theorem WP.draw {id:Nat}(hm:P.follows .mixedOrders=true)(hok:drawOK ops (vs.map (·.1)) N=true)(hp:pre (fun _=>false) (fun _=>default) w.drew)(hg:GivesAll P ops (fun i=>fin_ (vs.take i) ρ) pre vs 0)
 (hfin: ∀L g w',(∀i,i<ops.size->L i=true)->pre L g w'->Q .normal (fin_ vs ρ g) w'):WP P N (.region id ops true) Q ρ w:=fun a ha=>
 have hno:ran (Rp ops.size false)=fun _=>false:=funext fun i=>by
  show (Rp ops.size false).getD i false=false;simp only[Ri,Array.getElem?_replicate];split<;>rfl
 wp_region_any hm (draw_any hok hg hfin ops.size _ (by simp) (by have:= @List.countP_le_length Bool (! ·) (RG ops.size false);simpa using this) a ρ (fun _=>default) _ ha
  (fun t=>⟨fun i f hi _=>(by rw[hno]at hi;cases hi),fun _=>rfl⟩) (fun j o hj=>(by rw[hno]at hj;cases hj)) (by rw[hno];exact hp))
theorem g_draw0 {c:Code}(l:List Nat)(vs:List (Option Nat×(Gh->Value)))(pre:(Nat->Bool)->(Nat->Gh)->World->Prop)(hc:qN c=some (l,true))(hm:P.follows .mixedOrders=true)(hok:drawOK (zd c) (vs.map (·.1)) N=true)(hp:pre (fun _=>false) (fun _=>default) w.drew)
 (hg:GivesAll P (zd c) (fun i=>fin_ (vs.take i) ρ) pre vs 0) (hfin: ∀L g w',(∀i,i<(zd c).size->L i=true)->pre L g w'->Q .normal (fin_ vs ρ g) w'):WP P N c Q ρ w:=by
 obtain⟨id,he,hl⟩:=xt hc;rw[he];exact WP.draw hm hok hp hg hfin
end
abbrev Ent:=Bool×(Nat×Obj)
structure StE (B:Nat)(w0 w:World)(E:List Ent):Prop where
 below:Below B w0 w
 le:B<=w.heap.size
 own: ∀(k:Nat) (e:Nat×Obj),E[k]? =some (true,e)->B<=e.1/\w.heap[e.1]? =some e.2
 inj: ∀(j k:Nat) (e e':Nat×Obj),E[j]? =some (true,e)->E[k]? =some (true,e')->e.1=e'.1->j=k
def pres:List Ent->Qb
 | []=>[]
 | (true,e)::r=>e::pres r
 | (false,_)::r=>pres r
theorem jR: ∀ {E:List Ent} {k:Nat} {e:Nat×Obj},E[k]? =some (true,e)->e∈pres E
 | [],_,_,h=>by simp at h
 | (true,x)::r,0,e,h=>by simp at h;subst h;simp[pres]
 | (false,x)::r,0,e,h=>by simp at h
 | (true,x)::r,k+1,e,h=>Q7 _ (jR (E:=r) (by simpa using h))
 | (false,x)::r,k+1,e,h=>jR (E:=r) (by simpa using h)
theorem xw: ∀ {E:List Ent} {e:Nat×Obj},e∈pres E->∃k:Nat,E[k]? =some (true,e)
 | [],_,h=>by simp[pres]at h
 | (true,x)::r,e,h=>by
  rcases QN.1 h with rfl|h
  ·exact⟨0,rfl⟩
  ·obtain⟨k,hk⟩:=xw (E:=r) h;exact⟨k+1,by simpa using hk⟩
 | (false,x)::r,e,h=>by obtain⟨k,hk⟩:=xw (E:=r) h;exact⟨k+1,by simpa using hk⟩
theorem kG: ∀ {E:List Ent},((pres E).map (·.1)).Nodup-> ∀ {j k:Nat} {e e':Nat×Obj},E[j]? =some (true,e)->E[k]? =some (true,e')->e.1=e'.1->j=k
 | [],_,_,_,_,_,h,_,_=>by simp at h
 | (true,x)::r,hn,0,0,_,_,_,_,_=>rfl
 | (true,x)::r,hn,0,k+1,e,e',h,h',q=>by
  simp only[pres,QK,RP]at hn;simp at h;subst h;exact absurd (Rq.2 ⟨e',jR (by simpa using h'),q.symm⟩) hn.1
 | (true,x)::r,hn,j+1,0,e,e',h,h',q=>by
  simp only[pres,QK,RP]at hn;simp at h';subst h';exact absurd (Rq.2 ⟨e,jR (by simpa using h),q⟩) hn.1
 | (true,x)::r,hn,j+1,k+1,e,e',h,h',q=>by
  simp only[pres,QK,RP]at hn;exact congrArg (·+1) (kG (E:=r) hn.2 (j:=j) (k:=k) (by simpa using h) (by simpa using h') q)
 | (false,x)::r,hn,0,_,_,_,h,_,_=>by simp at h
 | (false,x)::r,hn,_+1,0,_,_,_,h',_=>by simp at h'
 | (false,x)::r,hn,j+1,k+1,e,e',h,h',q=>by
  exact congrArg (·+1) (kG (E:=r) hn (j:=j) (k:=k) (by simpa using h) (by simpa using h') q)
theorem kH: ∀ {E:List Ent},(∀(j k:Nat) (e e':Nat×Obj),E[j]? =some (true,e)->E[k]? =some (true,e')->e.1=e'.1->j=k)->((pres E).map (·.1)).Nodup
 | [],_=>by simp[pres]
 | (true,x)::r,h=>by
  simp only[pres,QK,RP];refine⟨fun hm=>?_,kH fun j k e e' hj hk q=>by have:=h (j+1) (k+1) e e' (by simpa using hj) (by simpa using hk) q;omega⟩;obtain⟨e,he,q⟩:=Rq.1 hm;obtain⟨k,hk⟩:=xw he;have:=h 0 (k+1) x e rfl (by simpa using hk) q.symm;omega
 | (false,x)::r,h=>kH (E:=r) fun j k e e' hj hk q=>by have:=h (j+1) (k+1) e e' (by simpa using hj) (by simpa using hk) q;omega
theorem StE.of {B:Nat}{w0 w:World}{l:Qb}(h:St B w0 w l)(E:List Ent)(he:pres E=l):StE B w0 w E:=by
 subst he;exact⟨h.below,h.le,fun k e hk=>h.own e (jR hk),fun j k e e' hj hk q=>kG h.nd hj hk q⟩
theorem StE.st {B:Nat}{w0 w:World}{E:List Ent}(h:StE B w0 w E):St B w0 w (pres E):=
 ⟨h.below,h.le,fun e he=>by obtain⟨k,hk⟩:=xw he;exact h.own k e hk,kH h.inj⟩
theorem StE.get {B:Nat}{w0 w:World}{E:List Ent}(h:StE B w0 w E)(k:Nat){b:Nat}{o:Obj}(hk:E[k]? =some (true,(b,o))):w.heap[b]? =some o:=(h.own k _ hk).2
theorem StE.call {B:Nat}{w0 w w':World}{E:List Ent}(h:StE B w0 w E)(hb:Below w.heap.size w w'):StE B w0 w' E:=
 ⟨h.below.trans (hb.mono h.le),Ro h.le hb.size,fun k e hk=>⟨(h.own k e hk).1,by rw[hb.block _ (zj (h.own k e hk).2)];exact(h.own k e hk).2⟩,h.inj⟩
theorem StE.add {B:Nat}{w0 w w':World}{E:List Ent}(h:StE B w0 w E)(hb:Below w.heap.size w w')(k:Nat){b:Nat}{o:Obj}(hle:w.heap.size<=b)(ho:w'.heap[b]? =some o):StE B w0 w' (E.set k (true,(b,o))):=by
 have h':=h.call hb;refine⟨h'.below,h'.le,fun j e hj=>?_,fun i j e e' hi hj q=>?_⟩
 ·rw[RA]at hj;split at hj
  ·split at hj
   ·simp at hj;subst hj;exact⟨Ro h.le hle,ho⟩
   ·cases hj
  ·exact h'.own j e hj
 ·rw[RA]at hi hj;split at hi<;>split at hj
  ·omega
  ·split at hi
   ·simp at hi;subst hi;have:=zj (h.own j e' hj).2;simp at q;omega
   ·cases hi
  ·split at hj
   ·simp at hj;subst hj;have:=zj (h.own i e hi).2;simp at q;omega
   ·cases hj
  ·exact h.inj i j e e' hi hj q
theorem StE.turn {B:Nat}{w0 w w':World}{E:List Ent}(h:StE B w0 w E)(k:Nat){b b':Nat}{o o':Obj}(hk:E[k]? =some (true,(b,o)))(hg:w.grownBy w' (some b))(hb:b'=b\/b'=w.heap.size)(ho:w'.heap[b']? =some o'):StE B w0 w' (E.set k (true,(b',o'))):=by
 have hB:=(h.own k _ hk).1;have hlt:=zj (h.own k _ hk).2;have hle:=h.le;have hB':B<=b':=by
  rcases hb with q|q
  ·rw[q];exact hB
  ·rw[q];exact hle
 refine⟨h.below.grown hg hle (fun q hq=>by injection hq with hq;subst hq;exact hB),Ro hle hg.size,fun j e hj=>?_,fun i j e e' hi hj q=>?_⟩
 ·rw[RA]at hj;split at hj
  ·split at hj
   ·simp at hj;subst hj;exact⟨hB',ho⟩
   ·cases hj
  ·rename_i hkj
   have hne:e.1≠b:=fun q=>hkj (h.inj k j _ e hk hj q.symm);exact⟨(h.own j e hj).1,by rw[hg.block e.1 (zj (h.own j e hj).2) (fun q=>hne (by injection q))];exact(h.own j e hj).2⟩
 ·have other: ∀(j:Nat) (e:Nat×Obj),k≠j->E[j]? =some (true,e)->b'≠e.1:=fun j1 e1 hne1 hj1 q1=>by
   rcases hb with hq|hq
   ·exact hne1 (h.inj k j1 _ e1 hk hj1 (hq▸q1))
   ·have h9:=zj (h.own j1 e1 hj1).2;omega
  rw[RA]at hi hj;split at hi<;>split at hj
  ·omega
  ·rename_i _ hne
   split at hi
   ·simp at hi;subst hi;exact absurd q (other j e' hne hj)
   ·cases hi
  ·rename_i hne _
   split at hj
   ·simp at hj;subst hj;exact absurd q.symm (other i e hne hi)
   ·cases hj
  ·exact h.inj i j e e' hi hj q
theorem grownBy_setRow (w:World)(b:Nat)(C:Qd):w.grownBy (w.setRow b C) (some b):=
 ⟨rfl,rfl,rfl,by simp[UR],fun k hk hne=>kw _ _ _ _ (fun q=>hne (by rw[q]))⟩
section
variable {P:Program}{ops:Array Oper}{R:(Nat->Gh)->Env}{pre:(Nat->Bool)->(Nat->Gh)->World->Prop}{i:Nat}{d:Option Nat}{V:Gh->Value}
def edge (ops:Array Oper)(i j:Nat):Bool:=match ops[j]? with | some o=>o.after.toList.any fun e=>QT .any e&&Qv e.on i | none=>false
theorem Closed.no {L:Nat->Bool}(h:Closed ops L)(i j:Nat)(he:edge ops i j=true)(hn:L i=false):L j=false:=by
 cases hj:L j with
 | false=>rfl
 | true=>
  unfold edge at he;cases ho:ops[j]? with
  | none=>rw[ho]at he;cases he
  | some o=>
   rw[ho]at he;simp only[Q2,Qm]at he;obtain⟨e,hm,hb,hon⟩:=he;have:=h j o hj ho e (by simpa using hm) hb;rw[Qn hon,hn]at this;cases this
theorem Closed.yes {L:Nat->Bool}(h:Closed ops L)(i j:Nat)(he:edge ops i j=true)(hn:L j=true):L i=true:=by
 cases hi:L i with
 | true=>rfl
 | false=>rw[h.no i j he hi]at hn;cases hn
theorem before_yes {L:Nat->Bool}{j:Nat}(h: ∀o,ops[j]? =some o-> ∀e∈o.after,QT .any e=true->L e.on=true)(i:Nat)(he:edge ops i j=true):L i=true:=by
 unfold edge at he;cases ho:ops[j]? with
 | none=>rw[ho]at he;cases he
 | some o=>
  rw[ho]at he;simp only[Q2,Qm]at he;obtain⟨e,hm,hb,hon⟩:=he;have:=h o ho e (by simpa using hm) hb
  rwa [Qn hon]at this
def Now (ops:Array Oper)(i:Nat)(L:Nat->Bool):Prop:=L i=false/\(∀o,ops[i]? =some o-> ∀e∈o.after,QT .any e=true->L e.on=true)/\Closed ops L
theorem Now.bef {L:Nat->Bool}(h:Now ops i L)(j:Nat)(he:edge ops j i=true):L j=true:=before_yes h.2.1 j he
theorem Now.post {L:Nat->Bool}(h:Now ops i L)(j:Nat)(he:edge ops i j=true):L j=false:=h.2.2.no i j he h.1
theorem jS (h: ∀L g w,pre L g w->Now ops i L->∃o,ops[i]? =some o/\o.dst=d/\
 ((Qz o (zy ops (R g))=false/\V (g i)=undef/\pre (put1 L i) g w)\/(Qz o (zy ops (R g))=true/\Runs P (fun v w'=> ∃b,v=V b/\pre (put1 L i) (setN g i b) w') ((execOp (ev (R g)) o).run P w)))):Gives P ops R pre i d V:=
 fun L g w hp hn hr hc=>h L g w hp ⟨hn,hr,hc⟩
theorem gv_val {V:Value}(hs: ∀L g w,pre L g w->pre (put1 L i) g w)(h: ∀g w,opv P ops i (R g) w=some (d,true,.ok (.value V) w)):Gives P ops R pre i d (fun _=>V):=fun L g w hp _ _ _=>by
 obtain⟨o,ho,hd,hw,hr⟩:=yh (h g w);exact⟨o,ho,hd,.inr ⟨hw,by rw[hr];exact⟨g i,rfl,by rw[setN_self];exact hs _ _ _ hp⟩⟩⟩
theorem gv_valG (f:(Nat->Gh)->Gh)(hs: ∀L g w,Now ops i L->pre L g w->pre (put1 L i) (setN g i (f g)) w)(h: ∀g w,opv P ops i (R g) w=some (d,true,.ok (.value (V (f g))) w)):Gives P ops R pre i d V:=jS fun L g w hp hN=>by
 obtain⟨o,ho,hd,hw,hr⟩:=yh (h g w);exact⟨o,ho,hd,.inr ⟨hw,by rw[hr];exact⟨f g,rfl,hs _ _ _ hN hp⟩⟩⟩
theorem gv_valE {V V':Value}(hs: ∀L g w,pre L g w->pre (put1 L i) g w)(h: ∀g w,opv P ops i (R g) w=some (d,true,.ok (.value V') w))(e:V'=V):Gives P ops R pre i d (fun _=>V):=e▸gv_val hs h
variable {E:(Nat->Bool)->(Nat->Gh)->List Ent}{F:(Nat->Bool)->(Nat->Gh)->Prop}{B:Nat}{w0:World}
end
end D2
section
variable {P:Program}{N:Nat}{ops:Array Oper}{i:Nat}{r:List Nat}{K:Env->World->Prop}{ρ:Env}{w:World}{B:Nat}{w0:World}{l:Qb}
end
namespace D2
section
variable {P:Program}{ops:Array Oper}{R:(Nat->Gh)->Env}{i:Nat}{d:Option Nat}{V:Gh->Value}
variable {E:(Nat->Bool)->(Nat->Gh)->List Ent}{F:(Nat->Bool)->(Nat->Gh)->Prop}{B:Nat}{w0:World}
end
end D2
section
open D2 (Gh StE Closed Now edge Runs put1 setN)
structure Eqn:Type 1 where
 {α:Type}
 a:α
 b:α
def Eqn.lf (e:Eqn):Sigma (fun α:Type=>α):=⟨e.α,e.a⟩
def Eqn.rt (e:Eqn):Sigma (fun α:Type=>α):=⟨e.α,e.b⟩
abbrev Eqs (l:List Eqn):Prop:=l.map Eqn.lf=l.map Eqn.rt
theorem Eqs.head {α:Type}{a b:α}{l:List Eqn}(h:Eqs (⟨a,b⟩::l)):a=b:=by
 have h1:(⟨α,a⟩:Sigma (fun α:Type=>α))=⟨α,b⟩:=(UW.inj h).1;exact eq_of_heq (Sigma.mk.inj h1).2
theorem Eqs.tail {e:Eqn}{l:List Eqn}(h:Eqs (e::l)):Eqs l:=(UW.inj h).2
theorem Eqs.both: ∀ {l m:List Eqn},Eqs (l++m)->Eqs l/\Eqs m
 | [],m,h=>⟨rfl,h⟩
 | e::l,m,h=>by
  obtain⟨h1,h2⟩:=Eqs.both (l:=l) (UW.inj h).2;refine⟨?_,h2⟩;have:=(UW.inj h).1;show e.lf::l.map Eqn.lf=e.rt::l.map Eqn.rt;rw[this,h1]
theorem Eqs.mem: ∀ {l:List Eqn},Eqs l-> ∀ {e:Eqn},e∈l->e.lf=e.rt
 | x::l,h,e,he=>by
  rcases QN.1 he with rfl|he
  ·exact(UW.inj h).1
  ·exact Eqs.mem (Eqs.tail h) he
def Hd:List (Nat×(Nat×Obj))->World->Prop
 | [],_=>True
 | e::r,w=>w.heap[e.2.1]? =some e.2.2/\Hd r w
def Ins (r:Operand->Value):List (Operand×Value)->Prop
 | []=>True
 | p::l=>r p.1=p.2/\Ins r l
inductive Eff
 | no
 | new (o:Obj)
 | turn (j:Nat) (o:Obj)
def jT (bl:Qb)(w w':World)(g:Gh):Eff->Prop
 | .no=>Below w.heap.size w w'
 | .new o=>Below w.heap.size w w'/\w.heap.size<=g.b/\w'.heap[g.b]? =some o
 | .turn j o=> ∃e,bl[j]? =some e/\w.grownBy w' (some e.1)/\w'.heap[e.1]? =some o
inductive It (P:Program)(B:Nat)(w0:World):Type
 | v
 | n
 | a
 | b
 | l (j:Nat)
 | s (j:Nat)
 | e {v v':Value} (h:v=v')
 | f {b:Nat} {o:Obj} (h:w0.heap[b]? =some o) (hb:b<B)
 | ls (j:Nat) {C:Qd} {off:Nat} {v:Value} (h:C[off]? =some v)
 | lp (j:Nat) {C W:Qd} {off n:Nat} (hs:off+n<=C.size) (h:C.extract off (off+n)=W)
 | fs {b off:Nat} {C:Qd} {T:TypeId} {fz:Nat×Nat} {v:Value} (h:w0.heap[b]? =some (.cells C T fz)) (hb:b<B) (hv:C[off]? =some v)
 | fp {b off n:Nat} {C W:Qd} {T:TypeId} {fz:Nat×Nat} (h:w0.heap[b]? =some (.cells C T fz)) (hb:b<B) (hs:off+n<=C.size) (hW:C.extract off (off+n)=W)
 | se (j:Nat) {C C':Qd} {off:Nat} {v:Value} (hs:off+v.cells.size<=C.size) (h:(C.toList.take off++v.cells.toList++C.toList.drop (off+v.cells.size)).toArray=C')
 | c {f:Nat} {args:Qd} {v:Value} (h:Fn P f args v)
 | cp {f:Nat} {args:Qd} {pre:World->Prop} {v:Value} (h:FnP P f args pre v) (rd:List (Nat×(Nat×Obj))) (hp: ∀w,Below B w0 w->Hd rd w->pre w)
 | o {ins:List (Operand×Value)} {op:Op} {v:Value} (h: ∀(ρ:Env) (o:Oper) (w:World),o.op=op->Ins (ev ρ) ins->(execOp (ev ρ) o).run P w=.ok (.value v) w)
 | oe {ins:List (Operand×Value)} {op:Op} {v v':Value} (h: ∀(ρ:Env) (o:Oper) (w:World),o.op=op->Ins (ev ρ) ins->(execOp (ev ρ) o).run P w=.ok (.value v) w) (e:v=v')
 | g (ins:List (Operand×Value)) (op:Op) (rd:List (Nat×(Nat×Obj))) (val:Gh->Value) (eff:Eff)
  (h: ∀(ρ:Env) (o:Oper) (w:World),o.op=op->Ins (ev ρ) ins->Hd rd w->Below B w0 w->Runs P (fun v w'=> ∃g:Gh,v=val g/\(match eff with
   | .no=>Below w.heap.size w w'
   | .new o=>Below w.heap.size w w'/\w.heap.size<=g.b/\w'.heap[g.b]? =some o
   | .turn j o=> ∃q,(rd.lookup j)=some q/\w.grownBy w' (some q.1)/\w'.heap[q.1]? =some o)) ((execOp (ev ρ) o).run P w))
 | nw (V:Nat->Value) (C:Qd) (T:TypeId)
 | x {ins:List (Operand×Value)} {op:Op} {v:Value} (rd:List (Nat×(Nat×Obj))) (h: ∀(ρ:Env) (o:Oper) (w:World),o.op=op->Ins (ev ρ) ins->Hd rd w->(execOp (ev ρ) o).run P w=.ok (.value v) w)
 | w (f:(Nat->Nat)->It P B w0)
abbrev It.E {P B w0}(v v':Value)(h:v=v'):It P B w0:=.e h
def yx:Value->Nat
 | .pointer (some a)=>a.off
 | _=>0
def cellsOf:Obj->Qd
 | .cells C _ _=>C
 | _=>#[]
def qC:Obj->TypeId
 | .cells _ T _=>T
 | _=>0
def xx:Obj->Nat×Nat
 | .cells _ _ fz=>fz
 | _=>(0,0)
def zi (ops:Array Oper)(i:Nat):Option Nat:=(ops[i]?).bind (·.dst)
def opo (ops:Array Oper)(i:Nat):Op:=match ops[i]? with | some o=>o.op | none=>.ready 0
def ldT:Op->TypeId
 | .load t _=>t
 | .alloc t=>t
 | .box t _=>t
 | .store t _ _=>t
 | _=>0
def ldX:Op->Operand
 | .load _ x=>x
 | .box _ x=>x
 | .store _ x _=>x
 | _=>.tmp 0
def ldY:Op->Operand
 | .store _ _ y=>y
 | _=>.tmp 0
def nm (bl:Qb)(j:Nat):Nat:=match bl[j]? with | some e=>e.1 | none=>0
def ob (bl:Qb)(j:Nat):Obj:=match bl[j]? with | some e=>e.2 | none=>.cells #[] 0 (0,0)
def jU (P:Program)(t:TypeId)(a:Nat)(C:Qd):Bool:=match aggSize P t with
 | some n=>Nat.ble (a+n) C.size
 | none=>oneCell P t&&Uh a C.size
def ldv (P:Program)(t:TypeId)(a:Nat)(C:Qd):Value:=match aggSize P t with
 | some n=>bif Qv a 0&&Qv n C.size then .agg C else .agg (C.extract a (a+n))
 | none=>C.getD a undef
def jw (a:Nat)(v C:Qd):Qd:=
 bif Qv a 0&&Qv v.size C.size then v else (C.toList.take a++v.toList++C.toList.drop (a+v.size)).toArray
def zof (P:Program)(t:TypeId):Value:=match (P.info? t).bind (·.zero) with | some z=>z | none=>undef
def vof (P:Program)(ops:Array Oper)(i:Nat)(ρ:Env)(w:World):Value:=match opv P ops i ρ w with
 | some (_,_,.ok (.value v) _)=>v
 | _=>undef
def isC (bl:Qb)(j:Nat):Bool:=match bl[j]? with
 | some (_,.cells _ _ _)=>true
 | _=>false
def jV (bl:Qb)(j:Nat):Bool:=match bl[j]? with
 | some (_,.cells _ _ fz)=>Qv fz.1 0&&Qv fz.2 0
 | _=>false
theorem kI {bl:Qb}{j:Nat}(h:isC bl j=true):bl[j]? =some (nm bl j,.cells (cellsOf (ob bl j)) (qC (ob bl j)) (xx (ob bl j))):=by
 unfold isC at h;unfold nm ob;cases hb:bl[j]? with
 | none=>rw[hb]at h;cases h
 | some e=>
  obtain⟨b,o⟩:=e;rw[hb]at h;cases o<;>first | rfl | cases h
theorem vY {bl:Qb}{j:Nat}(h:jV bl j=true):bl[j]? =some (nm bl j,.cells (cellsOf (ob bl j)) (qC (ob bl j))):=by
 unfold jV at h;unfold nm ob;cases hb:bl[j]? with
 | none=>rw[hb]at h;cases h
 | some e=>
  obtain⟨b,o⟩:=e;rw[hb]at h;cases o with
  | cells C T fz=>
   obtain⟨x,y⟩:=fz;simp only[Qm]at h;obtain rfl:=Qn h.1;obtain rfl:=Qn h.2;rfl
  | _=>cases h
theorem vZ {bl:Qb}{j:Nat}{C:Qd}(h:isC bl j=true)(hC:cellsOf (ob bl j)=C):bl[j]? =some (nm bl j,.cells C (qC (ob bl j)) (xx (ob bl j))):=hC▸kI h
theorem zbO {bl:Qb}{j:Nat}{C:Qd}(h:jV bl j=true)(hC:cellsOf (ob bl j)=C):bl[j]? =some (nm bl j,.cells C (qC (ob bl j))):=hC▸vY h
structure Rc where
 val:Gh->Value
 eff:Eff
 rd:List Nat
 eqs:List Eqn
def itR {P:Program}{B:Nat}{w0:World}(ops:Array Oper)(i:Nat)(ρ:Env)(bl:Qb):It P B w0->Rc
 | .v=>⟨fun _=>vof P ops i ρ w0,.no,[],[⟨fun w=>opv P ops i ρ w,fun w=>some (zi ops i,true,.ok (.value (vof P ops i ρ w0)) w)⟩]⟩
 | .n=>⟨fun _=>undef,.no,[],[⟨opn ops i ρ,some (zi ops i,false)⟩]⟩
 | .a=>⟨fun g=>.pointer (some ⟨g.b,0,none⟩),.new (.cells (zof P (ldT (opo ops i))).cells (ldT (opo ops i))),[],
  [⟨opk ops i ρ,some (zi ops i,true,.alloc (ldT (opo ops i)))⟩,⟨(P.info? (ldT (opo ops i))).bind (·.zero),some (zof P (ldT (opo ops i)))⟩]⟩
 | .b=>⟨fun g=>.pointer (some ⟨g.b,0,none⟩),.new (.cells (ev ρ (ldX (opo ops i))).cells (ldT (opo ops i))),[],
  [⟨opk ops i ρ,some (zi ops i,true,.box (ldT (opo ops i)) (ldX (opo ops i)))⟩]⟩
 | .l j=>⟨fun _=>ldv P (ldT (opo ops i)) (yx (ev ρ (ldX (opo ops i)))) (cellsOf (ob bl j)),.no,[j],
  [⟨opk ops i ρ,some (zi ops i,true,.load (ldT (opo ops i)) (ldX (opo ops i)))⟩,⟨isC bl j,true⟩,
   ⟨ev ρ (ldX (opo ops i)),.pointer (some ⟨nm bl j,yx (ev ρ (ldX (opo ops i))),none⟩)⟩,⟨jU P (ldT (opo ops i)) (yx (ev ρ (ldX (opo ops i)))) (cellsOf (ob bl j)),true⟩]⟩
 | .s j=>⟨fun _=>undef,.turn j (.cells (jw (yx (ev ρ (ldX (opo ops i)))) (ev ρ (ldY (opo ops i))).cells (cellsOf (ob bl j))) (qC (ob bl j)) (0,0)),[j],
  [⟨opk ops i ρ,some (none,true,.store (ldT (opo ops i)) (ldX (opo ops i)) (ldY (opo ops i)))⟩,⟨jV bl j,true⟩,
   ⟨ev ρ (ldX (opo ops i)),.pointer (some ⟨nm bl j,yx (ev ρ (ldX (opo ops i))),none⟩)⟩,⟨(P.info? (ldT (opo ops i))).map (·.size),some (ev ρ (ldY (opo ops i))).cells.size⟩,
   ⟨(ev ρ (ldY (opo ops i))).cells.all (·.oneCell'),true⟩,⟨Nat.ble (yx (ev ρ (ldX (opo ops i)))+(ev ρ (ldY (opo ops i))).cells.size) (cellsOf (ob bl j)).size,true⟩]⟩
 | .E v v' _=>⟨fun _=>v',.no,[],[⟨fun w=>opv P ops i ρ w,fun w=>some (zi ops i,true,.ok (.value v) w)⟩]⟩
 | .f (b:=b) (o:=o) _ _=>⟨fun _=>ldv P (ldT (opo ops i)) (yx (ev ρ (ldX (opo ops i)))) (cellsOf o),.no,[],
  [⟨opk ops i ρ,some (zi ops i,true,.load (ldT (opo ops i)) (ldX (opo ops i)))⟩,⟨o,.cells (cellsOf o) (qC o) (xx o)⟩,
   ⟨ev ρ (ldX (opo ops i)),.pointer (some ⟨b,yx (ev ρ (ldX (opo ops i))),none⟩)⟩,⟨jU P (ldT (opo ops i)) (yx (ev ρ (ldX (opo ops i)))) (cellsOf o),true⟩]⟩
 | .ls j (C:=C) (off:=off) (v:=v) _=>⟨fun _=>v,.no,[j],
  [⟨opk ops i ρ,some (zi ops i,true,.load (ldT (opo ops i)) (ldX (opo ops i)))⟩,⟨isC bl j,true⟩,⟨cellsOf (ob bl j),C⟩,
   ⟨ev ρ (ldX (opo ops i)),.pointer (some ⟨nm bl j,off,none⟩)⟩,⟨oneCell P (ldT (opo ops i)),true⟩]⟩
 | .lp j (C:=C) (W:=W) (off:=off) (n:=n) _ _=>⟨fun _=>.agg W,.no,[j],
  [⟨opk ops i ρ,some (zi ops i,true,.load (ldT (opo ops i)) (ldX (opo ops i)))⟩,⟨isC bl j,true⟩,⟨cellsOf (ob bl j),C⟩,
   ⟨ev ρ (ldX (opo ops i)),.pointer (some ⟨nm bl j,off,none⟩)⟩,⟨aggSize P (ldT (opo ops i)),some n⟩]⟩
 | .fs (b:=b) (off:=off) (v:=v) _ _ _=>⟨fun _=>v,.no,[],
  [⟨opk ops i ρ,some (zi ops i,true,.load (ldT (opo ops i)) (ldX (opo ops i)))⟩,
   ⟨ev ρ (ldX (opo ops i)),.pointer (some ⟨b,off,none⟩)⟩,⟨oneCell P (ldT (opo ops i)),true⟩]⟩
 | .fp (b:=b) (off:=off) (n:=n) (W:=W) _ _ _ _=>⟨fun _=>.agg W,.no,[],
  [⟨opk ops i ρ,some (zi ops i,true,.load (ldT (opo ops i)) (ldX (opo ops i)))⟩,
   ⟨ev ρ (ldX (opo ops i)),.pointer (some ⟨b,off,none⟩)⟩,⟨aggSize P (ldT (opo ops i)),some n⟩]⟩
 | .se j (C:=C) (C':=C') (off:=off) (v:=v) _ _=>⟨fun _=>undef,.turn j (.cells C' (qC (ob bl j))),[j],
  [⟨opk ops i ρ,some (none,true,.store (ldT (opo ops i)) (ldX (opo ops i)) (ldY (opo ops i)))⟩,⟨jV bl j,true⟩,⟨cellsOf (ob bl j),C⟩,
   ⟨ev ρ (ldX (opo ops i)),.pointer (some ⟨nm bl j,off,none⟩)⟩,⟨ev ρ (ldY (opo ops i)),v⟩,⟨(P.info? (ldT (opo ops i))).map (·.size),some v.cells.size⟩,
   ⟨v.cells.all (·.oneCell'),true⟩]⟩
 | .c (f:=f) (args:=args) (v:=v) _=>⟨fun _=>v,.no,[],[⟨fun w=>opv P ops i ρ w,fun w=>some (zi ops i,true,.ok (.enter f args) w)⟩]⟩
 | .cp (f:=f) (args:=args) (v:=v) _ rd _=>⟨fun _=>v,.no,rd.map (·.1),⟨fun w=>opv P ops i ρ w,fun w=>some (zi ops i,true,.ok (.enter f args) w)⟩::rd.map fun r=>⟨bl[r.1]?,some r.2⟩⟩
 | .o (ins:=ins) (op:=op) (v:=v) _=>⟨fun _=>v,.no,[],⟨opk ops i ρ,some (zi ops i,true,op)⟩::ins.map fun p=>⟨ev ρ p.1,p.2⟩⟩
 | .oe (ins:=ins) (op:=op) (v':=v') _ _=>⟨fun _=>v',.no,[],⟨opk ops i ρ,some (zi ops i,true,op)⟩::ins.map fun p=>⟨ev ρ p.1,p.2⟩⟩
 | .g ins op rd val eff _=>⟨val,eff,rd.map (·.1),⟨opk ops i ρ,some (zi ops i,true,op)⟩::((ins.map fun p=>⟨ev ρ p.1,p.2⟩)++rd.map fun r=>⟨bl[r.1]?,some r.2⟩)⟩
 | .nw V C T=>⟨fun g=>V g.b,.new (.cells C T),[],[⟨fun w=>opv P ops i ρ w,fun w=>some (zi ops i,true,.ok (.value (V w.heap.size)) (w.alloc (.cells C T)))⟩]⟩
 | .x (ins:=ins) (op:=op) (v:=v) rd _=>⟨fun _=>v,.no,rd.map (·.1),⟨opk ops i ρ,some (zi ops i,true,op)⟩::((ins.map fun p=>⟨ev ρ p.1,p.2⟩)++rd.map fun r=>⟨bl[r.1]?,some r.2⟩)⟩
 | .w f=>itR ops i ρ bl (f (nm bl))
section
variable {P:Program}{N:Nat}{ops:Array Oper}{i:Nat}{ρ:Env}{w w0:World}{B:Nat}{bl:Qb}
theorem kJ {t:TypeId}{b off:Nat}{C:Qd}{T:TypeId}{fz:Nat×Nat}(h:jU P t off C=true)(hh:w.heap[b]? =some (.cells C T fz)):
 (loadVar t ⟨b,off,none⟩).run P w=.ok (ldv P t off C) w:=by
 unfold jU at h;unfold ldv;cases ht:aggSize P t with
 | none=>
  rw[ht]at h;simp only[Qm]at h;have hlt:off<C.size:=Qr h.2;refine xn h.1 hh ?_;simp[Ri,hlt]
 | some n=>
  rw[ht]at h;have hle:off+n<=C.size:=Qr h;have:=jr (w:=w) ht hh hle;rw[this];cases hb:Qv off 0&&Qv n C.size with
  | false=>simp only[hb,cond_false]
  | true=>
   simp only[hb,cond_true];simp only[Qm]at hb;have h1:=Qn hb.1;have h2:=Qn hb.2;subst h1 h2;simp
theorem zbP {a:Nat}{v C:Qd} :jw a v C=(C.toList.take a++v.toList++C.toList.drop (a+v.size)).toArray:=by
 unfold jw;cases hb:Qv a 0&&Qv v.size C.size with
 | false=>rfl
 | true=>
  simp only[Qm]at hb;have h1:=Qn hb.1;have h2:=Qn hb.2;subst h1;have h3:C.toList.length=v.size:=by rw[h2];simp
  simp[h2];show v=(v.toList++List.drop C.size C.toList).toArray;rw[List.drop_eq_nil_of_le (by simp)];simp
theorem Ins.of {r:Operand->Value} : ∀ {ins:List (Operand×Value)},Eqs (ins.map fun p=>⟨r p.1,p.2⟩)->Ins r ins
 | [],_=>trivial
 | p::l,h=>⟨Eqs.head h,Ins.of (Eqs.tail h)⟩
theorem Hd.of: ∀ {rd:List (Nat×(Nat×Obj))},Eqs (rd.map fun r=>⟨bl[r.1]?,some r.2⟩)->(∀j,j∈rd.map (·.1)-> ∀e,bl[j]? =some e->w.heap[e.1]? =some e.2)->Hd rd w
 | [],_,_=>trivial
 | p::l,h,hd=>⟨hd p.1 (by simp) p.2 (Eqs.head h),Hd.of (Eqs.tail h) fun j hj=>hd j (by simp at hj⊢;exact .inr hj)⟩
theorem ua: ∀ {rd:List (Nat×(Nat×Obj))} {j:Nat} {q:Nat×Obj},Eqs (rd.map fun r=>⟨bl[r.1]?,some r.2⟩)->rd.lookup j=some q->bl[j]? =some q
 | [],j,q,_,h=>by simp at h
 | p::l,j,q,hE,h=>by
  simp only[List.lookup]at h;split at h
  ·rename_i hb
   cases h;rw[eq_of_beq hb];exact Eqs.head hE
  ·exact ua (Eqs.tail hE) h
theorem kK: ∀(it:It P B w0),Eqs (itR ops i ρ bl it).eqs->Below B w0 w->(∀j,j∈(itR ops i ρ bl it).rd-> ∀e,bl[j]? =some e->w.heap[e.1]? =some e.2)->
 ∃o,ops[i]? =some o/\o.dst=zi ops i/\((Qz o (zy ops ρ)=false/\(itR ops i ρ bl it).val=(fun _=>undef)/\(itR ops i ρ bl it).eff=.no)\/
  (Qz o (zy ops ρ)=true/\Runs P (fun v w'=> ∃g,v=(itR ops i ρ bl it).val g/\jT bl w w' g (itR ops i ρ bl it).eff) ((execOp (ev ρ) o).run P w)))
 | .v,hE,hb,hd=>by
  obtain⟨o,ho,h1,hw,hr⟩:=yh (congrFun (Eqs.head hE) w);exact⟨o,ho,h1,.inr ⟨hw,by rw[hr];exact⟨default,rfl,Rm _ _⟩⟩⟩
 | .n,hE,hb,hd=>by
  obtain⟨o,ho,h1,hw⟩:=vQ (Eqs.head hE);exact⟨o,ho,h1,.inl ⟨hw,rfl,rfl⟩⟩
 | .a,hE,hb,hd=>by
  obtain⟨o,ho,h1,hw,hop⟩:=zJ (Eqs.head hE);refine⟨o,ho,h1,.inr ⟨hw,?_⟩⟩;have hz:=Eqs.head (Eqs.tail hE);generalize zof P (ldT (opo ops i))=z at hz;have hz0:=hz;have e:(execOp (ev ρ) o).run P w=.ok (.value (Qe w.heap.size)) (w.alloc (.cells z.cells (ldT (opo ops i)))):=by
   cases hq:P.info? (ldT (opo ops i)) with
   | none=>rw[hq]at hz;cases hz
   | some it=>
    rw[hq]at hz;simp only[Option.bind_some]at hz;simp[execOp,hop,Instr.alloc,zeroValue,typeInfo,hq,hz,newVar,newRow,newObj];rfl
  rw[e];refine⟨{ b:=w.heap.size },rfl,(Rm _ _).alloc (Qs _) _,Qs _,?_⟩;have ez:zof P (ldT (opo ops i))=z:=by unfold zof;rw[hz0]
  rw[ez];exact heap_alloc_new w _
 | .b,hE,hb,hd=>by
  obtain⟨o,ho,h1,hw,hop⟩:=zJ (Eqs.head hE);refine⟨o,ho,h1,.inr ⟨hw,?_⟩⟩;have e:(execOp (ev ρ) o).run P w=.ok (.value (Qe w.heap.size)) (w.alloc (.cells (ev ρ (ldX (opo ops i))).cells (ldT (opo ops i)))):=by
   simp[execOp,hop,Instr.box,newVar,newRow,newObj];rfl
  rw[e];exact⟨{ b:=w.heap.size },rfl,(Rm _ _).alloc (Qs _) _,Qs _,heap_alloc_new w _⟩
 | .l j,hE,hb,hd=>by
  obtain⟨o,ho,h1,hw,hop⟩:=zJ (Eqs.head hE);refine⟨o,ho,h1,.inr ⟨hw,?_⟩⟩;have hj:=kI (Eqs.head (Eqs.tail hE));have hx:=Eqs.head (Eqs.tail (Eqs.tail hE));have hk:=Eqs.head (Eqs.tail (Eqs.tail (Eqs.tail hE)));have hh:=hd j (by simp[itR]) _ hj;have e3:=kJ hk hh;have e2:(execOp (ev ρ) o).run P w=.ok (.value (ldv P (ldT (opo ops i)) (yx (ev ρ (ldX (opo ops i)))) (cellsOf (ob bl j)))) w:=by
   have e4:(RI (ldT (opo ops i)) (ev ρ (ldX (opo ops i)))).run P w=.ok (ldv P (ldT (opo ops i)) (yx (ev ρ (ldX (opo ops i)))) (cellsOf (ob bl j))) w:=by
    rw[hx];rw[hx]at e3;exact e3
   simp only[execOp,hop,QM,e4,QA];rfl
  rw[e2];exact⟨default,rfl,Rm _ _⟩
 | .s j,hE,hb,hd=>by
  obtain⟨o,ho,h1,hw,hop⟩:=zJ (Eqs.head hE);refine⟨o,ho,by unfold zi;rw[ho];rfl,.inr ⟨hw,?_⟩⟩;have hj:=vY (Eqs.head (Eqs.tail hE));have hx:=Eqs.head (Eqs.tail (Eqs.tail hE));have hi:=Eqs.head (Eqs.tail (Eqs.tail (Eqs.tail hE)));have hc:=Eqs.head (Eqs.tail (Eqs.tail (Eqs.tail (Eqs.tail hE))));have hs:_+_<=_:=Qr (Eqs.head (Eqs.tail (Eqs.tail (Eqs.tail (Eqs.tail (Eqs.tail hE))))));have hh:=hd j (by simp[itR]) _ hj;have h9:=jN (P:=P) (w:=w) hi hc hh hs;rw[<-zbP]at h9;refine cast (congrArg (Runs P _) ?_) (show Runs P (fun v w'=> ∃g,v=undef/\jT bl w w' g (.turn j (.cells (jw (yx (ev ρ (ldX (opo ops i)))) (ev ρ (ldY (opo ops i))).cells (cellsOf (ob bl j))) (qC (ob bl j)) (0,0)))) (.ok .skip (w.setRow (nm bl j) (jw (yx (ev ρ (ldX (opo ops i)))) (ev ρ (ldY (opo ops i))).cells (cellsOf (ob bl j))))) from ?_)
  ·have e4:(UK (ldT (opo ops i)) (ev ρ (ldX (opo ops i))) (ev ρ (ldY (opo ops i)))).run P w=.ok () (w.setRow (nm bl j) (jw (yx (ev ρ (ldX (opo ops i)))) (ev ρ (ldY (opo ops i))).cells (cellsOf (ob bl j)))):=by
    rw[hx];rw[hx]at h9;exact h9
   symm
   simp only[execOp,hop,QM,e4,QA];rfl
  ·exact⟨default,rfl,_,hj,D2.grownBy_setRow _ _ _,setRow_heap w _ _ _ _ _ hh⟩
 | .e h,hE,hb,hd=>by
  obtain⟨o,ho,h1,hw,hr⟩:=yh (congrFun (Eqs.head hE) w);subst h;exact⟨o,ho,h1,.inr ⟨hw,by rw[hr];exact⟨default,rfl,Rm _ _⟩⟩⟩
 | .f (b:=b) (o:=q) h hlt,hE,hb,hd=>by
  obtain⟨o,ho,h1,hw,hop⟩:=zJ (Eqs.head hE);refine⟨o,ho,h1,.inr ⟨hw,?_⟩⟩;have hj:=Eqs.head (Eqs.tail hE);have hx:=Eqs.head (Eqs.tail (Eqs.tail hE));have hk:=Eqs.head (Eqs.tail (Eqs.tail (Eqs.tail hE)));have hh:w.heap[b]? =some (.cells (cellsOf q) (qC q) (xx q)):=by rw[hb.block b hlt,h];exact congrArg some hj
  have e3:=kJ hk hh;have e2:(execOp (ev ρ) o).run P w=.ok (.value (ldv P (ldT (opo ops i)) (yx (ev ρ (ldX (opo ops i)))) (cellsOf q))) w:=by
   have e4:(RI (ldT (opo ops i)) (ev ρ (ldX (opo ops i)))).run P w=.ok (ldv P (ldT (opo ops i)) (yx (ev ρ (ldX (opo ops i)))) (cellsOf q)) w:=by
    rw[hx];rw[hx]at e3;exact e3
   simp only[execOp,hop,QM,e4,QA];rfl
  rw[e2];exact⟨default,rfl,Rm _ _⟩
 | .ls j (C:=C) (off:=off) (v:=v) h,hE,hb,hd=>by
  obtain⟨o,ho,h1,hw,hop⟩:=zJ (Eqs.head hE);refine⟨o,ho,h1,.inr ⟨hw,?_⟩⟩;have hj:=vZ (Eqs.head (Eqs.tail hE)) (Eqs.head (Eqs.tail (Eqs.tail hE)));have hE':=Eqs.tail (Eqs.tail hE);have hx:=Eqs.head (Eqs.tail hE');have hk:=Eqs.head (Eqs.tail (Eqs.tail hE'));have hh:=hd j (by simp[itR]) _ hj;have e3:=xn (w:=w) hk hh h;have e4:(RI (ldT (opo ops i)) (ev ρ (ldX (opo ops i)))).run P w=.ok v w:=by rw[hx];exact e3
  have e2:(execOp (ev ρ) o).run P w=.ok (.value v) w:=by simp only[execOp,hop,QM,e4,QA];rfl
  rw[e2];exact⟨default,rfl,Rm _ _⟩
 | .lp j (C:=C) (W:=W) (off:=off) (n:=n) hs h,hE,hb,hd=>by
  obtain⟨o,ho,h1,hw,hop⟩:=zJ (Eqs.head hE);refine⟨o,ho,h1,.inr ⟨hw,?_⟩⟩;have hj:=vZ (Eqs.head (Eqs.tail hE)) (Eqs.head (Eqs.tail (Eqs.tail hE)));have hE':=Eqs.tail (Eqs.tail hE);have hx:=Eqs.head (Eqs.tail hE');have hk:=Eqs.head (Eqs.tail (Eqs.tail hE'));have hh:=hd j (by simp[itR]) _ hj;have e3:=jr (w:=w) hk hh hs;rw[h]at e3;have e4:(RI (ldT (opo ops i)) (ev ρ (ldX (opo ops i)))).run P w=.ok (.agg W) w:=by rw[hx];exact e3
  have e2:(execOp (ev ρ) o).run P w=.ok (.value (.agg W)) w:=by simp only[execOp,hop,QM,e4,QA];rfl
  rw[e2];exact⟨default,rfl,Rm _ _⟩
 | .fs (b:=b) (off:=off) (v:=v) h hlt hv,hE,hb,hd=>by
  obtain⟨o,ho,h1,hw,hop⟩:=zJ (Eqs.head hE);refine⟨o,ho,h1,.inr ⟨hw,?_⟩⟩;have hx:=Eqs.head (Eqs.tail hE);have hk:=Eqs.head (Eqs.tail (Eqs.tail hE));have e3:=xn (w:=w) hk ((hb.block b hlt).trans h) hv;have e4:(RI (ldT (opo ops i)) (ev ρ (ldX (opo ops i)))).run P w=.ok v w:=by rw[hx];exact e3
  have e2:(execOp (ev ρ) o).run P w=.ok (.value v) w:=by simp only[execOp,hop,QM,e4,QA];rfl
  rw[e2];exact⟨default,rfl,Rm _ _⟩
 | .fp (b:=b) (off:=off) (n:=n) (W:=W) h hlt hs hW,hE,hb,hd=>by
  obtain⟨o,ho,h1,hw,hop⟩:=zJ (Eqs.head hE);refine⟨o,ho,h1,.inr ⟨hw,?_⟩⟩;have hx:=Eqs.head (Eqs.tail hE);have hk:=Eqs.head (Eqs.tail (Eqs.tail hE));have e3:=jr (w:=w) hk ((hb.block b hlt).trans h) hs;rw[hW]at e3;have e4:(RI (ldT (opo ops i)) (ev ρ (ldX (opo ops i)))).run P w=.ok (.agg W) w:=by rw[hx];exact e3
  have e2:(execOp (ev ρ) o).run P w=.ok (.value (.agg W)) w:=by simp only[execOp,hop,QM,e4,QA];rfl
  rw[e2];exact⟨default,rfl,Rm _ _⟩
 | .se j (C:=C) (C':=C') (off:=off) (v:=v) hs h,hE,hb,hd=>by
  obtain⟨o,ho,h1,hw,hop⟩:=zJ (Eqs.head hE);refine⟨o,ho,by unfold zi;rw[ho];rfl,.inr ⟨hw,?_⟩⟩;have hj:=zbO (Eqs.head (Eqs.tail hE)) (Eqs.head (Eqs.tail (Eqs.tail hE)));have hE':=Eqs.tail (Eqs.tail hE);have hx:=Eqs.head (Eqs.tail hE');have hy:=Eqs.head (Eqs.tail (Eqs.tail hE'));have hi:=Eqs.head (Eqs.tail (Eqs.tail (Eqs.tail hE')));have hc:=Eqs.head (Eqs.tail (Eqs.tail (Eqs.tail (Eqs.tail hE'))));have hh:=hd j (by simp[itR]) _ hj;have h9:=jN (P:=P) (w:=w) hi hc hh hs;rw[h]at h9;have e4:(UK (ldT (opo ops i)) (ev ρ (ldX (opo ops i))) (ev ρ (ldY (opo ops i)))).run P w=.ok () (w.setRow (nm bl j) C'):=by rw[hx,hy];exact h9
  have e2:(execOp (ev ρ) o).run P w=.ok .skip (w.setRow (nm bl j) C'):=by simp only[execOp,hop,QM,e4,QA];rfl
  rw[e2];exact⟨default,rfl,_,hj,D2.grownBy_setRow _ _ _,setRow_heap w _ _ _ _ _ hh⟩
 | .c (f:=f) (args:=args) (v:=v) h,hE,hb,hd=>by
  obtain⟨o,ho,h1,hw,hr⟩:=yh (congrFun (Eqs.head hE) w);refine⟨o,ho,h1,.inr ⟨hw,?_⟩⟩;rw[hr];exact(h w).mono fun e w' ⟨he,hB⟩=>⟨v,he,default,rfl,hB⟩
 | .cp (f:=f) (args:=args) (v:=v) h rd hp,hE,hb,hd=>by
  obtain⟨o,ho,h1,hw,hr⟩:=yh (congrFun (Eqs.head hE) w);refine⟨o,ho,h1,.inr ⟨hw,?_⟩⟩;rw[hr];exact(h w (hp w hb (Hd.of (Eqs.tail hE) hd))).mono fun e w' ⟨he,hB⟩=>⟨v,he,default,rfl,hB⟩
 | .o h,hE,hb,hd=>by
  obtain⟨o,ho,h1,hw,hop⟩:=zJ (Eqs.head hE);refine⟨o,ho,h1,.inr ⟨hw,?_⟩⟩;rw[h ρ o w hop (Ins.of (Eqs.tail hE))];exact⟨default,rfl,Rm _ _⟩
 | .oe h e,hE,hb,hd=>by
  obtain⟨o,ho,h1,hw,hop⟩:=zJ (Eqs.head hE);refine⟨o,ho,h1,.inr ⟨hw,?_⟩⟩;rw[h ρ o w hop (Ins.of (Eqs.tail hE))];subst e;exact⟨default,rfl,Rm _ _⟩
 | .g ins op rd val eff h,hE,hb,hd=>by
  obtain⟨o,ho,h1,hw,hop⟩:=zJ (Eqs.head hE);refine⟨o,ho,h1,.inr ⟨hw,?_⟩⟩;obtain⟨hi,hr⟩:=Eqs.both (Eqs.tail hE);have h9:=h ρ o w hop (Ins.of hi) (Hd.of hr hd) hb
  have conv: ∀ {v w'},(∃g:Gh,v=val g/\(match eff with
   | .no=>Below w.heap.size w w'
   | .new o=>Below w.heap.size w w'/\w.heap.size<=g.b/\w'.heap[g.b]? =some o
   | .turn j o=> ∃q,(rd.lookup j)=some q/\w.grownBy w' (some q.1)/\w'.heap[q.1]? =some o))->∃g,v=val g/\jT bl w w' g eff:=by
   rintro v w' ⟨g,hv,ha⟩;refine⟨g,hv,?_⟩;cases eff with
   | no=>exact ha
   | new o=>exact ha
   | turn j o=>obtain⟨q,hq,ha⟩:=ha;exact⟨q,ua hr hq,ha⟩
  generalize (execOp (ev ρ) o).run P w=r at h9;cases r with
  | halt h w'=>exact h9.elim
  | ok n w'=>
   cases n with
   | value v=>exact conv h9
   | skip=>exact conv h9
   | enter f' args=>exact R4 h9 fun e w'' ⟨v,he,hh⟩=>⟨v,he,conv hh⟩
   | _=>exact h9.elim
 | .nw V C T,hE,hb,hd=>by
  obtain⟨o,ho,h1,hw,hr⟩:=yh (congrFun (Eqs.head hE) w);refine⟨o,ho,h1,.inr ⟨hw,?_⟩⟩;rw[hr];exact⟨{ b:=w.heap.size },rfl,(Rm _ _).alloc (Qs _) _,Qs _,heap_alloc_new w _⟩
 | .x rd h,hE,hb,hd=>by
  obtain⟨o,ho,h1,hw,hop⟩:=zJ (Eqs.head hE);refine⟨o,ho,h1,.inr ⟨hw,?_⟩⟩;obtain⟨hi,hr⟩:=Eqs.both (Eqs.tail hE);rw[h ρ o w hop (Ins.of hi) (Hd.of hr hd)];exact⟨default,rfl,Rm _ _⟩
 | .w f,hE,hb,hd=>kK (f (nm bl)) hE hb hd
end
def ap (bl:Qb)(g:Gh):Eff->Qb
 | .no=>bl
 | .new o=>bl++ [(g.b,o)]
 | .turn j o=>bl.set j (nm bl j,o)
def shf (g:Nat->Gh):Nat->Gh:=fun j=>g (j+1)
def qD {P:Program}{B:Nat}{w0:World}(ops:Array Oper):List (It P B w0)->List Nat->Env->Qb->(Nat->Gh)->Env×Qb
 | it::r,i::is,ρ,bl,g=>qD ops r is (zm ρ (zi ops i) ((itR ops i ρ bl it).val (g 0))) (ap bl (g 0) (itR ops i ρ bl it).eff) (shf g)
 | _,_,ρ,bl,_=>(ρ,bl)
def qR {P:Program}{B:Nat}{w0:World}(N:Nat)(ops:Array Oper):List (It P B w0)->List Nat->Env->Qb->(Nat->Gh)->List Eqn
 | [],_,_,_,_=>[]
 | _::_,[],_,_,_=>[⟨true,false⟩]
 | it::r,i::is,ρ,bl,g=>⟨dOK (zi ops i) N,true⟩::((itR ops i ρ bl it).eqs++qR N ops r is (zm ρ (zi ops i) ((itR ops i ρ bl it).val (g 0))) (ap bl (g 0) (itR ops i ρ bl it).eff) (shf g))
theorem xy: ∀(l:Qb),D2.pres (l.map fun e=>(true,e))=l
 | []=>rfl
 | e::l=>congrArg (e :: ·) (xy l)
theorem ub: ∀(l:Qb) (x:Nat×Obj),D2.pres (l.map (fun e=>(true,e))++ [(false,x)])=l
 | [],x=>rfl
 | e::l,x=>congrArg (e :: ·) (ub l x)
theorem uc {bl:Qb}{j:Nat}{e:Nat×Obj}(h:bl[j]? =some e):nm bl j=e.1:=by unfold nm;rw[h]
section
variable {P:Program}{N:Nat}{ops:Array Oper}{i:Nat}{ρ:Env}{w w' w0:World}{B:Nat}{bl:Qb}{K:Env->World->Prop}
theorem St.after {g:Gh}{eff:Eff}(H:St B w0 w bl)(h:jT bl w w' g eff):St B w0 w' (ap bl g eff):=by
 cases eff with
 | no=>exact H.call h
 | new o=>
  obtain⟨hb,hle,ho⟩:=h;have h1:=(StE.of H (bl.map (fun e=>(true,e))++ [(false,(0,o))]) (ub _ _)).add hb bl.length hle ho;have h2:=h1.st;have e:(bl.map (fun e=>(true,e))++ [(false,(0,o))]).set bl.length (true,(g.b,o))=(bl++ [(g.b,o)]).map fun e=>(true,e):=by
   rw[List.set_append_right _ _ (by simp)];simp
  rw[e,xy]at h2;exact h2
 | turn j o=>
  obtain⟨e,he,hg,ho⟩:=h;have h1:=(StE.of H (bl.map (fun e=>(true,e))) (xy _)).turn (w':=w') j (b:=e.1) (o:=e.2) (b':=e.1) (o':=o) (by simp[he]) hg (.inl rfl) ho;have h2:=h1.st;have e2:(bl.map (fun e=>(true,e))).set j (true,(e.1,o))=(bl.set j (e.1,o)).map fun e=>(true,e):=by
   rw[List.map_set]
  rw[e2,xy]at h2;show St B w0 w' (bl.set j (nm bl j,o));rw[uc he];exact h2
theorem WPo.runs {o:Oper}{S:Value->World->Prop}(ho:ops[i]? =some o)(hw:Qz o (zy ops ρ)=true)(hd:dOK o.dst N=true)(h:Runs P S ((execOp (ev ρ) o).run P w))(hS: ∀v w',S v w'->K (zm ρ o.dst v) w'):WPo P N ops i K ρ w:=by
 refine WPo.run ho hw fun a ha=>?_;generalize (execOp (ev ρ) o).run P w=r at h;cases r with
 | halt h1 w'=>exact h.elim
 | ok n w'=>
  cases n with
  | value v=>rw[Rs];exact⟨_,ha.put _ (zS hd) v,hS _ _ h⟩
  | skip=>rw[Oper.upon_skip];exact⟨_,ha.put _ (zS hd) undef,hS _ _ h⟩
  | enter f' args=>
   rw[Um];refine R4 h ?_;rintro e w'' ⟨v,rfl,hh⟩;exact⟨_,ha.put _ (zS hd) v,hS _ _ hh⟩
  | _=>exact h.elim
theorem zbQ (it:It P B w0)(H:St B w0 w bl)(hd:dOK (zi ops i) N=true)(hE:Eqs (itR ops i ρ bl it).eqs)
 (k: ∀g w',St B w0 w' (ap bl g (itR ops i ρ bl it).eff)->K (zm ρ (zi ops i) ((itR ops i ρ bl it).val g)) w'):WPo P N ops i K ρ w:=by
 obtain⟨o,ho,hdst,h⟩:=kK it hE H.below (fun j _ e he=>H.get j he);rcases h with⟨hw,hv,he⟩|⟨hw,hr⟩
 ·refine vS (zi ops i) (by unfold opn;rw[ho];simp[hdst,hw]) hd ?_;have:=k default w (by rw[he];exact H);rw[hv]at this;exact this
 ·refine WPo.runs ho hw (by rw[hdst];exact hd) hr ?_;rintro v w' ⟨g,rfl,ha⟩;rw[hdst];exact k g w' (H.after ha)
theorem xz: ∀(its:List (It P B w0)) (l:List Nat) (ρ:Env) (bl:Qb) (w:World),St B w0 w bl->(∀g,Eqs (qR N ops its l ρ bl g))->
 (∀g w',St B w0 w' (qD ops its l ρ bl g).2->WPs P N ops K (l.drop its.length) (qD ops its l ρ bl g).1 w')->WPs P N ops K l ρ w
 | [],l,ρ,bl,w,H,_,k=>by
  have:=k (fun _=>default) w;cases l<;>exact this H
 | it::r,[],ρ,bl,w,H,hE,k=>by
  have:=Eqs.head (hE fun _=>default);cases this
 | it::r,i::is,ρ,bl,w,H,hE,k=>by
  have h0:=hE fun _=>default;refine zbQ it H (Eqs.head h0) (Eqs.both (Eqs.tail h0)).1 fun g w' H'=>?_;exact xz r is _ _ w' H' (fun g'=>(Eqs.both (Eqs.tail (hE fun j=>match j with | 0=>g | j+1=>g' j))).2)
   fun g' w'' H''=>k (fun j=>match j with | 0=>g | j+1=>g' j) w'' H''
variable {Q:Exit->Env->World->Prop}{c:Code}
theorem rp {l:List Nat}(its:List (It P B w0))(H:St B w0 w bl)(h:(fun g=>(qR N ops its l ρ bl g).map Eqn.lf)=fun g=>(qR N ops its l ρ bl g).map Eqn.rt)
 (k: ∀g w',St B w0 w' (qD ops its l ρ bl g).2->WPs P N ops K (l.drop its.length) (qD ops its l ρ bl g).1 w'):WPs P N ops K l ρ w:=
 xz its l ρ bl w H (fun g=>congrFun h g) k
def srK (c:Code)(n:Nat):Bool:=match c with
 | .region _ ops false=>Qv ops.size n
 | _=>false
theorem ud {n:Nat}(h:srK c n=true):∃id,c=.region id (zd c) false/\QG (zd c).size=QG n:=by
 cases c with
 | region id ops d=>
  cases d with
  | true=>cases h
  | false=>exact⟨id,rfl,congrArg QG (Qn h)⟩
 | _=>cases h
theorem rS (its:List (It P B w0))(H:St B w0 w bl)
 (h:(fun g=>(⟨yL c&&srK (zG c) its.length,true⟩::qR N (zd (zG c)) its (QG its.length) ρ bl g).map Eqn.lf)=fun g=>(⟨yL c&&srK (zG c) its.length,true⟩::qR N (zd (zG c)) its (QG its.length) ρ bl g).map Eqn.rt)
 (k: ∀g w',St B w0 w' (qD (zd (zG c)) its (QG its.length) ρ bl g).2->WP P N (yK c) Q (qD (zd (zG c)) its (QG its.length) ρ bl g).1 w'):WP P N c Q ρ w:=by
 have h0:(yL c&&srK (zG c) its.length)=true:=Eqs.head (congrFun h fun _=>default);rw[Qm]at h0;obtain⟨id,he,hl⟩:=ud h0.2;refine zb h0.1 ?_;rw[he];refine WP.region (QG its.length) hl ?_;have hd:(QG its.length).drop its.length=[]:=by simp
 exact xz its _ ρ bl w H (fun g=>Eqs.tail (congrFun h g)) fun g w' H'=>by rw[hd];exact k g w' H'
theorem rL (its:List (It P B w0))(H:St B w0 w bl)
 (h:(fun g=>(⟨srK c its.length,true⟩::qR N (zd c) its (QG its.length) ρ bl g).map Eqn.lf)=fun g=>(⟨srK c its.length,true⟩::qR N (zd c) its (QG its.length) ρ bl g).map Eqn.rt)
 (k: ∀g w',St B w0 w' (qD (zd c) its (QG its.length) ρ bl g).2->Q .normal (qD (zd c) its (QG its.length) ρ bl g).1 w'):WP P N c Q ρ w:=by
 obtain⟨id,he,hl⟩:=ud (Eqs.head (congrFun h fun _=>default));rw[he];refine WP.region (QG its.length) hl ?_;have hd:(QG its.length).drop its.length=[]:=by simp
 exact xz its _ ρ bl w H (fun g=>Eqs.tail (congrFun h g)) fun g w' H'=>by rw[hd];exact k g w' H'
def ue (P:Program)(t:TypeId)(C:Qd):Bool:=match aggSize P t with
 | some n=>Qv n C.size
 | none=>oneCell P t&&Uh 0 C.size
def rs1 (P:Program)(t:TypeId)(C:Qd):Value:=match aggSize P t with
 | some _=>.agg C
 | none=>C.getD 0 undef
def rsv (P:Program)(ρ:Env)(bl:Qb):List ResultVar->List Nat->List Value
 | .tmp t::r,js=>ρ t::rsv P ρ bl r js
 | .cell t ty::r,j::js=>rs1 P ty (cellsOf (ob bl j))::rsv P ρ bl r js
 | _,_=>[]
def rse (P:Program)(ρ:Env)(bl:Qb):List ResultVar->List Nat->List Eqn
 | .tmp t::r,js=>rse P ρ bl r js
 | .cell t ty::r,j::js=>⟨ρ t,.pointer (some ⟨nm bl j,0,none⟩)⟩::⟨isC bl j,true⟩::⟨ue P ty (cellsOf (ob bl j)),true⟩::rse P ρ bl r js
 | [],_=>[]
 | .cell _ _::_,[]=>[⟨true,false⟩]
theorem Res.of (H:St B w0 w bl): ∀ {rs:List ResultVar} {js:List Nat},Eqs (rse P ρ bl rs js)->Res P w ρ rs (rsv P ρ bl rs js)
 | [],js,_=>by cases js<;>exact .nil
 | .tmp t::r,js,h=>.tmp _ rfl (Res.of H (rs:=r) (js:=js) h)
 | .cell t ty::r,[],h=>by have:=Eqs.head h;cases this
 | .cell t ty::r,j::js,h=>by
  have h1:=Eqs.head h;have h2:=kI (Eqs.head (Eqs.tail h));have h3:=Eqs.head (Eqs.tail (Eqs.tail h));have h4:=Res.of H (rs:=r) (js:=js) (Eqs.tail (Eqs.tail (Eqs.tail h)));have hh:=H.get j h2;show Res P w ρ (.cell t ty::r) (rs1 P ty (cellsOf (ob bl j))::rsv P ρ bl r js);unfold ue at h3;unfold rs1;cases ht:aggSize P ty with
  | some n=>
   simp only[ht]at h3⊢;exact .agg _ _ _ h1 hh (by rw[ht,Qn h3]) h4
  | none=>
   simp only[ht,Qm]at h3⊢;have hlt:0<(cellsOf (ob bl j)).size:=Qr h3.2;exact .one _ _ _ _ h1 hh h3.1 (by simp[Ri,hlt]) h4
theorem jg (t:Nat){v v':Value}(e:v=v')(h:ρ t=v)(k:WP P N c Q (upd ρ t v') w):WP P N c Q ρ w:=by
 rwa [jv (h.trans e)]at k
theorem jx (t:Nat){l:List Nat}{v v':Value}(e:v=v')(h:ρ t=v)(k:WPs P N ops K l (upd ρ t v') w):WPs P N ops K l ρ w:=by
 rwa [jv (h.trans e)]at k
theorem St.as {l:Qb}(H:St B w0 w bl)(h:bl=l):St B w0 w l:=h▸H
theorem rR (rs:List ResultVar)(js:List Nat)(v:Value)(H:St B w0 w bl)
 (h:(⟨qM c,true⟩::⟨Q .ret,yW P rs (fun v' w'=>v'=v/\Below B w0 w') .ret⟩::⟨qz (rsv P ρ bl rs js),v⟩::rse P ρ bl rs js).map Eqn.lf=(⟨qM c,true⟩::⟨Q .ret,yW P rs (fun v' w'=>v'=v/\Below B w0 w') .ret⟩::⟨qz (rsv P ρ bl rs js),v⟩::rse P ρ bl rs js).map Eqn.rt):WP P N c Q ρ w:=by
 have h1:Q .ret=yW P rs (fun v' w'=>v'=v/\Below B w0 w') .ret:=Eqs.head (Eqs.tail h);refine zT (Eqs.head h) ?_;rw[h1];exact⟨_,Res.of H (Eqs.tail (Eqs.tail (Eqs.tail h))),Eqs.head (Eqs.tail (Eqs.tail h)),H.below⟩
theorem rRe (rs:List ResultVar)(js:List Nat){v v':Value}(H:St B w0 w bl)(e:v=v')
 (h:(⟨qM c,true⟩::⟨Q .ret,yW P rs (fun x w'=>x=v'/\Below B w0 w') .ret⟩::⟨qz (rsv P ρ bl rs js),v⟩::rse P ρ bl rs js).map Eqn.lf=(⟨qM c,true⟩::⟨Q .ret,yW P rs (fun x w'=>x=v'/\Below B w0 w') .ret⟩::⟨qz (rsv P ρ bl rs js),v⟩::rse P ρ bl rs js).map Eqn.rt):WP P N c Q ρ w:=by
 subst e;exact rR rs js v H h
theorem rRr (rs:List ResultVar)(js:List Nat)(v:Value)(R:Value->World->Prop)(H:St B w0 w bl)
 (h:(⟨qM c,true⟩::⟨Q .ret,yW P rs R .ret⟩::⟨qz (rsv P ρ bl rs js),v⟩::rse P ρ bl rs js).map Eqn.lf=(⟨qM c,true⟩::⟨Q .ret,yW P rs R .ret⟩::⟨qz (rsv P ρ bl rs js),v⟩::rse P ρ bl rs js).map Eqn.rt)
 (hR:R v w):WP P N c Q ρ w:=by
 have h1:Q .ret=yW P rs R .ret:=Eqs.head (Eqs.tail h);refine zT (Eqs.head h) ?_;rw[h1];refine⟨_,Res.of H (Eqs.tail (Eqs.tail (Eqs.tail h))),?_⟩;have e:qz (rsv P ρ bl rs js)=v:=Eqs.head (Eqs.tail (Eqs.tail h));rw[e];exact hR
end
end
namespace D3
open D2 (Gh StE Closed Now edge Runs put1 setN ran opOK opTmps notSelect nodupO nodupO_inj drawOK put1_or put1_self put1_of ran_set)
def envs (ρ:Env)(D:Nat->Option Nat)(V:Nat->Value):Nat->Env
 | 0=>ρ
 | i+1=>zm (envs ρ D V i) (D i) (V i)
theorem uf {ρ:Env}{t:Nat}{v:Value} :zm ρ (some t) v t=v:=by
 show (bif Qv t t then v else _)=v;rw[Q4];rfl
theorem kL {ρ:Env}{d:Option Nat}{t:Nat}{v:Value}(h:d≠some t):zm ρ d v t=ρ t:=by
 cases d with
 | none=>rfl
 | some k=>
  have hne:Qv t k=false:=by
   cases hb:Qv t k with
   | false=>rfl
   | true=>exact absurd (by rw[Qn hb]) h
  show (bif Qv t k then v else ρ t)=ρ t;rw[hne];rfl
theorem kN {ρ:Env}{D:Nat->Option Nat}{V:Nat->Value}{t:Nat} : ∀ {i:Nat},(∀j,j<i->D j≠some t)->envs ρ D V i t=ρ t
 | 0,_=>rfl
 | i+1,h=>by
  show zm (envs ρ D V i) (D i) (V i) t=ρ t;rw[kL (h i (R0 i))];exact kN fun j hj=>h j (Nat.lt_succ_of_lt hj)
theorem kP {ρ:Env}{D:Nat->Option Nat}{V:Nat->Value}{t n:Nat}(hinj: ∀i j x,i<n->j<n->D i=some x->D j=some x->i=j): ∀ {i j:Nat},i<=n->j<i->D j=some t->envs ρ D V i t=V j
 | i+1,j,hi,hj,hd=>by
  show zm (envs ρ D V i) (D i) (V i) t=V j;by_cases h:D i=some t
  ·have:i=j:=hinj i j t (by omega) (by omega) h hd;subst this;rw[h];exact uf
  ·rw[kL h];refine kP hinj (Nat.le_of_succ_le hi) ?_ hd;rcases U4 j i with h1 | h1
   ·exact h1
   ·have:j=i:=by omega
    subst this;exact absurd hd h
section
variable {P:Program}{N:Nat}{ops:Array Oper}{Q:Exit->Env->World->Prop}{K:Env->World->Prop}{ρ:Env}{w:World}{V:(Nat->Gh)->Nat->Value}{pre:(Nat->Bool)->(Nat->Gh)->World->Prop}
def Gives (P:Program)(ops:Array Oper)(ρ:Env)(V:(Nat->Gh)->Nat->Value)(pre:(Nat->Bool)->(Nat->Gh)->World->Prop)(i:Nat):Prop:=
 ∀L g w,pre L g w->D2.Now ops i L->∃o,ops[i]? =some o/\
  ((Qz o (zy ops (envs ρ (zi ops) (V g) i))=false/\V g i=undef/\pre (D2.put1 L i) g w)\/
   (Qz o (zy ops (envs ρ (zi ops) (V g) i))=true/\Runs P (fun v w'=> ∃b,v=V (D2.setN g i b) i/\pre (D2.put1 L i) (D2.setN g i b) w') ((execOp (ev (envs ρ (zi ops) (V g) i)) o).run P w)))
def Dep (ops:Array Oper)(V:(Nat->Gh)->Nat->Value):Prop:=
 ∀(L:Nat->Bool) (i k:Nat) (g:Nat->Gh) (b:Gh),D2.Closed ops L->L i=false->L k=true->k<ops.size->V (D2.setN g i b) k=V g k
def Mid (ops:Array Oper)(ρ:Env)(V:(Nat->Gh)->Nat->Value)(g:Nat->Gh)(L:Nat->Bool)(ρ':Env):Prop:=
 ∀t,(∀i,i<ops.size->L i=true->zi ops i=some t->ρ' t=V g i)/\((∀i,i<ops.size->L i=true->zi ops i≠some t)->ρ' t=ρ t)
abbrev dsts (ops:Array Oper):List (Option Nat):=ops.toList.map (·.dst)
theorem jy {i:Nat}(h:i<ops.size):(dsts ops)[i]? =some (zi ops i):=by
 unfold dsts zi;simp[h]
theorem zbR {i:Nat}{d:Option Nat}(h:(dsts ops)[i]? =some d):i<ops.size/\zi ops i=d:=by
 have h1:i<ops.size:=by
  have:=(Qt.1 h).1
  simpa [dsts] using this
 rw[jy h1]at h;exact⟨h1,Q1.inj h⟩
theorem ug (hnd:D2.nodupO (dsts ops)=true): ∀i j x,i<ops.size->j<ops.size->zi ops i=some x->zi ops j=some x->i=j:=fun i j x hi hj h1 h2=>
 D2.nodupO_inj hnd (by rw[jy hi,h1]) (by rw[jy hj,h2])
theorem draw_step (hok:D2.drawOK ops (dsts ops) N=true)(hg: ∀i,i<ops.size->Gives P ops ρ V pre i)(hdep:Dep ops V){i:Nat}{L:Array Bool}(hi:i∈Q0 .any ops L)
 {a:Act} {ρ':Env} {g:Nat->Gh} (ha:Rep a ρ' N) (hm:Mid ops ρ V g (D2.ran L) ρ') (hL:L.size=ops.size) (hcl:D2.Closed ops (D2.ran L)) (hp:pre (D2.ran L) g w)
 {QQ:Exit->Act->World->Prop} {KK:Act->World->Prop} (hK: ∀a' ρ'' g' w',Rep a' ρ'' N->Mid ops ρ V g' (D2.put1 (D2.ran L) i) ρ''->D2.Closed ops (D2.put1 (D2.ran L) i)->pre (D2.put1 (D2.ran L) i) g' w'->KK a' w'):
 wpOp P ops QQ i KK a w:=by
 simp only[D2.drawOK,Qm,QL,beq_iff_eq]at hok;obtain⟨⟨⟨hsz,hnd⟩,hN⟩,hops⟩:=hok;obtain⟨hun,o,ho,hready⟩:=mem_ready.1 hi;have hilt:i<ops.size:=(QI.1 ho).1;have hinj:=ug hnd
 have hoi:D2.opOK ops (dsts ops) i o=true:=hops (o,i) (by
  rw[QV];refine⟨i,?_⟩;rw[Q6]
  simp[ho])
 simp only[D2.opOK,Qm]at hoi;obtain⟨⟨⟨⟨hdst,hsel⟩,hback⟩,hreads⟩,hguard⟩:=hoi;have hd:o.dst=zi ops i:=by unfold zi;rw[ho];rfl
 have hdN: ∀k,zi ops i=some k->k<N:=zS (hN (zi ops i) (Qp (jy hilt)));have hunL:D2.ran L i=false:=by
  have hlt:i<L.size:=by omega
  unfold D2.ran;simpa [hlt] using hun
 have hcl':D2.Closed ops (D2.put1 (D2.ran L) i):=by
  intro j oj hj hoj e he hb;rcases D2.put1_or hj with rfl | hj
  ·rw[ho]at hoj;obtain rfl:=Q1.inj hoj;exact D2.put1_of (hready e he hb)
  ·exact D2.put1_of (hcl j oj hj hoj e he hb)
 have lookB: ∀t j,j<i->D2.ran L j=true->zi ops j=some t->ρ' t=envs ρ (zi ops) (V g) i t:=by
  intro t j hji hLj hdt;rw[kP hinj (Nat.le_of_lt hilt) hji hdt];exact(hm t).1 j (by omega) hLj hdt
 have zL: ∀t,(∀j:Nat,j<ops.size->zi ops j=some t->D2.ran L j=false)->(∀j:Nat,j<i->zi ops j≠some t)->ρ' t=envs ρ (zi ops) (V g) i t:=by
  intro t hno hnb;rw[kN hnb];exact(hm t).2 fun j hj hLj heq=>by rw[hno j hj heq]at hLj;cases hLj
 have hbk: ∀e∈o.after.toList,QT .any e=true->e.on<i:=fun e he hb=>by
  have:=QL.1 hback e he;rw[hb]at this;simp only[RL,Ub]at this;exact Qr this
 have hops': ∀x∈o.op.operands,ev ρ' x=ev (envs ρ (zi ops) (V g) i) x:=by
  intro x hx;cases x with
  | tmp t=>
   have hmem:t∈D2.opTmps o:=List.mem_filterMap.2 ⟨.tmp t,by simpa using hx,rfl⟩;have:=QL.1 hreads t hmem;simp only[RR,Rn]at this;rcases this with (hc | hb) | hlater
   ·have hnot: ∀j:Nat,j<ops.size->zi ops j≠some t:=fun j hj hq=>by
     have h1:some t∈dsts ops:=Qp (by rw[jy hj,hq]);rw[<-Uf,RM]at hc;exact hc h1
    exact zL t (fun j hj hq=>absurd hq (hnot j hj)) (fun j hj=>hnot j (by omega))
   ·simp only[Q2,Qm,beq_iff_eq]at hb;obtain⟨e,he,hbi,hdt⟩:=hb;exact lookB t e.on (hbk e he hbi) (hready e (by simpa using he) hbi) (zbR hdt).2
   ·have hl: ∀(j:Nat) oj,ops[j]? =some oj->zi ops j=some t-> ¬j<i/\∃e∈oj.after.toList,QT .any e=true/\e.on=i:=fun j oj hoj hdj=>by
     have hjlt:j<ops.size:=(QI.1 hoj).1
     have h1:=QL.1 hlater (oj,j) (by
      rw[QV];refine⟨j,?_⟩;rw[Q6]
      simp[hoj])
     simp only[jy hjlt,hdj,beq_self_eq_true,RL,Ub,Qm,Q2,Rn]at h1;obtain⟨h2,e,he,hb,hon⟩:=h1;refine⟨fun hlt=>?_,e,he,hb,Qn hon⟩;have h3:Uh j i=true:=Nat.ble_eq_true_of_le hlt;rw[h3]at h2;cases h2
    refine zL t (fun j hj hq=>?_) (fun j hji hq=>?_)
    ·obtain⟨_,e,he,hb,hon⟩:=hl j _ (Q5 hj) hq;cases hLj:D2.ran L j with
     | false=>rfl
     | true=>
      have:=hcl j _ hLj (Q5 hj) e (by simpa using he) hb;rw[hon,hunL]at this;cases this
    ·have hj:j<ops.size:=by omega
     exact(hl j _ (Q5 hj) hq).1 hji
  | _=>rfl
 have hexec:execOp (ev ρ') o=execOp (ev (envs ρ (zi ops) (V g) i)) o:=execOp_congr o (fun cs b he=>by simp[D2.notSelect,he]at hsel) hops';have hwant:Qz o (zy ops ρ')=Qz o (zy ops (envs ρ (zi ops) (V g) i)):=by
  unfold Qz;cases hgd:o.guard with
  | none=>rfl
  | some gd=>
   obtain⟨j,b⟩:=gd;have:zy ops ρ' j=zy ops (envs ρ (zi ops) (V g) i) j:=by
    unfold zy;cases hj:(ops[j]?).bind (·.dst) with
    | none=>rfl
    | some t=>
     simp only[hgd,Q2,Qm,beq_iff_eq]at hguard;obtain⟨e,he,hb,hon⟩:=hguard;have hlk:=lookB t j (hon▸hbk e he hb) (hon▸hready e (by simpa using he) hb) hj;simp only[hlk]
   simp only[this]
 have hmid: ∀b,Mid ops ρ V (D2.setN g i b) (D2.put1 (D2.ran L) i) (zm ρ' (zi ops i) (V (D2.setN g i b) i)):=by
  intro b t;by_cases htd:zi ops i=some t
  ·rw[htd];refine⟨fun j hj hLj hdj=>?_,fun hn=>absurd htd (hn i hilt (D2.put1_self _ _))⟩;have hji:j=i:=hinj j i t hj hilt hdj htd;subst hji;exact uf
  ·rw[kL htd];refine⟨fun j hj hLj hdj=>?_,fun hn=>(hm t).2 fun j hj hLj=>hn j hj (D2.put1_of hLj)⟩;have hji:j≠i:=by rintro rfl;exact htd hdj
   have hLj':D2.ran L j=true:=(D2.put1_or hLj).resolve_left hji;rw[hdep (D2.ran L) i j g b hcl hunL hLj' hj];exact(hm t).1 j hj hLj' hdj
 have hmid0:V g i=undef->Mid ops ρ V g (D2.put1 (D2.ran L) i) (zm ρ' (zi ops i) undef):=fun hu=>by
  have:=hmid (g i);rw[D2.setN_self,hu]at this;exact this
 obtain⟨o',ho',hrun⟩:=hg i hilt (D2.ran L) g w hp ⟨hunL,(fun o1 ho1 e he hb=>by
  rw[ho]at ho1;obtain rfl:=Q1.inj ho1;exact hready e he hb),hcl⟩
 have:o'=o:=by rw[ho]at ho';exact(Q1.inj ho').symm
 subst this;have hput: ∀v,Rep (a.put o'.dst v) (zm ρ' (zi ops i) v) N:=fun v=>by
  have:=ha.put o'.dst (fun k hk=>hdN k (by rw[<-hd,hk])) v
  rwa [hd]at this⊢
 unfold wpOp;simp only[ho,jM ha,hwant];rcases hrun with⟨hwf,hV,hp'⟩ | ⟨hwt,hR⟩
 ·simp only[hwf,Rt,if_false];exact hK _ _ g _ (hput undef) (hmid0 hV) hcl' hp'
 ·simp only[hwt,if_true];refine .inl ?_;unfold U9;rw[ha.eval,hexec];generalize (execOp (ev (envs ρ (zi ops) (V g) i)) o').run P w=r at hR;cases r with
  | halt h w'=>exact hR.elim
  | ok n w'=>
   cases n with
   | value v=>obtain⟨b,rfl,hb⟩:=hR;exact hK _ _ _ _ (hput _) (hmid b) hcl' hb
   | skip=>obtain⟨b,hu,hb⟩:=hR;exact hK _ _ _ _ (by have:=hput undef;rwa [hu]at this⊢) (hmid b) hcl' hb
   | enter f' args=>
    refine R4 hR fun e w'' he=>?_;obtain⟨v,rfl,b,rfl,hb⟩:=he;exact hK _ _ _ _ (hput _) (hmid b) hcl' hb
   | _=>exact hR.elim
theorem draw_any (hok:D2.drawOK ops (dsts ops) N=true)(hg: ∀i,i<ops.size->Gives P ops ρ V pre i)(hdep:Dep ops V)
 (hfin: ∀L g w',(∀i,i<ops.size->L i=true)->pre L g w'->Q .normal (envs ρ (zi ops) (V g) ops.size) w'):
 ∀(fuel:Nat) (L:Array Bool),L.size=ops.size->(L.toList.countP (! ·))<=fuel-> ∀(a:Act) (ρ':Env) (g:Nat->Gh) (w:World),Rep a ρ' N->Mid ops ρ V g (D2.ran L) ρ'->D2.Closed ops (D2.ran L)->pre (D2.ran L) g w->
  wpAny P .any ops (qy N Q) fuel L a w:=by
 have hdone: ∀(L:Array Bool),L.size=ops.size->Q0 .any ops L=[]-> ∀(a:Act) (ρ':Env) (g:Nat->Gh) (w:World),Rep a ρ' N->Mid ops ρ V g (D2.ran L) ρ'->pre (D2.ran L) g w->qy N Q .normal a w:=by
  intro L hL hr a ρ' g w ha hm hp;have hok':=hok;simp only[D2.drawOK,Qm,QL,beq_iff_eq]at hok';obtain⟨⟨⟨hsz,hnd⟩,hN⟩,hops⟩:=hok';have hall: ∀i,i<ops.size->D2.ran L i=true:=by
   intro i
   induction i using Nat.strongRecOn with
   | _ i ih=>
    intro hi;cases hb:D2.ran L i with
    | true=>rfl
    | false=>
     have hmem:i∈Q0 .any ops L:=by
      refine mem_ready.2 ⟨?_,ops[i],Q5 hi,fun e he hbd=>?_⟩
      ·have hlt:i<L.size:=by omega
       unfold D2.ran at hb;simp[hlt]at hb⊢;exact hb
      ·have hoi:D2.opOK ops (dsts ops) i ops[i]=true:=hops (ops[i],i) (by
        rw[QV];refine⟨i,?_⟩;rw[Q6]
        simp[hi])
       simp only[D2.opOK,Qm]at hoi;have:=QL.1 hoi.1.1.2 e (by simpa using he);rw[hbd]at this;have hlt:e.on<i:=Qr this;exact ih e.on hlt (by omega)
     rw[hr]at hmem;cases hmem
  have heq:ρ'=envs ρ (zi ops) (V g) ops.size:=by
   funext t;by_cases ht:∃i,i<ops.size/\zi ops i=some t
   ·obtain⟨i,hi,hit⟩:=ht;rw[kP (ug hnd) (Qs _) hi hit];exact(hm t).1 i hi (hall i hi) hit
   ·rw[kN fun j hj hq=>ht ⟨j,hj,hq⟩];exact(hm t).2 fun j hj _ hq=>ht ⟨j,hj,hq⟩
  exact⟨_,ha,heq▸hfin (D2.ran L) g w hall hp⟩
 intro fuel
 induction fuel with
 | zero=>
  intro L hL hc a ρ' g w ha hm hcl hp;have hr:Q0 .any ops L=[]:=by
   cases hr:Q0 .any ops L with
   | nil=>rfl
   | cons i r=>
    have hi:i∈Q0 .any ops L:=by rw[hr];exact QU
    obtain⟨hun,o,ho,_⟩:=mem_ready.1 hi;have hlt:i<L.size:=by rw[hL];exact(QI.1 ho).1
    have:L.toList.countP (! ·)=0:=by omega
    rw[List.countP_eq_zero]at this;have h1:=this L[i] (by simp);simp[hlt]at hun h1;rw[hun]at h1;cases h1
  exact⟨hr,hdone L hL hr a ρ' g w ha hm hp⟩
 | succ fuel ih=>
  intro L hL hc a ρ' g w ha hm hcl hp;refine⟨fun hr=>hdone L hL hr a ρ' g w ha hm hp,fun i hi=>?_⟩;obtain⟨hun,o,ho,_⟩:=mem_ready.1 hi;have hlt:i<L.size:=by rw[hL];exact(QI.1 ho).1
  refine draw_step hok hg hdep hi ha hm hL hcl hp fun a' ρ'' g' w' ha' hm' hcl' hp'=>ih (L.setIfInBounds i true) (by simpa using hL) ?_ a' ρ'' g' w' ha' (by rw[D2.ran_set hlt];exact hm') (by rw[D2.ran_set hlt];exact hcl') (by rw[D2.ran_set hlt];exact hp');have hf:L[i]=false:=by simpa [hlt] using hun
  have hc2:(L.setIfInBounds i true).toList.countP (! ·)+1=L.toList.countP (! ·):=by
   rw[Array.toList_setIfInBounds];have hl:i<L.toList.length:=by simpa using hlt
   have hfl:L.toList[i]=false:=by simpa using hf
   have hpos:0<L.toList.countP (! ·):=List.countP_pos_iff.2 ⟨_,RF hl,by rw[hfl];rfl⟩;have hset:=List.countP_set (p:=fun b:Bool=> !b) (l:=L.toList) (i:=i) (a:=true) hl;rw[hfl]at hset;simp only[RL,Rt,if_false,U3,if_true]at hset;omega
  omega
theorem WP.draw {id:Nat}(hm:P.follows .mixedOrders=true)(hok:D2.drawOK ops (dsts ops) N=true)(hp:pre (fun _=>false) (fun _=>default) w.drew)(hg: ∀i,i<ops.size->Gives P ops ρ V pre i)(hdep:Dep ops V)
 (hfin: ∀L g w',(∀i,i<ops.size->L i=true)->pre L g w'->Q .normal (envs ρ (zi ops) (V g) ops.size) w'):WP P N (.region id ops true) Q ρ w:=fun a ha=>
 have hno:D2.ran (Rp ops.size false)=fun _=>false:=funext fun i=>by
  show (Rp ops.size false).getD i false=false;simp only[Ri,Array.getElem?_replicate];split<;>rfl
 wp_region_any hm (draw_any hok hg hdep hfin ops.size _ (by simp) (by have:= @List.countP_le_length Bool (! ·) (RG ops.size false);simpa using this) a ρ (fun _=>default) _ ha
  (fun t=>⟨fun i hi h _=>(by rw[hno]at h;cases h),fun _=>rfl⟩) (fun j o hj=>(by rw[hno]at hj;cases hj)) (by rw[hno];exact hp))
end
end D3
section
open D2 (Gh StE edge)
inductive Reach (ops:Array Oper):Nat->Nat->Prop
 | one {i j:Nat} (h:edge ops i j=true):Reach ops i j
 | step {i k j:Nat} (h:Reach ops i k) (e:edge ops k j=true):Reach ops i j
theorem Reach.yes {ops:Array Oper}{L:Nat->Bool}(hc:D2.Closed ops L){i j:Nat}(h:Reach ops i j):L j=true->L i=true:=by
 induction h with
 | one h=>exact fun hj=>hc.yes _ _ h hj
 | step h e ih=>exact fun hj=>ih (hc.yes _ _ e hj)
theorem Reach.bef {ops:Array Oper}{L:Nat->Bool}{i j:Nat}(hN:D2.Now ops j L)(h:Reach ops i j):L i=true:=by
 cases h with
 | one h=>exact hN.bef _ h
 | step h e=>exact h.yes hN.2.2 (hN.bef _ e)
theorem Reach.post {ops:Array Oper}{L:Nat->Bool}{i j:Nat}(hN:D2.Now ops i L)(h:Reach ops i j):L j=false:=by
 cases hj:L j with
 | false=>rfl
 | true=>
  have:=h.yes hN.2.2 hj;rw[hN.1]at this;cases this
def uh (o:Oper):List Nat:=(o.after.toList.filter fun e=>QT .any e).map (·.on)
def xA (l:List Nat)(acc:List Nat):Nat:=l.foldr (fun e m=>Nat.lor (Nat.lor m (Nat.shiftLeft 1 e)) (acc.getD e 0)) 0
def kQ:List Oper->List Nat->List Nat
 | [],acc=>acc
 | o::r,acc=>kQ r (acc++ [xA (uh o) acc])
def bfr (A:List Nat)(i j:Nat):Bool:=UZ (A.getD j 0) i
theorem ui {i:Nat}{acc:List Nat} : ∀ {l:List Nat},UZ (xA l acc) i=true->∃e,e∈l/\(e=i\/UZ (acc.getD e 0) i=true)
 | [],h=>by simp[xA]at h
 | e::l,h=>by
  have h':UZ ((xA l acc ||| 1 <<< e) ||| acc.getD e 0) i=true:=h;rw[Nat.testBit_or,Nat.testBit_or,RR,RR]at h';rcases h' with (h1 | h1) | h1
  ·obtain⟨q,hq,hh⟩:=ui h1;exact⟨q,Q7 _ hq,hh⟩
  ·refine⟨e,QU,.inl ?_⟩;rw[Nat.shiftLeft_eq,U0,Nat.testBit_two_pow]at h1;exact of_decide_eq_true h1
  ·exact⟨e,QU,.inr h1⟩
theorem uj {ops:Array Oper}{o:Oper}{j e:Nat}(ho:ops[j]? =some o)(he:e∈uh o):edge ops e j=true:=by
 unfold edge;rw[ho];obtain⟨x,hx,rfl⟩:=Rq.1 he;rw[List.mem_filter]at hx;simp only[Q2,Qm];exact⟨x,hx.1,hx.2,Q4 _⟩
theorem uk (ops:Array Oper): ∀(r:List Oper) (acc:List Nat) (pre:List Oper),ops.toList=pre++r->pre.length=acc.length->(∀i j,bfr acc i j=true->Reach ops i j)-> ∀i j,bfr (kQ r acc) i j=true->Reach ops i j
 | [],acc,pre,_,_,h=>h
 | o::r,acc,pre,he,hl,h=>by
  refine uk ops r _ (pre++ [o]) (by simp[he]) (by simp[hl]) fun i j hb=>?_;unfold bfr at hb;rcases RX j acc.length with hj | hj | hj
  ·refine h i j ?_;unfold bfr
   rwa [RU,Uu hj,<-RU]at hb
  ·subst hj;rw[RU,U5 (Qs _)]at hb;simp only[Vc,List.getElem?_cons_zero,Option.getD_some]at hb;have ho:ops[acc.length]? =some o:=by
    rw[<-Rr,he,<-hl];simp
   obtain⟨e,hm,rfl|hh⟩:=ui hb
   ·exact .one (uj ho hm)
   ·exact .step (h i e hh) (uj ho hm)
  ·rw[RU,Q9 (by simp;omega)]at hb;simp at hb
def yZ (ops:Array Oper):List Nat:=kQ ops.toList []
theorem jW {ops:Array Oper}{i j:Nat}(h:bfr (yZ ops) i j=true):Reach ops i j:=
 uk ops ops.toList [] [] rfl rfl (fun i j h=>by simp[bfr]at h) i j h
structure Sn (P:Program)(B:Nat)(w0:World) where
 ρ:Env
 bl:Qb
 it:It P B w0
def Sn.rc {P:Program}{B:Nat}{w0:World}(ops:Array Oper)(i:Nat)(s:Sn P B w0):Rc:=itR ops i s.ρ s.bl s.it
def zt {P:Program}{B:Nat}{w0:World}(ops:Array Oper):List (It P B w0)->Nat->Env->Qb->(Nat->Gh)->List (Sn P B w0)
 | [],_,_,_,_=>[]
 | it::r,i,ρ,bl,g=>⟨ρ,bl,it⟩::zt ops r (i+1) (zm ρ (zi ops i) ((itR ops i ρ bl it).val (g i))) (ap bl (g i) (itR ops i ρ bl it).eff) g
def zO {P:Program}{B:Nat}{w0:World}(ops:Array Oper):List (It P B w0)->Nat->Env->Qb->(Nat->Gh)->Env×Qb
 | [],_,ρ,bl,_=>(ρ,bl)
 | it::r,i,ρ,bl,g=>zO ops r (i+1) (zm ρ (zi ops i) ((itR ops i ρ bl it).val (g i))) (ap bl (g i) (itR ops i ρ bl it).eff) g
def wx (bl:Qb)(x:Gh):Eff->Option (Nat×(Nat×Obj))
 | .no=>none
 | .new o=>some (bl.length,(x.b,o))
 | .turn j o=>some (j,(nm bl j,o))
def wOK (bl:Qb):Eff->Bool
 | .turn j _=>Uh j bl.length
 | _=>true
def rk {P:Program}{B:Nat}{w0:World}(ops:Array Oper)(S:List (Sn P B w0))(k:Nat):(Gh->Value)×(Gh->Option (Nat×(Nat×Obj))):=match S[k]? with
 | some s=>((s.rc ops k).val,fun x=>wx s.bl x (s.rc ops k).eff)
 | none=>(fun _=>undef,fun _=>none)
def rdk {P:Program}{B:Nat}{w0:World}(ops:Array Oper)(S:List (Sn P B w0))(k:Nat):List Nat:=match S[k]? with
 | some s=>(s.rc ops k).rd
 | none=>[]
def dEq {P:Program}{B:Nat}{w0:World}(N:Nat)(ops:Array Oper):List (Sn P B w0)->Nat->List Eqn
 | [],_=>[]
 | s::r,i=>⟨wOK s.bl (s.rc ops i).eff,true⟩::((s.rc ops i).eqs++dEq N ops r (i+1))
def msk (A:List Nat)(k:Nat)(g:Nat->Gh):Nat->Gh:=fun j=>bif bfr A j k then g j else default
def no0:Nat->Gh:=fun _=>default
def wkE {P:Program}{B:Nat}{w0:World}(ops:Array Oper)(S:List (Sn P B w0))(g:Nat->Gh)(k:Nat):Option Nat:=((rk ops S k).2 (g k)).map (·.1)
def isO (a:Option Nat)(j:Nat):Bool:=match a with
 | some x=>Qv x j
 | none=>false
def jX (A:List Nat)(n:Nat)(W:Nat->Option Nat)(R:Nat->List Nat):Bool:=
 (QG n).all fun k=>((W k).toList++R k).all fun j=>(QG n).all fun k'=>Qv k' k|| !isO (W k') j||(bif Uh k' k then bfr A k' k else bfr A k k')
section
variable {P:Program}{N:Nat}{ops:Array Oper}{Q:Exit->Env->World->Prop}{ρ:Env}{w w0:World}{B:Nat}{bl:Qb}
theorem ul: ∀ {S:List (Sn P B w0)} {i:Nat},Eqs (dEq N ops S i)-> ∀ {k:Nat} {s:Sn P B w0},S[k]? =some s->wOK s.bl (s.rc ops (i+k)).eff=true/\Eqs (s.rc ops (i+k)).eqs
 | [],_,_,_,_,h=>by simp at h
 | s::r,i,h,0,x,hx=>by
  simp at hx;subst hx;exact⟨Eqs.head h,(Eqs.both (Eqs.tail h)).1⟩
 | s::r,i,h,k+1,x,hx=>by
  have:=ul (S:=r) (i:=i+1) (Eqs.both (Eqs.tail h)).2 (k:=k) (s:=x) (by simpa using hx)
  rwa [show i+1+k=i+(k+1) by omega]at this
def zz (ops:Array Oper):List (It P B w0)->Nat->Env->Qb->(Nat->Gh)->Nat->Qb
 | _,_,_,bl,_,0=>bl
 | [],_,_,bl,_,_+1=>bl
 | it::r,i,ρ,bl,g,k+1=>zz ops r (i+1) (zm ρ (zi ops i) ((itR ops i ρ bl it).val (g i))) (ap bl (g i) (itR ops i ρ bl it).eff) g k
def zW (ops:Array Oper):List (It P B w0)->Nat->Env->Qb->(Nat->Gh)->Nat->Env
 | _,_,ρ,_,_,0=>ρ
 | [],_,ρ,_,_,_+1=>ρ
 | it::r,i,ρ,bl,g,k+1=>zW ops r (i+1) (zm ρ (zi ops i) ((itR ops i ρ bl it).val (g i))) (ap bl (g i) (itR ops i ρ bl it).eff) g k
theorem jY: ∀(its:List (It P B w0)) (i:Nat) (ρ:Env) (bl:Qb) (g:Nat->Gh) (k:Nat) (it:It P B w0),its[k]? =some it->(zt ops its i ρ bl g)[k]? =some ⟨zW ops its i ρ bl g k,zz ops its i ρ bl g k,it⟩
 | [],_,_,_,_,_,_,h=>by simp at h
 | x::r,i,ρ,bl,g,0,it,h=>by simp at h;subst h;rfl
 | x::r,i,ρ,bl,g,k+1,it,h=>jY r (i+1) _ _ g k it (by simpa using h)
theorem um: ∀(its:List (It P B w0)) (i:Nat) (ρ:Env) (bl:Qb) (g:Nat->Gh) (k:Nat) (it:It P B w0),its[k]? =some it->
 zW ops its i ρ bl g (k+1)=zm (zW ops its i ρ bl g k) (zi ops (i+k)) ((itR ops (i+k) (zW ops its i ρ bl g k) (zz ops its i ρ bl g k) it).val (g (i+k)))/\
 zz ops its i ρ bl g (k+1)=ap (zz ops its i ρ bl g k) (g (i+k)) (itR ops (i+k) (zW ops its i ρ bl g k) (zz ops its i ρ bl g k) it).eff
 | [],_,_,_,_,_,_,h=>by simp at h
 | x::r,i,ρ,bl,g,0,it,h=>by simp at h;subst h;cases r<;>exact⟨rfl,rfl⟩
 | x::r,i,ρ,bl,g,k+1,it,h=>by
  have:=um r (i+1) (zm ρ (zi ops i) ((itR ops i ρ bl x).val (g i))) (ap bl (g i) (itR ops i ρ bl x).eff) g k it (by simpa using h);rw[show i+1+k=i+(k+1) by omega]at this;exact this
theorem un: ∀(its:List (It P B w0)) (i:Nat) (ρ:Env) (bl:Qb) (g:Nat->Gh),zO ops its i ρ bl g=(zW ops its i ρ bl g its.length,zz ops its i ρ bl g its.length)
 | [],_,_,_,_=>rfl
 | x::r,i,ρ,bl,g=>un r (i+1) _ _ g
def atE (l:Qb)(j:Nat):Bool×(Nat×Obj):=match l[j]? with
 | some e=>(true,e)
 | none=>(false,(0,.cells #[] 0 (0,0)))
def ent (bl:Qb)(X:Nat->Option (Nat×(Nat×Obj)))(L:Nat->Bool)(j:Nat):Nat->Bool×(Nat×Obj)
 | 0=>atE bl j
 | k+1=>match X k with
  | some (j',e)=>bif Qv j' j&&L k then (true,e) else ent bl X L j k
  | none=>ent bl X L j k
theorem zbS {X:Option (Nat×(Nat×Obj))}{j:Nat}(h:isO (X.map (·.1)) j=true):∃e,X=some (j,e):=by
 cases X with
 | none=>cases h
 | some p=>
  obtain⟨j',e⟩:=p;exact⟨e,by rw[Qn (show Qv j' j=true from h)]⟩
theorem jZ {bl:Qb}{X:Nat->Option (Nat×(Nat×Obj))}{L:Nat->Bool}{j k:Nat}(h:isO ((X k).map (·.1)) j=true->L k=false):ent bl X L j (k+1)=ent bl X L j k:=by
 show (match X k with | some (j',e)=>bif Qv j' j&&L k then (true,e) else ent bl X L j k | none=>ent bl X L j k)=_;cases hX:X k with
 | none=>rfl
 | some p=>
  obtain⟨j',e⟩:=p;cases hb:Qv j' j with
  | false=>simp only[hb,Bool.false_and,cond_false]
  | true=>
   have:=h (by rw[hX];exact hb);simp only[this,Bool.and_false,cond_false]
theorem kR {bl:Qb}{X:Nat->Option (Nat×(Nat×Obj))}{L:Nat->Bool}{j k:Nat}{e:Nat×Obj}(h:X k=some (j,e))(hL:L k=true):ent bl X L j (k+1)=(true,e):=by
 show (match X k with | some (j',e)=>bif Qv j' j&&L k then (true,e) else ent bl X L j k | none=>ent bl X L j k)=_;rw[h];simp[hL]
theorem xB {bl:Qb}{X:Nat->Option (Nat×(Nat×Obj))}{L:Nat->Bool}{j k:Nat} : ∀ {n:Nat},k<=n->(∀i,k<=i->i<n->isO ((X i).map (·.1)) j=true->L i=false)->ent bl X L j n=ent bl X L j k
 | 0,hk,_=>by obtain rfl:k=0:=by omega
              rfl
 | n+1,hk,h=>by
  rcases U4 n k with h1|h1
  ·obtain rfl:k=n+1:=by omega
   rfl
  ·rw[jZ (h n h1 (R0 n)),xB h1 fun i hi hn=>h i hi (by omega)]
theorem xC {bl:Qb}{X X':Nat->Option (Nat×(Nat×Obj))}{L L':Nat->Bool}{j:Nat} : ∀ {n:Nat},(∀i,i<n->isO ((X i).map (·.1)) j=isO ((X' i).map (·.1)) j)->(∀i,i<n->isO ((X i).map (·.1)) j=true->L i=L' i/\(L i=true->X i=X' i))->ent bl X L j n=ent bl X' L' j n
 | 0,_,_=>rfl
 | n+1,h,hh=>by
  have ih:=xC (bl:=bl) (n:=n) (fun i hi=>h i (by omega)) (fun i hi=>hh i (by omega));cases hb:isO ((X n).map (·.1)) j with
  | false=>
   rw[jZ (fun q=>by rw[hb]at q;cases q),jZ (fun q=>by rw[<-h n (R0 n),hb]at q;cases q),ih]
  | true=>
   obtain⟨hL,hX⟩:=hh n (R0 n) hb;cases hLn:L n with
   | false=>rw[jZ (fun _=>hLn),jZ (fun _=>by rw[<-hL,hLn]),ih]
   | true=>
    obtain⟨e,he⟩:=zbS hb;rw[kR he hLn,kR (by rw[<-hX hLn,he]) (by rw[<-hL,hLn])]
theorem zbT {bl:Qb}{x:Gh}{eff:Eff}(hok:wOK bl eff=true)(j:Nat):atE (ap bl x eff) j=(match wx bl x eff with | some (j',e)=>bif Qv j' j then (true,e) else atE bl j | none=>atE bl j):=by
 cases eff with
 | no=>rfl
 | new o=>
  show atE (bl++ [(x.b,o)]) j=bif Qv bl.length j then _ else _;unfold atE;rcases RX j bl.length with h | h | h
  ·have:Qv bl.length j=false:=by
    cases hb:Qv bl.length j with
    | false=>rfl
    | true=>have:=Qn hb;omega
   rw[this,Uu h];rfl
  ·subst h;rw[Q4];simp
  ·have:Qv bl.length j=false:=by
    cases hb:Qv bl.length j with
    | false=>rfl
    | true=>have:=Qn hb;omega
   rw[this,Q9 (by simp;omega),Q9 (by omega)];rfl
 | turn i o=>
  have hlt:i<bl.length:=Qr hok;show atE (bl.set i (nm bl i,o)) j=bif Qv i j then _ else _;unfold atE;rw[RA];by_cases h:i=j
  ·subst h;rw[Q4];simp[hlt]
  ·have:Qv i j=false:=by
    cases hb:Qv i j with
    | false=>rfl
    | true=>exact absurd (Qn hb) h
   rw[this,if_neg h];rfl
theorem zbU (bl:Qb)(x:Gh)(eff:Eff):bl.length<=(ap bl x eff).length:=by
 cases eff<;>simp[ap]
end
section
variable {P:Program}{N:Nat}{ops:Array Oper}{Q:Exit->Env->World->Prop}{ρ:Env}{w w0:World}{B:Nat}{bl:Qb}
theorem zbV (l:Qb)(m:Nat)(h:l.length<=m):(QG m).map (atE l)=l.map (fun e=>(true,e))++RG (m-l.length) (false,(0,.cells #[] 0 (0,0))):=by
 apply Ue;intro j;simp only[QY,List.getElem?_append,RQ,List.getElem?_replicate];by_cases h1:j<l.length
 ·rw[if_pos h1,List.getElem?_range (by omega)];simp[atE,h1]
 ·rw[if_neg h1];by_cases h2:j<m
  ·rw[List.getElem?_range h2,if_pos (by omega)];simp[atE,Q9 (UE h1)]
  ·rw[Q9 (by simp;omega),if_neg (by omega)];rfl
theorem kS: ∀(l:Qb) (k:Nat) (x:Nat×Obj),D2.pres (l.map (fun e=>(true,e))++RG k (false,x))=l
 | [],0,x=>rfl
 | [],k+1,x=>by
  have:=kS [] k x
  simpa [List.replicate_succ,D2.pres] using this
 | e::l,k,x=>congrArg (e :: ·) (kS l k x)
theorem uo (l:Qb)(m:Nat)(h:l.length<=m):D2.pres ((QG m).map (atE l))=l:=by rw[zbV l m h,kS]
theorem zbW (l:Qb)(x y:Gh)(eff:Eff):(wx l x eff).map (·.1)=(wx l y eff).map (·.1):=by cases eff<;>rfl
theorem up (g:Nat->Gh)(i:Nat)(b:Gh):D2.setN g i b i=b:=by unfold D2.setN;rw[Q4];rfl
theorem xD (g:Nat->Gh){i j:Nat}(b:Gh)(h:j≠i):D2.setN g i b j=g j:=by
 unfold D2.setN;cases hb:Qv j i with
 | false=>rfl
 | true=>exact absurd (Qn hb) h
theorem uq (L:Nat->Bool){i j:Nat}(h:j≠i):D2.put1 L i j=L j:=by
 unfold D2.put1;cases hb:Qv j i with
 | false=>rfl
 | true=>exact absurd (Qn hb) h
theorem xE {a:Option Nat}{j:Nat}(h:isO a j=true):a=some j:=by
 cases a with
 | none=>cases h
 | some x=>rw[Qn (show Qv x j=true from h)]
theorem kT {A:List Nat}{n:Nat}{W:Nat->Option Nat}{R:Nat->List Nat}(h:jX A n W R=true){k k' j:Nat}(hk:k<n)(hk':k'<n)(hj:W k=some j\/j∈R k)(hne:k'≠k)(hW:W k'=some j):
 (k'<k/\bfr A k' k=true)\/(k<k'/\bfr A k k'=true):=by
 unfold jX at h;rw[QL]at h;have h1:=h k (List.mem_range.2 hk);rw[QL]at h1
 have h2:=h1 j (by
  rw[Ut];rcases hj with q | q
  ·left;rw[q];simp
  ·exact .inr q)
 rw[QL]at h2;have h3:=h2 k' (List.mem_range.2 hk');rw[RR,RR]at h3;rcases h3 with (q | q) | q
 ·exact absurd (Qn q) hne
 ·rw[hW]at q;have:isO (some j) j=true:=Q4 j;rw[this]at q;cases q
 ·cases hb:Uh k' k with
  | true=>rw[hb]at q;exact .inl ⟨Qr hb,q⟩
  | false=>
   rw[hb]at q;refine .inr ⟨?_,q⟩;rcases U4 k k' with q1 | q1
   ·exact q1
   ·have:k'<k:=by omega
    have hb2:Uh k' k=true:=Nat.ble_eq_true_of_le this;rw[hb2]at hb;cases hb
theorem ur {id:Nat}(its:(Nat->Gh)->List (It P B w0))(H:St B w0 w bl)(hm:P.follows .mixedOrders=true)(hok:D2.drawOK ops (D3.dsts ops) N=true)
 (hlen: ∀g,(its g).length=ops.size)
 (hE: ∀g,Eqs (dEq N ops (zt ops (its g) 0 ρ bl g) 0))
 (hW: ∀g k,k<ops.size->wkE ops (zt ops (its g) 0 ρ bl g) no0 k=wkE ops (zt ops (its no0) 0 ρ bl no0) no0 k)
 (hR: ∀g k,k<ops.size->rdk ops (zt ops (its g) 0 ρ bl g) k=rdk ops (zt ops (its no0) 0 ρ bl no0) k)
 (hord:jX (yZ ops) ops.size (wkE ops (zt ops (its no0) 0 ρ bl no0) no0) (rdk ops (zt ops (its no0) 0 ρ bl no0))=true)
 (hL: ∀g,(zO ops (its g) 0 ρ bl g).2.length=(zO ops (its no0) 0 ρ bl no0).2.length)
 (hdep: ∀k,k<ops.size-> ∀g g',(∀j,bfr (yZ ops) j k=true->g j=g' j)->rk ops (zt ops (its g) 0 ρ bl g) k=rk ops (zt ops (its g') 0 ρ bl g') k)
 (k: ∀g w',St B w0 w' (zO ops (its g) 0 ρ bl g).2->Q .normal (zO ops (its g) 0 ρ bl g).1 w'):WP P N (.region id ops true) Q ρ w:=by
 have hS: ∀g i,i<ops.size->∃it,(its g)[i]? =some it/\(zt ops (its g) 0 ρ bl g)[i]? =some ⟨zW ops (its g) 0 ρ bl g i,zz ops (its g) 0 ρ bl g i,it⟩:=fun g i hi=>by
  have hlt:i<(its g).length:=by rw[hlen g];exact hi
  exact⟨_,Ql hlt,jY (its g) 0 ρ bl g i _ (Ql hlt)⟩
 have hrk: ∀g i it,(its g)[i]? =some it->rk ops (zt ops (its g) 0 ρ bl g) i=((itR ops i (zW ops (its g) 0 ρ bl g i) (zz ops (its g) 0 ρ bl g i) it).val,fun x=>wx (zz ops (its g) 0 ρ bl g i) x (itR ops i (zW ops (its g) 0 ρ bl g i) (zz ops (its g) 0 ρ bl g i) it).eff):=fun g i it h=>by
  unfold rk;rw[jY (its g) 0 ρ bl g i it h];rfl
 have hrd: ∀g i it,(its g)[i]? =some it->rdk ops (zt ops (its g) 0 ρ bl g) i=(itR ops i (zW ops (its g) 0 ρ bl g i) (zz ops (its g) 0 ρ bl g i) it).rd:=fun g i it h=>by
  unfold rdk;rw[jY (its g) 0 ρ bl g i it h];rfl
 have hEq: ∀g i it,(its g)[i]? =some it->wOK (zz ops (its g) 0 ρ bl g i) (itR ops i (zW ops (its g) 0 ρ bl g i) (zz ops (its g) 0 ρ bl g i) it).eff=true/\Eqs (itR ops i (zW ops (its g) 0 ρ bl g i) (zz ops (its g) 0 ρ bl g i) it).eqs:=fun g i it h=>by
  have:=ul (hE g) (jY (its g) 0 ρ bl g i it h);rw[Qy]at this;exact this
 have hnx: ∀g i it,(its g)[i]? =some it->zW ops (its g) 0 ρ bl g (i+1)=zm (zW ops (its g) 0 ρ bl g i) (zi ops i) ((itR ops i (zW ops (its g) 0 ρ bl g i) (zz ops (its g) 0 ρ bl g i) it).val (g i))/\
  zz ops (its g) 0 ρ bl g (i+1)=ap (zz ops (its g) 0 ρ bl g i) (g i) (itR ops i (zW ops (its g) 0 ρ bl g i) (zz ops (its g) 0 ρ bl g i) it).eff:=fun g i it h=>by
  have:=um (ops:=ops) (its g) 0 ρ bl g i it h;rw[Qy]at this;exact this
 have hfin0: ∀g,zO ops (its g) 0 ρ bl g=(zW ops (its g) 0 ρ bl g ops.size,zz ops (its g) 0 ρ bl g ops.size):=fun g=>by rw[un,hlen g]
 have hmono: ∀g i,i<=ops.size-> ∀d,i+d<=ops.size->(zz ops (its g) 0 ρ bl g i).length<=(zz ops (its g) 0 ρ bl g (i+d)).length:=by
  intro g i hi d
  induction d with
  | zero=>intro _;exact Qs _
  | succ d ih=>
   intro hd;obtain⟨it,h1,_⟩:=hS g (i+d) (by omega);have:=(hnx g (i+d) it h1).2;show _<=(zz ops (its g) 0 ρ bl g (i+d+1)).length;rw[this];exact Ro (ih (by omega)) (zbU _ _ _)
 have hm': ∀g i,i<=ops.size->(zz ops (its g) 0 ρ bl g i).length<=(zO ops (its no0) 0 ρ bl no0).2.length:=fun g i hi=>by
  rw[<-hL g,hfin0 g];have:=hmono g i hi (ops.size-i) (by omega)
  rwa [show i+(ops.size-i)=ops.size by omega]at this
 let V:(Nat->Gh)->Nat->Value:=fun g i=>(rk ops (zt ops (its g) 0 ρ bl g) i).1 (g i)
 let X:(Nat->Gh)->Nat->Option (Nat×(Nat×Obj)):=fun g i=>(rk ops (zt ops (its g) 0 ρ bl g) i).2 (g i)
 let W:Nat->Option Nat:=wkE ops (zt ops (its no0) 0 ρ bl no0) no0
 let M:=(zO ops (its no0) 0 ρ bl no0).2.length
 let E:(Nat->Bool)->(Nat->Gh)->List D2.Ent:=fun L g=>(QG M).map fun j=>ent bl (X g) L j ops.size
 have hXW: ∀g i,i<ops.size->(X g i).map (·.1)=W i:=fun g i hi=>by
  obtain⟨it,h1,_⟩:=hS g i hi;have h2:=hW g i hi;show ((rk ops (zt ops (its g) 0 ρ bl g) i).2 (g i)).map (·.1)=wkE ops (zt ops (its no0) 0 ρ bl no0) no0 i;rw[<-h2];unfold wkE;rw[hrk g i it h1];exact zbW _ _ _ _
 have hEat: ∀L g j,j<M->(E L g)[j]? =some (ent bl (X g) L j ops.size):=fun L g j hj=>by
  show ((QG M).map _)[j]? =_;rw[QY,List.getElem?_range hj];rfl
 have hseq: ∀g j i,i<=ops.size->ent bl (X g) (fun _=>true) j i=atE (zz ops (its g) 0 ρ bl g i) j:=by
  intro g j i
  induction i with
  | zero=>intro _;cases its g<;>rfl
  | succ i ih=>
   intro hi;obtain⟨it,h1,_⟩:=hS g i (by omega);have h2:=(hnx g i it h1).2;have h3:=hEq g i it h1;rw[h2,zbT h3.1 j];have hXi:X g i=wx (zz ops (its g) 0 ρ bl g i) (g i) (itR ops i (zW ops (its g) 0 ρ bl g i) (zz ops (its g) 0 ρ bl g i) it).eff:=by
    show (rk ops (zt ops (its g) 0 ρ bl g) i).2 (g i)=_;rw[hrk g i it h1]
   show (match X g i with | some (j',e)=>bif Qv j' j&&true then (true,e) else ent bl (X g) (fun _=>true) j i | none=>ent bl (X g) (fun _=>true) j i)=_;rw[hXi,ih (by omega)]
   ((simp only[Bool.and_true])<;>rfl)
 have hrho: ∀g i,i<=ops.size->D3.envs ρ (zi ops) (V g) i=zW ops (its g) 0 ρ bl g i:=by
  intro g i
  induction i with
  | zero=>intro _;cases its g<;>rfl
  | succ i ih=>
   intro hi;obtain⟨it,h1,_⟩:=hS g i (by omega);rw[(hnx g i it h1).1,<-ih (by omega)];show zm (D3.envs ρ (zi ops) (V g) i) (zi ops i) (V g i)=_;have:V g i=(itR ops i (zW ops (its g) 0 ρ bl g i) (zz ops (its g) 0 ρ bl g i) it).val (g i):=by
    show (rk ops (zt ops (its g) 0 ρ bl g) i).1 (g i)=_;rw[hrk g i it h1]
   rw[this,ih (by omega)]
 have hnow: ∀L g i,D2.Now ops i L->i<ops.size-> ∀j,(W i=some j\/j∈rdk ops (zt ops (its no0) 0 ρ bl no0) i)->ent bl (X g) L j ops.size=atE (zz ops (its g) 0 ρ bl g i) j:=by
  intro L g i hN hi j hj;rw[<-hseq g j i (by omega)];rw[xB (k:=i) (by omega) fun q h1 h2 h3=>?_]
  ·refine xC (fun q hq=>rfl) fun q hq h3=>⟨?_,fun _=>rfl⟩
   rw[hXW g q (by omega)]at h3;rcases kT hord hi (by omega) hj (show q≠i by omega) (xE h3) with⟨_,h⟩ | ⟨h,_⟩
   ·exact(jW h).bef hN
   ·omega
  ·rw[hXW g q h2]at h3;rcases Nat.eq_or_lt_of_le h1 with rfl | h1
   ·exact hN.1
   ·rcases kT hord hi h2 hj (show q≠i by omega) (xE h3) with⟨h,_⟩|⟨_,h⟩
    ·omega
    ·exact(jW h).post hN
 have hself: ∀L i,D2.Now ops i L->bfr (yZ ops) i i=false:=fun L i hN=>by
  cases hb:bfr (yZ ops) i i with
  | false=>rfl
  | true=>have:=(jW hb).bef hN;rw[hN.1]at this;cases this
 have hdep1: ∀L g i b q,D2.Closed ops L->L i=false->L q=true->q<ops.size->rk ops (zt ops (its (D2.setN g i b)) 0 ρ bl (D2.setN g i b)) q=rk ops (zt ops (its g) 0 ρ bl g) q:=fun L g i b q hc hi hq hlt=>
  hdep q hlt _ _ fun j hj=>by
   refine xD g b ?_;rintro rfl;have:=(jW hj).yes hc hq;rw[hi]at this;cases this
 have hdep2: ∀L g i b,D2.Now ops i L->i<ops.size->rk ops (zt ops (its (D2.setN g i b)) 0 ρ bl (D2.setN g i b)) i=rk ops (zt ops (its g) 0 ρ bl g) i:=fun L g i b hN hi=>
  hdep i hi _ _ fun j hj=>by
   refine xD g b ?_;rintro rfl;rw[hself L _ hN]at hj;cases hj
 have hput1: ∀L g i b j e,D2.Now ops i L->i<ops.size->X (D2.setN g i b) i=some (j,e)->ent bl (X (D2.setN g i b)) (D2.put1 L i) j ops.size=(true,e):=by
  intro L g i b j e hN hi hX;have hWi:W i=some j:=by rw[<-hXW (D2.setN g i b) i hi,hX];rfl
  rw[xB (k:=i+1) (by omega) fun q h1 h2 h3=>?_]
  ·exact kR hX (D2.put1_self _ _)
  ·rw[hXW _ q h2]at h3;rw[uq L (show q≠i by omega)];rcases kT hord hi h2 (.inl hWi) (show q≠i by omega) (xE h3) with⟨h,_⟩ | ⟨_,h⟩
   ·omega
   ·exact(jW h).post hN
 have hput2: ∀L g i b j,D2.Now ops i L->i<ops.size->W i≠some j->ent bl (X (D2.setN g i b)) (D2.put1 L i) j ops.size=ent bl (X g) L j ops.size:=by
  intro L g i b j hN hi hne;refine(xC (fun q hq=>?_) fun q hq h3=>?_).symm
  ·rw[hXW _ q hq,hXW _ q hq]
  ·rw[hXW _ q hq]at h3;have hqi:q≠i:=by rintro rfl;exact hne (xE h3)
   refine⟨(uq L hqi).symm,fun hLq=>?_⟩;show (rk ops (zt ops (its g) 0 ρ bl g) q).2 (g q)=(rk ops (zt ops (its (D2.setN g i b)) 0 ρ bl (D2.setN g i b)) q).2 (D2.setN g i b q);rw[hdep1 L g i b q hN.2.2 hN.1 hLq hq,xD g b hqi]
 have hEset: ∀L g i b j e,D2.Now ops i L->i<ops.size->X (D2.setN g i b) i=some (j,e)->E (D2.put1 L i) (D2.setN g i b)=(E L g).set j (true,e):=by
  intro L g i b j e hN hi hX;have hWi:W i=some j:=by rw[<-hXW (D2.setN g i b) i hi,hX];rfl
  apply Ue;intro q;rw[RA];by_cases hq:q<M
  ·rw[hEat _ _ q hq];by_cases hjq:j=q
   ·subst hjq;rw[hput1 L g i b j e hN hi hX,if_pos rfl,if_pos (by show j<((QG M).map _).length;simpa using hq)]
   ·rw[if_neg hjq,hEat _ _ q hq,hput2 L g i b q hN hi (by rw[hWi];intro h;exact hjq (Q1.inj h))]
  ·have hl1:(E L g)[q]? =none:=Q9 (by show ((QG M).map _).length<=q;simp;omega);have hl2:(E (D2.put1 L i) (D2.setN g i b))[q]? =none:=Q9 (by show ((QG M).map _).length<=q;simp;omega);rw[hl2];split
   ·rename_i hjq;subst hjq
    rw[if_neg (by show ¬j<((QG M).map _).length;simp;omega)]
   ·exact hl1.symm
 have hEno: ∀L g i b,D2.Now ops i L->i<ops.size->X (D2.setN g i b) i=none->E (D2.put1 L i) (D2.setN g i b)=E L g:=by
  intro L g i b hN hi hX;have hWi:W i=none:=by rw[<-hXW (D2.setN g i b) i hi,hX];rfl
  show (QG M).map _=(QG M).map _;exact List.map_congr_left fun j _=>hput2 L g i b j hN hi (by rw[hWi];intro h;cases h)
 refine D3.WP.draw (V:=V) (pre:=fun L g w=>StE B w0 w (E L g)) hm hok ?_ ?_ ?_ ?_
 ·
  refine StE.of H.drew _ ?_;have e:E (fun _=>false) (fun _=>default)=(QG M).map (atE bl):=List.map_congr_left fun j _=>by
   rw[xB (k:=0) (QH _) fun _ _ _ _=>rfl];rfl
  rw[e];refine uo bl M ?_;have:=hm' no0 0 (QH _);have e0:zz ops (its no0) 0 ρ bl no0 0=bl:=by cases its no0<;>rfl
  rwa [e0]at this
 ·
  intro i hi L g w1 hp hN;obtain⟨it,h1,_⟩:=hS g i hi;have hq:=hEq g i it h1;obtain⟨o,ho,hdst,hrun⟩:=kK (w:=w1) it hq.2 hp.below fun j hj e he=>by
   have hjm:j<M:=Nat.lt_of_lt_of_le (Qt.1 he).1 (hm' g i (by omega));have h2:=hnow L g i hN hi j (.inr (by rw[<-hR g i hi,hrd g i it h1];exact hj));have h3:atE (zz ops (its g) 0 ρ bl g i) j=(true,e):=by unfold atE;rw[he]
   exact hp.get j (by rw[hEat L g j hjm,h2,h3])
  rw[<-hrho g i (by omega)]at hrun;have hXb: ∀b,X (D2.setN g i b) i=wx (zz ops (its g) 0 ρ bl g i) b (itR ops i (zW ops (its g) 0 ρ bl g i) (zz ops (its g) 0 ρ bl g i) it).eff:=fun b=>by
   show (rk ops (zt ops (its (D2.setN g i b)) 0 ρ bl (D2.setN g i b)) i).2 (D2.setN g i b i)=_;rw[hdep2 L g i b hN hi,up,hrk g i it h1]
  have hVb: ∀b,V (D2.setN g i b) i=(itR ops i (zW ops (its g) 0 ρ bl g i) (zz ops (its g) 0 ρ bl g i) it).val b:=fun b=>by
   show (rk ops (zt ops (its (D2.setN g i b)) 0 ρ bl (D2.setN g i b)) i).1 (D2.setN g i b i)=_;rw[hdep2 L g i b hN hi,up,hrk g i it h1]
  rw[<-hrho g i (by omega)]at hXb hVb;refine⟨o,ho,?_⟩;rcases hrun with⟨hw,hv,he⟩ | ⟨hw,hr⟩
  ·refine .inl ⟨hw,?_,?_⟩
   ·have:=hVb (g i);rw[D2.setN_self,hv]at this;exact this
   ·have hX:=hXb (g i);rw[he]at hX;have:=hEno L g i (g i) hN hi hX;rw[D2.setN_self]at this;show StE B w0 w1 (E (D2.put1 L i) g);rw[this];exact hp
  ·refine .inr ⟨hw,?_⟩;have conv: ∀v w',(∃b,v=(itR ops i (D3.envs ρ (zi ops) (V g) i) (zz ops (its g) 0 ρ bl g i) it).val b/\jT (zz ops (its g) 0 ρ bl g i) w1 w' b (itR ops i (D3.envs ρ (zi ops) (V g) i) (zz ops (its g) 0 ρ bl g i) it).eff)->
    ∃b,v=V (D2.setN g i b) i/\StE B w0 w' (E (D2.put1 L i) (D2.setN g i b)):=by
    rintro v w' ⟨b,rfl,ha⟩;refine⟨b,(hVb b).symm,?_⟩;have hX:=hXb b;cases heff:(itR ops i (D3.envs ρ (zi ops) (V g) i) (zz ops (its g) 0 ρ bl g i) it).eff with
    | no=>
     rw[heff]at hX ha;rw[hEno L g i b hN hi hX];exact hp.call ha
    | new q=>
     rw[heff]at hX ha;rw[hEset L g i b _ _ hN hi hX];exact hp.add ha.1 _ ha.2.1 ha.2.2
    | turn j q=>
     rw[heff]at hX ha;obtain⟨e,hje,hg,hh⟩:=ha;rw[hEset L g i b _ _ hN hi hX,uc hje];have hjm:j<M:=Nat.lt_of_lt_of_le (Qt.1 hje).1 (hm' g i (by omega));have hWi:W i=some j:=by rw[<-hXW (D2.setN g i b) i hi,hX];rfl
     have h2:=hnow L g i hN hi j (.inl hWi);have h3:atE (zz ops (its g) 0 ρ bl g i) j=(true,e):=by unfold atE;rw[hje]
     exact hp.turn j (b:=e.1) (o:=e.2) (by rw[hEat L g j hjm,h2,h3]) hg (.inl rfl) hh
   generalize (execOp (ev (D3.envs ρ (zi ops) (V g) i)) o).run P w1=r at hr;cases r with
   | halt h w'=>exact hr.elim
   | ok n w'=>
    cases n with
    | value v=>exact conv _ _ hr
    | skip=>exact conv _ _ hr
    | enter f' args=>exact R4 hr fun e w'' ⟨v,he,hh⟩=>⟨v,he,conv _ _ hh⟩
    | _=>exact hr.elim
 ·
  intro L i q g b hc hi hq hlt;have hqi:q≠i:=by rintro rfl;rw[hi]at hq;cases hq
  show (rk ops (zt ops (its (D2.setN g i b)) 0 ρ bl (D2.setN g i b)) q).1 (D2.setN g i b q)=(rk ops (zt ops (its g) 0 ρ bl g) q).1 (g q);rw[hdep1 L g i b q hc hi hq hlt,xD g b hqi]
 ·
  intro L g w' hall hp;have h1:=hp.st;have e:E L g=(QG M).map (atE (zO ops (its g) 0 ρ bl g).2):=List.map_congr_left fun j _=>by
   rw[hfin0 g,<-hseq g j ops.size (Qs _)];exact xC (fun q hq=>rfl) fun q hq _=>⟨hall q hq,fun _=>rfl⟩
  rw[e,uo _ M (by rw[hL g];exact Qs _)]at h1;have h2:=k g w' h1;rw[hrho g ops.size (Qs _)];rw[hfin0 g]at h2;exact h2
end
def drK (c:Code)(n:Nat):Bool:=match c with
 | .region _ ops true=>Qv ops.size n
 | _=>false
theorem us {c:Code}{n:Nat}(h:drK c n=true):∃id,c=.region id (zd c) true/\(zd c).size=n:=by
 cases c with
 | region id ops d=>
  cases d with
  | false=>cases h
  | true=>exact⟨id,rfl,Qn h⟩
 | _=>cases h
section
variable {P:Program}{N:Nat}{ops:Array Oper}{Q:Exit->Env->World->Prop}{ρ:Env}{w w0:World}{B:Nat}{bl:Qb}{c:Code}
def eqA (P:Program){B:Nat}{w0:World}(N:Nat)(c:Code)(its:List (It P B w0))(ρ:Env)(bl:Qb):List Eqn:=
 ⟨drK c its.length,true⟩::⟨P.follows .mixedOrders,true⟩::⟨D2.drawOK (zd c) (D3.dsts (zd c)) N,true⟩ ::
 ⟨jX (yZ (zd c)) its.length (wkE (zd c) (zt (zd c) its 0 ρ bl no0) no0) (rdk (zd c) (zt (zd c) its 0 ρ bl no0)),true⟩ ::
 ⟨fun g=>zt (zd c) its 0 ρ bl g,fun _=>zt (zd c) its 0 ρ bl no0⟩::⟨fun g=>zO (zd c) its 0 ρ bl g,fun _=>zO (zd c) its 0 ρ bl no0⟩::dEq N (zd c) (zt (zd c) its 0 ρ bl no0) 0
theorem dL (its:List (It P B w0))(H:St B w0 w bl)(h:(eqA P N c its ρ bl).map Eqn.lf=(eqA P N c its ρ bl).map Eqn.rt)
 (k: ∀w',St B w0 w' (zO (zd c) its 0 ρ bl no0).2->Q .normal (zO (zd c) its 0 ρ bl no0).1 w'):WP P N c Q ρ w:=by
 obtain⟨id,he,hn⟩:=us (Eqs.head h);have h2:=Eqs.head (Eqs.tail h);have h3:=Eqs.head (Eqs.tail (Eqs.tail h));have h4:=Eqs.head (Eqs.tail (Eqs.tail (Eqs.tail h)));have h5: ∀g,zt (zd c) its 0 ρ bl g=zt (zd c) its 0 ρ bl no0:=congrFun (Eqs.head (Eqs.tail (Eqs.tail (Eqs.tail (Eqs.tail h)))));have h6: ∀g,zO (zd c) its 0 ρ bl g=zO (zd c) its 0 ρ bl no0:=congrFun (Eqs.head (Eqs.tail (Eqs.tail (Eqs.tail (Eqs.tail (Eqs.tail h))))));have h7:=Eqs.tail (Eqs.tail (Eqs.tail (Eqs.tail (Eqs.tail (Eqs.tail h)))));rw[he];refine ur (fun _=>its) H h2 h3 (fun _=>hn.symm) (fun g=>?_) (fun g k _=>?_) (fun g k _=>?_) ?_ (fun g=>?_) (fun k _ g g' _=>?_) fun g w' hH=>?_
 ·rw[h5 g];exact h7
 ·show wkE (zd c) (zt (zd c) its 0 ρ bl g) no0 k=_;rw[h5 g]
 ·show rdk (zd c) (zt (zd c) its 0 ρ bl g) k=_;rw[h5 g]
 ·rw[hn];exact h4
 ·show (zO (zd c) its 0 ρ bl g).2.length=_;rw[h6 g]
 ·show rk (zd c) (zt (zd c) its 0 ρ bl g) k=rk (zd c) (zt (zd c) its 0 ρ bl g') k;rw[h5 g,h5 g']
 ·have e:=h6 g;rw[e]at hH⊢;exact k w' hH
theorem dS (its:List (It P B w0))(H:St B w0 w bl)(h:(⟨yL c,true⟩::eqA P N (zG c) its ρ bl).map Eqn.lf=(⟨yL c,true⟩::eqA P N (zG c) its ρ bl).map Eqn.rt)
 (k: ∀w',St B w0 w' (zO (zd (zG c)) its 0 ρ bl no0).2->WP P N (yK c) Q (zO (zd (zG c)) its 0 ρ bl no0).1 w'):WP P N c Q ρ w:=
 zb (Eqs.head h) (dL its H (Eqs.tail h) k)
def eqB (P:Program){B:Nat}{w0:World}(N:Nat)(c:Code)(its:(Nat->Gh)->List (It P B w0))(ρ:Env)(bl:Qb)(g:Nat->Gh):List Eqn:=
 ⟨drK c (its no0).length,true⟩::⟨P.follows .mixedOrders,true⟩::⟨D2.drawOK (zd c) (D3.dsts (zd c)) N,true⟩ ::
 ⟨jX (yZ (zd c)) (its no0).length (wkE (zd c) (zt (zd c) (its no0) 0 ρ bl no0) no0) (rdk (zd c) (zt (zd c) (its no0) 0 ρ bl no0)),true⟩ ::
 ⟨(its g).length,(its no0).length⟩::⟨(zO (zd c) (its g) 0 ρ bl g).2.length,(zO (zd c) (its no0) 0 ρ bl no0).2.length⟩ ::
 (dEq N (zd c) (zt (zd c) (its g) 0 ρ bl g) 0++(((QG (its no0).length).map fun k=>⟨wkE (zd c) (zt (zd c) (its g) 0 ρ bl g) no0 k,wkE (zd c) (zt (zd c) (its no0) 0 ρ bl no0) no0 k⟩)++
  (((QG (its no0).length).map fun k=>⟨rdk (zd c) (zt (zd c) (its g) 0 ρ bl g) k,rdk (zd c) (zt (zd c) (its no0) 0 ρ bl no0) k⟩)++
   ((QG (its no0).length).map fun k=>⟨rk (zd c) (zt (zd c) (its (msk (yZ (zd c)) k g)) 0 ρ bl (msk (yZ (zd c)) k g)) k,rk (zd c) (zt (zd c) (its g) 0 ρ bl g) k⟩))))
theorem Eqs.at {α:Type}{f f':Nat->α}{n:Nat}(h:Eqs ((QG n).map fun k=>⟨f k,f' k⟩)){k:Nat}(hk:k<n):f k=f' k:=by
 have h1:=Eqs.mem h (Rq.2 ⟨k,List.mem_range.2 hk,rfl⟩);exact eq_of_heq (Sigma.mk.inj h1).2
theorem dLg (its:(Nat->Gh)->List (It P B w0))(H:St B w0 w bl)(h:(fun g=>(eqB P N c its ρ bl g).map Eqn.lf)=fun g=>(eqB P N c its ρ bl g).map Eqn.rt)
 (k: ∀g w',St B w0 w' (zO (zd c) (its g) 0 ρ bl g).2->Q .normal (zO (zd c) (its g) 0 ρ bl g).1 w'):WP P N c Q ρ w:=by
 have hh: ∀g,Eqs (eqB P N c its ρ bl g):=fun g=>congrFun h g;obtain⟨id,he,hn⟩:=us (Eqs.head (hh no0));have h2:=Eqs.head (Eqs.tail (hh no0));have h3:=Eqs.head (Eqs.tail (Eqs.tail (hh no0)));have h4:=Eqs.head (Eqs.tail (Eqs.tail (Eqs.tail (hh no0))));have h5: ∀g,(its g).length=(its no0).length:=fun g=>Eqs.head (Eqs.tail (Eqs.tail (Eqs.tail (Eqs.tail (hh g)))));have h6: ∀g,(zO (zd c) (its g) 0 ρ bl g).2.length=(zO (zd c) (its no0) 0 ρ bl no0).2.length:=fun g=>Eqs.head (Eqs.tail (Eqs.tail (Eqs.tail (Eqs.tail (Eqs.tail (hh g))))));have h7:=fun g=>Eqs.both (Eqs.tail (Eqs.tail (Eqs.tail (Eqs.tail (Eqs.tail (Eqs.tail (hh g)))))));have h8:=fun g=>Eqs.both (h7 g).2;have h9:=fun g=>Eqs.both (h8 g).2;rw[he];refine ur its H h2 h3 (fun g=>(h5 g).trans hn.symm) (fun g=>(h7 g).1) (fun g k hk=>Eqs.at (h8 g).1 (by rw[<-hn];exact hk)) (fun g k hk=>Eqs.at (h9 g).1 (by rw[<-hn];exact hk)) (by rw[hn];exact h4) h6 (fun k hk g g' hg=>?_) k;have e1:=Eqs.at (h9 g).2 (show k<(its no0).length by rw[<-hn];exact hk);have e2:=Eqs.at (h9 g').2 (show k<(its no0).length by rw[<-hn];exact hk);have e3:msk (yZ (zd c)) k g=msk (yZ (zd c)) k g':=funext fun j=>by
  unfold msk;cases hb:bfr (yZ (zd c)) j k with
  | false=>rfl
  | true=>exact hg j hb
 rw[<-e1,e3,e2]
theorem dSg (its:(Nat->Gh)->List (It P B w0))(H:St B w0 w bl)(h:(fun g=>(⟨yL c,true⟩::eqB P N (zG c) its ρ bl g).map Eqn.lf)=fun g=>(⟨yL c,true⟩::eqB P N (zG c) its ρ bl g).map Eqn.rt)
 (k: ∀g w',St B w0 w' (zO (zd (zG c)) (its g) 0 ρ bl g).2->WP P N (yK c) Q (zO (zd (zG c)) (its g) 0 ρ bl g).1 w'):WP P N c Q ρ w:=
 zb (Eqs.head (congrFun h no0)) (dLg its H (funext fun g=>Eqs.tail (congrFun h g)) k)
theorem jh (l:List (Nat×Value))(h:(l.map fun p=>Eqn.mk (ρ p.1) p.2).map Eqn.lf=(l.map fun p=>Eqn.mk (ρ p.1) p.2).map Eqn.rt)(k: ∀ρ',WP P N c Q (yE l ρ') w):WP P N c Q ρ w:=by
 have hh: ∀ {l:List (Nat×Value)},Eqs (l.map fun p=>Eqn.mk (ρ p.1) p.2)->xu ρ l:=by
  intro l
  induction l with
  | nil=>intro _;trivial
  | cons p l ih=>intro h;exact⟨Eqs.head h,ih (Eqs.tail h)⟩
 have:=k ρ
 rwa [kE (hh h)]at this
end
end
theorem zbX (a b:Nat):(a:Int).tdiv (b:Int)=((a / b:Nat):Int):=rfl
theorem zbY (a b:Nat):(a:Int).tmod (b:Int)=((a%b:Nat):Int):=rfl
theorem zA {a b:Nat}(h:a+b<=0x7fffffffffffffff):Qo.wrap ((a:Int)+(b:Int))=((a+b:Nat):Int):=by rw[wrap_i64 (by omega) (by omega)];omega
theorem qE {a b:Nat}(h:a*b<=0x7fffffffffffffff):Qo.wrap ((a:Int)*(b:Int))=((a*b:Nat):Int):=by
 rw[<-Int.natCast_mul];exact wrap_i64 (by omega) (by omega)
theorem qg {a b:Nat}(h:b<=a/\a<=0x7fffffffffffffff):Qo.wrap ((a:Int)-(b:Int))=((a-b:Nat):Int):=by rw[wrap_i64 (by omega) (by omega)];omega
theorem ut {a b:Nat}(h:a<=0x7fffffffffffffff):Qo.wrap ((a:Int).tdiv (b:Int))=((a / b:Nat):Int):=by
 rw[zbX];have:=Nat.div_le_self a b;generalize a / b=q at*;exact wrap_i64 (by omega) (by omega)
theorem uu (a b:Nat):(a:Int).tmod (b:Int)=((a%b:Nat):Int):=zbY a b
theorem uw {k:Nat}(a p:Nat)(h:2^k=p):Int.fdiv (a:Int) (2^k)=((a / p:Nat):Int):=by
 subst h;rw[Int.fdiv_eq_ediv_of_nonneg _ (by exact_mod_cast QH _)]
 push_cast;rfl
theorem ux {a:Nat}(h:a<=0x7fffffffffffffff):Qo.wrap (a:Int)=(a:Int):=wrap_i64 (by omega) (by omega)
section
variable {P:Program}{ρ:Env}
theorem uy {k:IntKind}{t t':TypeId}{x y:Operand}{o:Oper}{n:Nat}(X Y:Nat)(h:Y≠0)(w:World)(ho:o.op=.binOp .rem t x y t')(hx:ev ρ x=.int k (X:Int))(hy:ev ρ y=.int k (Y:Int)):
 (execOp (ev ρ) o).run P w=.ok (.value (.int k ((X:Int).tmod (Y:Int)))) w:=by
 have h2:(Y:Int)≠0:=by omega
 unfold execOp;simp[ho,hx,hy,eqGuard,binOp,Op.intDiv,h2,h]
theorem qS {t e:TypeId}{size bytes:Nat}(ht:zV P t=some (e,size,bytes)){x y:Operand}{o:Oper}{kd:IntKind}(b n c k:Nat)(ho:o.op=.slice t x none (some y) none)(hx:ev ρ x=Qf b n c)(hy:ev ρ y=.int kd (k:Int))(hk:k<=c):
 ∀w,(execOp (ev ρ) o).run P w=.ok (.value (Qf b k c)) w:=fun w=>by
 obtain⟨it,z,hu,hi,hz,hsz,hby,hzs,h0⟩:=yM ht;have hS:(sizeOf e).run P w=.ok size w:=by simp[sizeOf,typeInfo,hi,hsz]
 have h1:(0:Int)<=(k:Int)/\(k:Int)<=(c:Int):=by omega
 unfold execOp;simp[ho,hx,hy,UD,UL,Uc,Ui,asIntOf,run_underlying hu,hS,hk,qf]
end
namespace D2
section
variable {P:Program}{ops:Array Oper}{R:(Nat->Gh)->Env}{i:Nat}{d:Option Nat}
variable {E:(Nat->Bool)->(Nat->Gh)->List Ent}{F:(Nat->Bool)->(Nat->Gh)->Prop}{B:Nat}{w0:World}
end
end D2
section
variable {P:Program}{N:Nat}{ops:Array Oper}{i:Nat}{r:List Nat}{K:Env->World->Prop}{ρ:Env}{w:World}{B:Nat}{w0:World}{l:Qb}
theorem zbZ (HS:St B w0 w l)(d:Option Nat)(t e:TypeId)(bytes:Nat)(z:Value)(x y:Operand)(kl kc:IntKind)(n:Nat)(h:opk ops i ρ=some (d,true,.makeSlice t x y))(hd:dOK d N=true)(ht:zV P t=some (e,1,bytes))(hz:(P.info? e).bind (·.zero)=some z)(hzz:z.cells=#[z])
 (hx:ev ρ x=.int kl (n:Int)) (hy:ev ρ y=.int kc (n:Int)) (hb:bytes*n<=281474976710656) (hm:n<=maxLen)
 (kk: ∀b cur w',St B w0 w' ((b,.cells cur e)::l)->Rw 1 cur n n (RG n z)->WPs P N ops K r (zm ρ d (Qf b n n)) w'):WPs P N ops K (i::r) ρ w:=by
 obtain⟨o,ho,rfl,hw,hop⟩:=zJ h;obtain⟨it,z',hu,hi,hz',hsz,hby,hzs,h0⟩:=yM ht;obtain rfl:z'=z:=by rw[hi]at hz;simp[hz']at hz;exact hz
 have hml:n<=0x7fffffffffffffff:=by have:=hm;simp only[maxLen]at this;omega
 have hbi:(it.bytes:Int)*(n:Int)<=281474976710656:=by
  rw[hby,<-Int.natCast_mul];omega
 have hr:=run_make (P:=P) w t e it z' hu hi hz' kl kc (n:Int) (n:Int) (by omega) (by omega) hbi (by omega);simp only[Int.toNat_natCast,hsz,Nat.mul_one]at hr;have hmade:madeCells z'.cells n=Rp n z':=by
  unfold madeCells;apply Array.ext
  ·simp
  ·intro q h1 h2;simp[hzz,Nat.mod_one]
 rw[hmade]at hr;refine WPo.run ho hw fun a ha=>?_;have hex:(execOp (ev ρ) o).run P w=.ok (.value (Qf w.heap.size n n)) (w.alloc (.cells (Rp n z') e)):=by
  unfold execOp;simp only[hop,hx,hy,QM,hr,QA];rfl
 rw[hex,Rs];exact⟨_,ha.put _ (zS hd) _,kk _ _ _ (HS.alloc _) ⟨by simp,Qs _,hm,by simp,by simp⟩⟩
end
def tl (s:Qa):List UInt8:=s.data.toList
theorem xF (s:Qa):(tl s).length=s.size:=rfl
section
variable {P:Program}{ρ:Env}
theorem zb0 {t:TypeId}(ht:P.underlying t=some .string){x y:Operand}{o:Oper}{kd:IntKind}(s:Qa)(k:Nat)(ho:o.op=.slice t x none (some y) none)(hx:ev ρ x=.string s)(hy:ev ρ y=.int kd (k:Int))(hk:k<=s.size):
 ∀w,(execOp (ev ρ) o).run P w=.ok (.value (.string (s.extract 0 k))) w:=fun w=>by
 have h1:(0:Int)<=(k:Int)/\(k:Int)<=(s.size:Int):=by omega
 unfold execOp;simp[ho,hx,hy,UD,UL,Uc,Ui,asIntOf,run_underlying ht,hk]
end
theorem zb1 (s:Qa):(s.toList==s.toList)=true:=beq_self_eq_true _
section
variable {P:Program}{N:Nat}{ops:Array Oper}{i:Nat}{r:List Nat}{K:Env->World->Prop}{ρ:Env}{w:World}{B:Nat}{w0:World}{l:Qb}
end
theorem zb2 {P:Program}{t t' e:TypeId}{x:Operand}{j b n cap:Nat}{cur:Qd}{T:TypeId}{fz:Nat×Nat}(xs:List Int)(ht:P.underlying t=some (.slice e))(he:P.underlying e=some (.int .u8))(ht':P.underlying t'=some .string)
 (hr:Rw 1 cur cap n (xs.map (Value.int .u8))): ∀(ρ:Env) (o:Oper) (w:World),o.op=.convert t t' x->Ins (ev ρ) [(x,Qf b n cap)]->Hd [(j,(b,.cells cur T fz))] w->(execOp (ev ρ) o).run P w=.ok (.value (.string (strOfNums xs))) w:=fun ρ o w ho hi hd=>by
 have hx:ev ρ x=Qf b n cap:=hi.1;have hlen:xs.length=n:=by have:=hr.len;simpa using this
 have hc:=run_convert_bytes_arg (P:=P) w t e ht he b 0 n cap xs hlen (fun q hq=>by
  have h2:=hr.get q (by omega)
  simp[RW,hd.1,h2,hlen,hq]) t' ht'
 unfold execOp;simp only[ho,hx,hc,QM,QA];rfl
theorem uz {P:Program}{ρ:Env}{t t':TypeId}{x y:Operand}{o:Oper}(a b:Qa)(w:World)(ho:o.op=.binOp .add t x y t')(hx:ev ρ x=.string a)(hy:ev ρ y=.string b)(h:a.size+b.size<=0x7fffffffffffffff):
 (execOp (ev ρ) o).run P w=.ok (.value (.string (a++b))) w:=by
 unfold execOp;simp[ho,hx,hy,eqGuard,binOp,run_string_add_sum w a b h]
def kU (dT sT:TypeId)(x y:Operand):Op:=.call { callee:=.builtin .copy,args:=#[x,y],argTypes:=#[dT,sT] }
def yy (l:List UInt8):List Value:=l.map fun b=>Value.int .u8 (b.toNat:Int)
theorem xG (l:List UInt8):(yy l).length=l.length:=by unfold yy;simp
theorem zb3 {P:Program}{ρ:Env}{w:World}{dT sT e:TypeId}{bytes:Nat}{x y:Operand}{bd dLen dCap:Nat}{C C':Qd}{T:TypeId}{s:Qa}
 (ht:zV P dT=some (e,1,bytes)) (hx:ev ρ x=Qf bd dLen dCap) (hy:ev ρ y=.string s)
 (hD:w.heap[bd]? =some (.cells C T)) (hle:s.size<=dLen) (hfit:s.size<=C.size)
 (hC:(yy (tl s)++C.toList.drop s.size).toArray=C') (o:Oper) (ho:o.op=kU dT sT x y):(execOp (ev ρ) o).run P w=.ok (.value (.int .i64 (s.size:Int))) (w.setRow bd C'):=by
 obtain⟨it,z,hu,hi,hz,hsz,hby,hzs,h0⟩:=yM ht;have hs1:(P.info? e).map (·.size)=some 1:=by rw[hi];simp[hsz]
 have hr:=Go.Lib.run_copy_row_string (P:=P) w dT sT o.type e bd 0 dLen dCap s C T hu hs1 hD hle (by omega);rw[show C.toList.take 0++Go.Lib.byteCells s.data.toList++C.toList.drop (0+s.size)=yy (tl s)++C.toList.drop s.size by unfold tl yy Go.Lib.byteCells;simp,hC]at hr;unfold execOp;simp only[ho,kU,resolve,invoke,builtin,QM,RY,QA,RN,QK,R5,hx,hy,hr];rfl
def ji (l:List UInt8):Qa:=⟨l.toArray⟩
theorem xH (s:Qa):ji (tl s)=s:=rfl
theorem zb4 (z:Nat):yy (RG z 0)=RG z (.int .u8 0):=by unfold yy;rw[List.map_replicate];rfl
section
variable {P:Program}{N:Nat}{ops:Array Oper}{i:Nat}{r:List Nat}{K:Env->World->Prop}{ρ:Env}{w:World}{B:Nat}{w0:World}{l:Qb}
theorem zb5 (HS:St B w0 w l)(d:Option Nat)(dT sT e bytes:Nat)(x y:Operand)(jd bd dLen dCap:Nat)(s:Qa)(C C':Qd)(T:TypeId)(l':Qb)
 (h:opk ops i ρ=some (d,true,kU dT sT x y)) (hd:dOK d N=true) (ht:zV P dT=some (e,1,bytes)) (hx:ev ρ x=Qf bd dLen dCap) (hy:ev ρ y=.string s)
 (hj:l[jd]? =some (bd,.cells C T)) (hle:s.size<=dLen) (hfit:s.size<=C.size)
 (hC:(yy (tl s)++C.toList.drop s.size).toArray=C') (hl':l.set jd (bd,.cells C' T)=l') (kk: ∀w',St B w0 w' l'->WPs P N ops K r (zm ρ d (.int .i64 (s.size:Int))) w'):WPs P N ops K (i::r) ρ w:=by
 subst hl';exact zbN d _ _ _ h hd (zb3 ht hx hy (HS.get jd hj) hle hfit hC) (kk _ (HS.store jd hj))
end
namespace D2
section
variable {P:Program}{ops:Array Oper}{R:(Nat->Gh)->Env}{i:Nat}{d:Option Nat}
variable {E:(Nat->Bool)->(Nat->Gh)->List Ent}{F:(Nat->Bool)->(Nat->Gh)->Prop}{B:Nat}{w0:World}
end
end D2
section
variable {P:Program}{N:Nat}{ops:Array Oper}{i:Nat}{r:List Nat}{K:Env->World->Prop}{ρ:Env}{w:World}{B:Nat}{w0:World}{l:Qb}
end
namespace D2
section
variable {P:Program}{ops:Array Oper}{R:(Nat->Gh)->Env}{i:Nat}{d:Option Nat}
variable {E:(Nat->Bool)->(Nat->Gh)->List Ent}{F:(Nat->Bool)->(Nat->Gh)->Prop}{B:Nat}{w0:World}
end
end D2
theorem toList_eq (s:Qa):s.toList=tl s:=ByteArray.toList_eq s
theorem yS (a b:Qa)(h:a=b):(a.toList==b.toList)=true:=by subst h;exact zb1 a
theorem yO (a b:Qa)(h: ¬a=b):(a.toList==b.toList)=false:=by
 rw[beq_eq_false_iff_ne];intro e;rw[toList_eq,toList_eq]at e;exact h (by rw[<-xH a,e,xH])
theorem uA {a b:Qa}(h:tl a=tl b):a=b:=by rw[<-xH a,h,xH]
section
variable {P:Program}{N:Nat}{ops:Array Oper}{i:Nat}{r:List Nat}{K:Env->World->Prop}{ρ:Env}{w:World}{B:Nat}{w0:World}{l:Qb}
def uB (t t':TypeId)(x y:Operand):Op:=.call { callee:=.builtin .unsafeString,args:=#[x,y],argTypes:=#[t,t'] }
theorem zb6 {b:Nat}{C:Qd}{T:TypeId}(HS:St B w0 w [(b,.cells C T)])(d:Option Nat)(t t' e:TypeId)(x y:Operand)(n cap:Nat)(xs:List UInt8)
 (h:opk ops i ρ=some (d,true,uB t t' x y)) (hd:dOK d N=true) (ht:P.underlying t=some (.pointer e)) (hc:P.cellsOf e=1) (hT:T=e)
 (hx:ev ρ x=Qe b) (hy:ev ρ y=.int .i64 (n:Int)) (hr:Rw 1 C cap n (yy xs)) (h0:0<n) (hm:n<=0x7fffffffffffffff)
 (kk: ∀w',St B w0 w' []->WPs P N ops K r (zm ρ d (.string (ji xs))) w'):WPs P N ops K (i::r) ρ w:=by
 obtain⟨o,ho,rfl,hw,hop⟩:=zJ h;subst hT;have hb:=HS.get 0 rfl;have hB:=HS.ge 0 rfl;have hlen:xs.length=n:=by have:=hr.len;rw[xG]at this;omega
 have hsz:=hr.sz;have hle:=hr.le
 have hrun:=Lib.run_unsafeString_row (P:=P) w t t' o.type T ht hc b C.size (by unfold World.shape?;rw[hb]) xs (by intro e;subst e;simp at hlen;omega) (by omega) (by omega) (fun j u hj=>by
  have hjl:j<xs.length:=(Qt.1 hj).1;have h2:=hr.get j (by omega);rw[qf,Qy];have h3:(yy xs)[j]? =some (.int .u8 (u.toNat:Int)):=by unfold yy;rw[QY,hj];rfl
  simp[RW,hb,h2,h3])
 rw[hlen]at hrun;refine WPo.run ho hw fun a ha=>?_;have hex:(execOp (ev ρ) o).run P w=.ok (.value (.string (ji xs))) (w.freeze ⟨b,0,none⟩ n):=by
  unfold execOp;simp only[hop,uB,resolve,invoke,builtin,QM,RY,QA,RN,QK,R5,hx,hy,hrun];rfl
 rw[hex,Rs];have hbel:=Lib.below_freeze HS.below (p:=⟨b,0,none⟩) hB n;refine⟨_,ha.put _ (zS hd) _,kk _ ⟨hbel,Ro HS.le ?_,(fun e he=>nomatch he),List.nodup_nil⟩⟩;unfold World.freeze;split<;>simp
theorem zb7 {t e:TypeId}{size bytes:Nat}(ht:zV P t=some (e,size,bytes)){x y:Operand}{o:Oper}{kd:IntKind}(a:Addr)(n c k:Nat)(ho:o.op=.slice t x none (some y) none)(hx:ev ρ x=.slice (some a) n c)(hy:ev ρ y=.int kd (k:Int))(hk:k<=c):
 ∀w,(execOp (ev ρ) o).run P w=.ok (.value (.slice (some a) k c)) w:=fun w=>by
 obtain⟨it,z,hu,hi,hz,hsz,hby,hzs,h0⟩:=yM ht;have hS:(sizeOf e).run P w=.ok size w:=by simp[sizeOf,typeInfo,hi,hsz]
 have ha:a.add 0=a:=rfl;unfold execOp;simp[ho,hx,hy,UD,UL,Uc,Ui,asIntOf,run_underlying hu,hS,hk,ha]
end
inductive Fr (α:Type)
 | nil
 | cons (a:α) (k r:Fr α)
structure Sh (α:Type) where
 K:Nat
 hd:α->List Value
 ok:α->Prop
 mx:Nat
 len: ∀a,(hd a).length+1=K
 one: ∀a,∀u∈hd a,u.oneCell'=true
section
variable {α:Type}{S:Sh α}
structure El (α:Type) where
 a:α
 p:Qc
 n:Nat
 c:Nat
 k:Fr α
theorem exE {C:Qd}{o:Nat}{x:List Value}{K:Nat}(hl:x.length=K)(h: ∀j,j<K->C[o+j]? =x[j]?)(h0:0<K):o+K<=C.size/\C.extract o (o+K)=x.toArray:=by
 have hz:o+K<=C.size:=by
  have h1:=h (K-1) (by omega);rw[Ql (by omega)]at h1;obtain⟨h2,_⟩:=QI.1 h1;omega
 refine⟨hz,?_⟩;apply Array.ext_getElem?;intro j;have e:x.toArray[j]? =x[j]? :=by simp
 rw[Array.getElem?_extract,e];split
 ·rename_i hj
  exact h j (by omega)
 ·rename_i hj
  rw[Q9 (by omega)]
end
theorem St.perm {B:Nat}{w0 w:World}{l l':Qb}(h:St B w0 w l)(hp:l'.Perm l):St B w0 w l':=
 ⟨h.below,h.le,fun x hx=>h.own x (hp.mem_iff.1 hx),((hp.map (·.1)).nodup_iff).2 h.nd⟩
theorem St.addAll {B:Nat}{w0 w w':World}{l T:Qb}(h:St B w0 w l)(hT:St w.heap.size w w' T):St B w0 w' (T++l):=by
 have h':=h.call hT.below;refine⟨h'.below,h'.le,?_,?_⟩
 ·intro e he;rcases Ut.1 he with he | he
  ·exact⟨Ro h.le (hT.own e he).1,(hT.own e he).2⟩
  ·exact h'.own e he
 ·rw[List.map_append,List.nodup_append];refine⟨hT.nd,h'.nd,?_⟩;intro x hx y hy q;obtain⟨e,he,rfl⟩:=Rq.1 hx;obtain⟨e',he',rfl⟩:=Rq.1 hy;have h1:=(hT.own e he).1;have h2:=zj (h.own e' he').2;omega
section
variable {P:Program}{ρ:Env}{w w0:World}{B:Nat}{l:Qb}
theorem uC {K:Nat}(HS:St B w0 w l){t e bytes:Nat}{s x:Operand}{o:Oper}{j k b bx n cap c:Nat}{cur Y:Qd}{xs:List Value}(ht:zV P t=some (e,K,bytes))(ho:o.op=yN t s x)
 (hs:ev ρ s=Qf b n cap) (hj:l[j]? =some (b,.cells cur e)) (hr:Rw K cur cap n xs) (hx:ev ρ x=Qf bx 1 c) (hk:l[k]? =some (bx,.cells Y e))
 (hY:Y.size=K) (hone: ∀u∈Y.toList,u.oneCell'=true)
 (hb:(n+1)*bytes<=0x800000000000) (hm:n+1<=maxLen):∃b' cap' cur' w',(execOp (ev ρ) o).run P w=.ok (.value (Qf b' (n+1) cap')) w'/\St B w0 w' (l.set j (b',.cells cur' e))/\Rw K cur' cap' (n+1) (xs++Y.toList):=by
 obtain⟨it,z,hu,hi,hz,hsz,hby,hzs,h0⟩:=yM ht;have hnews: ∀q u,(Y.toList)[q]? =some u->w.cell? ((⟨bx,0,none⟩:Addr).add q)=some u:=fun q u hq=>by
  rw[Rr]at hq;rw[qf,Qy];simp[RW,HS.get k hk,hq]
 obtain⟨v',w',hrun,hown,hgr,hnil,hblk⟩:=run_append_own_at (P:=P) w B t o.type e it z K bytes hu hi hz hsz hby hzs h0 _ n xs (hr.owns (HS.ge j hj) (HS.get j hj)) ⟨bx,0,none⟩ 1 c Y.toList (by rw[QD,hY,U0]) hnews hone hm hb HS.le;have hown':=hown;rcases hown'.2 with⟨hv,_⟩|⟨g,cap',cur',rfl,hbg,hg,hnc,hcm,hcs,htk⟩
 ·exact absurd (hnil.1 hv).1 (by simp)
 ·have hgb:g=b\/g=w.heap.size:=by
   rcases hblk with hq|hq
   ·left;injection hq
   ·right;injection hq
  refine⟨g,cap',cur',w',?_,HS.grown j hj hgr hgb hg,?_⟩
  ·unfold execOp;simp only[ho,yN,resolve,invoke,builtin,QM,RY,QA,RN,QK,R5,hs,hx,hrun]
  ·exact⟨hown.1,hnc,hcm,htk,hcs⟩
theorem uD {K:Nat}(HS:St B w0 w l){t e bytes:Nat}{s x:Operand}{o:Oper}{k bx c:Nat}{Y:Qd}(ht:zV P t=some (e,K,bytes))(ho:o.op=yN t s x)
 (hs:ev ρ s=.slice none 0 0) (hx:ev ρ x=Qf bx 1 c) (hk:l[k]? =some (bx,.cells Y e))
 (hY:Y.size=K) (hone: ∀u∈Y.toList,u.oneCell'=true)
 (hb:(0+1)*bytes<=0x800000000000):∃b' cap' cur' w',(execOp (ev ρ) o).run P w=.ok (.value (Qf b' 1 cap')) w'/\St B w0 w' ((b',.cells cur' e)::l)/\Rw K cur' cap' 1 Y.toList:=by
 obtain⟨it,z,hu,hi,hz,hsz,hby,hzs,h0⟩:=yM ht;have hnews: ∀q u,(Y.toList)[q]? =some u->w.cell? ((⟨bx,0,none⟩:Addr).add q)=some u:=fun q u hq=>by
  rw[Rr]at hq;rw[qf,Qy];simp[RW,HS.get k hk,hq]
 obtain⟨v',w',hrun,hown,hgr,hnil,hblk⟩:=run_append_own_at (P:=P) w B t o.type e it z K bytes hu hi hz hsz hby hzs h0 (.slice none 0 0) 0 [] (World.ownsRow_nil w B e K) ⟨bx,0,none⟩ 1 c Y.toList (by rw[QD,hY,U0]) hnews hone (by unfold maxLen;omega) hb HS.le;have hown':=hown;rcases hown'.2 with⟨hv,_⟩|⟨g,cap',cur',rfl,hbg,hg,hnc,hcm,hcs,htk⟩
 ·exact absurd (hnil.1 hv).2 (by simp)
 ·have hgb:g=w.heap.size:=by
   rcases hblk with hq|hq
   ·simp[Value.ownBlock]at hq
   ·injection hq
  have hbel:Below w.heap.size w w':=(Rm _ w).grown hgr (Qs _) (fun k hk=>by simp[Value.ownBlock]at hk);have HS':=HS.add hbel (by omega) hg;rw[Qy]at hnc htk;refine⟨g,cap',cur',w',?_,HS',⟨by rw[QD,hY,U0],hnc,hcm,htk,hcs⟩⟩;unfold execOp;simp only[ho,yN,resolve,invoke,builtin,QM,RY,QA,RN,QK,R5,hs,hx,hrun]
def FnT (P:Program)(f:Nat)(args:Qd)(pre:World->Prop)(ok:Value->Qb->Prop):Prop:=
 ∀w,pre w->Calls P f args w fun e w'=> ∃v T,e=.returned v/\ok v T/\St w.heap.size w w' T
end
namespace D2
section
variable {P:Program}{ops:Array Oper}{R:(Nat->Gh)->Env}{i:Nat}{d:Option Nat}{pre:(Nat->Bool)->(Nat->Gh)->World->Prop}
theorem zb8 {V:Value}(hs: ∀L g w,pre L g w->pre (put1 L i) g w)(op:Op)(h: ∀g,opk ops i (R g)=some (d,true,op))(hr: ∀L g (o:Oper) w,Now ops i L->pre L g w->o.op=op->(execOp (ev (R g)) o).run P w=.ok (.value V) w):Gives P ops R pre i d (fun _=>V):=
 jS fun L g w hp hN=>by
  obtain⟨o,ho,hd,hw,hop⟩:=zJ (h g);exact⟨o,ho,hd,.inr ⟨hw,by rw[hr L g o w hN hp hop];exact⟨g i,rfl,by rw[setN_self];exact hs _ _ _ hp⟩⟩⟩
theorem gv_ld {V:Value}(hs: ∀L g w,pre L g w->pre (put1 L i) g w)(t:TypeId)(x:Operand)(b:(Nat->Gh)->Nat)(off:Nat)(C:Qd)(T:TypeId)(fz:Nat×Nat)(h: ∀g,opk ops i (R g)=some (d,true,.load t x))
 (hx: ∀g,ev (R g) x=.pointer (some ⟨b g,off,none⟩)) (hh: ∀L g w,Now ops i L->pre L g w->w.heap[b g]? =some (.cells C T fz)) (hok:jU P t off C=true) (hV:ldv P t off C=V):Gives P ops R pre i d (fun _=>V):=
 zb8 hs _ h fun L g o w hN hp ho=>by
  have:=kJ (P:=P) hok (hh L g w hN hp);rw[hV]at this;simp[execOp,ho,RI,Up,hx,this]
theorem gv_cpW {V:Value}(hs: ∀L g w,pre L g w->pre (put1 L i) g w)(f:Nat)(args:Qd){pr:World->Prop}(hc:FnP P f args pr V)(hpr: ∀L g w,Now ops i L->pre L g w->pr w)(hb: ∀L g w w',Now ops i L->pre L g w->Below w.heap.size w w'->pre L g w')(h: ∀g w,opv P ops i (R g) w=some (d,true,.ok (.enter f args) w)):Gives P ops R pre i d (fun _=>V):=
 jS fun L g w hp hN=>by
  obtain⟨o,ho,hd,hw,hr⟩:=yh (h g w);refine⟨o,ho,hd,.inr ⟨hw,?_⟩⟩;rw[hr];refine R4 (hc w (hpr L g w hN hp)) ?_;rintro e w' ⟨rfl,hbl⟩;exact⟨V,rfl,g i,rfl,by rw[setN_self];exact hs _ _ _ (hb L g w w' hN hp hbl)⟩
end
end D2
abbrev ys (B:Nat)(w0:World)(ok:Value->Qb->Prop):Value->World->Prop:=fun v' w'=> ∃T,ok v' T/\St B w0 w' T
theorem FnT.intro {P:Program}{f:Nat}{fn:Func}{c:Code}(rs:List ResultVar)(N:Nat){args:Qd}{pre:World->Prop}{ok:Value->Qb->Prop}(hf:P.funcs[f]? =some fn)(hb:fn.body=some c)(hr:fn.results.toList=rs)(hn:args.size+(fn.ntmps-args.size)=N)
 (h: ∀w,pre w->WP P N c (yW P rs (ys w.heap.size w ok)) (ini args) w):FnT P f args pre ok:=fun w hp=>
 (yJ hf hb hr hn (h w hp)).mono fun e w' ⟨v',he,T,hv⟩=>⟨v',T,he,hv⟩
section
variable {P:Program}{N:Nat}{ops:Array Oper}{i:Nat}{r:List Nat}{K:Env->World->Prop}{ρ:Env}{w:World}{B:Nat}{w0:World}{l:Qb}
theorem qr (HS:St B w0 w l)(d:Option Nat)(f:Nat)(args:Qd){pre:World->Prop}{ok:Value->Qb->Prop}(hc:FnT P f args pre ok)(hp:pre w)
 (h:opv P ops i ρ w=some (d,true,.ok (.enter f args) w)) (hd:dOK d N=true)
 (kk: ∀v T w',ok v T->St B w0 w' (T++l)->WPs P N ops K r (zm ρ d v) w'):WPs P N ops K (i::r) ρ w:=by
 obtain⟨o,ho,rfl,hw,hr⟩:=yh h;refine WPo.run ho hw fun a ha=>?_;rw[hr,Um];refine(hc w hp).mono ?_;rintro e w' ⟨v,T,rfl,hok,hT⟩;exact⟨_,ha.put _ (zS hd) _,kk v T w' hok (HS.addAll hT)⟩
theorem qa {R:Value->World->Prop}(d:Option Nat)(f:Nat)(args:Qd)(hc:Calls P f args w fun e w'=> ∃v,e=.returned v/\R v w')
 (h:opv P ops i ρ w=some (d,true,.ok (.enter f args) w)) (hd:dOK d N=true) (kk: ∀v w',R v w'->WPs P N ops K r (zm ρ d v) w'):WPs P N ops K (i::r) ρ w:=by
 obtain⟨o,ho,rfl,hw,hr⟩:=yh h;refine WPo.run ho hw fun a ha=>?_;rw[hr,Um];refine hc.mono ?_;rintro e w' ⟨v,rfl,hR⟩;exact⟨_,ha.put _ (zS hd) _,kk v w' hR⟩
end
structure Fl (α:Type) where
 K:Nat
 cs:α->List Value
 pos:0<K
 len: ∀a,(cs a).length=K
 one: ∀a,∀u∈cs a,u.oneCell'=true
section
variable {α:Type}{S:Fl α}
def cellsF (S:Fl α):List α->List Value
 | []=>[]
 | x::r=>S.cs x++cellsF S r
theorem yi: ∀L:List α,(cellsF S L).length=L.length*S.K
 | []=>by simp[cellsF]
 | x::r=>by simp only[cellsF,QF,yi r,S.len,List.length_cons,Uq];omega
theorem qT: ∀L M:List α,cellsF S (L++M)=cellsF S L++cellsF S M
 | [],M=>by simp[cellsF]
 | y::r,M=>by simp only[List.cons_append,cellsF,qT r M,QJ]
theorem xa (x:α)(L:List α):cellsF S (L++ [x])=cellsF S L++S.cs x:=by
 rw[qT];simp[cellsF]
theorem xI: ∀L:List α,∀u∈cellsF S L,u.oneCell'=true
 | [],u,h=>by simp[cellsF]at h
 | x::r,u,h=>by
  rcases Ut.1 h with q|q
  ·exact S.one x u q
  ·exact xI r u q
theorem kV: ∀(L:List α) (i:Nat) (x:α),L[i]? =some x-> ∀j,j<S.K->(cellsF S L)[i*S.K+j]? =(S.cs x)[j]?
 | y::r,0,x,h,j,hj=>by
  obtain rfl:y=x:=by simpa using h
  rw[Nat.zero_mul,Qy];unfold cellsF;rw[Uu (by rw[S.len];exact hj)]
 | y::r,i+1,x,h,j,hj=>by
  unfold cellsF;rw[U5 (by rw[S.len,Uq];omega),S.len,show (i+1)*S.K+j-S.K=i*S.K+j by rw[Uq];omega];exact kV r i x (by simpa using h) j hj
def qh (S:Fl α)(C:Qd)(off:Nat)(L:List α):Prop:= ∀(i:Nat) (x:α),L[i]? =some x->off+i*S.K+S.K<=C.size/\C.extract (off+i*S.K) (off+i*S.K+S.K)=(S.cs x).toArray
theorem qh.take {C:Qd}{off:Nat}{L:List α}(h:qh S C off L)(k:Nat):qh S C off (L.take k):=fun i x hx=>by
 rw[R7]at hx;split at hx
 ·exact h i x hx
 ·cases hx
theorem qh.cell {C:Qd}{off:Nat}{L:List α}(h:qh S C off L){i:Nat}{x:α}(hx:L[i]? =some x)(j:Nat)(hj:j<S.K):C[off+i*S.K+j]? =(S.cs x)[j]? :=by
 obtain⟨h1,h2⟩:=h i x hx;have e:(C.extract (off+i*S.K) (off+i*S.K+S.K))[j]? =C[off+i*S.K+j]? :=by
  rw[Array.getElem?_extract,if_pos (by omega)]
 rw[<-e,h2];simp
theorem Rw.rowAt {cur:Qd}{cap n:Nat}{L:List α}(h:Rw S.K cur cap n (cellsF S L)):qh S cur 0 L:=fun i x hx=>by
 have hl:=h.len;rw[yi]at hl;have hi:i<L.length:=(Qt.1 hx).1;rw[Qy];refine exE (S.len x) (fun j hj=>?_) S.pos
 rw[h.get _ (by
  rw[<-hl];have:i*S.K+S.K<=L.length*S.K:=by rw[<-Uq];exact QR _ hi
  omega),kV L i x hx j hj]
theorem Rw.lenF {cur:Qd}{cap n:Nat}{L:List α}(h:Rw S.K cur cap n (cellsF S L)):L.length=n:=by
 have hl:=h.len;rw[yi]at hl;exact Nat.eq_of_mul_eq_mul_right S.pos hl
def zw (S:Fl α)(ty:TypeId)(p:Qc)(n c:Nat)(row:Qb)(L:List α):Prop:=(p=none/\n=0/\c=0/\row=[]/\L=[])\/∃b cur,p=Qg b/\row=[(b,.cells cur ty)]/\Rw S.K cur c n (cellsF S L)
theorem zw.len {ty:TypeId}{p:Qc}{n c:Nat}{row:Qb}{L:List α}(h:zw S ty p n c row L):L.length=n:=by
 rcases h with⟨_,rfl,_,_,rfl⟩|⟨b,cur,_,_,hr⟩
 ·rfl
 ·exact hr.lenF
structure yT (S:Fl α)(C:Qd)(n i:Nat)(M:List α):Prop where
 sz:C.size=n*S.K
 len:M.length=i
 take:C.toList.take (i*S.K)=cellsF S M
theorem yT.start {C:Qd}{n:Nat}(h:C.size=n*S.K):yT S C n 0 []:=⟨h,rfl,by simp[cellsF]⟩
def jz (C:Qd)(off:Nat)(v:Value):Qd:=(C.toList.take off++v.cells.toList++C.toList.drop (off+v.cells.size)).toArray
theorem yT.put {C:Qd}{n i:Nat}{M:List α}(h:yT S C n i M)(x:α){v:Value}(hv:v.cells.toList=S.cs x)(hi:i<n):
 0+i*S.K+v.cells.size<=C.size/\yT S (jz C (0+i*S.K) v) n (i+1) (M++ [x]):=by
 have hsv:v.cells.size=S.K:=by rw[<-QD,hv,S.len]
 have hsz:=h.sz;have hle:i*S.K+S.K<=C.size:=by rw[hsz,<-Uq];exact QR _ hi
 rw[Qy];refine⟨by omega,?_,by rw[QF,h.len];rfl,?_⟩
 ·unfold jz;rw[List.size_toArray,QF,QF,Qw,List.length_drop,QD,QD,hsv];omega
 ·have e1:(C.toList.take (i*S.K)).length=i*S.K:=by rw[Qw,QD];omega
  have e2:(C.toList.take (i*S.K)).take (i*S.K+S.K)=C.toList.take (i*S.K):=Qq (by omega);have e3:(S.cs x).take S.K=S.cs x:=Qq (by rw[S.len];exact Qs _);unfold jz;rw[Uq,List.toList_toArray,QJ,U7,e1,e2,Nat.add_sub_cancel_left,U7,hv,S.len,Vc,List.take_zero,List.append_nil,e3,xa,h.take]
end
namespace D2
section
variable {P:Program}{ops:Array Oper}{R:(Nat->Gh)->Env}{d:Option Nat}
theorem gv_cW {pre:(Nat->Bool)->(Nat->Gh)->World->Prop}{i:Nat}{V:Value}(hs: ∀L g w,pre L g w->pre (put1 L i) g w)(f:Nat)(args:Qd)(hc:Fn P f args V)(hb: ∀L g w w',Now ops i L->pre L g w->Below w.heap.size w w'->pre L g w')(h: ∀g w,opv P ops i (R g) w=some (d,true,.ok (.enter f args) w)):Gives P ops R pre i d (fun _=>V):=
 gv_cpW hs f args (pr:=fun _=>True) (fun w _=>hc w) (fun _ _ _ _ _=>trivial) hb h
variable {B:Nat}{w0:World}{E row:Qb}{Y:Qd}{ty:TypeId}{n:Nat}{K:Nat}{xs:List Value}
end
end D2
section
variable {α:Type}{S:Fl α}
theorem qh.at {C:Qd}{off:Nat}{L:List α}(h:qh S C off L){q:Nat}{u:Value}(hq:(cellsF S L)[q]? =some u):C[off+q]? =some u:=by
 have hlt:=(Qt.1 hq).1;rw[yi]at hlt;have hK:=S.pos;have hi:q / S.K<L.length:=(Nat.div_lt_iff_lt_mul hK).2 hlt;obtain⟨x,hx⟩:∃x,L[q / S.K]? =some x:=⟨_,Ql hi⟩
 have hj:=Nat.mod_lt q hK;have e:q / S.K*S.K+q%S.K=q:=Nat.div_add_mod' q S.K;have h1:=kV L _ x hx (q%S.K) hj;have h2:=h.cell hx (q%S.K) hj;rw[e]at h1;rw[Nat.add_assoc,e]at h2;rw[h2,<-h1,hq]
variable {P:Program}{ρ:Env}{w w0:World}{B:Nat}{l:Qb}
theorem zb9 (HS:St B w0 w l){t e bytes:Nat}{s x:Operand}{o:Oper}{j b n cap m c:Nat}{a:Addr}{cur:Qd}{xs:List Value}{M:List α}(ht:zV P t=some (e,S.K,bytes))(ho:o.op=yN t s x)
 (hs:ev ρ s=Qf b n cap) (hj:l[j]? =some (b,.cells cur e)) (hr:Rw S.K cur cap n xs) (hx:ev ρ x=.slice (some a) m c) (hM:m=M.length)
 (hk:M=[]\/∃bx off C T fz,a=⟨bx,off,none⟩/\w.heap[bx]? =some (.cells C T fz)/\qh S C off M)
 (hb:(n+m)*bytes<=0x800000000000) (hm:n+m<=maxLen):∃b' cap' cur' w',(execOp (ev ρ) o).run P w=.ok (.value (Qf b' (n+m) cap')) w'/\St B w0 w' (l.set j (b',.cells cur' e))/\Rw S.K cur' cap' (n+m) (xs++cellsF S M):=by
 obtain⟨it,z,hu,hi,hz,hsz,hby,hzs,h0⟩:=yM ht;have hnews: ∀q u,(cellsF S M)[q]? =some u->w.cell? (a.add q)=some u:=fun q u hq=>by
  rcases hk with rfl|⟨bx,off,C,T,fz,rfl,hh,hR⟩
  ·simp[cellsF]at hq
  ·rw[qf];simp[RW,hh,hR.at hq]
 obtain⟨v',w',hrun,hown,hgr,hnil,hblk⟩:=run_append_own_at (P:=P) w B t o.type e it z S.K bytes hu hi hz hsz hby hzs h0 _ n xs (hr.owns (HS.ge j hj) (HS.get j hj)) a m c (cellsF S M) (by rw[yi,hM]) hnews (xI M) hm hb HS.le;have hown':=hown;rcases hown'.2 with⟨hv,_⟩|⟨g,cap',cur',rfl,hbg,hg,hnc,hcm,hcs,htk⟩
 ·exact absurd (hnil.1 hv).1 (by simp)
 ·have hgb:g=b\/g=w.heap.size:=by
   rcases hblk with hq|hq
   ·left;injection hq
   ·right;injection hq
  refine⟨g,cap',cur',w',?_,HS.grown j hj hgr hgb hg,?_⟩
  ·unfold execOp;simp only[ho,yN,resolve,invoke,builtin,QM,RY,QA,RN,QK,R5,hs,hx,hrun]
  ·exact⟨hown.1,hnc,hcm,htk,hcs⟩
variable {N:Nat}{ops:Array Oper}{i:Nat}{r:List Nat}{K:Env->World->Prop}
end
def pG (y:D2.Gh):Qc:=match y.l with
 | []=>none
 | _=>some ⟨y.b,0,none⟩
theorem zca {α:Type}{S:Fl α}{ty:TypeId}{p:Qc}{n c:Nat}{T:Qb}{L:List α}(h:zw S ty p n c T L):∃x:D2.Gh,Value.slice p n c=.slice (pG x) x.n x.cap/\zw S ty (pG x) x.n x.cap T L:=by
 rcases h with⟨rfl,rfl,rfl,rfl,rfl⟩|⟨b,cur,rfl,rfl,hr⟩
 ·exact⟨{ n:=0,cap:=0 },rfl,.inl ⟨rfl,rfl,rfl,rfl,rfl⟩⟩
 ·exact⟨{ b:=b,n:=n,cap:=c,l:=[1] },rfl,.inr ⟨b,cur,rfl,rfl,hr⟩⟩
end Go.Proofs.Ytdaeahhkiilbaaa
