/-
  For every input the law answers true,and each argument reads afterwards as it read before.
-/
import Derived.Test.YtdaeahhkiilbaaaRows
import Derived.WalkKit
import Derived.ProofKit
import Derived.OpenShut
import Derived.ShutString
import Derived.ChangeOld
import Derived.Below
import Derived.Test.YtdaeahhkiilbaaaVT1
set_option maxRecDepth 100000
set_option maxHeartbeats 4000000
set_option linter.unusedVariables false
open Go Go.RowKit
open DataW renaming weightsEach->QE,trod_lt->QN
namespace Go.Proofs.Ytdaeahhkiilbaaa
namespace vsetTurns
open Go.ChangeShapes Go.WideShapes Go.ChangeAt
open Go.ChangeMaps (open_string shut_string)
theorem own:ownKnob Try.prog.godebug=none:=by kernel_rfl
theorem yr:laidOutB Try.prog=true:=by kernel_rfl
theorem jq (os:Os)(started:os.Started)(H:Type)(enc:TypeId×Value->H):
 ReturnsInHanded {} Try.checked os 7 .any (Rows.vsetTurnsSpec.pre6 enc Try.prog Try.f7 Rows.vsetTurnsRow.domain false) (Rows.vsetTurnsSpec.post enc Try.prog Try.f7 false true false false):=by
 refine returnsInHanded_of_change_sized (C:=Try.checked) own started (by kernel_rfl) Try.func7
  (ChangeSpec.witness6 (enc:=enc) (C:=Try.checked) false ⟨#[],#[.slice none 0 0,wZ,wZ],[]⟩ 8 (by kernel_rfl) (by kernel_rfl) (by kernel_rfl) (by kernel_rfl)) ?_
 intro W base args ds gs before hval0 hW hcnd hwt0 _;have hval: ∀(j:Nat) t v,Try.f7.params[j]? =some t->args[j]? =some v->Value.okWide Try.prog W .any base t v:=hval0;have hW':=hW;obtain⟨p,q,hA0,hV,rfl,hfz,hnd⟩:=hW;have hA:DataW.TrodAll enc Try.prog W 0 (fun _=>true) true Try.f7.params.toList args.toList ds p:=hA0;rw[Try.params7]at hA hval;obtain⟨v0,vs0,d0,ds0,p0,q0,hargs,rfl,rfl,h0,r0⟩:=trodAll_cons hA;obtain⟨v1,vs1,d1,ds1,p1,q1,rfl,rfl,rfl,h1,r1⟩:=trodAll_cons r0;obtain⟨v2,vs2,d2,ds2,p2,q2,rfl,rfl,rfl,h2,r2⟩:=trodAll_cons r1;obtain⟨rfl,rfl,rfl⟩:=trodAll_nil r2;obtain rfl:args=#[v0,v1,v2]:=by cases args;simp_all
 obtain⟨rfl,rfl⟩:=trodVars_none hV;have hwt: ∀n∈QE Try.prog (Try.f7.params.toList++(Rows.vsetTurnsSpec).plain.varTypes Try.prog) ([d0,d1,d2]++ []),n<=0x800000000000:=fun n hn=>Nat.le_trans (of_decide_eq_true ((List.all_eq_true.1 hwt0) n hn)) (by decide);rw[Try.params7]at hwt
 have hw0: ∀n∈d0.weights Try.prog 22,n<=0x800000000000:=fun n hn=>hwt n (by
  show n∈QE Try.prog (22::_) (d0::_)
  rw[jl];exact List.mem_append_left _ hn)
 have k0:=h0;have lt0: ∀x∈p0,x.block<W.heap.size:=by obtain⟨m,hm⟩:=k0;exact QN m _ _ _ hm
 obtain⟨q0,n0,c0,A0,rfl,hsl0,hok0,hk0⟩:=jp (hval 0 22 v0 rfl rfl) h0 hw0;have k1:=h1;have lt1: ∀x∈p1,x.block<W.heap.size:=by obtain⟨m,hm⟩:=k1;exact QN m _ _ _ hm
 obtain⟨a1,rfl,rfl,rfl,w1⟩:=open_int Try.underlying23 (hval 1 23 v1 rfl rfl) h1;obtain⟨x1,hx1,rfl⟩:=yT w1;have k2:=h2;have lt2: ∀x∈p2,x.block<W.heap.size:=by obtain⟨m,hm⟩:=k2;exact QN m _ _ _ hm
 obtain⟨a2,rfl,rfl,rfl,w2⟩:=open_int Try.underlying23 (hval 2 23 v2 rfl rfl) h2;obtain⟨x2,hx2,rfl⟩:=yT w2;clear hA0 hval0;refine(jh ji jj jk q0 n0 c0 A0 hsl0 hok0 x1 hx1 x2 hx2 W hk0).mono fun e W' ⟨he,bel⟩=>?_;subst he;exact⟨_,rfl,_,_,_,[],_,[],hW',trodAll_mk1 (shut_bool Try.underlying4 _),(trodAll_cons_mk (Below.trod yr (by kernel_rfl) (of_decide_eq_true (by kernel_rfl)) k0 bel lt0) (trodAll_cons_mk (Below.trod yr (by kernel_rfl) (of_decide_eq_true (by kernel_rfl)) k1 bel lt1) (trodAll_cons_mk (Below.trod yr (by kernel_rfl) (of_decide_eq_true (by kernel_rfl)) k2 bel lt2) trodAll_mk0))),rfl,bel.frame _,fun h=>by cases h⟩
theorem jr:Rows.vsetTurnsRow.holds Try.pinned (OpenSpec.ofChange Rows.vsetTurnsSpec):=
 OpenClaim.holds_of_wide 7 Try.f7 rfl rfl rfl rfl rfl rfl rfl ⟨rfl,rfl,rfl,rfl,rfl⟩ rfl rfl rfl rfl rfl (by kernel_rfl) Try.func7 (by kernel_rfl)
  (of_decide_eq_true (by kernel_rfl)) (by unfold Func.isWrapper;first | (rw[if_pos (by decide+kernel)];kernel_rfl) | (rw[if_neg (by decide+kernel)];exact⟨rfl,rfl⟩))
  (fun os started H enc _=>jq os started H enc)
theorem turns_holds:Rows.VsetTurnsSaid:=jr
#print axioms turns_holds
end vsetTurns
end Go.Proofs.Ytdaeahhkiilbaaa
