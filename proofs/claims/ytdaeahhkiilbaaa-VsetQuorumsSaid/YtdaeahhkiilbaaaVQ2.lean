/-
  For every input the law answers true,and each argument reads afterwards as it read before.
-/
import Derived.Test.YtdaeahhkiilbaaaRows
import Derived.WalkKit
import Derived.ProofKit
import Derived.OpenShut
import Derived.ShutString
import Derived.ChangeOld
import Derived.Below
import Derived.Test.YtdaeahhkiilbaaaVQ1
set_option maxRecDepth 100000
set_option maxHeartbeats 4000000
set_option linter.unusedVariables false
open Go Go.RowKit
namespace Go.Proofs.Ytdaeahhkiilbaaa
namespace vsetQuorums
open Go.ChangeShapes Go.WideShapes Go.ChangeAt
open Go.ChangeMaps (open_string shut_string)
theorem own:ownKnob Try.prog.godebug=none:=by kernel_rfl
theorem yR:laidOutB Try.prog=true:=by kernel_rfl
theorem xa (os:Os)(started:os.Started)(H:Type)(enc:TypeId×Value->H):
 ReturnsInHanded {} Try.checked os 5 .any (Rows.vsetQuorumsSpec.pre6 enc Try.prog Try.f5 Rows.vsetQuorumsRow.domain false) (Rows.vsetQuorumsSpec.post enc Try.prog Try.f5 false true false false):=by
 refine returnsInHanded_of_change_sized (C:=Try.checked) own started (by kernel_rfl) Try.func5
  (ChangeSpec.witness6 (enc:=enc) (C:=Try.checked) false ⟨#[],#[.int .i64 0,.slice none 0 0,wZ],[]⟩ 8 (by kernel_rfl) (by kernel_rfl) (by kernel_rfl) (by kernel_rfl)) ?_
 intro W base args ds gs before hval0 hW hcnd hwt0 _;have hval: ∀(j:Nat) t v,Try.f5.params[j]? =some t->args[j]? =some v->Value.okWide Try.prog W .any base t v:=hval0;have hW':=hW;obtain⟨p,q,hA0,hV,rfl,hfz,hnd⟩:=hW;have hA:DataW.TrodAll enc Try.prog W 0 (fun _=>true) true Try.f5.params.toList args.toList ds p:=hA0;rw[Try.params5]at hA hval;obtain⟨v0,vs0,d0,ds0,p0,q0,hargs,rfl,rfl,h0,r0⟩:=trodAll_cons hA;obtain⟨v1,vs1,d1,ds1,p1,q1,rfl,rfl,rfl,h1,r1⟩:=trodAll_cons r0;obtain⟨v2,vs2,d2,ds2,p2,q2,rfl,rfl,rfl,h2,r2⟩:=trodAll_cons r1;obtain⟨rfl,rfl,rfl⟩:=trodAll_nil r2;obtain rfl:args=#[v0,v1,v2]:=by cases args;simp_all
 obtain⟨rfl,rfl⟩:=trodVars_none hV;have hwt: ∀n∈DataW.weightsEach Try.prog (Try.f5.params.toList++(Rows.vsetQuorumsSpec).plain.varTypes Try.prog) ([d0,d1,d2]++ []),n<=0x800000000000:=fun n hn=>Nat.le_trans (of_decide_eq_true ((List.all_eq_true.1 hwt0) n hn)) (by decide);rw[Try.params5]at hwt
 have hw1: ∀n∈d1.weights Try.prog 22,n<=0x800000000000:=fun n hn=>hwt n (by
  show n∈DataW.weightsEach Try.prog (3::22::_) (d0::d1::_)
  rw[qD,qD];exact List.mem_append_right _ (List.mem_append_left _ hn))
 have k0:=h0;have lt0: ∀x∈p0,x.block<W.heap.size:=by obtain⟨m,hm⟩:=k0;exact DataW.trod_lt m _ _ _ hm
 obtain⟨a0,rfl,rfl,rfl,w0⟩:=open_int Try.underlying3 (hval 0 3 v0 rfl rfl) h0;have k1:=h1;have lt1: ∀x∈p1,x.block<W.heap.size:=by obtain⟨m,hm⟩:=k1;exact DataW.trod_lt m _ _ _ hm
 obtain⟨q1,n1,c1,A1,rfl,hsl1,hok1,hk1⟩:=jZ (hval 1 22 v1 rfl rfl) h1 hw1;have k2:=h2;have lt2: ∀x∈p2,x.block<W.heap.size:=by obtain⟨m,hm⟩:=k2;exact DataW.trod_lt m _ _ _ hm
 obtain⟨a2,rfl,rfl,rfl,w2⟩:=open_int Try.underlying23 (hval 2 23 v2 rfl rfl) h2;obtain⟨x2,hx2,rfl⟩:=jw w2;clear hA0 hval0;refine(jT jU jV jW a0 w0 q1 n1 c1 A1 hsl1 hok1 x2 hx2 W hk1).mono fun e W' ⟨he,bel⟩=>?_;subst he;exact⟨_,rfl,_,_,_,[],_,[],hW',trodAll_mk1 (shut_bool Try.underlying4 _),(trodAll_cons_mk (Below.trod yR (by kernel_rfl) (of_decide_eq_true (by kernel_rfl)) k0 bel lt0) (trodAll_cons_mk (Below.trod yR (by kernel_rfl) (of_decide_eq_true (by kernel_rfl)) k1 bel lt1) (trodAll_cons_mk (Below.trod yR (by kernel_rfl) (of_decide_eq_true (by kernel_rfl)) k2 bel lt2) trodAll_mk0))),rfl,bel.frame _,fun h=>by cases h⟩
theorem xb:Rows.vsetQuorumsRow.holds Try.pinned (OpenSpec.ofChange Rows.vsetQuorumsSpec):=
 OpenClaim.holds_of_wide 5 Try.f5 rfl rfl rfl rfl rfl rfl rfl ⟨rfl,rfl,rfl,rfl,rfl⟩ rfl rfl rfl rfl rfl (by kernel_rfl) Try.func5 (by kernel_rfl)
  (of_decide_eq_true (by kernel_rfl)) (by unfold Func.isWrapper;first | (rw[if_pos (by decide+kernel)];kernel_rfl) | (rw[if_neg (by decide+kernel)];exact⟨rfl,rfl⟩))
  (fun os started H enc _=>xa os started H enc)
theorem quorums_holds:Rows.VsetQuorumsSaid:=xb
#print axioms quorums_holds
end vsetQuorums
end Go.Proofs.Ytdaeahhkiilbaaa
