/-
  For every input the law answers true,and each argument reads afterwards as it read before.
-/
import Derived.Test.YtdaeahhkiilbaaaRows
import Derived.WalkKit
import Derived.ProofKit
import Derived.OpenShut
import Derived.ShutString
import Derived.ChangeOld
import Derived.Below
import Derived.Test.YtdaeahhkiilbaaaVN3
import Derived.Test.YtdaeahhkiilbaaaVN4
import Derived.Test.YtdaeahhkiilbaaaVN5
set_option maxRecDepth 100000
set_option maxHeartbeats 4000000
set_option linter.unusedVariables false
open Go Go.RowKit
open DataW renaming trod_lt->U0
namespace Go.Proofs.Ytdaeahhkiilbaaa
namespace vsetNext
open Go.ChangeShapes Go.WideShapes Go.ChangeAt
open Go.ChangeMaps (open_string shut_string)
theorem own:ownKnob Try.prog.godebug=none:=by kernel_rfl
theorem vt:laidOutB Try.prog=true:=by kernel_rfl
theorem zgs (os:Os)(started:os.Started)(H:Type)(enc:TypeId×Value->H):
 ReturnsInHanded {} Try.checked os 4 .any (Rows.vsetNextSpec.pre6 enc Try.prog Try.f4 Rows.vsetNextRow.domain false) (Rows.vsetNextSpec.post enc Try.prog Try.f4 false true false false):=by
 refine returnsInHanded_of_change (C:=Try.checked) own started (by kernel_rfl) Try.func4
  (ChangeSpec.witness6 (enc:=enc) (C:=Try.checked) false ⟨#[],#[.agg #[.slice none 0 0,.slice none 0 0],.agg #[.string ⟨#[]⟩,wZ,.string ⟨#[]⟩,.string ⟨#[]⟩,.string ⟨#[]⟩,.string ⟨#[]⟩,.slice none 0 0,.string ⟨#[]⟩,.bool false,wZ,.slice none 0 0],wZ,.slice none 0 0],[]⟩ 8 (by kernel_rfl) (by kernel_rfl) (by kernel_rfl) (by kernel_rfl)) ?_
 intro W base args ds gs before hval0 hW hcnd _;have hval: ∀(j:Nat) t v,Try.f4.params[j]? =some t->args[j]? =some v->Value.okWide Try.prog W .any base t v:=hval0;have hW':=hW;obtain⟨p,q,hA0,hV,rfl,hfz,hnd⟩:=hW;have hA:DataW.TrodAll enc Try.prog W 0 (fun _=>true) true Try.f4.params.toList args.toList ds p:=hA0;rw[Try.params4]at hA hval;obtain⟨v0,vs0,d0,ds0,p0,q0,hargs,rfl,rfl,h0,r0⟩:=trodAll_cons hA;obtain⟨v1,vs1,d1,ds1,p1,q1,rfl,rfl,rfl,h1,r1⟩:=trodAll_cons r0;obtain⟨v2,vs2,d2,ds2,p2,q2,rfl,rfl,rfl,h2,r2⟩:=trodAll_cons r1;obtain⟨v3,vs3,d3,ds3,p3,q3,rfl,rfl,rfl,h3,r3⟩:=trodAll_cons r2;obtain⟨rfl,rfl,rfl⟩:=trodAll_nil r3;obtain rfl:args=#[v0,v1,v2,v3]:=by cases args;simp_all
 obtain⟨rfl,rfl⟩:=trodVars_none hV;have k0:=h0;have lt0: ∀x∈p0,x.block<W.heap.size:=by obtain⟨m,hm⟩:=k0;exact U0 m _ _ _ hm
 obtain⟨q0z,m0,cq0,L0,p0z,n0,c0,V0,rfl,hsl0,hsm0,hk0⟩:=zfc (hval 0 32 v0 rfl rfl) h0;have k1:=h1;have lt1: ∀x∈p1,x.block<W.heap.size:=by obtain⟨m,hm⟩:=k1;exact U0 m _ _ _ hm
 obtain⟨h1d,p1z,n1,c1,q1z,m1,k1z,rfl,hsl1,hsm1,hnm1,hk1⟩:=zeR (hval 1 35 v1 rfl rfl) h1;have k2:=h2;have lt2: ∀x∈p2,x.block<W.heap.size:=by obtain⟨m,hm⟩:=k2;exact U0 m _ _ _ hm
 obtain⟨a2,rfl,rfl,rfl,w2⟩:=open_int Try.underlying23 (hval 2 23 v2 rfl rfl) h2;obtain⟨x2,hx2,rfl⟩:=vT w2;have k3:=h3;have lt3: ∀x∈p3,x.block<W.heap.size:=by obtain⟨m,hm⟩:=k3;exact U0 m _ _ _ hm
 obtain⟨q3,n3,c3,A3,rfl,hsl3,hok3,hk3⟩:=zf7 (hval 3 36 v3 rfl rfl) h3;clear hA0 hval0;refine(zf6 zf8 zf9 zgq zgr q0z m0 cq0 L0 p0z n0 c0 V0 hsl0 hsm0 h1d p1z n1 c1 q1z m1 k1z hsl1 hsm1 hnm1 x2 hx2 q3 n3 c3 A3 hsl3 hok3 W ⟨hk0,hk1,hk3⟩).mono fun e W' ⟨he,bel⟩=>?_;subst he;exact⟨_,rfl,_,_,_,[],_,[],hW',trodAll_mk1 (shut_bool Try.underlying4 _),(trodAll_cons_mk (Below.trod vt (by kernel_rfl) (of_decide_eq_true (by kernel_rfl)) k0 bel lt0) (trodAll_cons_mk (Below.trod vt (by kernel_rfl) (of_decide_eq_true (by kernel_rfl)) k1 bel lt1) (trodAll_cons_mk (Below.trod vt (by kernel_rfl) (of_decide_eq_true (by kernel_rfl)) k2 bel lt2) (trodAll_cons_mk (Below.trod vt (by kernel_rfl) (of_decide_eq_true (by kernel_rfl)) k3 bel lt3) trodAll_mk0)))),rfl,bel.frame _,fun h=>by cases h⟩
theorem zgt:Rows.vsetNextRow.holds Try.pinned (OpenSpec.ofChange Rows.vsetNextSpec):=
 OpenClaim.holds_of_wide 4 Try.f4 rfl rfl rfl rfl rfl rfl rfl ⟨rfl,rfl,rfl,rfl,rfl⟩ rfl rfl rfl rfl rfl (by kernel_rfl) Try.func4 (by kernel_rfl)
  (of_decide_eq_true (by kernel_rfl)) (by unfold Func.isWrapper;first | (rw[if_pos (by decide+kernel)];kernel_rfl) | (rw[if_neg (by decide+kernel)];exact⟨rfl,rfl⟩))
  (fun os started H enc _=>zgs os started H enc)
theorem next_holds:Rows.VsetNextSaid:=zgt
#print axioms next_holds
end vsetNext
end Go.Proofs.Ytdaeahhkiilbaaa
