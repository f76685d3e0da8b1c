/-
  For every input the law answers true,and each argument reads afterwards as it read before. The listed variable is tied.
-/
import Derived.Test.YtbpmjppmpgeejaaDoorRows
import Derived.Test.YtbpmjppmpgeejaaDoorTie
import Derived.Test.YtbpmjppmpgeejaaDoorCards
import Derived.WalkKit
import Derived.ProofKit
import Derived.OpenShut
import Derived.ShutString
import Derived.ChangeOld
import Derived.Below
import Derived.SevenTiedAt
import Derived.LaidLaws
import Derived.LaidHandle
import Derived.MakeChecks
import Derived.Test.YtbpmjppmpgeejaaDoorHO4
set_option maxRecDepth 100000
set_option maxHeartbeats 4000000
namespace Go.Proofs.YtbpmjppmpgeejaaDoor.headerOne
open Go Go.ChangeShapes Go.WideShapes Go.ChangeAt Go.RowKit
open Go.ChangeMaps (open_string shut_string)
set_option linter.unusedVariables false
theorem own:ownKnob Tryd.prog.godebug=none:=by kernel_rfl
theorem zca:laidOutB Tryd.prog=true:=by kernel_rfl
theorem zfO (os:Os)(started:os.Started)(H:Type)(enc:TypeId×Value→H):
 ReturnsInHanded {} Tryd.checked os 4 .any (fun w args=>(Rows.headerOneSpec.pre enc Tryd.prog Tryd.f4 [] false w args∧laidMetH Tryd.prog [("unicode/utf8.acceptRanges",Rows.laid_unicode_utf8_acceptRanges),("unicode/utf8.first",Rows.laid_unicode_utf8_first)] w)∧sizedMet enc Tryd.prog Tryd.f4 (OpenSpec.ofChange Rows.headerOneSpec) false w args)
  (Rows.headerOneSpec.post enc Tryd.prog Tryd.f4 false true false false):=by
 refine returnsInHanded_of_change_and (C:=Tryd.checked) (X:=fun w _=>laidMetH Tryd.prog [("unicode/utf8.acceptRanges",Rows.laid_unicode_utf8_acceptRanges),("unicode/utf8.first",Rows.laid_unicode_utf8_first)] w) (fun _ _ _ hh h=>h.of_heap hh) own started (by kernel_rfl) Tryd.func4
  (ChangeSpec.witness_at (enc:=enc) (C:=Tryd.checked) (os:=os) (X:=fun w _=>laidMetH Tryd.prog [("unicode/utf8.acceptRanges",Rows.laid_unicode_utf8_acceptRanges),("unicode/utf8.first",Rows.laid_unicode_utf8_first)] w) false (zbU os) #[.agg #[.string ⟨#[]⟩,wZ,.string ⟨#[]⟩,.string ⟨#[]⟩,.string ⟨#[]⟩,.string ⟨#[]⟩,.slice none 0 0,.string ⟨#[]⟩,.bool false,wZ,.slice none 0 0],.agg #[.string ⟨#[]⟩,wZ,.string ⟨#[]⟩,.string ⟨#[]⟩,.string ⟨#[]⟩,.string ⟨#[]⟩,.slice none 0 0,.string ⟨#[]⟩,.bool false,wZ,.slice none 0 0]] 8 rfl (by kernel_rfl) (by kernel_rfl) (by kernel_rfl) (by kernel_rfl) (by kernel_rfl) (zfr os _)) ?_
 intro W base args ds gs before hval0 hW _ _ hL _;have hval: ∀(j:Nat) t v,Tryd.f4.params[j]? =some t→args[j]? =some v→Value.okWide Tryd.prog W .any base t v:=hval0;have hW':=hW;obtain ⟨p,q,hA0,hV,rfl,hfz,hnd⟩:=hW;have hA:DataW.TrodAll enc Tryd.prog W 0 (fun _=>true) true Tryd.f4.params.toList args.toList ds p:=hA0;rw [Tryd.params4] at hA hval;obtain ⟨v0,vs0,d0,ds0,p0,q0,hargs,rfl,rfl,h0,r0⟩:=trodAll_cons hA;obtain ⟨v1,vs1,d1,ds1,p1,q1,rfl,rfl,rfl,h1,r1⟩:=trodAll_cons r0;obtain ⟨rfl,rfl,rfl⟩:=trodAll_nil r1;obtain rfl:args=#[v0,v1]:=by cases args;simp_all
 obtain ⟨rfl,rfl⟩:=trodVars_none hV;have k0:=h0;have lt0: ∀x∈p0,x.block<W.heap.size:=by obtain ⟨m,hm⟩:=k0;exact DataW.trod_lt m _ _ _ hm
 obtain ⟨h0d,p0z,n0,c0,q0z,m0,k0z,rfl,hsl0,hsm0,hnm0,hk0⟩:=zbT (hval 0 26 v0 rfl rfl) h0;have k1:=h1;have lt1: ∀x∈p1,x.block<W.heap.size:=by obtain ⟨m,hm⟩:=k1;exact DataW.trod_lt m _ _ _ hm
 obtain ⟨h1d,p1z,n1,c1,q1z,m1,k1z,rfl,hsl1,hsm1,hnm1,hk1⟩:=zbT (hval 1 26 v1 rfl rfl) h1;clear hA0 hval0;refine (zfN h0d p0z n0 c0 q0z m0 k0z hsl0 hsm0 hnm0 h1d p1z n1 c1 q1z m1 k1z hsl1 hsm1 hnm1 W ⟨hk0,hk1⟩).mono fun e W' ⟨he,bel⟩=>?_;subst he;exact ⟨_,rfl,_,_,_,[],_,[],hW',trodAll_mk1 (shut_bool Tryd.underlying4 _),(trodAll_cons_mk (Below.trod zca (by kernel_rfl) (of_decide_eq_true (by kernel_rfl)) k0 bel lt0) (trodAll_cons_mk (Below.trod zca (by kernel_rfl) (of_decide_eq_true (by kernel_rfl)) k1 bel lt1) trodAll_mk0)),rfl,bel.frame _,fun h=>by cases h⟩
theorem zfP:Rows.headerOneRow.holds Tryd.pinned (OpenSpec.ofChange Rows.headerOneSpec):=
 OpenClaim.holds_of_wide 4 Tryd.f4 rfl rfl rfl rfl rfl rfl rfl ⟨rfl,rfl,rfl,rfl,rfl⟩ rfl rfl rfl rfl rfl (by kernel_rfl) Tryd.func4 (by kernel_rfl)
  (of_decide_eq_true (by kernel_rfl)) (by unfold Func.isWrapper;first | (rw [if_pos (by decide+kernel)];kernel_rfl) | (rw [if_neg (by decide+kernel)];exact ⟨rfl,rfl⟩))
  (fun os started H enc _=>zfO os started H enc)
theorem zfQ: ∀(j:Nat) t,Tryd.f4.params[j]? =some t→Tryd.prog.wantsStandIn t=false:=fun j t ht=>by
 rw [Tryd.params4] at ht;have hm:t∈[26,26]:=by
  have:=List.mem_of_getElem? (show [26,26][j]? =some t by simpa using ht);exact this
 simp only [List.mem_cons,List.not_mem_nil,or_false] at hm;rcases hm with rfl | rfl
 ·exact (show Tryd.prog.wantsStandIn 26=false by kernel_rfl)
 ·exact (show Tryd.prog.wantsStandIn 26=false by kernel_rfl)
theorem one_holds:Rows.HeaderOneCardSaid:=
 Claim7.holds_tied_plain_at .later [] [.data,.pinned] true (true, "ef33464a602ddedadaff6e9a1f938ea458642111a6f49bc3ef6d4031540aca5c") false
  zfP (fun _ h=>by cases h) (by kernel_rfl) (fun _ h=>by cases h) headerOne_row_tie rfl ⟨rfl,rfl⟩ (by kernel_rfl) rfl
  (fun f fn hf hfn=>by
   obtain rfl:f=4:=Option.some.inj ((show Tryd.prog.funcNamed "ecclesia/ecclesialaw17.HeaderOne" =some 4 by kernel_rfl).symm.trans hf) |>.symm;obtain rfl:fn=Tryd.f4:=(Option.some.inj (Tryd.func4.symm.trans hfn)).symm
   exact ⟨by kernel_rfl,zfQ⟩)
  (by kernel_rfl)
#print axioms one_holds
end Go.Proofs.YtbpmjppmpgeejaaDoor.headerOne
